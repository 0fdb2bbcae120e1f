import PyProof.Rows.All
import Wide.All
import OpenK.AllK
import Wide.FinOn
import HandS.ForMost
import HandS.ForExc
import HandS.RaiseMore
import HandS.FStr
import HandS.TryMany
import HandS.IsInst
import HandS.ExcIs
import HandS.More
import HandS.Conv
import HandS.TupAny
import HandS.Style
import HandS.Small
import HandS.Steps
import HandS.TryOnly
import HandS.WordsExc
import HandS.DictComp
import PySem.Challenge.RW_stackproof_k01_a_plain_row
set_option Elab.async false
set_option linter.all false
set_option maxRecDepth 100000
/-! The tree layer: readings of HandS over plain data. -/
namespace TL
open PySem L2

/-- plain data -/
inductive D where
  | non | bl (b : Bool) | int (i : Int) | str (s : Str) | ty (n : String) | fn (x : Str)
  | lst (xs : List D) | fls (xs : List D) | tup (xs : List D) | dct (ks : List Key) (vs : List D)

section
variable (K : PySem.W.Frag) (mg : Str → Option Value)
mutual
/-- v is d in the heap H -/
def Rep (H : Hp) : D → V → Prop
  | .non, v => v = .non
  | .bl b, v => v = .bl b
  | .int i, v => v = .int i
  | .str s, v => v = .str s
  | .ty n, v => v = .ty n
  | .fn x, v => ∃ f, mg x = some (.ref f) ∧ v = .ref f
  | .lst ds, v => ∃ a vs, v = .ref a ∧ H a = some (.lst vs) ∧ RepL H ds vs
  | .fls ds, v => ∃ a vs, v = .ref a ∧ SqL K H a vs ∧ RepL H ds vs
  | .tup ds, v => ∃ a vs, v = .ref a ∧ SqT K H a vs ∧ RepL H ds vs
  | .dct ks ds, v => ∃ a kvs, v = .ref a ∧ H a = some (.dK kvs) ∧ kvs.map (·.1) = ks ∧ ks.Nodup ∧ RepL H ds (kvs.map (·.2))
def RepL (H : Hp) : List D → List V → Prop
  | [], vs => vs = []
  | d :: ds, vs => ∃ v ws, vs = v :: ws ∧ Rep H d v ∧ RepL H ds ws
end
end

/-- the heap grows -/
def Ext (H H' : Hp) : Prop := ∀ a o, H a = some o → H' a = some o
theorem Ext.refl (H : Hp) : Ext H H := fun _ _ h => h
theorem Ext.trans {H H1 H2 : Hp} (a : Ext H H1) (b : Ext H1 H2) : Ext H H2 := fun x o h => b x o (a x o h)
theorem Ext.new {H : Hp} {p : Addr} {o : HO} (h : H p = none) : Ext H (upd H p o) := fun a u e => by
  rw [upd_ne (ne_of_none e h)]; exact e
theorem Ext.free {H H' : Hp} {p : Addr} (e : Ext H H') (h : H' p = none) : H p = none := by
  cases q : H p with
  | none => rfl
  | some o => rw [e p o q] at h; cases h
theorem Ext.rd {H H' : Hp} {a : Addr} {u : HO} (e : Ext H H') (h : Rd H a u) : Rd H' a u := by
  rcases h with h | ⟨o, h⟩
  · exact Or.inl (e a _ h)
  · exact Or.inr ⟨o, e a _ h⟩
theorem Ext.sql {K : PySem.W.Frag} {H H' : Hp} {a : Addr} {xs : List V} (e : Ext H H') (h : SqL K H a xs) : SqL K H' a xs := by
  rcases h with h | h
  · exact Or.inl (e.rd h)
  · exact Or.inr h
theorem Ext.sqt {K : PySem.W.Frag} {H H' : Hp} {a : Addr} {xs : List V} (e : Ext H H') (h : SqT K H a xs) : SqT K H' a xs := by
  rcases h with h | h
  · exact Or.inl (e.rd h)
  · exact Or.inr h

section
variable {K : PySem.W.Frag} {mg : Str → Option Value} {H H' : Hp}
mutual
theorem Rep.mono (e : Ext H H') : ∀ {d : D} {v : V}, Rep K mg H d v → Rep K mg H' d v
  | .non, _, h => h
  | .bl _, _, h => h
  | .int _, _, h => h
  | .str _, _, h => h
  | .ty _, _, h => h
  | .fn _, _, h => h
  | .lst ds, _, ⟨a, vs, h1, h2, h3⟩ => ⟨a, vs, h1, e a _ h2, RepL.mono e h3⟩
  | .fls ds, _, ⟨a, vs, h1, h2, h3⟩ => ⟨a, vs, h1, e.sql h2, RepL.mono e h3⟩
  | .tup ds, _, ⟨a, vs, h1, h2, h3⟩ => ⟨a, vs, h1, e.sqt h2, RepL.mono e h3⟩
  | .dct ks ds, _, ⟨a, kvs, h1, h2, h3, h4, h5⟩ => ⟨a, kvs, h1, e a _ h2, h3, h4, RepL.mono e h5⟩
theorem RepL.mono (e : Ext H H') : ∀ {ds : List D} {vs : List V}, RepL K mg H ds vs → RepL K mg H' ds vs
  | [], _, h => h
  | d :: ds, _, ⟨v, ws, h1, h2, h3⟩ => ⟨v, ws, h1, Rep.mono e h2, RepL.mono e h3⟩
end
theorem RepL.nil : RepL K mg H [] [] := rfl
theorem RepL.cons {d : D} {v : V} {ds : List D} {vs : List V} (h : Rep K mg H d v) (t : RepL K mg H ds vs) : RepL K mg H (d :: ds) (v :: vs) := ⟨v, vs, rfl, h, t⟩
theorem RepL.length : ∀ {ds : List D} {vs : List V}, RepL K mg H ds vs → vs.length = ds.length
  | [], _, h => by have h : _ = [] := h; rw [h]; rfl
  | d :: ds, _, ⟨v, ws, h1, _, h3⟩ => by rw [h1]; simp [RepL.length h3]
theorem RepL.get : ∀ {ds : List D} {vs : List V} {i : Nat} {d : D}, RepL K mg H ds vs → ds[i]? = some d → ∃ v, vs[i]? = some v ∧ Rep K mg H d v
  | [], _, _, _, _, e => by simp at e
  | d :: ds, _, 0, _, ⟨v, ws, h1, h2, _⟩, e => by
    simp at e; subst e; rw [h1]; exact ⟨v, rfl, h2⟩
  | d :: ds, _, i + 1, x, ⟨v, ws, h1, _, h3⟩, e => by
    obtain ⟨u, q1, q2⟩ := RepL.get (i := i) (d := x) h3 (by simpa using e)
    rw [h1]; exact ⟨u, by simpa using q1, q2⟩
theorem RepL.append : ∀ {ds es : List D} {vs ws : List V}, RepL K mg H ds vs → RepL K mg H es ws → RepL K mg H (ds ++ es) (vs ++ ws)
  | [], _, _, _, h, k => by have h : _ = [] := h; rw [h]; exact k
  | d :: ds, _, _, _, ⟨v, ws', h1, h2, h3⟩, k => by rw [h1]; exact ⟨v, _, rfl, h2, RepL.append h3 k⟩
theorem RepL.take : ∀ {ds : List D} {vs : List V} (n : Nat), RepL K mg H ds vs → RepL K mg H (ds.take n) (vs.take n)
  | _, _, 0, _ => by simp [RepL]
  | [], _, _ + 1, h => by have h : _ = [] := h; rw [h]; simp [RepL]
  | d :: ds, _, n + 1, ⟨v, ws, h1, h2, h3⟩ => by rw [h1]; exact ⟨v, _, rfl, h2, RepL.take n h3⟩
theorem RepL.drop : ∀ {ds : List D} {vs : List V} (n : Nat), RepL K mg H ds vs → RepL K mg H (ds.drop n) (vs.drop n)
  | _, _, 0, h => h
  | [], _, _ + 1, h => by have h : _ = [] := h; rw [h]; simp [RepL]
  | d :: ds, _, n + 1, ⟨v, ws, h1, h2, h3⟩ => by rw [h1]; exact RepL.drop n h3
theorem RepL.set : ∀ {ds : List D} {vs : List V} (i : Nat) {d : D} {v : V}, RepL K mg H ds vs → Rep K mg H d v → RepL K mg H (ds.set i d) (vs.set i v)
  | [], _, _, _, _, h, _ => by have h : _ = [] := h; rw [h]; simp [RepL]
  | d :: ds, _, 0, _, _, ⟨v, ws, h1, h2, h3⟩, k => by rw [h1]; exact ⟨_, ws, rfl, k, h3⟩
  | d :: ds, _, i + 1, _, _, ⟨v, ws, h1, h2, h3⟩, k => by rw [h1]; exact ⟨v, _, rfl, h2, RepL.set i h3 k⟩
theorem RepL.dropLast {ds : List D} {vs : List V} (h : RepL K mg H ds vs) : RepL K mg H ds.dropLast vs.dropLast := by
  rw [List.dropLast_eq_take, List.dropLast_eq_take, h.length]; exact h.take _
theorem RepL.reverse : ∀ {ds : List D} {vs : List V}, RepL K mg H ds vs → RepL K mg H ds.reverse vs.reverse
  | [], _, h => by have h : _ = [] := h; rw [h]; simp [RepL]
  | d :: ds, _, ⟨v, ws, h1, h2, h3⟩ => by
    rw [h1, List.reverse_cons, List.reverse_cons]
    exact (RepL.reverse h3).append (.cons h2 .nil)
theorem RepL.flatRep {ds : List D} {vs : List V} (h : RepL K mg H ds vs) : ∀ n : Nat, RepL K mg H (List.replicate n ds).flatten (List.replicate n vs).flatten
  | 0 => by simp [RepL]
  | n + 1 => by rw [List.replicate_succ, List.replicate_succ, List.flatten_cons, List.flatten_cons]; exact h.append (h.flatRep n)
end

/-! ### the environment -/
inductive Cell where
  | no | val (d : D) | own (xs : List D) | ownD (ks : List Key) (vs : List D)
abbrev Env := List Cell

/-- what the cell's own object is, by its fields -/
def OwnsO (K : PySem.W.Frag) (mg : Str → Option Value) (Hf : Hp) : Cell → HO → Prop
  | .own xs, o => ∃ vs, o = .lst vs ∧ RepL K mg Hf xs vs
  | .ownD ks ds, o => ∃ kvs, o = .dK kvs ∧ kvs.map (·.1) = ks ∧ ks.Nodup ∧ RepL K mg Hf ds (kvs.map (·.2))
  | _, _ => False
def isOwn : Cell → Bool
  | .own _ => true
  | .ownD _ _ => true
  | _ => false
/-- the content of an owned cell as data -/
def Cell.dat : Cell → Option D
  | .no => none
  | .val d => some d
  | .own xs => some (.lst xs)
  | .ownD ks vs => some (.dct ks vs)

theorem OwnsO.mono {K : PySem.W.Frag} {mg : Str → Option Value} {Hf Hf' : Hp} (e : Ext Hf Hf') : ∀ {c : Cell} {o : HO}, OwnsO K mg Hf c o → OwnsO K mg Hf' c o
  | .own _, _, ⟨vs, h1, h2⟩ => ⟨vs, h1, h2.mono e⟩
  | .ownD _ _, _, ⟨kvs, h1, h2, h3, h4⟩ => ⟨kvs, h1, h2, h3, h4.mono e⟩
  | .no, _, h => h
  | .val _, _, h => h
theorem OwnsO.isOwn {K : PySem.W.Frag} {mg : Str → Option Value} {Hf : Hp} : ∀ {c : Cell} {o : HO}, OwnsO K mg Hf c o → isOwn c = true
  | .own _, _, _ => rfl
  | .ownD _ _, _, _ => rfl
  | .no, _, h => h.elim
  | .val _, _, h => h.elim
theorem OwnsO.mut {K : PySem.W.Frag} {mg : Str → Option Value} {Hf : Hp} : ∀ {c : Cell} {o : HO}, OwnsO K mg Hf c o → Mut (some o)
  | .own _, _, ⟨_, h, _⟩ => by rw [h]; trivial
  | .ownD _ _, _, ⟨_, h, _⟩ => by rw [h]; trivial
  | .no, _, h => h.elim
  | .val _, _, h => h.elim

/-- the object at p frozen is the data -/
theorem OwnsO.frozen {K : PySem.W.Frag} {mg : Str → Option Value} {Hf : Hp} {p : Addr} (hp : Hf p = none) : ∀ {c : Cell} {o : HO} {d : D}, OwnsO K mg Hf c o → c.dat = some d → Rep K mg (upd Hf p o) d (.ref p)
  | .own xs, _, _, ⟨vs, h1, h2⟩, e => by
    simp only [Cell.dat, Option.some.injEq] at e
    subst e; subst h1
    exact ⟨p, vs, rfl, upd_same, h2.mono (Ext.new hp)⟩
  | .ownD ks ds, _, _, ⟨kvs, h1, h2, h3, h4⟩, e => by
    simp only [Cell.dat, Option.some.injEq] at e
    subst e; subst h1
    exact ⟨p, kvs, rfl, upd_same, h2, h3, h4.mono (Ext.new hp)⟩
  | .no, _, _, h, _ => h.elim
  | .val _, _, _, h, _ => h.elim

/-- the cell at a slot -/
def CellOk (K : PySem.W.Frag) (mg : Str → Option Value) (Hr Hf H : Hp) : Cell → Option V → Prop
  | .no, _ => True
  | .val d, o => ∃ v, o = some v ∧ Rep K mg Hf d v
  | c, o => ∃ a u, o = some (.ref a) ∧ H a = some u ∧ OwnsO K mg Hf c u ∧ Hf a = none ∧ Hr a = none

/-- slot i owns the object at a -/
def OwnAt (σ : St) (ρ : Env) (i : Nat) (a : Addr) : Prop := (∃ c : Cell, ρ[i]? = some c ∧ isOwn c = true) ∧ σ[i]? = some (some (.ref a))

structure EnvOk (K : PySem.W.Frag) (mg : Str → Option Value) (fx : List Bool) (vs0 : List V) (Hr Hf H : Hp) (σ : St) (ρ : Env) : Prop where
  len : σ.length = ρ.length
  sub : Ext Hf H
  frm : Ext Hr H
  dis : ∀ a o, Hr a = some o → Hf a = none
  cel : ∀ (i : Nat) (c : Cell), ρ[i]? = some c → CellOk K mg Hr Hf H c (σ[i]?).join
  inj : ∀ (i j : Nat) (a : Addr), OwnAt σ ρ i a → OwnAt σ ρ j a → i = j
  fix : ∀ i : Nat, fx[i]? = some true → σ[i]? = (vs0[i]?).map some

theorem CellOk.own {K : PySem.W.Frag} {mg : Str → Option Value} {Hr Hf H : Hp} : ∀ {c : Cell} {o : Option V}, isOwn c = true → CellOk K mg Hr Hf H c o → ∃ a u, o = some (.ref a) ∧ H a = some u ∧ OwnsO K mg Hf c u ∧ Hf a = none ∧ Hr a = none
  | .own _, _, _, h => h
  | .ownD _ _, _, _, h => h
  | .no, _, h, _ => by cases h
  | .val _, _, h, _ => by cases h
theorem CellOk.ofOwn {K : PySem.W.Frag} {mg : Str → Option Value} {Hr Hf H : Hp} : ∀ {c : Cell} {o : Option V}, isOwn c = true → (∃ a u, o = some (.ref a) ∧ H a = some u ∧ OwnsO K mg Hf c u ∧ Hf a = none ∧ Hr a = none) → CellOk K mg Hr Hf H c o
  | .own _, _, _, h => h
  | .ownD _ _, _, _, h => h
  | .no, _, h, _ => by cases h
  | .val _, _, h, _ => by cases h
theorem CellOk.step {K : PySem.W.Frag} {mg : Str → Option Value} {Hr Hr' Hf Hf' H H' : Hp} {c : Cell} {o : Option V} (h : CellOk K mg Hr Hf H c o) (e : Ext Hf Hf')
    (k : isOwn c = true → ∀ a u, o = some (.ref a) → H a = some u → Hf a = none → Hr a = none → H' a = some u ∧ Hf' a = none ∧ Hr' a = none) : CellOk K mg Hr' Hf' H' c o := by
  cases hc : isOwn c with
  | true =>
    obtain ⟨a, u, h1, h2, h3, h4, h5⟩ := h.own hc
    obtain ⟨k1, k2, k3⟩ := k hc a u h1 h2 h4 h5
    exact .ofOwn hc ⟨a, u, h1, k1, h3.mono e, k2, k3⟩
  | false =>
    cases c with
    | no => trivial
    | val d => obtain ⟨v, h1, h2⟩ := h; exact ⟨v, h1, h2.mono e⟩
    | own _ => cases hc
    | ownD _ _ => cases hc

/-! ### what an expression gives -/
inductive R where
  | at (i : Nat) | dd (d : D) | ow (c : Cell)
inductive ER where
  | ok (r : R) (ρ : Env) | exc (x : Str) (ρ : Env) | bad
abbrev ME := Env → ER

section
variable (K : PySem.W.Frag) (mg : Str → Option Value)
def ROk (Hr Hf H : Hp) (σ : St) (ρ : Env) : R → V → Prop
  | .at i, v => σ[i]? = some (some v)
  | .dd d, v => Rep K mg Hf d v
  | .ow c, v => ∃ a u, v = .ref a ∧ H a = some u ∧ OwnsO K mg Hf c u ∧ Hf a = none ∧ Hr a = none ∧ ∀ i, ¬ OwnAt σ ρ i a
def PRep (Hf H : Hp) : D → V → Prop
  | .lst ds, v => ∃ a vs, v = .ref a ∧ H a = some (.lst vs) ∧ RepL K mg Hf ds vs
  | .dct ks ds, v => ∃ a kvs, v = .ref a ∧ H a = some (.dK kvs) ∧ kvs.map (·.1) = ks ∧ ks.Nodup ∧ RepL K mg Hf ds (kvs.map (·.2))
  | d, v => Rep K mg Hf d v
def PostE (W : WX) (fx : List Bool) (vs0 : List V) (Hr Hf : Hp) (σ : St) (r : ER) (Q : VK) : Prop :=
  match r with
  | .ok r ρ => ∀ v Hf' H', Ext Hf Hf' → EnvOk K mg fx vs0 Hr Hf' H' σ ρ → ROk K mg Hr Hf' H' σ ρ r v → Q v H'
  | .exc x ρ => ∀ C, mg x = some (.ref C) → ∀ Hf' H', Ext Hf Hf' → EnvOk K mg fx vs0 Hr Hf' H' σ ρ → W (.ref C) none σ H'
  | .bad => False
def SE (W : WX) (t : TE) (m : ME) : Prop := ∀ fx vs0 Hr Hf H σ ρ Q, EnvOk K mg fx vs0 Hr Hf H σ ρ → PostE K mg W fx vs0 Hr Hf σ (m ρ) Q → t σ H Q
end
structure DE (X : Cx) (W : WX) (e : Expr) (t : TE) (m : ME) : Prop where
  pe : PE X e t
  se : SE X.K X.mg W t m

def use : R → Env → Option D
  | .at i, ρ => (ρ[i]?).bind Cell.dat
  | .dd d, _ => some d
  | .ow c, _ => c.dat
def R.fix : R → R
  | .ow c => match c.dat with
    | some d => .dd d
    | none => .ow c
  | r => r
theorem R.fix_some {c : Cell} {d : D} (h : c.dat = some d) : (R.ow c).fix = .dd d := by simp only [R.fix, h]
theorem R.fix_none {c : Cell} (h : c.dat = none) : (R.ow c).fix = .ow c := by simp only [R.fix, h]
/-- freeze: the data, the environment behind -/
def frz : R → Env → Option (D × Env)
  | .at i, ρ => match ρ[i]? with
    | some (.val d) => some (d, ρ)
    | some c => match c.dat with
      | some d => some (d, ρ.set i (.val d))
      | none => none
    | none => none
  | .dd d, ρ => some (d, ρ)
  | .ow c, ρ => match c.dat with
    | some d => some (d, ρ)
    | none => none
/-- take over -/
def tak : R → Env → Option (Cell × Env)
  | .ow c, ρ => some (c, ρ)
  | .dd d, ρ => some (.val d, ρ)
  | .at i, ρ => match ρ[i]? with
    | some (.val d) => some (.val d, ρ)
    | some c => match c.dat with
      | some d => some (.val d, ρ.set i (.val d))
      | none => none
    | none => none

section
variable {K : PySem.W.Frag} {mg : Str → Option Value} {fx : List Bool} {vs0 : List V} {Hr Hf Hf' H H' : Hp} {σ : St} {ρ ρ' : Env} {r : R} {v : V} {d : D} {c : Cell} {W : WX}

theorem joinEq {i : Nat} {v : V} : (σ[i]?).join = some v ↔ σ[i]? = some (some v) := by
  cases h : σ[i]? with
  | none => simp
  | some o => cases o <;> simp

/-- the heaps grow by a fresh frozen object or by an owned one that is not of the environment -/
theorem EnvOk.freezeO {p : Addr} {o : HO} (E : EnvOk K mg fx vs0 Hr Hf H σ ρ) (hp : H p = some o) (hf : Hf p = none) (hr : Hr p = none) (hn : ∀ i, ¬ OwnAt σ ρ i p) : EnvOk K mg fx vs0 Hr (upd Hf p o) H σ ρ := by
  refine ⟨E.len, fun a u h => ?_, E.frm, fun a u h => ?_, fun i c hc => ?_, E.inj, E.fix⟩
  · by_cases ha : a = p
    · subst ha; rw [upd_same] at h; cases h; exact hp
    · rw [upd_ne ha] at h; exact E.sub a u h
  · by_cases ha : a = p
    · subst ha; rw [hr] at h; cases h
    · rw [upd_ne ha]; exact E.dis a u h
  · refine (E.cel i c hc).step (Ext.new hf) fun ho a u h1 h2 h3 h4 => ⟨h2, ?_, h4⟩
    have : a ≠ p := fun z => hn i ⟨⟨c, hc, ho⟩, by rw [← z]; exact joinEq.mp h1⟩
    rw [upd_ne this]; exact h3
/-- a new object in the heap -/
theorem EnvOk.newO {p : Addr} {o : HO} (E : EnvOk K mg fx vs0 Hr Hf H σ ρ) (hp : H p = none) : EnvOk K mg fx vs0 Hr Hf (upd H p o) σ ρ := by
  refine ⟨E.len, E.sub.trans (Ext.new hp), E.frm.trans (Ext.new hp), E.dis, fun i c hc => ?_, E.inj, E.fix⟩
  exact (E.cel i c hc).step (Ext.refl _) fun _ a u _ h2 h3 h4 => ⟨Ext.new hp a u h2, h3, h4⟩
theorem EnvOk.freshF (E : EnvOk K mg fx vs0 Hr Hf H σ ρ) {p : Addr} (hp : H p = none) : Hf p = none := E.sub.free hp
theorem EnvOk.freshR (E : EnvOk K mg fx vs0 Hr Hf H σ ρ) {p : Addr} (hp : H p = none) : Hr p = none := E.frm.free hp
theorem EnvOk.freshO (E : EnvOk K mg fx vs0 Hr Hf H σ ρ) {p : Addr} (hp : H p = none) (i : Nat) : ¬ OwnAt σ ρ i p := fun ⟨⟨c, hc, ho⟩, hs⟩ => by
  obtain ⟨a, u, h1, h2, _⟩ := (E.cel i c hc).own ho
  rw [joinEq] at h1
  rw [hs] at h1
  cases h1
  rw [hp] at h2; cases h2
theorem EnvOk.newR {p : Addr} {o : HO} (E : EnvOk K mg fx vs0 Hr Hf H σ ρ) (hp : H p = none) (ho : OwnsO K mg Hf c o) : ROk K mg Hr Hf (upd H p o) σ ρ (.ow c) (.ref p) :=
  ⟨p, o, rfl, upd_same, ho, E.freshF hp, E.freshR hp, E.freshO hp⟩
/-- a new frozen object -/
theorem EnvOk.newF {p : Addr} {o : HO} (E : EnvOk K mg fx vs0 Hr Hf H σ ρ) (hp : H p = none) : EnvOk K mg fx vs0 Hr (upd Hf p o) (upd H p o) σ ρ :=
  (E.newO hp).freezeO upd_same (E.freshF hp) (E.freshR hp) (E.freshO hp)

theorem ROk.fixed (E : EnvOk K mg fx vs0 Hr Hf H σ ρ) (h : ROk K mg Hr Hf H σ ρ r v) : ∃ Hf', Ext Hf Hf' ∧ EnvOk K mg fx vs0 Hr Hf' H σ ρ ∧ ROk K mg Hr Hf' H σ ρ r.fix v := by
  cases r with
  | «at» i => exact ⟨Hf, Ext.refl _, E, h⟩
  | dd d => exact ⟨Hf, Ext.refl _, E, h⟩
  | ow c =>
    cases hc : c.dat with
    | none => exact ⟨Hf, Ext.refl _, E, by rw [R.fix_none hc]; exact h⟩
    | some d =>
      obtain ⟨a, u, rfl, h2, h3, h4, h5, h6⟩ := h
      refine ⟨upd Hf a u, Ext.new h4, E.freezeO h2 h4 h5 h6, ?_⟩
      rw [R.fix_some hc]
      exact h3.frozen h4 hc
/-- at and dd stay -/
def R.calm : R → Bool
  | .ow _ => false
  | _ => true
theorem ROk.stay {Hr' : Hp} (h : ROk K mg Hr Hf H σ ρ r v) (hc : r.calm = true) (e : Ext Hf Hf') : ROk K mg Hr' Hf' H' σ ρ' r v := by
  cases r with
  | «at» i => exact h
  | dd d => exact Rep.mono e h
  | ow c => cases hc
theorem OwnsO.calm {o : HO} (h : OwnsO K mg Hf c o) : ∃ d, c.dat = some d := by
  cases c with
  | no => exact h.elim
  | val _ => exact h.elim
  | own xs => exact ⟨_, rfl⟩
  | ownD ks vs => exact ⟨_, rfl⟩
theorem ROk.fixCalm (h : ROk K mg Hr Hf H σ ρ r v) : r.fix.calm = true := by
  cases r with
  | «at» i => rfl
  | dd d => rfl
  | ow c =>
    obtain ⟨a, u, _, _, h3, _⟩ := h
    obtain ⟨d, e⟩ := h3.calm
    rw [R.fix_some e]; rfl
theorem Rep.p (S : Ext Hf H) (h : Rep K mg Hf d v) : PRep K mg Hf H d v := by
  cases d with
  | lst ds => obtain ⟨a, vs, h1, h2, h3⟩ := h; exact ⟨a, vs, h1, S a _ h2, h3⟩
  | dct ks ds => obtain ⟨a, vs, h1, h2, h3⟩ := h; exact ⟨a, vs, h1, S a _ h2, h3⟩
  | _ => exact h
theorem OwnsO.p {a : Addr} {u : HO} (h : OwnsO K mg Hf c u) (ha : H a = some u) (e : c.dat = some d) : PRep K mg Hf H d (.ref a) := by
  cases c with
  | no => exact h.elim
  | val _ => exact h.elim
  | own xs =>
    simp only [Cell.dat, Option.some.injEq] at e; subst e
    obtain ⟨vs, rfl, h2⟩ := h
    exact ⟨a, vs, rfl, ha, h2⟩
  | ownD ks vs =>
    simp only [Cell.dat, Option.some.injEq] at e; subst e
    obtain ⟨kvs, rfl, h2⟩ := h
    exact ⟨a, kvs, rfl, ha, h2⟩
theorem use_ok (E : EnvOk K mg fx vs0 Hr Hf H σ ρ) (h : ROk K mg Hr Hf H σ ρ r v) (u : use r ρ = some d) : PRep K mg Hf H d v := by
  cases r with
  | dd d' => cases u; exact Rep.p E.sub h
  | ow c =>
    obtain ⟨a, o, rfl, h2, h3, _⟩ := h
    exact h3.p h2 u
  | «at» i =>
    have h : σ[i]? = some (some v) := h
    unfold use at u
    obtain ⟨c, hc, e⟩ := Option.bind_eq_some_iff.mp u
    have q := E.cel i c hc
    rw [joinEq.mpr h] at q
    cases ho : isOwn c with
    | true =>
      obtain ⟨a, o, h1, h2, h3, _⟩ := q.own ho
      cases h1
      exact h3.p h2 e
    | false =>
      cases c with
      | no => cases e
      | val d' => cases e; obtain ⟨v', h1, h2⟩ := q; cases h1; exact Rep.p E.sub h2
      | own _ => cases ho
      | ownD _ _ => cases ho
/-- the cell at i is frozen -/
theorem EnvOk.freezeAt {i : Nat} (E : EnvOk K mg fx vs0 Hr Hf H σ ρ) (hs : σ[i]? = some (some v)) (hc : ρ[i]? = some c) (ho : isOwn c = true) (e : c.dat = some d) :
    ∃ Hf', Ext Hf Hf' ∧ EnvOk K mg fx vs0 Hr Hf' H σ (ρ.set i (.val d)) ∧ Rep K mg Hf' d v := by
  obtain ⟨a, u, h1, h2, h3, h4, h5⟩ := (E.cel i c hc).own ho
  rw [joinEq, hs] at h1
  cases h1
  have fr := h3.frozen h4 e
  have hi : i < ρ.length := (List.getElem?_eq_some_iff.mp hc).1
  have own' : ∀ {j : Nat} {b : Addr}, OwnAt σ (ρ.set i (.val d)) j b → OwnAt σ ρ j b ∧ j ≠ i := fun {j b} ⟨⟨c', hc', ho'⟩, hs'⟩ => by
    by_cases hj : i = j
    · subst hj; rw [List.getElem?_set_self hi] at hc'; cases hc'; cases ho'
    · rw [List.getElem?_set_ne hj] at hc'
      exact ⟨⟨⟨c', hc', ho'⟩, hs'⟩, fun z => hj z.symm⟩
  refine ⟨upd Hf a u, Ext.new h4, ⟨by rw [List.length_set]; exact E.len, fun b o h => ?_, E.frm, fun b o h => ?_, fun j c' hc' => ?_, fun j k b p q => E.inj j k b (own' p).1 (own' q).1, E.fix⟩, fr⟩
  · by_cases hb : b = a
    · subst hb; rw [upd_same] at h; cases h; exact h2
    · rw [upd_ne hb] at h; exact E.sub b o h
  · by_cases hb : b = a
    · subst hb; rw [h5] at h; cases h
    · rw [upd_ne hb]; exact E.dis b o h
  · by_cases hj : i = j
    · subst hj
      rw [List.getElem?_set_self hi] at hc'; cases hc'
      exact ⟨_, joinEq.mpr hs, fr⟩
    · rw [List.getElem?_set_ne hj] at hc'
      refine (E.cel j c' hc').step (Ext.new h4) fun ho' b o k1 k2 k3 k4 => ⟨k2, ?_, k4⟩
      have : b ≠ a := fun z => by
        subst z
        exact hj (E.inj i j b ⟨⟨c, hc, ho⟩, hs⟩ ⟨⟨c', hc', ho'⟩, joinEq.mp k1⟩)
      rw [upd_ne this]; exact k3
theorem frz_ok (E : EnvOk K mg fx vs0 Hr Hf H σ ρ) (h : ROk K mg Hr Hf H σ ρ r v) (u : frz r ρ = some (d, ρ')) : ∃ Hf', Ext Hf Hf' ∧ EnvOk K mg fx vs0 Hr Hf' H σ ρ' ∧ Rep K mg Hf' d v := by
  cases r with
  | dd d' => cases u; exact ⟨Hf, Ext.refl _, E, h⟩
  | ow c =>
    obtain ⟨Hf', e, E', h'⟩ := ROk.fixed E h
    cases hc : c.dat with
    | none => simp only [frz, hc] at u; cases u
    | some d' =>
      simp only [frz, hc, Option.some.injEq, Prod.mk.injEq] at u
      obtain ⟨rfl, rfl⟩ := u
      rw [R.fix_some hc] at h'
      exact ⟨Hf', e, E', h'⟩
  | «at» i =>
    have h : σ[i]? = some (some v) := h
    cases hc : ρ[i]? with
    | none => simp only [frz, hc] at u; cases u
    | some c =>
      simp only [frz, hc] at u
      cases c with
      | no => cases u
      | val d' =>
        cases u
        have q := E.cel i _ hc
        rw [joinEq.mpr h] at q
        obtain ⟨v', h1, h2⟩ := q
        cases h1
        exact ⟨Hf, Ext.refl _, E, h2⟩
      | own xs => cases u; exact E.freezeAt h hc rfl rfl
      | ownD ks xs => cases u; exact E.freezeAt h hc rfl rfl
/-- the value taken over -/
theorem tak_ok (E : EnvOk K mg fx vs0 Hr Hf H σ ρ) (h : ROk K mg Hr Hf H σ ρ r v) (u : tak r ρ = some (c, ρ')) :
    ∃ Hf', Ext Hf Hf' ∧ EnvOk K mg fx vs0 Hr Hf' H σ ρ' ∧ ((∃ d, c = .val d ∧ Rep K mg Hf' d v) ∨ (ρ' = ρ ∧ Hf' = Hf ∧ ROk K mg Hr Hf H σ ρ (.ow c) v)) := by
  cases r with
  | dd d' => cases u; exact ⟨Hf, Ext.refl _, E, .inl ⟨_, rfl, h⟩⟩
  | ow c' => cases u; exact ⟨Hf, Ext.refl _, E, .inr ⟨rfl, rfl, h⟩⟩
  | «at» i =>
    have k : ∃ d, c = .val d ∧ frz (.at i) ρ = some (d, ρ') := by
      cases hc : ρ[i]? with
      | none => simp only [tak, hc] at u; cases u
      | some c' =>
        simp only [tak, hc] at u
        simp only [frz, hc]
        cases c' with
        | no => cases u
        | val d' => cases u; exact ⟨_, rfl, rfl⟩
        | own xs => cases u; exact ⟨_, rfl, rfl⟩
        | ownD ks xs => cases u; exact ⟨_, rfl, rfl⟩
    obtain ⟨d, e, k⟩ := k
    obtain ⟨Hf', h1, h2, h3⟩ := frz_ok E h k
    exact ⟨Hf', h1, h2, .inl ⟨d, e, h3⟩⟩

theorem PostE.mono {t : ER} {Q : VK} (h : PostE K mg W fx vs0 Hr Hf σ t Q) (e : Ext Hf Hf') : PostE K mg W fx vs0 Hr Hf' σ t Q := by
  cases t with
  | ok r ρ => exact fun v F H' e' => h v F H' (e.trans e')
  | exc x ρ => exact fun C h1 F H' e' => h C h1 F H' (e.trans e')
  | bad => exact h
end

/-! ### one part, then another -/
/-- the part's value stays: at or dd -/
def mB (m : ME) (k : R → ME) : ME := fun ρ => match m ρ with
  | .ok r ρ1 => k r.fix ρ1
  | .exc x ρ1 => .exc x ρ1
  | .bad => .bad
def opt (o : Option R) (ρ : Env) : ER := match o with
  | some r => .ok r ρ
  | none => .bad
theorem SE.bind {K : PySem.W.Frag} {mg : Str → Option Value} {W : WX} {ta : TE} {m : ME} (ha : SE K mg W ta m) {k : R → ME} {fx : List Bool} {vs0 : List V} {Hr Hf H : Hp} {σ : St} {ρ : Env} {Q : VK} {QA : VK}
    (E : EnvOk K mg fx vs0 Hr Hf H σ ρ) (h : PostE K mg W fx vs0 Hr Hf σ (mB m k ρ) Q)
    (hk : ∀ r ρ1 v Hf1 H1, Ext Hf Hf1 → EnvOk K mg fx vs0 Hr Hf1 H1 σ ρ1 → r.calm = true → (∀ Hr' Hf' H' ρ', Ext Hf1 Hf' → ROk K mg Hr' Hf' H' σ ρ' r v) → PostE K mg W fx vs0 Hr Hf1 σ (k r ρ1) Q → QA v H1) : ta σ H QA := by
  refine ha fx vs0 Hr Hf H σ ρ QA E ?_
  unfold mB at h
  cases hm : m ρ with
  | bad => rw [hm] at h; exact h
  | exc x ρ1 => rw [hm] at h; exact h
  | ok r ρ1 =>
    rw [hm] at h
    intro v F H1 e E1 q
    obtain ⟨F', e', E', q'⟩ := q.fixed E1
    refine hk r.fix ρ1 v F' H1 (e.trans e') E' q.fixCalm (fun Hr' Hf' H' ρ' e2 => q'.stay q.fixCalm e2) ?_
    exact PostE.mono h (e.trans e')

/-! ### operators on data -/
def m1 (f : D → Option R) (m : ME) : ME := mB m fun r ρ => match use r ρ with
  | some d => opt (f d) ρ
  | none => .bad
def m2 (f : D → D → Option R) (ma mb : ME) : ME := mB ma fun ra => mB mb fun rb ρ => match use ra ρ, use rb ρ with
  | some a, some b => opt (f a b) ρ
  | _, _ => .bad
/-- what the operator's reading gives -/
def OpS (K : PySem.W.Frag) (mg : Str → Option Value) (r : R2) (f : D → D → Option R) : Prop :=
  ∀ fx vs0 Hr Hf H σ ρ a b x y z Q, EnvOk K mg fx vs0 Hr Hf H σ ρ → PRep K mg Hf H a x → PRep K mg Hf H b y → f a b = some z →
    (∀ v Hf' H', Ext Hf Hf' → EnvOk K mg fx vs0 Hr Hf' H' σ ρ → ROk K mg Hr Hf' H' σ ρ z v → Q v H') → r x y H Q
theorem SE.op2 {K : PySem.W.Frag} {mg : Str → Option Value} {W : WX} {ta tb : TE} {ma mb : ME} {r : R2} {f : D → D → Option R} (ha : SE K mg W ta ma) (hb : SE K mg W tb mb) (ho : OpS K mg r f) : SE K mg W (tOp r ta tb) (m2 f ma mb) := by
  intro fx vs0 Hr Hf H σ ρ Q E h
  refine ha.bind E h fun ra ρ1 x F1 H1 e1 E1 c1 s1 h1 => ?_
  refine hb.bind E1 h1 fun rb ρ2 y F2 H2 e2 E2 c2 s2 h2 => ?_
  cases ua : use ra ρ2 with
  | none => simp only [ua] at h2; exact h2.elim
  | some a =>
    cases ub : use rb ρ2 with
    | none => simp only [ua, ub] at h2; exact h2.elim
    | some b =>
      simp only [ua, ub] at h2
      cases hf : f a b with
      | none => rw [hf] at h2; exact h2.elim
      | some z =>
        rw [hf] at h2
        exact ho fx vs0 Hr F2 H2 σ ρ2 a b x y z Q E2 (use_ok E2 (s1 Hr F2 H2 ρ2 e2) ua) (use_ok E2 (s2 Hr F2 H2 ρ2 (Ext.refl _)) ub) hf h2
section
variable {X : Cx} {W : WX} {a b : Expr} {ta tb : TE} {ma mb : ME} {pos : Pos}
theorem de_bin {op : Operator} {r : R2} {f : D → D → Option R} (hr : OpR X (binaryOp op) r) (hs : OpS X.K X.mg r f) (ha : DE X W a ta ma) (hb : DE X W b tb mb) : DE X W (.BinOp a op b pos) (tOp r ta tb) (m2 f ma mb) :=
  ⟨pe_op hr ha.pe hb.pe, ha.se.op2 hb.se hs⟩
theorem de_cmp {op : CmpOp} {r : R2} {f : D → D → Option R} (hr : OpR X (compareOp op) r) (hs : OpS X.K X.mg r f) (ha : DE X W a ta ma) (hb : DE X W b tb mb) (hm : behindInMarks op b = false) :
    DE X W (.Compare a [op] [b] pos) (tOp r ta tb) (m2 f ma mb) := ⟨pe_cmpR hr ha.pe hb.pe hm, ha.se.op2 hb.se hs⟩
theorem de_ix {r : R2} {f : D → D → Option R} (hr : IxR X r) (hs : OpS X.K X.mg r f) (ha : DE X W a ta ma) (hb : DE X W b tb mb) (hp : PlainIx b) : DE X W (.Subscript a b pos) (tOp r ta tb) (m2 f ma mb) :=
  ⟨pe_ix hr ha.pe hb.pe hp, ha.se.op2 hb.se hs⟩

/-! ### names and constants -/
def mVar (i : Nat) : ME := fun ρ => match ρ[i]? with
  | some .no => .bad
  | some _ => .ok (.at i) ρ
  | none => .bad
theorem CellOk.some {K : PySem.W.Frag} {mg : Str → Option Value} {Hr Hf H : Hp} : ∀ {c : Cell} {o : Option V}, (c = .no → False) → CellOk K mg Hr Hf H c o → ∃ v, o = some v
  | .no, _, h, _ => (h rfl).elim
  | .val _, _, _, ⟨v, h, _⟩ => ⟨v, h⟩
  | .own _, _, _, ⟨a, _, h, _⟩ => ⟨_, h⟩
  | .ownD _ _, _, _, ⟨a, _, h, _⟩ => ⟨_, h⟩
theorem se_var {K : PySem.W.Frag} {mg : Str → Option Value} {W : WX} {i : Nat} : SE K mg W (tVar i) (mVar i) := by
  intro fx vs0 Hr Hf H σ ρ Q E h
  unfold mVar at h
  cases hc : ρ[i]? with
  | none => rw [hc] at h; exact h.elim
  | some c =>
    rw [hc] at h
    have k : c ≠ .no → tVar i σ H Q := fun hn => by
      obtain ⟨v, e⟩ := (E.cel i c hc).some hn
      have e := joinEq.mp e
      refine ⟨v, e, ?_⟩
      cases c with
      | no => exact (hn rfl).elim
      | _ => exact h v Hf H (Ext.refl _) E e
    cases c with
    | no => exact h.elim
    | _ => exact k (by intro z; cases z)
theorem de_var (i : Nat) {x : Str} {pos : Pos} (hN : X.N[i]? = some x := by rfl) (hv : Vis X.env.scope x := by first | exact Or.inl rfl | exact Or.inr (Or.inl rfl) | exact Or.inr (Or.inr rfl))
    (hd : (x == ("__debug__" : Str)) = false := by decide) (hcd : (x == ("__classdict__" : Str)) = false := by decide) : DE X W (.Name x pos) (tVar i) (mVar i) := ⟨pe_var hN hv hd hcd, se_var⟩
def mC (d : D) : ME := fun ρ => .ok (.dd d) ρ
theorem se_c {K : PySem.W.Frag} {mg : Str → Option Value} {d : D} {v : V} (h : ∀ H, Rep K mg H d v) : SE K mg W (tC v) (mC d) := fun fx vs0 Hr Hf H σ ρ Q E q => q v Hf H (Ext.refl _) E (h _)
theorem de_int {i : Int} {j} : DE X W (.Constant (.int i) j pos) (tC (.int i)) (mC (.int i)) := ⟨pe_int, se_c fun _ => rfl⟩
theorem de_str {x : Str} {j} : DE X W (.Constant (.str x) j pos) (tC (.str x)) (mC (.str x)) := ⟨pe_str, se_c fun _ => rfl⟩
theorem de_bl {b : Bool} {j} : DE X W (.Constant (.bool b) j pos) (tC (.bl b)) (mC (.bl b)) := ⟨pe_bl, se_c fun _ => rfl⟩
theorem de_non {j} : DE X W (.Constant .none j pos) (tC .non) (mC .non) := ⟨pe_non, se_c fun _ => rfl⟩
end
/-! ### tests -/
inductive TR where
  | ok (b : Bool) (ρ : Env) | exc (x : Str) (ρ : Env) | bad
abbrev MT := Env → TR
section
variable (K : PySem.W.Frag) (mg : Str → Option Value)
def PostT (W : WX) (fx : List Bool) (vs0 : List V) (Hr Hf : Hp) (σ : St) (r : TR) (Q : Bool → Hp → Prop) : Prop :=
  match r with
  | .ok b ρ => ∀ Hf' H', Ext Hf Hf' → EnvOk K mg fx vs0 Hr Hf' H' σ ρ → Q b H'
  | .exc x ρ => ∀ C, mg x = some (.ref C) → ∀ Hf' H', Ext Hf Hf' → EnvOk K mg fx vs0 Hr Hf' H' σ ρ → W (.ref C) none σ H'
  | .bad => False
def ST (W : WX) (t : TT) (m : MT) : Prop := ∀ fx vs0 Hr Hf H σ ρ Q, EnvOk K mg fx vs0 Hr Hf H σ ρ → PostT K mg W fx vs0 Hr Hf σ (m ρ) Q → t σ H Q
end
structure DT (X : Cx) (W : WX) (e : Expr) (t : TT) (m : MT) : Prop where
  pt : PT X e t
  st : ST X.K X.mg W t m
/-- whatever its whole is -/
structure DW (X : Cx) (W : WX) (e : Expr) (t : TT) (m : MT) : Prop where
  pw : PW X e t
  st : ST X.K X.mg W t m
theorem DW.dt {X : Cx} {W : WX} {e : Expr} {t : TT} {m : MT} (h : DW X W e t m) : DT X W e t m := ⟨h.pw.pt, h.st⟩

def D.tru : D → Option Bool
  | .non => some false
  | .bl b => some b
  | .int i => some (i != 0)
  | .str s => if s.length ≤ sizeLine then some ((s.length : Int) != 0) else none
  | .lst xs => some !xs.isEmpty
  | .fls xs => some !xs.isEmpty
  | .tup xs => some !xs.isEmpty
  | .dct ks _ => some !ks.isEmpty
  | _ => none
def D.bool : D → Option Bool
  | .bl b => some b
  | _ => none
def mTest (f : D → Option Bool) (m : ME) : MT := fun ρ => match m ρ with
  | .ok r ρ1 => match use r.fix ρ1 with
    | some d => match f d with
      | some b => .ok b ρ1
      | none => .bad
    | none => .bad
  | .exc x ρ1 => .exc x ρ1
  | .bad => .bad
section
variable {K : PySem.W.Frag} {mg : Str → Option Value} {W : WX} {fx : List Bool} {vs0 : List V} {Hr Hf Hf' H H' : Hp} {σ : St} {ρ ρ' : Env} {v : V} {d : D}
theorem PostT.mono {t : TR} {Q : Bool → Hp → Prop} (h : PostT K mg W fx vs0 Hr Hf σ t Q) (e : Ext Hf Hf') : PostT K mg W fx vs0 Hr Hf' σ t Q := by
  cases t with
  | ok r ρ => exact fun F H' e' => h F H' (e.trans e')
  | exc x ρ => exact fun C h1 F H' e' => h C h1 F H' (e.trans e')
  | bad => exact h
theorem SE.test {te : TE} {m : ME} {f : D → Option Bool} (he : SE K mg W te m) {Q : Bool → Hp → Prop} {QA : VK} (E : EnvOk K mg fx vs0 Hr Hf H σ ρ) (h : PostT K mg W fx vs0 Hr Hf σ (mTest f m ρ) Q)
    (hk : ∀ d b v Hf1 H1 ρ1, Ext Hf Hf1 → EnvOk K mg fx vs0 Hr Hf1 H1 σ ρ1 → PRep K mg Hf1 H1 d v → f d = some b → Q b H1 → QA v H1) : te σ H QA := by
  refine he fx vs0 Hr Hf H σ ρ QA E ?_
  unfold mTest at h
  cases hm : m ρ with
  | bad => rw [hm] at h; exact h
  | exc x ρ1 => rw [hm] at h; exact h
  | ok r ρ1 =>
    rw [hm] at h
    intro v F H1 e E1 q
    obtain ⟨F', e', E', q'⟩ := q.fixed E1
    cases hu : use r.fix ρ1 with
    | none => simp only [hu] at h; exact h.elim
    | some d =>
      cases hf : f d with
      | none => simp only [hu, hf] at h; exact h.elim
      | some b =>
        simp only [hu, hf] at h
        exact hk d b v F' H1 ρ1 (e.trans e') E' (use_ok E' q' hu) hf (h F' H1 (e.trans e') E')
theorem PRep.tru {b : Bool} (h : PRep K mg Hf H d v) (S : Ext Hf H) (e : d.tru = some b) : TruV K v H b := by
  cases d with
  | non => cases (show v = .non from h); cases e; exact rfl
  | bl x => cases (show v = .bl x from h); cases e; exact rfl
  | int i => cases (show v = .int i from h); cases e; exact rfl
  | str s =>
    cases (show v = .str s from h)
    have e : (if s.length ≤ sizeLine then some ((s.length : Int) != 0) else none) = some b := e
    by_cases hs : s.length ≤ sizeLine
    · rw [if_pos hs] at e; cases e; exact ⟨hs, rfl⟩
    · rw [if_neg hs] at e; cases e
  | ty n => cases e
  | fn n => cases e
  | lst xs =>
    obtain ⟨a, vs, rfl, h2, h3⟩ := h
    cases e
    refine .inl ⟨vs, .of h2, ?_⟩
    have := h3.length
    cases xs <;> cases vs <;> simp_all
  | fls xs =>
    obtain ⟨a, vs, rfl, h2, h3⟩ := h
    cases e
    refine .inl ⟨vs, S.sql h2, ?_⟩
    have := h3.length
    cases xs <;> cases vs <;> simp_all
  | tup xs =>
    obtain ⟨a, vs, rfl, h2, h3⟩ := h
    cases e
    refine .inr (.inl ⟨vs, S.sqt h2, ?_⟩)
    have := h3.length
    cases xs <;> cases vs <;> simp_all
  | dct ks xs =>
    obtain ⟨a, kvs, rfl, h2, h3, h4⟩ := h
    cases e
    refine .inr (.inr ⟨kvs, h2, ?_⟩)
    subst h3
    cases kvs <;> simp
theorem PRep.bool {b : Bool} (h : PRep K mg Hf H d v) (e : d.bool = some b) : v = .bl b := by
  cases d with
  | bl x => cases e; exact h
  | _ => cases e
end
section
variable {X : Cx} {W : WX} {a b : Expr} {rest : List Expr} {ta tb te : TE} {ma mb m : ME} {pos : Pos} {tA tB' : TT} {mA mB' : MT}
theorem dt_truth (h : DE X W a te m) (he : ∀ whole, isTrue a X.env whole = (do let v ← whole; standAt a.pos; holding [v] (truthy v)) := by intro _; rfl) :
    DT X W a (fun σ H Q => te σ H fun x H' => ∃ k, TruV X.K x H' k ∧ Q k H') (mTest D.tru m) :=
  ⟨pt_truth h.pe he, fun fx vs0 Hr Hf H σ ρ Q E p => h.se.test E p fun d b v Hf1 H1 ρ1 _ E1 q e k => ⟨b, q.tru E1.sub e, k⟩⟩
theorem dt_cmp {op : CmpOp} {r : R2} {f : D → D → Option R} (hr : OpR X (compareOp op) r) (hs : OpS X.K X.mg r f) (ha : DE X W a ta ma) (hb : DE X W b tb mb) (hm : behindInMarks op b = false) :
    DT X W (.Compare a [op] [b] pos) (tTest (tOp r ta tb)) (mTest D.bool (m2 f ma mb)) :=
  ⟨pt_cmpR hr ha.pe hb.pe hm, fun fx vs0 Hr Hf H σ ρ Q E p => (ha.se.op2 hb.se hs).test E p fun d b v Hf1 H1 ρ1 _ E1 q e k => ⟨b, q.bool e, k⟩⟩
/-- a comparison's test by its value's rule -/
theorem dt_cmpC {op : CmpOp} {t : TE} (hp : PC X op a b t) (hs : SE X.K X.mg W t m) (h1 : behindInMarks op b = false) : DT X W (.Compare a [op] [b] pos) (tB t) (mTest D.bool m) :=
  ⟨pt_cmp hp h1, fun fx vs0 Hr Hf H σ ρ Q E p => hs.test E p fun d b v Hf1 H1 ρ1 _ E1 q e k => ⟨b, q.bool e, k⟩⟩
def tmNot (m : MT) : MT := fun ρ => match m ρ with
  | .ok b ρ1 => .ok (!b) ρ1
  | r => r
def tmAnd (m k : MT) : MT := fun ρ => match m ρ with
  | .ok true ρ1 => k ρ1
  | r => r
def tmOr (m k : MT) : MT := fun ρ => match m ρ with
  | .ok false ρ1 => k ρ1
  | r => r
theorem ST.next {K : PySem.W.Frag} {mg : Str → Option Value} {t : TT} {m : MT} (ht : ST K mg W t m) {fx : List Bool} {vs0 : List V} {Hr Hf H : Hp} {σ : St} {ρ : Env} {Q : Bool → Hp → Prop} (E : EnvOk K mg fx vs0 Hr Hf H σ ρ)
    (h : match m ρ with
      | .ok b ρ1 => ∀ Hf1 H1, Ext Hf Hf1 → EnvOk K mg fx vs0 Hr Hf1 H1 σ ρ1 → Q b H1
      | r => PostT K mg W fx vs0 Hr Hf σ r Q) : t σ H Q := by
  refine ht fx vs0 Hr Hf H σ ρ Q E ?_
  cases hm : m ρ <;> rw [hm] at h <;> exact h
theorem dt_not (h : DT X W a tA mA) : DT X W (.UnaryOp .Not a pos) (tNot tA) (tmNot mA) := by
  refine ⟨pt_not h.pt, fun fx vs0 Hr Hf H σ ρ Q E p => h.st.next E ?_⟩
  unfold tmNot at p
  cases hm : mA ρ <;> rw [hm] at p <;> exact p
theorem dw_and1 (h : DT X W a tA mA) : DW X W (.BoolOp .And [a] pos) tA mA := ⟨pw_and1 h.pt, h.st⟩
theorem dw_or1 (h : DT X W a tA mA) : DW X W (.BoolOp .Or [a] pos) tA mA := ⟨pw_or1 h.pt, h.st⟩
theorem dw_and (h : DT X W a tA mA) (k : DW X W (.BoolOp .And (b :: rest) pos) tB' mB') : DW X W (.BoolOp .And (a :: b :: rest) pos) (tAnd tA tB') (tmAnd mA mB') := by
  refine ⟨pw_and h.pt k.pw, fun fx vs0 Hr Hf H σ ρ Q E p => h.st.next E ?_⟩
  unfold tmAnd at p
  cases hm : mA ρ with
  | bad => rw [hm] at p; exact p
  | exc x ρ1 => rw [hm] at p; exact p
  | ok c ρ1 =>
    rw [hm] at p
    intro F H1 e E1
    cases c with
    | true => exact k.st fx vs0 Hr F H1 σ ρ1 Q E1 (PostT.mono p e)
    | false => exact p F H1 e E1
theorem dw_or (h : DT X W a tA mA) (k : DW X W (.BoolOp .Or (b :: rest) pos) tB' mB') : DW X W (.BoolOp .Or (a :: b :: rest) pos) (tOr tA tB') (tmOr mA mB') := by
  refine ⟨pw_or h.pt k.pw, fun fx vs0 Hr Hf H σ ρ Q E p => h.st.next E ?_⟩
  unfold tmOr at p
  cases hm : mA ρ with
  | bad => rw [hm] at p; exact p
  | exc x ρ1 => rw [hm] at p; exact p
  | ok c ρ1 =>
    rw [hm] at p
    intro F H1 e E1
    cases c with
    | true => exact p F H1 e E1
    | false => exact k.st fx vs0 Hr F H1 σ ρ1 Q E1 (PostT.mono p e)
/-- a if t else b -/
def mIf (c : MT) (ma mb : ME) : ME := fun ρ => match c ρ with
  | .ok true ρ1 => ma ρ1
  | .ok false ρ1 => mb ρ1
  | .exc x ρ1 => .exc x ρ1
  | .bad => .bad
theorem de_if {c : Expr} (hc : DT X W c tA mA) (ha : DE X W a ta ma) (hb : DE X W b tb mb) : DE X W (.IfExp c a b pos) (tIf tA ta tb) (mIf mA ma mb) := by
  refine ⟨pe_ifExp hc.pt ha.pe hb.pe, fun fx vs0 Hr Hf H σ ρ Q E p => ?_⟩
  refine hc.st fx vs0 Hr Hf H σ ρ (fun c H1 => if c = true then ta σ H1 Q else tb σ H1 Q) E ?_
  unfold mIf at p
  cases hm : mA ρ with
  | bad => rw [hm] at p; exact p
  | exc x ρ1 => rw [hm] at p; exact p
  | ok c ρ1 =>
    rw [hm] at p
    intro F H1 e E1
    cases c with
    | true => exact ha.se fx vs0 Hr F H1 σ ρ1 Q E1 (PostE.mono p e)
    | false => exact hb.se fx vs0 Hr F H1 σ ρ1 Q E1 (PostE.mono p e)
/-- and, or, not of bools as values -/
def mAndV (ma mb : ME) : ME := fun ρ => match mTest D.bool ma ρ with
  | .ok true ρ1 => mb ρ1
  | .ok false ρ1 => .ok (.dd (.bl false)) ρ1
  | .exc x ρ1 => .exc x ρ1
  | .bad => .bad
def mOrV (ma mb : ME) : ME := fun ρ => match mTest D.bool ma ρ with
  | .ok true ρ1 => .ok (.dd (.bl true)) ρ1
  | .ok false ρ1 => mb ρ1
  | .exc x ρ1 => .exc x ρ1
  | .bad => .bad
def mNotV (ma : ME) : ME := fun ρ => match mTest D.bool ma ρ with
  | .ok b ρ1 => .ok (.dd (.bl !b)) ρ1
  | .exc x ρ1 => .exc x ρ1
  | .bad => .bad
theorem SE.testV {K : PySem.W.Frag} {mg : Str → Option Value} (ha : SE K mg W ta ma) {fx : List Bool} {vs0 : List V} {Hr Hf H : Hp} {σ : St} {ρ : Env} {QA : VK} (E : EnvOk K mg fx vs0 Hr Hf H σ ρ)
    (h : match mTest D.bool ma ρ with
      | .ok b ρ1 => ∀ Hf1 H1, Ext Hf Hf1 → EnvOk K mg fx vs0 Hr Hf1 H1 σ ρ1 → QA (.bl b) H1
      | .exc x ρ1 => PostT K mg W fx vs0 Hr Hf σ (.exc x ρ1) fun _ _ => False
      | .bad => False) : ta σ H QA := by
  refine ha.test (f := D.bool) (Q := fun b H1 => QA (.bl b) H1) E ?_ fun d b v Hf1 H1 ρ1 _ E1 q e k => ?_
  · cases hm : mTest D.bool ma ρ <;> rw [hm] at h <;> exact h
  · cases q.bool e; exact k
theorem de_one {op} (h : DE X W a ta ma) : DE X W (.BoolOp op [a] pos) ta ma := ⟨pe_one h.pe, h.se⟩
theorem de_and (ha : DE X W a ta ma) (hb : DE X W (.BoolOp .And (b :: rest) pos) tb mb) : DE X W (.BoolOp .And (a :: b :: rest) pos) (tAndV ta tb) (mAndV ma mb) := by
  refine ⟨pe_and ha.pe hb.pe, fun fx vs0 Hr Hf H σ ρ Q E p => ha.se.testV E ?_⟩
  unfold mAndV at p
  cases hm : mTest D.bool ma ρ with
  | bad => rw [hm] at p; exact p
  | exc x ρ1 => rw [hm] at p; exact p
  | ok c ρ1 =>
    rw [hm] at p
    intro F H1 e E1
    cases c with
    | true => exact ⟨true, rfl, hb.se fx vs0 Hr F H1 σ ρ1 Q E1 (PostE.mono p e)⟩
    | false => exact ⟨false, rfl, p _ F H1 e E1 rfl⟩
theorem de_or (ha : DE X W a ta ma) (hb : DE X W (.BoolOp .Or (b :: rest) pos) tb mb) : DE X W (.BoolOp .Or (a :: b :: rest) pos) (tOrV ta tb) (mOrV ma mb) := by
  refine ⟨pe_or ha.pe hb.pe, fun fx vs0 Hr Hf H σ ρ Q E p => ha.se.testV E ?_⟩
  unfold mOrV at p
  cases hm : mTest D.bool ma ρ with
  | bad => rw [hm] at p; exact p
  | exc x ρ1 => rw [hm] at p; exact p
  | ok c ρ1 =>
    rw [hm] at p
    intro F H1 e E1
    cases c with
    | true => exact ⟨true, rfl, p _ F H1 e E1 rfl⟩
    | false => exact ⟨false, rfl, hb.se fx vs0 Hr F H1 σ ρ1 Q E1 (PostE.mono p e)⟩
theorem de_not (ha : DE X W a ta ma) : DE X W (.UnaryOp .Not a pos) (tNotV ta) (mNotV ma) := by
  refine ⟨pe_not ha.pe, fun fx vs0 Hr Hf H σ ρ Q E p => ha.se.testV E ?_⟩
  unfold mNotV at p
  cases hm : mTest D.bool ma ρ with
  | bad => rw [hm] at p; exact p
  | exc x ρ1 => rw [hm] at p; exact p
  | ok c ρ1 =>
    rw [hm] at p
    intro F H1 e E1
    exact ⟨c, rfl, p _ F H1 e E1 rfl⟩
end

/-! ### statements -/
inductive SR where
  | nx (ρ : Env) | ret (r : R) (ρ : Env) | exc (x : Str) (ρ : Env) | bk (ρ : Env) | ct (ρ : Env) | bad
abbrev MS := Env → SR
section
variable (K : PySem.W.Frag) (mg : Str → Option Value)
def PostS (W : WX) (fx : List Bool) (vs0 : List V) (Hr Hf : Hp) (r : SR) (D : Ends) : Prop :=
  match r with
  | .nx ρ => ∀ σ Hf' H', Ext Hf Hf' → EnvOk K mg fx vs0 Hr Hf' H' σ ρ → D.nx σ H'
  | .ret r ρ => ∀ v σ Hf' H', Ext Hf Hf' → EnvOk K mg fx vs0 Hr Hf' H' σ ρ → ROk K mg Hr Hf' H' σ ρ r v → D.rt v H'
  | .exc x ρ => ∀ C, mg x = some (.ref C) → ∀ σ Hf' H', Ext Hf Hf' → EnvOk K mg fx vs0 Hr Hf' H' σ ρ → W (.ref C) none σ H'
  | .bk ρ => ∀ σ Hf' H', Ext Hf Hf' → EnvOk K mg fx vs0 Hr Hf' H' σ ρ → D.bk σ H'
  | .ct ρ => ∀ σ Hf' H', Ext Hf Hf' → EnvOk K mg fx vs0 Hr Hf' H' σ ρ → D.ct σ H'
  | .bad => False
def SS (W : WX) (fx : List Bool) (t : TS) (m : MS) : Prop := ∀ vs0 Hr Hf H σ ρ D, EnvOk K mg fx vs0 Hr Hf H σ ρ → PostS K mg W fx vs0 Hr Hf (m ρ) D → t D σ H
end
structure DS (X : Cx) (W : WX) (fx : List Bool) (st : Stmt) (t : TS) (m : MS) : Prop where
  ps : PS X st t
  ss : SS X.K X.mg W fx t m
structure DSs (X : Cx) (W : WX) (fx : List Bool) (st : List Stmt) (t : TS) (m : MS) : Prop where
  ps : PSs X st t
  ss : SS X.K X.mg W fx t m
section
variable {K : PySem.W.Frag} {mg : Str → Option Value} {W : WX} {fx : List Bool} {vs0 : List V} {Hr Hf Hf' H H' : Hp} {σ : St} {ρ ρ' : Env} {v : V} {d : D}
theorem PostS.mono {t : SR} {D : Ends} (h : PostS K mg W fx vs0 Hr Hf t D) (e : Ext Hf Hf') : PostS K mg W fx vs0 Hr Hf' t D := by
  cases t with
  | nx ρ => exact fun s F H' e' => h s F H' (e.trans e')
  | bk ρ => exact fun s F H' e' => h s F H' (e.trans e')
  | ct ρ => exact fun s F H' e' => h s F H' (e.trans e')
  | ret r ρ => exact fun v s F H' e' => h v s F H' (e.trans e')
  | exc x ρ => exact fun C h1 s F H' e' => h C h1 s F H' (e.trans e')
  | bad => exact h
/-- a slot is stored -/
theorem EnvOk.store {i : Nat} {c : Cell} (E : EnvOk K mg fx vs0 Hr Hf H σ ρ) (hi : fx[i]? ≠ some true) (hc : (∃ d, c = .val d ∧ Rep K mg Hf d v) ∨ c = .no ∨ ROk K mg Hr Hf H σ ρ (.ow c) v) :
    EnvOk K mg fx vs0 Hr Hf H (σ.set i (some v)) (ρ.set i c) := by
  have old : ∀ {j : Nat} {a : Addr}, j ≠ i → OwnAt (σ.set i (some v)) (ρ.set i c) j a → OwnAt σ ρ j a := fun {j a} hj ⟨⟨c', h1, h2⟩, h3⟩ => by
    rw [List.getElem?_set_ne (Ne.symm hj)] at h1 h3
    exact ⟨⟨c', h1, h2⟩, h3⟩
  have new : ∀ {a : Addr}, OwnAt (σ.set i (some v)) (ρ.set i c) i a → isOwn c = true ∧ v = .ref a := fun {a} ⟨⟨c', h1, h2⟩, h3⟩ => by
    have l1 : i < ρ.length := by
      by_cases hl : i < ρ.length
      · exact hl
      · rw [List.getElem?_eq_none (by simp; omega)] at h1; cases h1
    have l2 : i < σ.length := by rw [E.len]; exact l1
    rw [List.getElem?_set_self l1] at h1
    rw [List.getElem?_set_self l2] at h3
    cases h1; cases h3
    exact ⟨h2, rfl⟩
  have fresh : ∀ {a : Addr} {j : Nat}, isOwn c = true → v = .ref a → ¬ OwnAt σ ρ j a := fun {a j} ho hv => by
    rcases hc with ⟨d, rfl, _⟩ | rfl | ⟨b, u, hb, h2, h3, h4, h5, h6⟩
    · cases ho
    · cases ho
    · rw [hv] at hb; cases hb; exact h6 j
  refine ⟨by simp [E.len], E.sub, E.frm, E.dis, fun j c' hc' => ?_, fun j k a p q => ?_, fun j hj => ?_⟩
  · by_cases hj : j = i
    · subst hj
      have l1 : j < ρ.length := by
        by_cases hl : j < ρ.length
        · exact hl
        · rw [List.getElem?_eq_none (by simp; omega)] at hc'; cases hc'
      have l2 : j < σ.length := by rw [E.len]; exact l1
      rw [List.getElem?_set_self l1] at hc'
      cases hc'
      rw [List.getElem?_set_self l2]
      rcases hc with ⟨d, rfl, h⟩ | rfl | ⟨b, u, hb, h2, h3, h4, h5, h6⟩
      · exact ⟨v, rfl, h⟩
      · trivial
      · exact .ofOwn h3.isOwn ⟨b, u, by rw [hb]; rfl, h2, h3, h4, h5⟩
    · rw [List.getElem?_set_ne (Ne.symm hj)] at hc' ⊢
      exact E.cel j c' hc'
  · by_cases hj : j = i
    · by_cases hk : k = i
      · rw [hj, hk]
      · subst hj
        obtain ⟨n1, n2⟩ := new p
        exact absurd (old hk q) (fresh n1 n2)
    · by_cases hk : k = i
      · subst hk
        obtain ⟨n1, n2⟩ := new q
        exact absurd (old hj p) (fresh n1 n2)
      · exact E.inj j k a (old hj p) (old hk q)
  · have : i ≠ j := fun z => by rw [z] at hi; exact hi hj
    rw [List.getElem?_set_ne this]
    exact E.fix j hj
end
section
variable {X : Cx} {W : WX} {fx : List Bool} {st : Stmt} {rest : List Stmt} {t u : TS} {m k : MS} {e : Expr} {te : TE} {me : ME} {pos : Pos} {tc : TT} {mc : MT}
def mNx : MS := fun ρ => .nx ρ
def mSeq (m k : MS) : MS := fun ρ => match m ρ with
  | .nx ρ1 => k ρ1
  | r => r
theorem SS.seq {K : PySem.W.Frag} {mg : Str → Option Value} (h1 : SS K mg W fx t m) (h2 : SS K mg W fx u k) : SS K mg W fx (tSeq t u) (mSeq m k) := by
  intro vs0 Hr Hf H σ ρ D E p
  refine h1 vs0 Hr Hf H σ ρ _ E ?_
  unfold mSeq at p
  cases hm : m ρ with
  | nx ρ1 =>
    rw [hm] at p
    exact fun σ1 F H1 e E1 => h2 vs0 Hr F H1 σ1 ρ1 D E1 (PostS.mono p e)
  | _ => rw [hm] at p; exact p
theorem dss_nil : DSs X W fx [] tNext mNx := ⟨pss_nil, fun vs0 Hr Hf H σ ρ D E p => p σ Hf H (Ext.refl _) E⟩
theorem dss_cons (h1 : DS X W fx st t m) (h2 : DSs X W fx rest u k) : DSs X W fx (st :: rest) (tSeq t u) (mSeq m k) := ⟨pss_cons h1.ps h2.ps, h1.ss.seq h2.ss⟩
theorem dss_one (h1 : DS X W fx st t m) : DSs X W fx [st] t m := ⟨pss_one h1.ps, h1.ss⟩
theorem ds_pass : DS X W fx (.Pass pos) tNext mNx := ⟨ps_pass, fun vs0 Hr Hf H σ ρ D E p => p σ Hf H (Ext.refl _) E⟩
def mBk : MS := fun ρ => .bk ρ
def mCt : MS := fun ρ => .ct ρ
theorem ds_break : DS X W fx (.Break pos) tBreak mBk := ⟨ps_break, fun vs0 Hr Hf H σ ρ D E p => p σ Hf H (Ext.refl _) E⟩
theorem ds_continue : DS X W fx (.Continue pos) tCont mCt := ⟨ps_continue, fun vs0 Hr Hf H σ ρ D E p => p σ Hf H (Ext.refl _) E⟩
def mExpr (m : ME) : MS := fun ρ => match m ρ with
  | .ok _ ρ1 => .nx ρ1
  | .exc x ρ1 => .exc x ρ1
  | .bad => .bad
theorem ds_expr (h : DE X W e te me) (hs : swapsWith e none pos.line X.env = pure false := by rfl) : DS X W fx (.Expr e pos) (tDrop te) (mExpr me) := by
  refine ⟨ps_expr h.pe hs, fun vs0 Hr Hf H σ ρ D E p => h.se fx vs0 Hr Hf H σ ρ _ E ?_⟩
  unfold mExpr at p
  cases hm : me ρ with
  | bad => rw [hm] at p; exact p
  | exc x ρ1 => rw [hm] at p; exact fun C h1 F H' e E' => p C h1 σ F H' e E'
  | ok r ρ1 => rw [hm] at p; exact fun v F H' e E' _ => p σ F H' e E'
/-- return e: an owned local is handed over frozen -/
def mRet (m : ME) : MS := fun ρ => match m ρ with
  | .ok (.ow c) ρ1 => .ret (.ow c) ρ1
  | .ok r ρ1 => match frz r ρ1 with
    | some (d, ρ2) => .ret (.dd d) ρ2
    | none => .bad
  | .exc x ρ1 => .exc x ρ1
  | .bad => .bad
theorem ds_ret (h : DE X W e te me) : DS X W fx (.Return (some e) pos) (tRet te) (mRet me) := by
  refine ⟨ps_ret h.pe, fun vs0 Hr Hf H σ ρ D E p => h.se fx vs0 Hr Hf H σ ρ _ E ?_⟩
  unfold mRet at p
  cases hm : me ρ with
  | bad => rw [hm] at p; exact p
  | exc x ρ1 => rw [hm] at p; exact fun C h1 F H' e E' => p C h1 σ F H' e E'
  | ok r ρ1 =>
    rw [hm] at p
    have key : (∀ d ρ2, frz r ρ1 = some (d, ρ2) → PostS X.K X.mg W fx vs0 Hr Hf (.ret (.dd d) ρ2) D) → (∃ x, frz r ρ1 = some x) → PostE X.K X.mg W fx vs0 Hr Hf σ (.ok r ρ1) D.rt := fun k1 k2 => by
      obtain ⟨⟨d, ρ2⟩, k2⟩ := k2
      intro v F H' e E' q
      obtain ⟨F', e', E2, q'⟩ := frz_ok E' q k2
      exact k1 d ρ2 k2 v σ F' H' (e.trans e') E2 q'
    cases r with
    | ow c => exact fun v F H' e E' q => p v σ F H' e E' q
    | «at» i =>
      cases hz : frz (.at i) ρ1 with
      | none => simp only [hz] at p; exact p.elim
      | some x => simp only [hz] at p; exact key (fun d ρ2 k => by rw [hz] at k; cases k; exact p) ⟨x, hz⟩
    | dd d =>
      cases hz : frz (.dd d) ρ1 with
      | none => simp only [hz] at p; exact p.elim
      | some x => simp only [hz] at p; exact key (fun d ρ2 k => by rw [hz] at k; cases k; exact p) ⟨x, hz⟩
/-- return x of an owned local name that is no parameter: it is handed over -/
def mRetV (i : Nat) : MS := fun ρ => match ρ[i]? with
  | some (.val d) => .ret (.dd d) ρ
  | some .no => .bad
  | some c => .ret (.ow c) (ρ.set i .no)
  | none => .bad
theorem ds_retV (i : Nat) (h : DE X W e (tVar i) (mVar i)) : DS X W fx (.Return (some e) pos) (tRet (tVar i)) (mRetV i) := by
  refine ⟨ps_ret h.pe, fun vs0 Hr Hf H σ ρ D E p => ?_⟩
  unfold mRetV at p
  cases hc : ρ[i]? with
  | none => rw [hc] at p; exact p.elim
  | some c =>
    rw [hc] at p
    have own : isOwn c = true → PostS X.K X.mg W fx vs0 Hr Hf (.ret (.ow c) (ρ.set i .no)) D → tRet (tVar i) D σ H := fun ho p => by
      obtain ⟨a, o, h1, h2, h3, h4, h5⟩ := (E.cel i c hc).own ho
      have h1 := joinEq.mp h1
      have hi : i < ρ.length := (List.getElem?_eq_some_iff.mp hc).1
      have own' : ∀ {j : Nat} {b : Addr}, OwnAt σ (ρ.set i .no) j b → OwnAt σ ρ j b ∧ j ≠ i := fun {j b} ⟨⟨c', hc', ho'⟩, hs'⟩ => by
        by_cases hj : i = j
        · subst hj; rw [List.getElem?_set_self hi] at hc'; cases hc'; cases ho'
        · rw [List.getElem?_set_ne hj] at hc'
          exact ⟨⟨⟨c', hc', ho'⟩, hs'⟩, fun z => hj z.symm⟩
      refine ⟨_, h1, p _ σ Hf H (Ext.refl _) ⟨by rw [List.length_set]; exact E.len, E.sub, E.frm, E.dis, fun j c' hc' => ?_, fun j k b p q => E.inj j k b (own' p).1 (own' q).1, E.fix⟩ ⟨a, o, rfl, h2, h3, h4, h5, fun j q => ?_⟩⟩
      · by_cases hj : i = j
        · subst hj; rw [List.getElem?_set_self hi] at hc'; cases hc'; trivial
        · rw [List.getElem?_set_ne hj] at hc'; exact E.cel j c' hc'
      · obtain ⟨q1, q2⟩ := own' q
        exact q2 (E.inj j i a q1 ⟨⟨c, hc, ho⟩, h1⟩)
    cases c with
    | no => exact p.elim
    | val d =>
      obtain ⟨v, h1, h2⟩ := E.cel i _ hc
      exact ⟨v, joinEq.mp h1, p v σ Hf H (Ext.refl _) E h2⟩
    | own xs => exact own rfl p
    | ownD ks vs => exact own rfl p
def mRetN : MS := fun ρ => .ret (.dd .non) ρ
theorem ds_retN : DS X W fx (.Return none pos) tRetN mRetN := ⟨ps_retN, fun vs0 Hr Hf H σ ρ D E p => p .non σ Hf H (Ext.refl _) E rfl⟩
def mIfS (c : MT) (m k : MS) : MS := fun ρ => match c ρ with
  | .ok true ρ1 => m ρ1
  | .ok false ρ1 => k ρ1
  | .exc x ρ1 => .exc x ρ1
  | .bad => .bad
theorem ds_if {c : Expr} {a b : List Stmt} (hc : DT X W c tc mc) (ha : DSs X W fx a t m) (hb : DSs X W fx b u k) : DS X W fx (.If c a b pos) (tIfS tc t u) (mIfS mc m k) := by
  refine ⟨ps_if hc.pt ha.ps hb.ps, fun vs0 Hr Hf H σ ρ D E p => ?_⟩
  refine hc.st fx vs0 Hr Hf H σ ρ (fun b H1 => if b = true then t D σ H1 else u D σ H1) E ?_
  unfold mIfS at p
  cases hm : mc ρ with
  | bad => rw [hm] at p; exact p
  | exc x ρ1 => rw [hm] at p; exact fun C h1 F H' e E' => p C h1 σ F H' e E'
  | ok c ρ1 =>
    rw [hm] at p
    intro F H1 e E1
    cases c with
    | true => exact ha.ss vs0 Hr F H1 σ ρ1 D E1 (PostS.mono p e)
    | false => exact hb.ss vs0 Hr F H1 σ ρ1 D E1 (PostS.mono p e)
/-- name = e -/
def mAsg (i : Nat) (m : ME) : MS := fun ρ => match m ρ with
  | .ok r ρ1 => match tak r ρ1 with
    | some (c, ρ2) => .nx (ρ2.set i c)
    | none => .bad
  | .exc x ρ1 => .exc x ρ1
  | .bad => .bad
theorem SE.asg {K : PySem.W.Frag} {mg : Str → Option Value} {i : Nat} (h : SE K mg W te me) (hi : fx[i]? ≠ some true) : SS K mg W fx (tAsg te (gName i)) (mAsg i me) := by
  intro vs0 Hr Hf H σ ρ D E p
  refine h fx vs0 Hr Hf H σ ρ _ E ?_
  unfold mAsg at p
  cases hm : me ρ with
  | bad => rw [hm] at p; exact p
  | exc x ρ1 => rw [hm] at p; exact fun C h1 F H' e E' => p C h1 σ F H' e E'
  | ok r ρ1 =>
    rw [hm] at p
    intro v F H' e E' q
    cases ht : tak r ρ1 with
    | none => simp only [ht] at p; exact p.elim
    | some x =>
      obtain ⟨c, ρ2⟩ := x
      simp only [ht] at p
      obtain ⟨F', e', E2, z⟩ := tak_ok E' q ht
      refine p _ F' H' (e.trans e') (E2.store hi ?_)
      rcases z with ⟨d, rfl, z⟩ | ⟨rfl, rfl, z⟩
      · exact .inl ⟨d, rfl, z⟩
      · exact .inr (.inr z)
theorem ds_set (i : Nat) {x : Str} {pos' : Pos} (hN : X.N.Nodup) (h : DE X W e te me) (hi : X.N[i]? = some x := by rfl) (hx : Loc X.env.scope x := by first | exact Or.inl rfl | exact Or.inr rfl) (hs : swapsWith e (some (.Name x pos')) pos.line X.env = pure false := by rfl)
    (hf : X.fn x = true ∨ X.env.scope.names.lookup x = some .local := by first | exact .inl rfl | exact .inr rfl) (hfx : fx[i]? ≠ some true := by decide) : DS X W fx (.Assign [.Name x pos'] e pos) (tAsg te (gName i)) (mAsg i me) :=
  ⟨ps_set hN hi hx h.pe hs hf, h.se.asg hfx⟩
end
/-! ### defs -/
inductive FR where
  | ret (r : R) (os : Env) | exc (x : Str) (os : Env) | bad
abbrev MF := List Cell → FR
section
variable (K : PySem.W.Frag) (mg : Str → Option Value)
def PostF (Hr Hf : Hp) (vs : List V) (r : FR) (Q : VK) (E : XK) : Prop :=
  match r with
  | .ret (.at _) _ => False
  | .ret r os => ∀ v Hf' H', Ext Hf Hf' → EnvOk K mg [] [] Hr Hf' H' (vs.map some) os → ROk K mg Hr Hf' H' (vs.map some) os r v → Q v H'
  | .exc x os => ∀ C, mg x = some (.ref C) → ∀ Hf' H', Ext Hf Hf' → EnvOk K mg [] [] Hr Hf' H' (vs.map some) os → E (.ref C) none H'
  | .bad => False
/-- a def's promise: it does what F says -/
def spT (n : Nat) (F : MF) : Sp := fun vs H Q E => vs.length = n ∧ ∃ Hr Hf args, EnvOk K mg [] [] Hr Hf H (vs.map some) args ∧ PostF K mg Hr Hf vs (F args) Q E
end
def pad (n : Nat) (ρ : Env) : Env := ρ ++ List.replicate (n - ρ.length) .no
def outs : List Bool → Env → Env
  | [], _ => []
  | true :: bs, c :: cs => c :: outs bs cs
  | false :: bs, _ :: cs => .no :: outs bs cs
  | _ :: bs, [] => .no :: outs bs []
def mkF (fx : List Bool) (N : Nat) (m : MS) : MF := fun args => match m (pad N args) with
  | .nx ρ => .ret (.dd .non) (outs fx ρ)
  | .ret (.at _) _ => .bad
  | .ret r ρ => .ret r (outs fx ρ)
  | .exc x ρ => .exc x (outs fx ρ)
  | _ => .bad
theorem outs_length : ∀ (fx : List Bool) (ρ : Env), (outs fx ρ).length = fx.length
  | [], _ => rfl
  | true :: bs, c :: cs => by simp [outs, outs_length bs cs]
  | false :: bs, c :: cs => by simp [outs, outs_length bs cs]
  | true :: bs, [] => by simp [outs, outs_length bs []]
  | false :: bs, [] => by simp [outs, outs_length bs []]
theorem outs_get : ∀ {fx : List Bool} {ρ : Env} {i : Nat} {c : Cell}, (outs fx ρ)[i]? = some c → c = .no ∨ (fx[i]? = some true ∧ ρ[i]? = some c)
  | [], _, _, _, h => by simp [outs] at h
  | true :: bs, c :: cs, 0, _, h => by simp [outs] at h; subst h; exact .inr ⟨rfl, rfl⟩
  | true :: bs, c :: cs, i + 1, _, h => by
    have := outs_get (fx := bs) (ρ := cs) (i := i) (by simpa [outs] using h)
    simpa using this
  | false :: bs, c :: cs, 0, _, h => by simp [outs] at h; exact .inl h.symm
  | false :: bs, c :: cs, i + 1, _, h => by
    have := outs_get (fx := bs) (ρ := cs) (i := i) (by simpa [outs] using h)
    simpa using this
  | true :: bs, [], 0, _, h => by simp [outs] at h; exact .inl h.symm
  | true :: bs, [], i + 1, _, h => by
    have := outs_get (fx := bs) (ρ := []) (i := i) (by simpa [outs] using h)
    rcases this with h | ⟨_, h⟩
    · exact .inl h
    · simp at h
  | false :: bs, [], 0, _, h => by simp [outs] at h; exact .inl h.symm
  | false :: bs, [], i + 1, _, h => by
    have := outs_get (fx := bs) (ρ := []) (i := i) (by simpa [outs] using h)
    rcases this with h | ⟨_, h⟩
    · exact .inl h
    · simp at h

section
variable {K : PySem.W.Frag} {mg : Str → Option Value} {W : WX} {fx : List Bool} {vs0 vs : List V} {Hr Hf Hf' H H' : Hp} {σ : St} {ρ ρ' args : Env} {v : V} {d : D}
theorem EnvOk.nofx (E : EnvOk K mg fx vs0 Hr Hf H σ ρ) : EnvOk K mg [] [] Hr Hf H σ ρ := ⟨E.len, E.sub, E.frm, E.dis, E.cel, E.inj, fun i h => by simp at h⟩
theorem EnvOk.refx {fx' : List Bool} {vs' : List V} {Hr' Hf0 H0 : Hp} {ρ0 : Env} (E : EnvOk K mg fx' vs' Hr Hf H σ ρ) (E0 : EnvOk K mg fx vs0 Hr' Hf0 H0 σ ρ0) : EnvOk K mg fx vs0 Hr Hf H σ ρ := ⟨E.len, E.sub, E.frm, E.dis, E.cel, E.inj, E0.fix⟩
/-- the entry of a def -/
theorem EnvOk.enter {N : List Str} (E : EnvOk K mg [] [] Hr Hf H (vs.map some) args) (hN : vs.length ≤ N.length) (hf : fx.length ≤ vs.length) : EnvOk K mg fx vs Hr Hf H (L2.start N vs) (pad N.length args) := by
  have el : vs.length = args.length := by have := E.len; simpa using this
  have st : ∀ i : Nat, i < vs.length → (L2.start N vs)[i]? = (vs.map some)[i]? := fun i hi => by
    unfold L2.start; rw [List.getElem?_append_left (by simpa using hi)]
  have pd : ∀ (i : Nat) (c : Cell), (pad N.length args)[i]? = some c → c = .no ∨ (i < vs.length ∧ args[i]? = some c) := fun i c h => by
    unfold pad at h
    by_cases hi : i < args.length
    · rw [List.getElem?_append_left hi] at h; exact .inr ⟨by omega, h⟩
    · rw [List.getElem?_append_right (by omega), List.getElem?_replicate] at h
      split at h
      · cases h; exact .inl rfl
      · cases h
  have own : ∀ {i : Nat} {a : Addr}, OwnAt (L2.start N vs) (pad N.length args) i a → OwnAt (vs.map some) args i a := fun {i a} ⟨⟨c, h1, h2⟩, h3⟩ => by
    rcases pd i c h1 with rfl | ⟨hi, h⟩
    · cases h2
    · rw [st i hi] at h3; exact ⟨⟨c, h, h2⟩, h3⟩
  refine ⟨?_, E.sub, E.frm, E.dis, fun i c hc => ?_, fun i j a p q => E.inj i j a (own p) (own q), fun i hi => ?_⟩
  · unfold L2.start pad; simp [el]
  · rcases pd i c hc with rfl | ⟨hi, h⟩
    · trivial
    · rw [st i hi]; exact E.cel i c h
  · have hi' : i < fx.length := (List.getElem?_eq_some_iff.mp hi).1
    rw [st i (by omega), List.getElem?_map]
/-- .. and its end -/
theorem EnvOk.leave (E : EnvOk K mg fx vs Hr Hf H σ ρ) (hf : fx.length = vs.length) : EnvOk K mg [] [] Hr Hf H (vs.map some) (outs fx ρ) := by
  have own : ∀ {i : Nat} {a : Addr}, OwnAt (vs.map some) (outs fx ρ) i a → OwnAt σ ρ i a := fun {i a} ⟨⟨c, h1, h2⟩, h3⟩ => by
    rcases outs_get h1 with rfl | ⟨h4, h5⟩
    · cases h2
    · refine ⟨⟨c, h5, h2⟩, ?_⟩
      rw [E.fix i h4, ← List.getElem?_map]; exact h3
  refine ⟨by simp [outs_length, hf], E.sub, E.frm, E.dis, fun i c hc => ?_, fun i j a p q => E.inj i j a (own p) (own q), fun i h => by simp at h⟩
  rcases outs_get hc with rfl | ⟨h4, h5⟩
  · trivial
  · rw [List.getElem?_map, ← E.fix i h4]; exact E.cel i c h5
theorem ROk.leave {r : R} (E : EnvOk K mg fx vs Hr Hf H σ ρ) (h : ROk K mg Hr Hf H σ ρ r v) (hr : ∀ i, r ≠ .at i) : ROk K mg Hr Hf H (vs.map some) (outs fx ρ) r v := by
  cases r with
  | «at» i => exact (hr i rfl).elim
  | dd d => exact h
  | ow c =>
    obtain ⟨a, u, h1, h2, h3, h4, h5, h6⟩ := h
    refine ⟨a, u, h1, h2, h3, h4, h5, fun i ⟨⟨c, q1, q2⟩, q3⟩ => h6 i ?_⟩
    rcases outs_get q1 with rfl | ⟨q4, q5⟩
    · cases q2
    · refine ⟨⟨c, q5, q2⟩, ?_⟩
      rw [E.fix i q4, ← List.getElem?_map]; exact q3
end

section
variable {P : Program} {w : World} {K : PySem.W.Frag} {mg : Str → Option Value} {base : Heap}
/-- a def of the text does what its body's function does -/
theorem fn_ok {x qual : Str} {st : Stmt} {f : Addr} {fd : FuncData} {N ps : List Str} {k : Nat} {fx : List Bool} {m : MS} (F : Fun K x qual st f fd) (S : FnScope N ps (defScope st)) (hf : fx.length = ps.length)
    (hbody : ∀ (cdv : Value) (A : Around) (outer : List PySem.Env) (s : Shared) (H : Hp) (E : XK), Room k (A.deeper (PyProof.Rows.envOfC qual (defScope st) s.heap.objs.size f cdv)) →
      ∃ t, DSs (cxOf (L2.CX P w) P w K mg base N qual (defScope st) f cdv A outer s H E) (fun cls d _ H => E cls d H) fx (defBody st) t m) :
    FnOk P w K mg base (L2.CX P w) (k + 1) f fd ps (spT K mg ps.length (mkF fx N.length m)) := by
  refine F.okX S (fun vs H Q E h => h.1) fun cdv A outer s H vs Q E hr h => ?_
  obtain ⟨hl, Hr, Hf, args, E0, p⟩ := h
  obtain ⟨t, hb⟩ := hbody cdv A outer s H E hr
  have hN : ps.length ≤ N.length := by have := congrArg List.length S.pre; rw [List.length_take] at this; omega
  refine ⟨t, hb.ps, hb.ss vs Hr Hf H _ _ _ (E0.enter (N := N) (by omega) (by omega)) ?_⟩
  unfold mkF at p
  have hfl : fx.length = vs.length := by omega
  show PostS K mg (fun cls d _ H => E cls d H) fx vs Hr Hf (m (pad N.length args)) _
  cases hm : m (pad N.length args) with
  | nx ρ => rw [hm] at p; exact fun σ F H' e E' => p _ F H' e (E'.leave hfl) rfl
  | ret r ρ =>
    rw [hm] at p
    cases r with
    | «at» i => exact p.elim
    | dd d => exact fun v σ F H' e E' q => p v F H' e (E'.leave hfl) (ROk.leave E' q (by intro i z; cases z))
    | ow c => exact fun v σ F H' e E' q => p v F H' e (E'.leave hfl) (ROk.leave E' q (by intro i z; cases z))
  | exc x ρ =>
    rw [hm] at p
    exact fun C h1 σ F H' e E' => p C h1 F H' e (E'.leave hfl)
  | bk ρ => rw [hm] at p; exact p.elim
  | ct ρ => rw [hm] at p; exact p.elim
  | bad => rw [hm] at p; exact p.elim
end

/-! ### calls -/
inductive AM where
  | nm (i : Nat) | ln (i : Nat) | ex (m : ME)
abbrev AC := Cell × Option Nat
def mArgs : List AM → Env → (List AC → Env → ER) → ER
  | [], ρ, k => k [] ρ
  | .nm i :: as, ρ, k => match ρ[i]? with
    | none => .bad
    | some .no => .bad
    | some (.val d) => mArgs as ρ fun cs => k ((.val d, none) :: cs)
    | some c => mArgs as (ρ.set i .no) fun cs => k ((c, some i) :: cs)
  | .ln i :: as, ρ, k => match ρ[i]? with
    | none => .bad
    | some .no => .bad
    | some _ => mArgs as ρ fun cs ρ1 => match ρ1[i]? with
      | none => .bad
      | some .no => .bad
      | some (.val d) => k ((.val d, none) :: cs) ρ1
      | some c => k ((c, some i) :: cs) (ρ1.set i .no)
  | .ex m :: as, ρ, k => match m ρ with
    | .ok r ρ1 => match frz r ρ1 with
      | some (d, ρ2) => mArgs as ρ2 fun cs => k ((.val d, none) :: cs)
      | none => .bad
    | .exc x ρ1 => .exc x ρ1
    | .bad => .bad
def give : List AC → Env → Env → Env
  | (_, some i) :: cs, o :: os, ρ => give cs os (ρ.set i o)
  | (_, none) :: cs, _ :: os, ρ => give cs os ρ
  | _, _, ρ => ρ
def mCall (n : Nat) (F : MF) (as : List AM) : ME := fun ρ => mArgs as ρ fun cs ρ1 => if cs.length = n then match F (cs.map (·.1)) with
  | .ret (.at _) _ => .bad
  | .ret r os => .ok r (give cs os ρ1)
  | .exc x os => .exc x (give cs os ρ1)
  | .bad => .bad
  else .bad

section
variable (K : PySem.W.Frag) (mg : Str → Option Value)
/-- the arguments as they stand: Hr the frame ahead, Hr' with what was handed over -/
def ArgsOk (Hf : Hp) (σ : St) : Hp → Hp → List V → List AC → Prop
  | Hr, Hr', [], [] => Hr' = Hr
  | Hr, Hr', v :: vs, (c, none) :: cs => (∃ d, c = .val d ∧ Rep K mg Hf d v) ∧ ArgsOk Hf σ Hr Hr' vs cs
  | Hr, Hr', v :: vs, (c, some i) :: cs => ∃ a u, v = .ref a ∧ σ[i]? = some (some (.ref a)) ∧ OwnsO K mg Hf c u ∧ Hr a = none ∧ ArgsOk Hf σ (upd Hr a u) Hr' vs cs
  | _, _, _, _ => False
def SA (W : WX) (t : TA) (as : List AM) : Prop := ∀ fx vs0 Hr Hr1 Hf H σ ρ Q (k : List AC → Env → ER) (QE : VK), EnvOk K mg fx vs0 Hr1 Hf H σ ρ → Ext Hr Hr1 → PostE K mg W fx vs0 Hr Hf σ (mArgs as ρ k) QE →
  (∀ vs cs Hr' Hf' H' ρ', Ext Hf Hf' → EnvOk K mg fx vs0 Hr' Hf' H' σ ρ' → ArgsOk K mg Hf' σ Hr1 Hr' vs cs → PostE K mg W fx vs0 Hr Hf' σ (k cs ρ') QE → Q vs H') → t σ H Q
/-- the outs, one by one -/
def OutsOk (Hr Hf H : Hp) : List V → Env → Prop
  | v :: vs, o :: os => CellOk K mg Hr Hf H o (some v) ∧ OutsOk Hr Hf H vs os
  | [], [] => True
  | _, _ => False
end
structure DA (X : Cx) (W : WX) (es : List Expr) (t : TA) (as : List AM) : Prop where
  pa : PA X es t
  sa : SA X.K X.mg W t as

section
variable {K : PySem.W.Frag} {mg : Str → Option Value} {W : WX} {fx : List Bool} {vs0 vs : List V} {Hr Hr1 Hr' Hf Hf' H H' : Hp} {σ : St} {ρ ρ' args os : Env} {v : V} {d : D} {cs : List AC}
theorem ArgsOk.mono (e : Ext Hf Hf') : ∀ {vs : List V} {cs : List AC} {Hr Hr' : Hp}, ArgsOk K mg Hf σ Hr Hr' vs cs → ArgsOk K mg Hf' σ Hr Hr' vs cs
  | [], [], _, _, h => h
  | v :: vs, (c, none) :: cs, _, _, ⟨⟨d, h1, h2⟩, h3⟩ => ⟨⟨d, h1, h2.mono e⟩, ArgsOk.mono e h3⟩
  | v :: vs, (c, some i) :: cs, _, _, ⟨a, u, h1, h2, h3, h4, h5⟩ => ⟨a, u, h1, h2, h3.mono e, h4, ArgsOk.mono e h5⟩
  | [], (_ :: _), _, _, h => h.elim
  | _ :: _, [], _, _, h => h.elim
theorem ArgsOk.ext : ∀ {vs : List V} {cs : List AC} {Hr Hr' : Hp}, ArgsOk K mg Hf σ Hr Hr' vs cs → Ext Hr Hr'
  | [], [], _, _, h => by have h : _ = _ := h; rw [h]; exact Ext.refl _
  | v :: vs, (c, none) :: cs, _, _, ⟨_, h3⟩ => ArgsOk.ext h3
  | v :: vs, (c, some i) :: cs, _, _, ⟨a, u, h1, h2, h3, h4, h5⟩ => (Ext.new h4).trans (ArgsOk.ext h5)
  | [], (_ :: _), _, _, h => h.elim
  | _ :: _, [], _, _, h => h.elim
theorem ArgsOk.len : ∀ {vs : List V} {cs : List AC} {Hr Hr' : Hp}, ArgsOk K mg Hf σ Hr Hr' vs cs → vs.length = cs.length
  | [], [], _, _, h => rfl
  | v :: vs, (c, none) :: cs, _, _, ⟨_, h3⟩ => by simp [ArgsOk.len h3]
  | v :: vs, (c, some i) :: cs, _, _, ⟨a, u, h1, h2, h3, h4, h5⟩ => by simp [ArgsOk.len h5]
  | [], (_ :: _), _, _, h => h.elim
  | _ :: _, [], _, _, h => h.elim
/-- the i-th argument -/
theorem ArgsOk.at_ : ∀ {vs : List V} {cs : List AC} {Hr Hr' : Hp} {i : Nat} {c : Cell}, ArgsOk K mg Hf σ Hr Hr' vs cs → (cs.map (·.1))[i]? = some c →
    ∃ v, vs[i]? = some v ∧ ((∃ d, c = .val d ∧ Rep K mg Hf d v) ∨ ∃ a u, v = .ref a ∧ OwnsO K mg Hf c u ∧ Hr a = none ∧ Hr' a = some u)
  | [], [], _, _, _, _, _, e => by simp at e
  | v :: vs, (c, none) :: cs, _, _, 0, _, ⟨⟨d, h1, h2⟩, h3⟩, e => by simp at e; subst e; exact ⟨v, rfl, .inl ⟨d, h1, h2⟩⟩
  | v :: vs, (c, none) :: cs, _, _, i + 1, _, ⟨_, h3⟩, e => by
    obtain ⟨v', q1, q2⟩ := ArgsOk.at_ (i := i) h3 (by simpa using e)
    exact ⟨v', by simpa using q1, q2⟩
  | v :: vs, (c, some j) :: cs, _, _, 0, _, ⟨a, u, h1, h2, h3, h4, h5⟩, e => by
    simp at e; subst e
    exact ⟨v, rfl, .inr ⟨a, u, h1, h3, h4, h5.ext a u upd_same⟩⟩
  | v :: vs, (c, some j) :: cs, _, _, i + 1, _, ⟨a, u, h1, h2, h3, h4, h5⟩, e => by
    obtain ⟨v', q1, q2⟩ := ArgsOk.at_ (i := i) h5 (by simpa using e)
    refine ⟨v', by simpa using q1, ?_⟩
    rcases q2 with q2 | ⟨b, o, k1, k2, k3, k4⟩
    · exact .inl q2
    · refine .inr ⟨b, o, k1, k2, ?_, k4⟩
      by_cases hb : b = a
      · subst hb; rw [upd_same] at k3; cases k3
      · rw [upd_ne hb] at k3; exact k3
  | [], (_ :: _), _, _, _, _, h, _ => h.elim
  | _ :: _, [], _, _, _, _, h, _ => h.elim
/-- no object is handed over twice -/
theorem ArgsOk.inj : ∀ {vs : List V} {cs : List AC} {Hr Hr' : Hp} {i j : Nat} {c c' : Cell} {a : Addr}, ArgsOk K mg Hf σ Hr Hr' vs cs → (cs.map (·.1))[i]? = some c → (cs.map (·.1))[j]? = some c' → isOwn c = true → isOwn c' = true →
    vs[i]? = some (.ref a) → vs[j]? = some (.ref a) → i = j
  | [], [], _, _, _, _, _, _, _, _, e, _, _, _, _, _ => by simp at e
  | v :: vs, (c, none) :: cs, _, _, 0, _, _, _, _, ⟨⟨d, h1, _⟩, _⟩, e, _, o1, _, _, _ => by simp at e; subst e; rw [h1] at o1; cases o1
  | v :: vs, (c, none) :: cs, _, _, _ + 1, 0, _, _, _, ⟨⟨d, h1, _⟩, _⟩, _, e, _, o2, _, _ => by simp at e; subst e; rw [h1] at o2; cases o2
  | v :: vs, (c, none) :: cs, _, _, i + 1, j + 1, _, _, _, ⟨_, h3⟩, e1, e2, o1, o2, v1, v2 => by
    have := ArgsOk.inj (i := i) (j := j) h3 (by simpa using e1) (by simpa using e2) o1 o2 (by simpa using v1) (by simpa using v2)
    omega
  | v :: vs, (c, some l) :: cs, _, _, 0, 0, _, _, _, _, _, _, _, _, _, _ => rfl
  | v :: vs, (c, some l) :: cs, _, _, 0, j + 1, _, c', a', ⟨a, u, h1, h2, h3, h4, h5⟩, e1, e2, o1, o2, v1, v2 => by
    obtain ⟨w, q1, q2⟩ := ArgsOk.at_ (i := j) h5 (by simpa using e2)
    have v1 : v = .ref a' := by simpa using v1
    have v2 : vs[j]? = some (.ref a') := by simpa using v2
    rw [v2] at q1; cases q1
    rw [h1] at v1; cases v1
    rcases q2 with ⟨d, rfl, _⟩ | ⟨b, o, k1, _, k3, _⟩
    · cases o2
    · cases k1; rw [upd_same] at k3; cases k3
  | v :: vs, (c, some l) :: cs, _, _, i + 1, 0, _, c', a', ⟨a, u, h1, h2, h3, h4, h5⟩, e1, e2, o1, o2, v1, v2 => by
    obtain ⟨w, q1, q2⟩ := ArgsOk.at_ (i := i) h5 (by simpa using e1)
    have v2 : v = .ref a' := by simpa using v2
    have v1 : vs[i]? = some (.ref a') := by simpa using v1
    rw [v1] at q1; cases q1
    rw [h1] at v2; cases v2
    rcases q2 with ⟨d, rfl, _⟩ | ⟨b, o, k1, _, k3, _⟩
    · cases o1
    · cases k1; rw [upd_same] at k3; cases k3
  | v :: vs, (c, some l) :: cs, _, _, i + 1, j + 1, _, _, _, ⟨a, u, h1, h2, h3, h4, h5⟩, e1, e2, o1, o2, v1, v2 => by
    have := ArgsOk.inj (i := i) (j := j) h5 (by simpa using e1) (by simpa using e2) o1 o2 (by simpa using v1) (by simpa using v2)
    omega
  | [], (_ :: _), _, _, _, _, _, _, _, h, _, _, _, _, _, _ => h.elim
  | _ :: _, [], _, _, _, _, _, _, _, h, _, _, _, _, _, _ => h.elim
theorem OutsOk.of : ∀ {vs : List V} {os : Env}, vs.length = os.length → (∀ (i : Nat) (c : Cell) (v : V), os[i]? = some c → vs[i]? = some v → CellOk K mg Hr Hf H c (some v)) → OutsOk K mg Hr Hf H vs os
  | [], [], _, _ => trivial
  | v :: vs, o :: os, l, h => ⟨h 0 o v rfl rfl, OutsOk.of (by simpa using l) fun i c w h1 h2 => h (i + 1) c w (by simpa using h1) (by simpa using h2)⟩
  | [], _ :: _, l, _ => by simp at l
  | _ :: _, [], l, _ => by simp at l
/-- a slot is given back: the slots stay -/
theorem EnvOk.put {i : Nat} {c : Cell} (E : EnvOk K mg fx vs0 Hr Hf H σ ρ) (hs : σ[i]? = some (some v)) (hc : (∃ d, c = .val d ∧ Rep K mg Hf d v) ∨ c = .no ∨ ROk K mg Hr Hf H σ ρ (.ow c) v) : EnvOk K mg fx vs0 Hr Hf H σ (ρ.set i c) := by
  have e := E.nofx.store (i := i) (v := v) (c := c) (by simp) hc
  have z : σ.set i (some v) = σ := by
    obtain ⟨hl, hz⟩ := List.getElem?_eq_some_iff.mp hs
    rw [← hz, List.set_getElem_self]
  rw [z] at e
  exact e.refx E
theorem EnvOk.weak (E : EnvOk K mg fx vs0 Hr' Hf H σ ρ) (e : Ext Hr Hr') : EnvOk K mg fx vs0 Hr Hf H σ ρ :=
  ⟨E.len, E.sub, e.trans E.frm, fun a o h => E.dis a o (e a o h), fun i c hc => (E.cel i c hc).step (Ext.refl _) fun _ a u _ h2 h3 h4 => ⟨h2, h3, e.free h4⟩, E.inj, E.fix⟩
theorem give_ok : ∀ {vs : List V} {cs : List AC} {os : Env} {Hr1 : Hp} {ρ : Env}, ArgsOk K mg Hf' σ Hr1 Hr' vs cs → OutsOk K mg Hr Hf H vs os → EnvOk K mg fx vs0 Hr Hf H σ ρ → (∀ j b, OwnAt σ ρ j b → Hr1 b ≠ none ∨ Hr' b = none) →
    EnvOk K mg fx vs0 Hr Hf H σ (give cs os ρ) ∧ ∀ j b, OwnAt σ (give cs os ρ) j b → OwnAt σ ρ j b ∨ ∃ i, OwnAt (vs.map some) os i b
  | [], [], [], _, _, _, _, E, _ => ⟨E, fun j b h => .inl h⟩
  | v :: vs, (c, none) :: cs, o :: os, _, _, ⟨_, h3⟩, ⟨_, k2⟩, E, f => by
    obtain ⟨q1, q2⟩ := give_ok h3 k2 E f
    refine ⟨q1, fun j b h => ?_⟩
    rcases q2 j b h with z | ⟨i, ⟨c, z1, z2⟩, z3⟩
    · exact .inl z
    · exact .inr ⟨i + 1, ⟨c, by simpa using z1, z2⟩, by simpa using z3⟩
  | v :: vs, (c, some i) :: cs, o :: os, Hr1, ρ, ⟨a, u, h1, h2, h3, h4, h5⟩, ⟨k1, k2⟩, E, f => by
    subst h1
    have hn : ∀ j, ¬ OwnAt σ ρ j a := fun j q => by
      rcases f j a q with z | z
      · exact z h4
      · rw [h5.ext a u upd_same] at z; cases z
    have hc : (∃ d, o = .val d ∧ Rep K mg Hf d (.ref a)) ∨ o = .no ∨ ROk K mg Hr Hf H σ ρ (.ow o) (.ref a) := by
      cases ho : isOwn o with
      | true =>
        obtain ⟨b, x, q1, q2, q3, q4, q5⟩ := k1.own ho
        cases q1
        exact .inr (.inr ⟨a, x, rfl, q2, q3, q4, q5, hn⟩)
      | false =>
        cases o with
        | no => exact .inr (.inl rfl)
        | val d => obtain ⟨v', q1, q2⟩ := k1; cases q1; exact .inl ⟨d, rfl, q2⟩
        | own _ => cases ho
        | ownD _ _ => cases ho
    have E1 := E.put h2 hc
    have back : ∀ {j : Nat} {b : Addr}, OwnAt σ (ρ.set i o) j b → OwnAt σ ρ j b ∨ (b = a ∧ isOwn o = true) := fun {j b} ⟨⟨c', q1, q2⟩, q3⟩ => by
      by_cases hj : i = j
      · subst hj
        have hl : i < ρ.length := by
          by_cases hl : i < ρ.length
          · exact hl
          · rw [List.getElem?_eq_none (by simp; omega)] at q1; cases q1
        rw [List.getElem?_set_self hl] at q1; cases q1
        rw [h2] at q3; cases q3
        exact .inr ⟨rfl, q2⟩
      · rw [List.getElem?_set_ne hj] at q1
        exact .inl ⟨⟨c', q1, q2⟩, q3⟩
    obtain ⟨q1, q2⟩ := give_ok h5 k2 E1 fun j b h => by
      rcases back h with z | ⟨rfl, _⟩
      · rcases f j b z with z | z
        · refine .inl fun k => z ?_
          by_cases hb : b = a
          · subst hb; exact h4
          · rw [upd_ne hb] at k; exact k
        · exact .inr z
      · exact .inl (by rw [upd_same]; simp)
    refine ⟨q1, fun j b h => ?_⟩
    rcases q2 j b h with z | ⟨l, ⟨c, z1, z2⟩, z3⟩
    · rcases back z with z | ⟨rfl, z⟩
      · exact .inl z
      · exact .inr ⟨0, ⟨o, rfl, z⟩, rfl⟩
    · exact .inr ⟨l + 1, ⟨c, by simpa using z1, z2⟩, by simpa using z3⟩
  | [], [], _ :: _, _, _, _, h, _, _ => h.elim
  | _ :: _, _, [], _, _, _, h, _, _ => h.elim
  | [], (_ :: _), _, _, _, h, _, _, _ => h.elim
  | _ :: _, [], _, _, _, h, _, _, _ => h.elim

/-- the frame for the callee: what is not frozen and was not handed over -/
def calleeR (Hr Hr' Hf H : Hp) : Hp := fun b => if ((Hf b).isNone && !((Hr b).isNone && (Hr' b).isSome)) = true then H b else none
theorem calleeR_some {b : Addr} {o : HO} (h : calleeR Hr Hr' Hf H b = some o) : H b = some o ∧ Hf b = none ∧ (Hr b = none → Hr' b = none) := by
  unfold calleeR at h
  split at h
  · rename_i z
    refine ⟨h, ?_⟩
    cases h1 : Hf b <;> cases h2 : Hr b <;> cases h3 : Hr' b <;> simp_all
  · cases h
theorem calleeR_of {b : Addr} {o : HO} (h : H b = some o) (h1 : Hf b = none) (h2 : Hr b = none → Hr' b = none) : calleeR Hr Hr' Hf H b = some o := by
  unfold calleeR
  rw [if_pos]
  · exact h
  · cases q2 : Hr b <;> cases q3 : Hr' b <;> simp_all
theorem call_enter (E : EnvOk K mg fx vs0 Hr' Hf H σ ρ) (a : ArgsOk K mg Hf σ Hr1 Hr' vs cs) : EnvOk K mg [] [] (calleeR Hr1 Hr' Hf H) Hf H (vs.map some) (cs.map (·.1)) := by
  refine ⟨by simp [a.len], E.sub, fun b o h => (calleeR_some h).1, fun b o h => (calleeR_some h).2.1, fun i c hc => ?_, fun i j b p q => ?_, fun i h => by simp at h⟩
  · obtain ⟨v, h1, h2⟩ := a.at_ hc
    rw [List.getElem?_map, h1]
    rcases h2 with ⟨d, rfl, h2⟩ | ⟨b, u, rfl, h2, h3, h4⟩
    · exact ⟨v, rfl, h2⟩
    · refine .ofOwn h2.isOwn ⟨b, u, rfl, E.frm b u h4, h2, E.dis b u h4, ?_⟩
      cases q : calleeR Hr1 Hr' Hf H b with
      | none => rfl
      | some o =>
        have := (calleeR_some q).2.2 h3
        rw [h4] at this; cases this
  · obtain ⟨⟨c, p1, p2⟩, p3⟩ := p
    obtain ⟨⟨c', q1, q2⟩, q3⟩ := q
    exact a.inj p1 q1 p2 q2 (by simpa [List.getElem?_map] using p3) (by simpa [List.getElem?_map] using q3)
theorem call_leave (E : EnvOk K mg fx vs0 Hr' Hf H σ ρ) (a : ArgsOk K mg Hf σ Hr1 Hr' vs cs) (e1 : Ext Hr Hr1) (e2 : Ext Hf Hf') (E2 : EnvOk K mg [] [] (calleeR Hr1 Hr' Hf H) Hf' H' (vs.map some) os) :
    EnvOk K mg fx vs0 Hr1 Hf' H' σ (give cs os ρ) ∧ ∀ r v, ROk K mg (calleeR Hr1 Hr' Hf H) Hf' H' (vs.map some) os r v → (∀ i, r ≠ .at i) → ROk K mg Hr1 Hf' H' σ (give cs os ρ) r v := by
  have inR : ∀ {b : Addr} {o : HO}, Hr1 b = some o → calleeR Hr1 Hr' Hf H b = some o := fun {b o} h =>
    calleeR_of (E.frm b o (a.ext b o h)) (E.dis b o (a.ext b o h)) fun z => by rw [h] at z; cases z
  have owR : ∀ {b : Addr} {u : HO}, H b = some u → Hf b = none → Hr' b = none → calleeR Hr1 Hr' Hf H b = some u := fun h1 h2 h3 => calleeR_of h1 h2 fun _ => h3
  have noR : ∀ {b : Addr}, calleeR Hr1 Hr' Hf H b = none → Hr1 b = none := fun {b} h => by
    cases q : Hr1 b with
    | none => rfl
    | some o => rw [inR q] at h; cases h
  have E1 : EnvOk K mg fx vs0 Hr1 Hf' H' σ ρ := ⟨E.len, E2.sub, fun b o h => E2.frm b o (inR h), fun b o h => E2.dis b o (inR h), fun i c hc => (E.cel i c hc).step e2 fun _ b u _ h2 h3 h4 =>
    ⟨E2.frm b u (owR h2 h3 h4), E2.dis b u (owR h2 h3 h4), a.ext.free h4⟩, E.inj, E.fix⟩
  have O : OutsOk K mg (calleeR Hr1 Hr' Hf H) Hf' H' vs os := .of (by have := E2.len; simpa using this) fun i c v h1 h2 => by
    have := E2.cel i c h1
    rw [List.getElem?_map, h2] at this
    exact this
  have O' : OutsOk K mg Hr1 Hf' H' vs os := .of (by have := E2.len; simpa using this) fun i c v h1 h2 => by
    have := E2.cel i c h1
    rw [List.getElem?_map, h2] at this
    exact this.step (Ext.refl _) fun _ b u _ k1 k2 k3 => ⟨k1, k2, noR k3⟩
  have owns : ∀ {j : Nat} {b : Addr}, OwnAt σ ρ j b → ∃ u, H b = some u ∧ Hf b = none ∧ Hr' b = none := fun {j b} ⟨⟨c, p1, p2⟩, p3⟩ => by
    obtain ⟨x, u, h1, h2, h3, h4, h5⟩ := (E.cel j c p1).own p2
    rw [joinEq, p3] at h1; cases h1
    exact ⟨u, h2, h4, h5⟩
  obtain ⟨g1, g2⟩ := give_ok a O' E1 fun j b h => .inr (owns h).choose_spec.2.2
  refine ⟨g1, fun r v q hr => ?_⟩
  cases r with
  | «at» i => exact (hr i rfl).elim
  | dd d => exact q
  | ow c =>
    obtain ⟨b, u, h1, h2, h3, h4, h5, h6⟩ := q
    refine ⟨b, u, h1, h2, h3, h4, noR h5, fun j z => ?_⟩
    rcases g2 j b z with z | ⟨i, z⟩
    · obtain ⟨o, k1, k2, k3⟩ := owns z
      rw [owR k1 k2 k3] at h5; cases h5
    · exact h6 i z
end
section
variable {X : Cx} {W : WX} {e : Expr} {es : List Expr} {te : TE} {m : ME} {t : TA} {as : List AM}
theorem PostE.weakR {K : PySem.W.Frag} {mg : Str → Option Value} {fx : List Bool} {vs0 : List V} {Hr Hr1 Hf : Hp} {σ : St} {x : Str} {ρ : Env} {Q Q' : VK} (h : PostE K mg W fx vs0 Hr Hf σ (.exc x ρ) Q) (e : Ext Hr Hr1) : PostE K mg W fx vs0 Hr1 Hf σ (.exc x ρ) Q' := by
  exact fun C h1 F H' e' E' => h C h1 F H' e' (E'.weak e)
theorem da_nil : DA X W [] tNil [] := ⟨pa_nil, fun fx vs0 Hr Hr1 Hf H σ ρ Q k QE E e p q => q [] [] Hr1 Hf H ρ (Ext.refl _) E rfl p⟩
/-- an argument by value -/
theorem da_ex (h : DE X W e te m) (k : DA X W es t as) (hs : starEach (e :: es) X.env = (false, eval e X.env) :: starEach es X.env := by rfl) : DA X W (e :: es) (tCons te t) (.ex m :: as) := by
  refine ⟨pa_cons h.pe k.pa hs, fun fx vs0 Hr Hr1 Hf H σ ρ Q kk QE E e p q => ?_⟩
  refine h.se fx vs0 Hr1 Hf H σ ρ _ E ?_
  unfold mArgs at p
  cases hm : m ρ with
  | bad => rw [hm] at p; exact p
  | exc x ρ1 => rw [hm] at p; exact p.weakR e
  | ok r ρ1 =>
    rw [hm] at p
    intro v F H1 e1 E1 q1
    cases hz : frz r ρ1 with
    | none => simp only [hz] at p; exact p.elim
    | some x =>
      obtain ⟨d, ρ2⟩ := x
      simp only [hz] at p
      obtain ⟨F', e', E2, q2⟩ := frz_ok E1 q1 hz
      refine k.sa fx vs0 Hr Hr1 F' H1 σ ρ2 _ _ QE E2 e (PostE.mono p (e1.trans e')) fun vs cs Hr' Hf' H' ρ' e3 E3 a p3 => ?_
      exact q (v :: vs) ((.val d, none) :: cs) Hr' Hf' H' ρ' ((e1.trans e').trans e3) E3 ⟨⟨d, rfl, q2.mono e3⟩, a⟩ p3
/-- an argument that is a name: an owned object is handed over -/
theorem da_nm (i : Nat) (h : DE X W e (tVar i) (mVar i)) (k : DA X W es t as) (hs : starEach (e :: es) X.env = (false, eval e X.env) :: starEach es X.env := by rfl) : DA X W (e :: es) (tCons (tVar i) t) (.nm i :: as) := by
  refine ⟨pa_cons h.pe k.pa hs, fun fx vs0 Hr Hr1 Hf H σ ρ Q kk QE E e p q => ?_⟩
  unfold mArgs at p
  cases hc : ρ[i]? with
  | none => rw [hc] at p; exact p.elim
  | some c =>
    rw [hc] at p
    have own : isOwn c = true → PostE X.K X.mg W fx vs0 Hr Hf σ (mArgs as (ρ.set i .no) fun cs => kk ((c, some i) :: cs)) QE → tCons (tVar i) t σ H Q := fun ho p => by
      obtain ⟨a, u, h1, h2, h3, h4, h5⟩ := (E.cel i c hc).own ho
      have h1 := joinEq.mp h1
      have hi : i < ρ.length := (List.getElem?_eq_some_iff.mp hc).1
      have own' : ∀ {j : Nat} {b : Addr}, OwnAt σ (ρ.set i .no) j b → OwnAt σ ρ j b ∧ b ≠ a := fun {j b} ⟨⟨c', hc', ho'⟩, hs'⟩ => by
        by_cases hj : i = j
        · subst hj; rw [List.getElem?_set_self hi] at hc'; cases hc'; cases ho'
        · rw [List.getElem?_set_ne hj] at hc'
          refine ⟨⟨⟨c', hc', ho'⟩, hs'⟩, fun z => ?_⟩
          subst z
          exact hj (E.inj i j b ⟨⟨c, hc, ho⟩, h1⟩ ⟨⟨c', hc', ho'⟩, hs'⟩)
      have E1 : EnvOk X.K X.mg fx vs0 (upd Hr1 a u) Hf H σ (ρ.set i .no) := by
        refine ⟨by rw [List.length_set]; exact E.len, E.sub, fun b o hb => ?_, fun b o hb => ?_, fun j c' hc' => ?_, fun j k b p q => E.inj j k b (own' p).1 (own' q).1, E.fix⟩
        · by_cases z : b = a
          · subst z; rw [upd_same] at hb; cases hb; exact h2
          · rw [upd_ne z] at hb; exact E.frm b o hb
        · by_cases z : b = a
          · subst z; exact h4
          · rw [upd_ne z] at hb; exact E.dis b o hb
        · by_cases hj : i = j
          · subst hj; rw [List.getElem?_set_self hi] at hc'; cases hc'; trivial
          · have hc2 := hc'
            rw [List.getElem?_set_ne hj] at hc'
            refine (E.cel j c' hc').step (Ext.refl _) fun ho' b o k1 k2 k3 k4 => ⟨k2, k3, ?_⟩
            have : b ≠ a := (own' ⟨⟨c', hc2, ho'⟩, joinEq.mp k1⟩).2
            rw [upd_ne this]; exact k4
      refine ⟨.ref a, h1, k.sa fx vs0 Hr (upd Hr1 a u) Hf H σ _ _ _ QE E1 (e.trans (Ext.new h5)) p fun vs cs Hr' Hf' H' ρ' e3 E3 z p3 => ?_⟩
      exact q (.ref a :: vs) ((c, some i) :: cs) Hr' Hf' H' ρ' e3 E3 ⟨a, u, rfl, h1, h3.mono e3, h5, z⟩ p3
    cases c with
    | no => exact p.elim
    | val d =>
      obtain ⟨v, h1, h2⟩ := E.cel i _ hc
      refine ⟨v, joinEq.mp h1, k.sa fx vs0 Hr Hr1 Hf H σ ρ _ _ QE E e p fun vs cs Hr' Hf' H' ρ' e3 E3 a p3 => ?_⟩
      exact q (v :: vs) ((.val d, none) :: cs) Hr' Hf' H' ρ' e3 E3 ⟨⟨d, rfl, h2.mono e3⟩, a⟩ p3
    | own xs => exact own rfl p
    | ownD ks vs => exact own rfl p
theorem upd_comm {H : Hp} {a b : Addr} {x y : HO} (h : a ≠ b) : upd (upd H a x) b y = upd (upd H b y) a x := by
  funext c; unfold upd
  by_cases h1 : c = a <;> by_cases h2 : c = b <;> simp_all
theorem ArgsOk.shift {K : PySem.W.Frag} {mg : Str → Option Value} {Hf : Hp} {σ : St} {p : Addr} {o : HO} : ∀ {vs : List V} {cs : List AC} {Hr Hr' : Hp}, ArgsOk K mg Hf σ Hr Hr' vs cs → Hr' p = none → ArgsOk K mg Hf σ (upd Hr p o) (upd Hr' p o) vs cs
  | [], [], _, _, h, _ => by have h : _ = _ := h; rw [h]; rfl
  | v :: vs, (c, none) :: cs, _, _, ⟨h1, h3⟩, hp => ⟨h1, ArgsOk.shift h3 hp⟩
  | v :: vs, (c, some i) :: cs, Hr, Hr', ⟨a, u, h1, h2, h3, h4, h5⟩, hp => by
    have hn : a ≠ p := fun z => by
      have := h5.ext a u upd_same
      rw [z, hp] at this; cases this
    refine ⟨a, u, h1, h2, h3, by rw [upd_ne hn]; exact h4, ?_⟩
    rw [upd_comm (Ne.symm hn)]
    exact ArgsOk.shift h5 hp
  | [], (_ :: _), _, _, h, _ => h.elim
  | _ :: _, [], _, _, h, _ => h.elim
theorem EnvOk.handOver {K : PySem.W.Frag} {mg : Str → Option Value} {fx : List Bool} {vs0 : List V} {Hr1 Hf H : Hp} {σ : St} {ρ : Env} {i : Nat} {c : Cell} (E : EnvOk K mg fx vs0 Hr1 Hf H σ ρ) (hc : ρ[i]? = some c) (ho : isOwn c = true) :
    ∃ a u, σ[i]? = some (some (.ref a)) ∧ OwnsO K mg Hf c u ∧ Hr1 a = none ∧ EnvOk K mg fx vs0 (upd Hr1 a u) Hf H σ (ρ.set i .no) := by
  obtain ⟨a, u, h1, h2, h3, h4, h5⟩ := (E.cel i c hc).own ho
  have h1 := joinEq.mp h1
  have hi : i < ρ.length := (List.getElem?_eq_some_iff.mp hc).1
  have own' : ∀ {j : Nat} {b : Addr}, OwnAt σ (ρ.set i .no) j b → OwnAt σ ρ j b ∧ b ≠ a := fun {j b} ⟨⟨c', hc', ho'⟩, hs'⟩ => by
    by_cases hj : i = j
    · subst hj; rw [List.getElem?_set_self hi] at hc'; cases hc'; cases ho'
    · rw [List.getElem?_set_ne hj] at hc'
      refine ⟨⟨⟨c', hc', ho'⟩, hs'⟩, fun z => ?_⟩
      subst z
      exact hj (E.inj i j b ⟨⟨c, hc, ho⟩, h1⟩ ⟨⟨c', hc', ho'⟩, hs'⟩)
  refine ⟨a, u, h1, h3, h5, by rw [List.length_set]; exact E.len, E.sub, fun b o hb => ?_, fun b o hb => ?_, fun j c' hc' => ?_, fun j k b p q => E.inj j k b (own' p).1 (own' q).1, E.fix⟩
  · by_cases z : b = a
    · subst z; rw [upd_same] at hb; cases hb; exact h2
    · rw [upd_ne z] at hb; exact E.frm b o hb
  · by_cases z : b = a
    · subst z; exact h4
    · rw [upd_ne z] at hb; exact E.dis b o hb
  · by_cases hj : i = j
    · subst hj; rw [List.getElem?_set_self hi] at hc'; cases hc'; trivial
    · have hc2 := hc'
      rw [List.getElem?_set_ne hj] at hc'
      refine (E.cel j c' hc').step (Ext.refl _) fun ho' b o k1 k2 k3 k4 => ⟨k2, k3, ?_⟩
      have : b ≠ a := (own' ⟨⟨c', hc2, ho'⟩, joinEq.mp k1⟩).2
      rw [upd_ne this]; exact k4
/-- .. handed over when the arguments behind it are reckoned -/
theorem da_ln {X : Cx} {W : WX} {e : Expr} {es : List Expr} {t : TA} {as : List AM} (i : Nat) (h : DE X W e (tVar i) (mVar i)) (k : DA X W es t as) (hs : starEach (e :: es) X.env = (false, eval e X.env) :: starEach es X.env := by rfl) : DA X W (e :: es) (tCons (tVar i) t) (.ln i :: as) := by
  refine ⟨pa_cons h.pe k.pa hs, fun fx vs0 Hr Hr1 Hf H σ ρ Q kk QE E e p q => ?_⟩
  unfold mArgs at p
  cases hc : ρ[i]? with
  | none => rw [hc] at p; exact p.elim
  | some c =>
    rw [hc] at p
    have go : (c = .no → False) → PostE X.K X.mg W fx vs0 Hr Hf σ (mArgs as ρ fun cs ρ1 => match ρ1[i]? with
      | none => .bad
      | some .no => .bad
      | some (.val d) => kk ((.val d, none) :: cs) ρ1
      | some c => kk ((c, some i) :: cs) (ρ1.set i .no)) QE → tCons (tVar i) t σ H Q := fun hn p => by
      obtain ⟨v, hv⟩ := (E.cel i c hc).some hn
      have hv := joinEq.mp hv
      refine ⟨v, hv, k.sa fx vs0 Hr Hr1 Hf H σ ρ _ _ QE E e p fun vs cs Hr' Hf' H' ρ' e3 E3 a p3 => ?_⟩
      cases hc3 : ρ'[i]? with
      | none => simp only [hc3] at p3; exact p3.elim
      | some c3 =>
        simp only [hc3] at p3
        have own : isOwn c3 = true → PostE X.K X.mg W fx vs0 Hr Hf' σ (kk ((c3, some i) :: cs) (ρ'.set i .no)) QE → Q (v :: vs) H' := fun ho p3 => by
          obtain ⟨b, u, h1, h2, h3, E4⟩ := E3.handOver hc3 ho
          rw [hv] at h1; cases h1
          exact q (.ref b :: vs) ((c3, some i) :: cs) (upd Hr' b u) Hf' H' _ e3 E4 ⟨b, u, rfl, hv, h2, a.ext.free h3, a.shift h3⟩ p3
        cases c3 with
        | no => exact p3.elim
        | val d =>
          obtain ⟨v', h1, h2⟩ := E3.cel i _ hc3
          rw [joinEq, hv] at h1; cases h1
          exact q (v :: vs) ((.val d, none) :: cs) Hr' Hf' H' ρ' e3 E3 ⟨⟨d, rfl, h2⟩, a⟩ p3
        | own xs => exact own rfl p3
        | ownD ks vs => exact own rfl p3
    cases c with
    | no => exact p.elim
    | val d => exact go (by intro z; cases z) p
    | own xs => exact go (by intro z; cases z) p
    | ownD ks vs => exact go (by intro z; cases z) p
/-- what a call asks, from what F says -/
theorem se_call {K : PySem.W.Frag} {mg : Str → Option Value} {F : MF} {n : Nat} (ha : SA K mg W t as) : SE K mg W (tCallS (spT K mg n F) (WE W) t) (mCall n F as) := by
  intro fx vs0 Hr Hf H σ ρ Q E p
  refine ha fx vs0 Hr Hr Hf H σ ρ _ _ Q E (Ext.refl _) p fun vs cs Hr' Hf' H' ρ' e1 E1 a p1 => ?_
  by_cases hl : cs.length = n
  · rw [if_pos hl] at p1
    refine ⟨by rw [a.len]; exact hl, calleeR Hr Hr' Hf' H', Hf', cs.map (·.1), call_enter E1 a, ?_⟩
    cases hF : F (cs.map (·.1)) with
    | bad => rw [hF] at p1; exact p1
    | exc x os =>
      rw [hF] at p1
      exact fun C h1 F2 H2 e2 E2 => p1 C h1 F2 H2 e2 (call_leave E1 a (Ext.refl _) e2 E2).1
    | ret r os =>
      rw [hF] at p1
      cases r with
      | «at» i => exact p1.elim
      | dd d => exact fun v F2 H2 e2 E2 q => p1 v F2 H2 e2 (call_leave E1 a (Ext.refl _) e2 E2).1 ((call_leave E1 a (Ext.refl _) e2 E2).2 _ v q (by intro i z; cases z))
      | ow c => exact fun v F2 H2 e2 E2 q => p1 v F2 H2 e2 (call_leave E1 a (Ext.refl _) e2 E2).1 ((call_leave E1 a (Ext.refl _) e2 E2).2 _ v q (by intro i z; cases z))
  · rw [if_neg hl] at p1; exact p1.elim
/-- f(e, ..) -/
theorem de_call {k : Nat} {f : Addr} {fd : FuncData} {ps : List Str} {F : MF} {x : Str} {p pos : Pos} (hF : FnOk X.prog X.w X.K X.mg X.base (L2.CX X.prog X.w) k f fd ps (spT X.K X.mg ps.length F)) (hr : Room k X.A) (hm : X.mg x = some (.ref f))
    (hk : PySem.W.keepIn X.K (.ref f) = true) (hb : Binds X.K fd ps []) (tk : Takes X W) (ha : DA X W (e :: es) t as) (hg : Gl X x := by rfl) (hdb : (x == ("__debug__" : Str)) = false := by decide)
    (he : starEach (e :: es) X.env = (false, eval e X.env) :: starEach es X.env := by rfl) (hpl : (backTo pos (starEach es X.env)).any (·.1) = false := by rfl) :
    DE X W (.Call (.Name x p) (e :: es) [] pos) (tCallS (spT X.K X.mg ps.length F) (WE W) t) (mCall ps.length F as) :=
  ⟨pe_callS hF hr hg hm hk hb (passAt tk) ha.pa hdb he hpl, se_call ha.sa⟩
end
/-! ### what is walked -/
inductive LR where
  | ok (ds : List D) (ρ : Env) | exc (x : Str) (ρ : Env) | bad
abbrev MI := Env → LR
theorem RepL.getV {K : PySem.W.Frag} {mg : Str → Option Value} {H : Hp} : ∀ {ds : List D} {vs : List V} {i : Nat} {v : V}, RepL K mg H ds vs → vs[i]? = some v → ∃ d, ds[i]? = some d ∧ Rep K mg H d v
  | [], _, _, _, h, e => by have h : _ = [] := h; rw [h] at e; simp at e
  | d :: ds, _, 0, _, ⟨v, ws, h1, h2, _⟩, e => by rw [h1] at e; simp at e; subst e; exact ⟨d, rfl, h2⟩
  | d :: ds, _, i + 1, x, ⟨v, ws, h1, _, h3⟩, e => by
    rw [h1] at e
    obtain ⟨u, q1, q2⟩ := RepL.getV (i := i) (v := x) h3 (by simpa using e)
    exact ⟨u, by simpa using q1, q2⟩
section
variable (K : PySem.W.Frag) (mg : Str → Option Value)
/-- the iterator gives the items ds -/
structure Yields (Hf : Hp) (J : It) (ds : List D) : Prop where
  go : ∀ H, Ext Hf H → ∀ i, i < ds.length → J.go i H
  stop : ∀ H, Ext Hf H → J.stop ds.length H
  yld : ∀ H, Ext Hf H → ∀ i x H', i < ds.length → J.yld i H x H' → ∃ d, ds[i]? = some d ∧ ((H' = H ∧ Rep K mg Hf d x) ∨ ∃ p vs es, H p = none ∧ H' = upd H p (.tup vs) ∧ x = .ref p ∧ d = .tup es ∧ RepL K mg Hf es vs)
def PostI (W : WX) (fx : List Bool) (vs0 : List V) (Hr Hf : Hp) (σ : St) (r : LR) (R : It → Hp → Prop) : Prop :=
  match r with
  | .ok ds ρ => ∀ J Hf' H', Ext Hf Hf' → EnvOk K mg fx vs0 Hr Hf' H' σ ρ → Yields K mg Hf' J ds → R J H'
  | .exc x ρ => ∀ C, mg x = some (.ref C) → ∀ Hf' H', Ext Hf Hf' → EnvOk K mg fx vs0 Hr Hf' H' σ ρ → W (.ref C) none σ H'
  | .bad => False
def SI (W : WX) (t : TI) (m : MI) : Prop := ∀ fx vs0 Hr Hf H σ ρ R, EnvOk K mg fx vs0 Hr Hf H σ ρ → PostI K mg W fx vs0 Hr Hf σ (m ρ) R → t σ H R
end
structure DI (X : Cx) (W : WX) (tg e : Expr) (t : TI) (m : MI) : Prop where
  pi : PI X tg e t
  si : SI X.K X.mg W t m
/-- a list or a tuple -/
def iSeq (K : PySem.W.Frag) (tl : TE) : TI := fun σ H R => tl σ H fun x H1 => ∃ a, x = .ref a ∧ ((∃ xs, SqL K H1 a xs ∧ R (Itl K a) H1) ∨ ∃ xs, SqT K H1 a xs ∧ R (Itt K a) H1)
theorem pi_seq {X : Cx} {tg l : Expr} {tl : TE} (hl : PE X l tl) : PI X tg l (iSeq X.K tl) := by
  refine ⟨fun pins s σ H R I h => ?_⟩
  refine thn (hl.run pins s σ H _ I h) fun v s1 ⟨x, H1, I1, r1, q1⟩ => ?_
  obtain ⟨a, e, q⟩ := q1
  subst e
  cases r1
  rcases q with ⟨xs, hq, q⟩ | ⟨xs, hq, q⟩
  · obtain ⟨its, rv, p, hz⟩ := I1.list hq
    refine wpAny_pyIter_list p.isList ?_
    refine ⟨s1.heap.objs.size, [s1.heap.objs.size], _, _, H1, rfl, I1.kept (t' := s1.toks) fun b o e => Heap.get?_push_of_some _ e, turn_list a _, ⟨_, Heap.get?_push_size _ rfl, rfl, rfl⟩, fun b hb => ?_, q⟩
    have e : b = s1.heap.objs.size := by simpa using hb
    subst e
    exact I1.fpOk (Nat.le_refl _) (I1.hok.fresh (Nat.le_refl _))
  · obtain ⟨its, rv, p, hz⟩ := I1.tuple hq
    refine wpAny_pyIter_tuple (show s1.heap.IsTuple a its.toArray from p) ?_
    refine ⟨s1.heap.objs.size, [s1.heap.objs.size], _, _, H1, rfl, I1.kept (t' := s1.toks) fun b o e => Heap.get?_push_of_some _ e, turn_tuple a _, ⟨_, Heap.get?_push_size _ rfl, rfl, rfl⟩, fun b hb => ?_, q⟩
    have e : b = s1.heap.objs.size := by simpa using hb
    subst e
    exact I1.fpOk (Nat.le_refl _) (I1.hok.fresh (Nat.le_refl _))
def D.items : D → Option (List D)
  | .lst xs => some xs
  | .fls xs => some xs
  | .tup xs => some xs
  | _ => none
def miSeq (m : ME) : MI := fun ρ => match m ρ with
  | .ok r ρ1 => match frz r ρ1 with
    | some (d, ρ2) => match d.items with
      | some ds => .ok ds ρ2
      | none => .bad
    | none => .bad
  | .exc x ρ1 => .exc x ρ1
  | .bad => .bad
theorem yields_l {K : PySem.W.Frag} {mg : Str → Option Value} {Hf : Hp} {a : Addr} {vs : List V} {ds : List D} (h : SqL K Hf a vs) (r : RepL K mg Hf ds vs) : Yields K mg Hf (Itl K a) ds := by
  refine ⟨fun H e i hi => ⟨vs, vs[i]'(by rw [r.length]; exact hi), e.sql h, by simp [r.length, hi]⟩, fun H e => ⟨vs, e.sql h, by rw [r.length]; exact Nat.le_refl _⟩, fun H e i x H' hi y => ?_⟩
  obtain ⟨e1, y⟩ := y
  have hx := y vs (e.sql h)
  obtain ⟨d, h1, h2⟩ := r.getV hx
  exact ⟨d, h1, .inl ⟨e1, h2⟩⟩
theorem yields_t {K : PySem.W.Frag} {mg : Str → Option Value} {Hf : Hp} {a : Addr} {vs : List V} {ds : List D} (h : SqT K Hf a vs) (r : RepL K mg Hf ds vs) : Yields K mg Hf (Itt K a) ds := by
  refine ⟨fun H e i hi => ⟨vs, vs[i]'(by rw [r.length]; exact hi), e.sqt h, by simp [r.length, hi]⟩, fun H e => ⟨vs, e.sqt h, by rw [r.length]; exact Nat.le_refl _⟩, fun H e i x H' hi y => ?_⟩
  obtain ⟨e1, y⟩ := y
  have hx := y vs (e.sqt h)
  obtain ⟨d, h1, h2⟩ := r.getV hx
  exact ⟨d, h1, .inl ⟨e1, h2⟩⟩
theorem yields_r {K : PySem.W.Frag} {mg : Str → Option Value} {Hf : Hp} {lo : Int} {n : Nat} : Yields K mg Hf (Itr lo n) ((List.range n).map fun (k : Nat) => .int (lo + k)) := by
  refine ⟨fun H e i hi => by show i < n; simpa using hi, fun H e => by simp [Itr], fun H e i x H' hi y => ?_⟩
  obtain ⟨e1, y⟩ := y
  refine ⟨.int (lo + i), ?_, .inl ⟨e1, by rw [y]; rfl⟩⟩
  simp at hi
  simp [hi]
section
variable {X : Cx} {W : WX} {tg e a b : Expr} {te ta tb : TE} {m ma mb : ME} {p pos : Pos}
theorem di_seq (h : DE X W e te m) : DI X W tg e (iSeq X.K te) (miSeq m) := by
  refine ⟨pi_seq h.pe, fun fx vs0 Hr Hf H σ ρ R E q => h.se fx vs0 Hr Hf H σ ρ _ E ?_⟩
  unfold miSeq at q
  cases hm : m ρ with
  | bad => rw [hm] at q; exact q
  | exc x ρ1 => rw [hm] at q; exact q
  | ok r ρ1 =>
    rw [hm] at q
    intro v F H1 e1 E1 q1
    cases hz : frz r ρ1 with
    | none => simp only [hz] at q; exact q.elim
    | some x =>
      obtain ⟨d, ρ2⟩ := x
      simp only [hz] at q
      obtain ⟨F', e', E2, q2⟩ := frz_ok E1 q1 hz
      cases d with
      | lst ds =>
        obtain ⟨a, vs, rfl, k1, k2⟩ := q2
        refine ⟨a, rfl, .inl ⟨vs, .of (E2.sub a _ k1), q _ F' H1 (e1.trans e') E2 (yields_l (.of k1) k2)⟩⟩
      | fls ds =>
        obtain ⟨a, vs, rfl, k1, k2⟩ := q2
        refine ⟨a, rfl, .inl ⟨vs, E2.sub.sql k1, q _ F' H1 (e1.trans e') E2 (yields_l k1 k2)⟩⟩
      | tup ds =>
        obtain ⟨a, vs, rfl, k1, k2⟩ := q2
        exact ⟨a, rfl, .inr ⟨vs, E2.sub.sqt k1, q _ F' H1 (e1.trans e') E2 (yields_t k1 k2)⟩⟩
      | _ => exact q.elim
/-- range(n) -/
def miRange (m : ME) : MI := fun ρ => match m ρ with
  | .ok r ρ1 => match use r.fix ρ1 with
    | some (.int j) => if j.natAbs < 2 ^ 62 then .ok ((List.range j.toNat).map fun (k : Nat) => .int k) ρ1 else .bad
    | _ => .bad
  | .exc x ρ1 => .exc x ρ1
  | .bad => .bad
theorem di_range (h : DE X W a ta m) (hm : X.mg "range" = none) (hg : Gl X "range" := by rfl) (hs : starEach [a] X.env = [(false, eval a X.env)] := by rfl) (hs2 : starEach (a :: []) X.env = (false, eval a X.env) :: starEach [] X.env := by rfl) :
    DI X W tg (.Call (.Name "range" p) [a] [] pos) (iRng1 (tCons ta tNil)) (miRange m) := by
  refine ⟨pi_range1 hg hm (pa_cons h.pe pa_nil hs2) hs, fun fx vs0 Hr Hf H σ ρ R E q => h.se fx vs0 Hr Hf H σ ρ _ E ?_⟩
  unfold miRange at q
  cases hm : m ρ with
  | bad => rw [hm] at q; exact q
  | exc x ρ1 => rw [hm] at q; exact q
  | ok r ρ1 =>
    rw [hm] at q
    intro v F H1 e1 E1 q1
    obtain ⟨F', e', E2, q2⟩ := q1.fixed E1
    cases hu : use r.fix ρ1 with
    | none => simp only [hu] at q; exact q.elim
    | some d =>
      have u := use_ok E2 q2 hu
      simp only [hu] at q
      cases d with
      | int j =>
        by_cases hj : j.natAbs < 2 ^ 62
        · simp only [if_pos hj] at q
          cases (show v = .int j from u)
          have y := yields_r (K := X.K) (mg := X.mg) (Hf := F') (lo := 0) (n := j.toNat)
          simp only [Int.zero_add] at y
          exact ⟨j, rfl, by omega, by omega, q _ F' H1 (e1.trans e') E2 y⟩
        · simp only [if_neg hj] at q; exact q.elim
      | _ => exact q.elim
/-- range(lo, hi) -/
def miRange2 (ma mb : ME) : MI := fun ρ => match ma ρ with
  | .ok r ρ1 => match use r.fix ρ1 with
    | some (.int i) => match mb ρ1 with
      | .ok r2 ρ2 => match use r2.fix ρ2 with
        | some (.int j) => if i.natAbs < 2 ^ 62 ∧ j.natAbs < 2 ^ 62 then .ok ((List.range (j - i).toNat).map fun (k : Nat) => .int (i + k)) ρ2 else .bad
        | _ => .bad
      | .exc x ρ2 => .exc x ρ2
      | .bad => .bad
    | _ => .bad
  | .exc x ρ1 => .exc x ρ1
  | .bad => .bad
theorem di_range2 (ha : DE X W a ta ma) (hb : DE X W b tb mb) (hm : X.mg "range" = none) (hg : Gl X "range" := by rfl) (hs : starEach [a, b] X.env = [(false, eval a X.env), (false, eval b X.env)] := by rfl) (hs2 : starEach [b] X.env = [(false, eval b X.env)] := by rfl)
    (hs3 : starEach (a :: [b]) X.env = (false, eval a X.env) :: starEach [b] X.env := by rfl) (hs4 : starEach (b :: []) X.env = (false, eval b X.env) :: starEach [] X.env := by rfl) :
    DI X W tg (.Call (.Name "range" p) [a, b] [] pos) (iRng2 (tCons ta (tCons tb tNil))) (miRange2 ma mb) := by
  refine ⟨pi_range2 hg hm (pa_cons ha.pe (pa_cons hb.pe pa_nil hs4) hs3) hs hs2, fun fx vs0 Hr Hf H σ ρ R E q => ha.se fx vs0 Hr Hf H σ ρ _ E ?_⟩
  unfold miRange2 at q
  cases hm : ma ρ with
  | bad => rw [hm] at q; exact q
  | exc x ρ1 => rw [hm] at q; exact q
  | ok r ρ1 =>
    rw [hm] at q
    intro v F H1 e1 E1 q1
    obtain ⟨F', e', E2, q2⟩ := q1.fixed E1
    cases hu : use r.fix ρ1 with
    | none => simp only [hu] at q; exact q.elim
    | some d =>
      have u := use_ok E2 q2 hu
      simp only [hu] at q
      cases d with
      | int i =>
        cases (show v = .int i from u)
        refine hb.se fx vs0 Hr F' H1 σ ρ1 _ E2 ?_
        simp only at q
        cases hm2 : mb ρ1 with
        | bad => rw [hm2] at q; exact q
        | exc x ρ2 =>
          rw [hm2] at q
          exact fun C z1 F2 H2 e2 E2 => q C z1 F2 H2 ((e1.trans e').trans e2) E2
        | ok r2 ρ2 =>
          rw [hm2] at q
          intro v2 F2 H2 e2 E3 q3
          obtain ⟨F3, e3, E4, q4⟩ := q3.fixed E3
          cases hu2 : use r2.fix ρ2 with
          | none => simp only [hu2] at q; exact q.elim
          | some d2 =>
            have u2 := use_ok E4 q4 hu2
            simp only [hu2] at q
            cases d2 with
            | int j =>
              by_cases hj : i.natAbs < 2 ^ 62 ∧ j.natAbs < 2 ^ 62
              · simp only [if_pos hj] at q
                cases (show v2 = .int j from u2)
                exact ⟨i, j, rfl, ⟨by omega, by omega, by omega, by omega⟩, q _ F3 H2 (((e1.trans e').trans e2).trans e3) E4 yields_r⟩
              · simp only [if_neg hj] at q; exact q.elim
            | _ => exact q.elim
      | _ => exact q.elim
end
/-! ### targets -/
abbrev MG := D → Env → Option Env
def SG (K : PySem.W.Frag) (mg : Str → Option Value) (fx : List Bool) (g : TG) (f : MG) : Prop := ∀ vs0 Hr Hf H σ ρ d v ρ' Q, EnvOk K mg fx vs0 Hr Hf H σ ρ → Rep K mg Hf d v → f d ρ = some ρ' →
  (∀ σ', EnvOk K mg fx vs0 Hr Hf H σ' ρ' → Q σ' H) → g v σ H Q
/-- .. of a comprehension, whose own slots are vsl -/
def SGC (K : PySem.W.Frag) (mg : Str → Option Value) (vsl : List Nat) (g : TG) (f : MG) : Prop := ∀ Hr Hf H σ ρ d v ρ' Q, EnvOk K mg [] [] Hr Hf H σ ρ → Rep K mg Hf d v → f d ρ = some ρ' →
  (∀ σ', EnvOk K mg [] [] Hr Hf H σ' ρ' → wipe σ' vsl = wipe σ vsl → Q σ' H) → g v σ H Q
structure DG (X : Cx) (fx : List Bool) (tg : Expr) (g : TG) (f : MG) : Prop where
  pg : PG X tg g
  sg : SG X.K X.mg fx g f
def mgName (i : Nat) : MG := fun d ρ => some (ρ.set i (.val d))
theorem sg_name {K : PySem.W.Frag} {mg : Str → Option Value} {fx : List Bool} {i : Nat} (hi : fx[i]? ≠ some true) : SG K mg fx (gName i) (mgName i) := by
  intro vs0 Hr Hf H σ ρ d v ρ' Q E r e q
  cases e
  exact q _ (E.store hi (.inl ⟨d, rfl, r⟩))
theorem sgc_name {K : PySem.W.Frag} {mg : Str → Option Value} {i : Nat} : SGC K mg [i] (gName i) (mgName i) := by
  intro Hr Hf H σ ρ d v ρ' Q E r e q
  cases e
  refine q _ (E.store (by simp) (.inl ⟨d, rfl, r⟩)) ?_
  simp [wipe]
def setAll : Env → List Nat → List D → Env
  | ρ, i :: is, d :: ds => setAll (ρ.set i (.val d)) is ds
  | ρ, _, _ => ρ
def mgTup (is : List Nat) : MG := fun d ρ => match d with
  | .tup ds => if ds.length = is.length then some (setAll ρ is ds) else none
  | _ => none
def gNames : List Nat → TGs
  | [] => gNil
  | i :: is => gCons (gName i) (gNames is)
theorem sg_names {K : PySem.W.Frag} {mg : Str → Option Value} {fx : List Bool} {vs0 : List V} {Hr Hf H : Hp} : ∀ {is : List Nat} {ds : List D} {vs : List V} {σ : St} {ρ : Env} {Q : St → Hp → Prop}, (∀ i ∈ is, fx[i]? ≠ some true) → ds.length = is.length →
    EnvOk K mg fx vs0 Hr Hf H σ ρ → RepL K mg Hf ds vs → (∀ σ', EnvOk K mg fx vs0 Hr Hf H σ' (setAll ρ is ds) → Q σ' H) → gNames is vs σ H Q
  | [], [], vs, σ, ρ, Q, _, _, E, r, q => by
    have r : vs = [] := r
    subst r
    exact ⟨rfl, q σ E⟩
  | i :: is, d :: ds, _, σ, ρ, Q, hi, hl, E, ⟨v, ws, h1, h2, h3⟩, q => by
    subst h1
    refine ⟨v, ws, rfl, ?_⟩
    refine sg_names (is := is) (ds := ds) (fun j hj => hi j (List.mem_cons_of_mem _ hj)) (by simpa using hl) (E.store (hi i List.mem_cons_self) (.inl ⟨d, rfl, h2⟩)) h3 fun σ' E' => q σ' E'
  | [], _ :: _, _, _, _, _, _, h, _, _, _ => by simp at h
  | _ :: _, [], _, _, _, _, _, h, _, _, _ => by simp at h
theorem sg_tup {K : PySem.W.Frag} {mg : Str → Option Value} {fx : List Bool} {is : List Nat} {n : Nat} (hn : n = is.length) (hi : ∀ i ∈ is, fx[i]? ≠ some true) : SG K mg fx (gTup K n (gNames is)) (mgTup is) := by
  intro vs0 Hr Hf H σ ρ d v ρ' Q E r e q
  cases d with
  | tup ds =>
    unfold mgTup at e
    by_cases hl : ds.length = is.length
    · simp only [if_pos hl, Option.some.injEq] at e
      subst e
      obtain ⟨a, vs, rfl, h2, h3⟩ := r
      exact ⟨a, vs, rfl, E.sub.sqt h2, by rw [h3.length, hl, hn], sg_names hi hl E h3 q⟩
    · simp only [if_neg hl] at e; cases e
  | _ => cases e
section
variable {X : Cx} {fx : List Bool} {pos : Pos}
theorem dg_name (i : Nat) {x : Str} (hN : X.N.Nodup) (hi : X.N[i]? = some x := by rfl) (hx : Loc X.env.scope x := by first | exact Or.inl rfl | exact Or.inr rfl)
    (hf : X.fn x = true ∨ X.env.scope.names.lookup x = some .local := by first | exact .inl rfl | exact .inr rfl) (hfx : fx[i]? ≠ some true := by decide) : DG X fx (.Name x pos) (gName i) (mgName i) := ⟨pg_name hN hi hx hf, sg_name hfx⟩
theorem dg_tup {es : List Expr} {k : Nat} {is : List Nat} (hc : X.calm = true) (h : PGs X es (gNames is)) (hi : ∀ i ∈ is, fx[i]? ≠ some true) (hn : (assignEach es X.env).length = is.length := by rfl) (hst : (assignEach es X.env).findIdx? (·.1) = none := by rfl) :
    DG X fx (.Tuple es k pos) (gTup X.K is.length (gNames is)) (mgTup is) := ⟨pg_tup hc h hn hst, sg_tup rfl hi⟩
end

/-! ### for -/
def mLoop (f : MG) (mb : MS) : List D → MS
  | [], ρ => .nx ρ
  | d :: ds, ρ => match f d ρ with
    | none => .bad
    | some ρ1 => match mb ρ1 with
      | .nx ρ2 => mLoop f mb ds ρ2
      | .ct ρ2 => mLoop f mb ds ρ2
      | .bk ρ2 => .nx ρ2
      | r => r
def mFor (mi : MI) (f : MG) (mb : MS) : MS := fun ρ => match mi ρ with
  | .ok ds ρ1 => mLoop f mb ds ρ1
  | .exc x ρ1 => .exc x ρ1
  | .bad => .bad
section
variable {K : PySem.W.Frag} {mg : Str → Option Value} {W : WX} {fx : List Bool}
theorem Yields.mono {Hf Hf' : Hp} {J : It} {ds : List D} (y : Yields K mg Hf J ds) (e : Ext Hf Hf') : Yields K mg Hf' J ds :=
  ⟨fun H e' => y.go H (e.trans e'), fun H e' => y.stop H (e.trans e'), fun H e' i x H' hi h => by
    obtain ⟨d, h1, h2⟩ := y.yld H (e.trans e') i x H' hi h
    refine ⟨d, h1, ?_⟩
    rcases h2 with ⟨h2, h3⟩ | ⟨p, vs, es, h2, h3, h4, h5, h6⟩
    · exact .inl ⟨h2, h3.mono e⟩
    · exact .inr ⟨p, vs, es, h2, h3, h4, h5, h6.mono e⟩⟩
theorem SS.loop {wi : TI} {g : TG} {tb : TS} {mi : MI} {f : MG} {mb : MS} (hi : SI K mg W wi mi) (hg : SG K mg fx g f) (hb : SS K mg W fx tb mb) : SS K mg W fx (tFor wi g tb) (mFor mi f mb) := by
  intro vs0 Hr Hf H σ ρ D E p
  refine hi fx vs0 Hr Hf H σ ρ _ E ?_
  unfold mFor at p
  cases hm : mi ρ with
  | bad => rw [hm] at p; exact p
  | exc x ρ1 => rw [hm] at p; exact fun C h1 F H' e E' => p C h1 σ F H' e E'
  | ok ds ρ1 =>
    rw [hm] at p
    intro J F1 H1 e1 E1 y
    have P : PostS K mg W fx vs0 Hr F1 (mLoop f mb ds ρ1) D := PostS.mono p e1
    let Pv : Nat → St → Hp → Prop := fun i σ H => ∃ F ρ, Ext F1 F ∧ EnvOk K mg fx vs0 Hr F H σ ρ ∧ PostS K mg W fx vs0 Hr F (mLoop f mb (ds.drop i) ρ) D
    refine ⟨fun i m σ H => m = ds.length - i ∧ i ≤ ds.length ∧ Pv i σ H, ⟨ds.length, by simp, Nat.zero_le _, F1, ρ1, Ext.refl _, E1, P⟩, ?_⟩
    rintro i m σ2 H2 ⟨rfl, hi, F, ρ2, e2, E2, P2⟩
    by_cases hlt : i < ds.length
    · refine .inr ⟨y.go H2 (e2.trans E2.sub) i hlt, Pv (i + 1), fun σ' H' p' => ⟨ds.length - (i + 1), by omega, rfl, hlt, p'⟩, fun x H' hy => ?_⟩
      obtain ⟨d, h1, h2⟩ := y.yld H2 (e2.trans E2.sub) i x H' hlt hy
      have hd : ds.drop i = d :: ds.drop (i + 1) := by
        rw [List.drop_eq_getElem_cons hlt]
        obtain ⟨_, h1⟩ := List.getElem?_eq_some_iff.mp h1
        rw [h1]
      rw [hd] at P2
      unfold mLoop at P2
      -- the item is laid
      have go : ∀ F3, Ext F F3 → EnvOk K mg fx vs0 Hr F3 H' σ2 ρ2 → Rep K mg F3 d x → g x σ2 H' fun σ2 H2 => tb { D with nx := Pv (i + 1), ct := Pv (i + 1), bk := D.nx } σ2 H2 := fun F3 e3 E3 r3 => by
        cases hf : f d ρ2 with
        | none => simp only [hf] at P2; exact P2.elim
        | some ρ3 =>
          simp only [hf] at P2
          refine hg vs0 Hr F3 H' σ2 ρ2 d x ρ3 _ E3 r3 hf fun σ' E4 => ?_
          refine hb vs0 Hr F3 H' σ' ρ3 _ E4 ?_
          cases hz : mb ρ3 with
          | nx ρ4 => simp only [hz] at P2; exact fun σ5 F5 H5 e5 E5 => ⟨F5, ρ4, e2.trans (e3.trans e5), E5, PostS.mono P2 (e3.trans e5)⟩
          | ct ρ4 => simp only [hz] at P2; exact fun σ5 F5 H5 e5 E5 => ⟨F5, ρ4, e2.trans (e3.trans e5), E5, PostS.mono P2 (e3.trans e5)⟩
          | bk ρ4 => simp only [hz] at P2; exact fun σ5 F5 H5 e5 E5 => P2 σ5 F5 H5 (e3.trans e5) E5
          | ret r ρ4 => simp only [hz] at P2; exact fun v σ5 F5 H5 e5 E5 => P2 v σ5 F5 H5 (e3.trans e5) E5
          | exc x ρ4 => simp only [hz] at P2; exact fun C z1 σ5 F5 H5 e5 E5 => P2 C z1 σ5 F5 H5 (e3.trans e5) E5
          | bad => simp only [hz] at P2; exact P2.elim
      rcases h2 with ⟨rfl, h2⟩ | ⟨q, vs, es, h2, rfl, rfl, rfl, h6⟩
      · exact go F (Ext.refl _) E2 (h2.mono e2)
      · refine go (upd F q (.tup vs)) (Ext.new (E2.freshF h2)) (E2.newF h2) ⟨q, vs, rfl, .of upd_same, (h6.mono e2).mono (Ext.new (E2.freshF h2))⟩
    · have e : i = ds.length := by omega
      subst e
      rw [List.drop_length] at P2
      exact .inl ⟨y.stop H2 (e2.trans E2.sub), P2 σ2 F H2 (Ext.refl _) E2⟩
end
theorem ds_for {X : Cx} {W : WX} {fx : List Bool} {tg iter : Expr} {body : List Stmt} {wi : TI} {g : TG} {tb : TS} {mi : MI} {f : MG} {mb : MS} {pos : Pos} (hp : PassesOwn (model X.prog X.w) X.A X.env X.xe) (hc : X.calm = true) (hi : DI X W tg iter wi mi)
    (hg : DG X fx tg g f) (hb : DSs X W fx body tb mb) (hs : ∀ x, foldedSetIterable iter X.env x = pure x := by intro _; rfl) : DS X W fx (.For tg iter body [] pos) (tFor wi g tb) (mFor mi f mb) :=
  ⟨ps_for hp hc hi.pi hg.pg hb.ps hs, SS.loop hi.si hg.sg hb.ss⟩

/-! ### while -/
def mWhile (c : MT) (mb : MS) : Nat → MS
  | 0, _ => .bad
  | n + 1, ρ => match c ρ with
    | .ok true ρ1 => match mb ρ1 with
      | .nx ρ2 => mWhile c mb n ρ2
      | .ct ρ2 => mWhile c mb n ρ2
      | .bk ρ2 => .nx ρ2
      | r => r
    | .ok false ρ1 => .nx ρ1
    | .exc x ρ1 => .exc x ρ1
    | .bad => .bad
theorem SS.whl {K : PySem.W.Frag} {mg : Str → Option Value} {W : WX} {fx : List Bool} {tc : TT} {tb : TS} {mc : MT} {mb : MS} (n : Nat) (hc : ST K mg W tc mc) (hb : SS K mg W fx tb mb) : SS K mg W fx (tWhile tc tb) (mWhile mc mb n) := by
  intro vs0 Hr Hf H σ ρ D E p
  refine ⟨fun m σ H => ∃ F ρ, EnvOk K mg fx vs0 Hr F H σ ρ ∧ Ext Hf F ∧ PostS K mg W fx vs0 Hr F (mWhile mc mb m ρ) D, ⟨n, Hf, ρ, E, Ext.refl _, p⟩, ?_⟩
  rintro m σ1 H1 ⟨F, ρ1, E1, e1, P⟩
  cases m with
  | zero => exact P.elim
  | succ m =>
    unfold mWhile at P
    refine hc fx vs0 Hr F H1 σ1 ρ1 _ E1 ?_
    cases hm : mc ρ1 with
    | bad => simp only [hm] at P; exact P
    | exc x ρ2 => simp only [hm] at P; exact fun C h1 F H' e E' => P C h1 σ1 F H' e E'
    | ok b ρ2 =>
      intro F2 H2 e2 E2
      cases b with
      | false => simp only [hm] at P; exact P σ1 F2 H2 e2 E2
      | true =>
        simp only [hm] at P
        refine ⟨fun σ H => ∃ F ρ, EnvOk K mg fx vs0 Hr F H σ ρ ∧ Ext Hf F ∧ PostS K mg W fx vs0 Hr F (mWhile mc mb m ρ) D, fun σ' H' q => ⟨m, Nat.lt_succ_self _, q⟩, ?_⟩
        refine hb vs0 Hr F2 H2 σ1 ρ2 _ E2 ?_
        cases hz : mb ρ2 with
        | nx ρ4 => simp only [hz] at P; exact fun σ5 F5 H5 e5 E5 => ⟨F5, ρ4, E5, e1.trans (e2.trans e5), PostS.mono P (e2.trans e5)⟩
        | ct ρ4 => simp only [hz] at P; exact fun σ5 F5 H5 e5 E5 => ⟨F5, ρ4, E5, e1.trans (e2.trans e5), PostS.mono P (e2.trans e5)⟩
        | bk ρ4 => simp only [hz] at P; exact fun σ5 F5 H5 e5 E5 => P σ5 F5 H5 (e2.trans e5) E5
        | ret r ρ4 => simp only [hz] at P; exact fun v σ5 F5 H5 e5 E5 => P v σ5 F5 H5 (e2.trans e5) E5
        | exc x ρ4 => simp only [hz] at P; exact fun C z1 σ5 F5 H5 e5 E5 => P C z1 σ5 F5 H5 (e2.trans e5) E5
        | bad => simp only [hz] at P; exact P.elim
theorem ds_while {X : Cx} {W : WX} {fx : List Bool} {c : Expr} {body : List Stmt} {tc : TT} {tb : TS} {mc : MT} {mb : MS} {pos : Pos} (n : Nat) (hp : PassesOwn (model X.prog X.w) X.A X.env X.xe) (hc : DT X W c tc mc) (hb : DSs X W fx body tb mb) :
    DS X W fx (.While c body [] pos) (tWhile tc tb) (mWhile mc mb n) := ⟨ps_while hp hc.pt hb.ps, SS.whl n hc.st hb.ss⟩

/-! ### comprehensions -/
def wipeE (ρ : Env) : List Nat → Env
  | [] => ρ
  | v :: vs => (wipeE ρ vs).set v .no
/-- behind: the own slots as they were -/
def backE (ρ0 : Env) (ρ : Env) : List Nat → Env
  | [] => ρ
  | v :: vs => match ρ0[v]? with
    | some c => (backE ρ0 ρ vs).set v c
    | none => backE ρ0 ρ vs
def noneOwn (ρ : Env) (vsl : List Nat) : Bool := vsl.all fun v => match ρ[v]? with
  | some c => !isOwn c
  | none => true
def mLcLoop (vsl : List Nat) (f : MG) (mt : MT) (me : ME) : List D → List D → Env → LR
  | [], acc, ρ => .ok acc ρ
  | d :: ds, acc, ρ => match f d ρ with
    | none => .bad
    | some ρ1 => match mt ρ1 with
      | .ok true ρ2 => match me ρ2 with
        | .ok r ρ3 => match frz r ρ3 with
          | some (y, ρ4) => if acc.length < sizeLine then mLcLoop vsl f mt me ds (acc ++ [y]) (wipeE ρ4 vsl) else .bad
          | none => .bad
        | _ => .bad
      | .ok false ρ2 => mLcLoop vsl f mt me ds acc (wipeE ρ2 vsl)
      | _ => .bad
def mLc (vsl : List Nat) (mi : MI) (f : MG) (mt : MT) (me : ME) : ME := fun ρ => match mi ρ with
  | .ok ds ρ1 => if noneOwn ρ1 vsl = true then match mLcLoop vsl f mt me ds [] (wipeE ρ1 vsl) with
      | .ok ys ρ2 => .ok (.ow (.own ys)) (backE ρ1 ρ2 vsl)
      | _ => .bad
    else .bad
  | .exc x ρ1 => .exc x ρ1
  | .bad => .bad
abbrev W0 : WX := fun _ _ _ _ => False
theorem wipe_len (σ : St) : ∀ vs : List Nat, (wipe σ vs).length = σ.length
  | [] => rfl
  | v :: vs => by unfold wipe; rw [List.length_set, wipe_len σ vs]
theorem wipe_wipe1 (σ : St) : ∀ (vs : List Nat) (v : Nat), (wipe (σ.set v none) vs) = (wipe σ vs).set v none
  | [], v => rfl
  | u :: vs, v => by
    unfold wipe
    rw [wipe_wipe1 σ vs v]
    by_cases h : u = v
    · subst h; rfl
    · rw [List.set_comm _ _ (Ne.symm h)]
theorem wipe_wipe (σ : St) : ∀ (vs : List Nat), wipe (wipe σ vs) vs = wipe σ vs
  | [] => rfl
  | v :: vs => by
    show (wipe ((wipe σ vs).set v none) vs).set v none = (wipe σ vs).set v none
    rw [wipe_wipe1, wipe_wipe σ vs, List.set_set]
theorem wipeE_len (ρ : Env) : ∀ vs : List Nat, (wipeE ρ vs).length = ρ.length
  | [] => rfl
  | v :: vs => by unfold wipeE; rw [List.length_set, wipeE_len ρ vs]
theorem wipe_at {σ : St} {i : Nat} : ∀ {vs : List Nat}, i ∉ vs → (wipe σ vs)[i]? = σ[i]?
  | [], _ => rfl
  | v :: vs, h => by
    unfold wipe
    rw [List.getElem?_set_ne (fun z => h (by rw [z]; exact List.mem_cons_self)), wipe_at fun z => h (List.mem_cons_of_mem _ z)]
theorem wipeE_at {ρ : Env} {i : Nat} : ∀ {vs : List Nat}, i ∉ vs → (wipeE ρ vs)[i]? = ρ[i]?
  | [], _ => rfl
  | v :: vs, h => by
    unfold wipeE
    rw [List.getElem?_set_ne (fun z => h (by rw [z]; exact List.mem_cons_self)), wipeE_at fun z => h (List.mem_cons_of_mem _ z)]
theorem wipeE_in {ρ : Env} {i : Nat} {c : Cell} : ∀ {vs : List Nat}, i ∈ vs → (wipeE ρ vs)[i]? = some c → c = .no
  | v :: vs, h, e => by
    unfold wipeE at e
    by_cases hv : v = i
    · subst hv
      by_cases hl : v < (wipeE ρ vs).length
      · rw [List.getElem?_set_self hl] at e; cases e; rfl
      · rw [List.getElem?_eq_none (by simp; omega)] at e; cases e
    · rw [List.getElem?_set_ne hv] at e
      refine wipeE_in (vs := vs) ?_ e
      rcases List.mem_cons.mp h with z | z
      · exact (hv z.symm).elim
      · exact z
theorem backE_len (ρ0 ρ : Env) : ∀ vs : List Nat, (backE ρ0 ρ vs).length = ρ.length
  | [] => rfl
  | v :: vs => by
    unfold backE
    cases ρ0[v]? with
    | none => exact backE_len ρ0 ρ vs
    | some c => simp only [List.length_set]; exact backE_len ρ0 ρ vs
theorem backE_at {ρ0 ρ : Env} {i : Nat} : ∀ {vs : List Nat}, i ∉ vs → (backE ρ0 ρ vs)[i]? = ρ[i]?
  | [], _ => rfl
  | v :: vs, h => by
    unfold backE
    have ih := backE_at (ρ0 := ρ0) (ρ := ρ) (vs := vs) fun z => h (List.mem_cons_of_mem _ z)
    cases ρ0[v]? with
    | none => exact ih
    | some c =>
      simp only
      rw [List.getElem?_set_ne (fun z => h (by rw [z]; exact List.mem_cons_self)), ih]
theorem backE_in {ρ0 ρ : Env} {i : Nat} {c : Cell} : ∀ {vs : List Nat}, i ∈ vs → ρ0.length = ρ.length → (backE ρ0 ρ vs)[i]? = some c → ρ0[i]? = some c
  | v :: vs, h, l, e => by
    unfold backE at e
    by_cases hv : v = i
    · subst hv
      cases h0 : ρ0[v]? with
      | none =>
        rw [h0] at e
        have : ρ0.length ≤ v := List.getElem?_eq_none_iff.mp h0
        simp only at e
        rw [List.getElem?_eq_none (by rw [backE_len]; omega)] at e; cases e
      | some c' =>
        rw [h0] at e
        simp only at e
        have hl : v < ρ0.length := (List.getElem?_eq_some_iff.mp h0).1
        rw [List.getElem?_set_self (by rw [backE_len]; omega)] at e
        exact e
    · have hm : i ∈ vs := by
        rcases List.mem_cons.mp h with z | z
        · exact (hv z.symm).elim
        · exact z
      cases h0 : ρ0[v]? with
      | none => rw [h0] at e; exact backE_in hm l e
      | some c' =>
        rw [h0] at e
        simp only at e
        rw [List.getElem?_set_ne hv] at e
        exact backE_in hm l e
section
variable {K : PySem.W.Frag} {mg : Str → Option Value} {Hr Hf Hf' H H' : Hp} {σ σ' : St} {ρ ρ' : Env} {vsl : List Nat} {fx : List Bool} {vs0 : List V}
theorem EnvOk.wiped (E : EnvOk K mg fx vs0 Hr Hf H σ ρ) (hn : wipe σ vsl = wipe σ' vsl) : EnvOk K mg [] [] Hr Hf H (wipe σ' vsl) (wipeE ρ vsl) := by
  have own : ∀ {i : Nat} {a : Addr}, OwnAt (wipe σ' vsl) (wipeE ρ vsl) i a → OwnAt σ ρ i a ∧ i ∉ vsl := fun {i a} ⟨⟨c, h1, h2⟩, h3⟩ => by
    have hi : i ∉ vsl := fun hi => by rw [wipeE_in hi h1] at h2; cases h2
    rw [wipeE_at hi] at h1
    rw [← hn, wipe_at hi] at h3
    exact ⟨⟨⟨c, h1, h2⟩, h3⟩, hi⟩
  refine ⟨?_, E.sub, E.frm, E.dis, fun i c hc => ?_, fun i j a p q => E.inj i j a (own p).1 (own q).1, fun i h => by simp at h⟩
  · rw [wipeE_len, ← hn, wipe_len]; exact E.len
  · by_cases hi : i ∈ vsl
    · rw [wipeE_in hi hc]; trivial
    · rw [wipeE_at hi] at hc
      rw [← hn, wipe_at hi]
      exact E.cel i c hc
/-- behind the comprehension -/
theorem EnvOk.back {ρ2 : Env} (E : EnvOk K mg fx vs0 Hr Hf H σ ρ) (hn : noneOwn ρ vsl = true) (E2 : EnvOk K mg [] [] Hr Hf' H' (wipe σ vsl) ρ2) (e : Ext Hf Hf') : EnvOk K mg fx vs0 Hr Hf' H' σ (backE ρ ρ2 vsl) := by
  have l2 : ρ2.length = σ.length := by rw [← E2.len, wipe_len]
  have l : ρ.length = ρ2.length := by rw [l2, E.len]
  have nown : ∀ {i : Nat} {c : Cell}, i ∈ vsl → ρ[i]? = some c → isOwn c = false := fun {i c} hi hc => by
    have := List.all_eq_true.mp hn i hi
    rw [hc] at this
    simpa using this
  have own : ∀ {i : Nat} {a : Addr}, OwnAt σ (backE ρ ρ2 vsl) i a → OwnAt (wipe σ vsl) ρ2 i a := fun {i a} ⟨⟨c, h1, h2⟩, h3⟩ => by
    by_cases hi : i ∈ vsl
    · have := nown hi (backE_in hi l h1)
      rw [h2] at this; cases this
    · rw [backE_at hi] at h1
      exact ⟨⟨c, h1, h2⟩, by rw [wipe_at hi]; exact h3⟩
  refine ⟨by rw [backE_len, l2], E2.sub, E2.frm, E2.dis, fun i c hc => ?_, fun i j a p q => E2.inj i j a (own p) (own q), E.fix⟩
  by_cases hi : i ∈ vsl
  · have hc := backE_in hi l hc
    have z := nown hi hc
    exact (E.cel i c hc).step e fun ho => by rw [z] at ho; cases ho
  · rw [backE_at hi] at hc
    have := E2.cel i c hc
    rw [wipe_at hi] at this
    exact this
theorem SE.lc {W : WX} {wi : TI} {g : TG} {tt : TT} {te : TE} {mi : MI} {f : MG} {mt : MT} {me : ME} (hi : SI K mg W wi mi) (hg : SGC K mg vsl g f) (ht : ST K mg W0 tt mt) (he : SE K mg W0 te me) : SE K mg W (tLc wi g tt te vsl) (mLc vsl mi f mt me) := by
  intro fx vs0 Hr Hf H σ ρ Q E p
  refine hi fx vs0 Hr Hf H σ ρ _ E ?_
  unfold mLc at p
  cases hm : mi ρ with
  | bad => rw [hm] at p; exact p
  | exc x ρ1 => rw [hm] at p; exact p
  | ok ds ρ1 =>
    rw [hm] at p
    intro J F1 H1 e1 E1 y Dl hD
    by_cases hno : noneOwn ρ1 vsl = true
    · simp only [if_pos hno] at p
      cases hl : mLcLoop vsl f mt me ds [] (wipeE ρ1 vsl) with
      | bad => simp only [hl] at p; exact p.elim
      | exc x ρ2 => simp only [hl] at p; exact p.elim
      | ok ys ρ2 =>
        simp only [hl] at p
        -- the new list is kept out of the frame
        have E0 : EnvOk K mg [] [] Hr F1 (upd H1 Dl (.lst [])) (wipe σ vsl) (wipeE ρ1 vsl) := (E1.newO hD).wiped rfl
        let Pv : Nat → Hp → Prop := fun i H => ∃ F ρ acc vs, Ext F1 F ∧ EnvOk K mg [] [] Hr F H (wipe σ vsl) ρ ∧ H Dl = some (.lst vs) ∧ RepL K mg F acc vs ∧ F Dl = none ∧ Hr Dl = none ∧ (∀ j, ¬ OwnAt (wipe σ vsl) ρ j Dl) ∧ mLcLoop vsl f mt me (ds.drop i) acc ρ = .ok ys ρ2
        refine ⟨fun i m H => m = ds.length - i ∧ i ≤ ds.length ∧ Pv i H, ⟨ds.length, by simp, Nat.zero_le _, F1, wipeE ρ1 vsl, [], [], Ext.refl _, E0, upd_same, rfl, E1.freshF hD, E1.freshR hD, fun j q => ?_, hl⟩, ?_⟩
        · obtain ⟨⟨c, q1, q2⟩, q3⟩ := q
          have hj : j ∉ vsl := fun hj => by rw [wipeE_in hj q1] at q2; cases q2
          rw [wipeE_at hj] at q1
          rw [wipe_at hj] at q3
          exact E1.freshO hD j ⟨⟨c, q1, q2⟩, q3⟩
        · rintro i m H2 ⟨rfl, hi, F, ρ3, acc, vs, e2, E2, hDl, hacc, fD, rD, oD, P2⟩
          by_cases hlt : i < ds.length
          · refine .inr ⟨y.go H2 (e2.trans E2.sub) i hlt, Pv (i + 1), fun H' p' => ⟨ds.length - (i + 1), by omega, rfl, hlt, p'⟩, fun x H' hy => ?_⟩
            obtain ⟨d, h1, h2⟩ := y.yld H2 (e2.trans E2.sub) i x H' hlt hy
            have hd : ds.drop i = d :: ds.drop (i + 1) := by
              rw [List.drop_eq_getElem_cons hlt]
              obtain ⟨_, h1⟩ := List.getElem?_eq_some_iff.mp h1
              rw [h1]
            rw [hd] at P2
            unfold mLcLoop at P2
            -- the list under construction is put into the frame for the turn
            have go : ∀ F3, Ext F F3 → F3 Dl = none → EnvOk K mg [] [] Hr F3 H' (wipe σ vsl) ρ3 → H' Dl = some (.lst vs) → Rep K mg F3 d x → g x (wipe σ vsl) H' fun σ2 H2 => wipe σ2 vsl = wipe σ vsl ∧ tt σ2 H2 fun b H3 =>
                if b = true then te σ2 H3 fun y H4 => ∃ acc, H4 Dl = some (.lst acc) ∧ acc.length < sizeLine ∧ Pv (i + 1) (upd H4 Dl (.lst (acc ++ [y]))) else Pv (i + 1) H3 := fun F3 e3 f3 E3 d3 r3 => by
              cases hf : f d ρ3 with
              | none => simp only [hf] at P2; cases P2
              | some ρ4 =>
                simp only [hf] at P2
                have E3' : EnvOk K mg [] [] (upd Hr Dl (.lst vs)) F3 H' (wipe σ vsl) ρ3 := by
                  refine ⟨E3.len, E3.sub, fun b o hb => ?_, fun b o hb => ?_, fun j c hc => (E3.cel j c hc).step (Ext.refl _) fun ho b o k1 k2 k3 k4 => ⟨k2, k3, ?_⟩, E3.inj, fun i h => by simp at h⟩
                  · by_cases z : b = Dl
                    · subst z; rw [upd_same] at hb; cases hb; exact d3
                    · rw [upd_ne z] at hb; exact E3.frm b o hb
                  · by_cases z : b = Dl
                    · subst z; exact f3
                    · rw [upd_ne z] at hb; exact E3.dis b o hb
                  · have : b ≠ Dl := fun z => oD j ⟨⟨c, hc, ho⟩, by rw [← z]; exact joinEq.mp k1⟩
                    rw [upd_ne this]; exact k4
                refine hg _ F3 H' _ ρ3 d x ρ4 _ E3' r3 hf fun σ4 E4 hw => ?_
                have hw' : wipe σ4 vsl = wipe σ vsl := by
                  rw [hw]
                  have : ∀ l : List Nat, ∀ s : St, wipe (wipe s vsl) l = wipe (wipe s vsl) l := fun _ _ => rfl
                  exact wipe_wipe σ vsl
                refine ⟨hw', ?_⟩
                refine ht [] [] _ F3 H' σ4 ρ4 _ E4 ?_
                -- what the turn's end gives
                have fin : ∀ {F5 H5 : Hp} {ρ5 : Env} {acc' : List D} {vs' : List V}, Ext F3 F5 → EnvOk K mg [] [] (upd Hr Dl (.lst vs)) F5 H5 σ4 ρ5 → RepL K mg F5 acc' vs' → mLcLoop vsl f mt me (ds.drop (i + 1)) acc' (wipeE ρ5 vsl) = .ok ys ρ2 →
                    Pv (i + 1) (upd H5 Dl (.lst vs')) := fun {F5 H5 ρ5 acc' vs'} e5 E5 r5 l5 => by
                  have h5 : H5 Dl = some (.lst vs) := E5.frm Dl _ upd_same
                  have f5 : F5 Dl = none := E5.dis Dl _ upd_same
                  have o5 : ∀ {j : Nat} {b : Addr}, OwnAt σ4 ρ5 j b → b ≠ Dl := fun {j b} ⟨⟨c, q1, q2⟩, q3⟩ z => by
                    subst z
                    obtain ⟨a, u, k1, k2, k3, k4, k5⟩ := (E5.cel j c q1).own q2
                    rw [joinEq, q3] at k1; cases k1
                    rw [upd_same] at k5; cases k5
                  have E6 : EnvOk K mg [] [] Hr F5 (upd H5 Dl (.lst vs')) σ4 ρ5 := by
                    refine ⟨E5.len, fun b o hb => ?_, fun b o hb => ?_, fun b o hb => ?_, fun j c hc => (E5.cel j c hc).step (Ext.refl _) fun ho b o k1 k2 k3 k4 => ?_, E5.inj, fun i h => by simp at h⟩
                    · have : b ≠ Dl := ne_of_none hb f5
                      rw [upd_ne this]; exact E5.sub b o hb
                    · have : b ≠ Dl := ne_of_none hb rD
                      rw [upd_ne this]; exact E5.frm b o (by rw [upd_ne this]; exact hb)
                    · have : b ≠ Dl := ne_of_none hb rD
                      exact E5.dis b o (by rw [upd_ne this]; exact hb)
                    · have : b ≠ Dl := o5 ⟨⟨c, hc, ho⟩, joinEq.mp k1⟩
                      rw [upd_ne this] at k4 ⊢
                      exact ⟨k2, k3, k4⟩
                  refine ⟨F5, wipeE ρ5 vsl, acc', vs', e2.trans (e3.trans e5), E6.wiped hw', upd_same, r5, f5, rD, fun j q => ?_, l5⟩
                  obtain ⟨⟨c, q1, q2⟩, q3⟩ := q
                  have hj : j ∉ vsl := fun hj => by rw [wipeE_in hj q1] at q2; cases q2
                  rw [wipeE_at hj] at q1
                  rw [← hw', wipe_at hj] at q3
                  exact o5 ⟨⟨c, q1, q2⟩, q3⟩ rfl
                cases hz : mt ρ4 with
                | bad => simp only [hz] at P2; cases P2
                | exc x ρ5 => simp only [hz] at P2; cases P2
                | ok b ρ5 =>
                  intro F5 H5 e5 E5
                  cases b with
                  | false =>
                    simp only [hz] at P2
                    have q := fin e5 E5 (hacc.mono (e3.trans e5)) P2
                    have h5 : H5 Dl = some (.lst vs) := E5.frm Dl _ upd_same
                    have : upd H5 Dl (.lst vs) = H5 := by
                      funext b; unfold upd
                      by_cases z : b = Dl
                      · subst z; rw [if_pos rfl, h5]
                      · rw [if_neg z]
                    rw [this] at q
                    exact q
                  | true =>
                    simp only [hz] at P2
                    show te σ4 H5 _
                    refine he [] [] _ F5 H5 σ4 ρ5 _ E5 ?_
                    cases hq : me ρ5 with
                    | bad => simp only [hq] at P2; cases P2
                    | exc x ρ6 => simp only [hq] at P2; cases P2
                    | ok r ρ6 =>
                      simp only [hq] at P2
                      intro v F6 H6 e6 E6 q6
                      cases hy2 : frz r ρ6 with
                      | none => simp only [hy2] at P2; cases P2
                      | some z =>
                        obtain ⟨y2, ρ7⟩ := z
                        simp only [hy2] at P2
                        obtain ⟨F7, e7, E7, r7⟩ := frz_ok E6 q6 hy2
                        by_cases hsz : acc.length < sizeLine
                        · simp only [if_pos hsz] at P2
                          refine ⟨vs, E7.frm Dl _ upd_same, by rw [hacc.length]; exact hsz, ?_⟩
                          exact fin ((e5.trans e6).trans e7) E7 ((hacc.mono (((e3.trans e5).trans e6).trans e7)).append (.cons r7 .nil)) P2
                        · simp only [if_neg hsz] at P2; cases P2
            rcases h2 with ⟨rfl, h2⟩ | ⟨q, ws, es, h2, rfl, rfl, rfl, h6⟩
            · exact go F (Ext.refl _) fD E2 hDl (h2.mono e2)
            · have nq : Dl ≠ q := ne_of_none hDl h2
              refine go (upd F q (.tup ws)) (Ext.new (E2.freshF h2)) (by rw [upd_ne nq]; exact fD) (E2.newF h2) (by rw [upd_ne nq]; exact hDl) ⟨q, ws, rfl, .of upd_same, (h6.mono e2).mono (Ext.new (E2.freshF h2))⟩
          · have e : i = ds.length := by omega
            subst e
            rw [List.drop_length] at P2
            simp only [mLcLoop, LR.ok.injEq] at P2
            obtain ⟨rfl, rfl⟩ := P2
            refine .inl ⟨y.stop H2 (e2.trans E2.sub), p (.ref Dl) F H2 (e1.trans e2) (E1.back hno E2 e2) ⟨Dl, _, rfl, hDl, ⟨vs, rfl, hacc⟩, fD, rD, fun j q => ?_⟩⟩
            obtain ⟨⟨c, q1, q2⟩, q3⟩ := q
            have l : ρ1.length = ρ3.length := by rw [← E1.len, ← E2.len, wipe_len]
            by_cases hj : j ∈ vsl
            · have q1 := backE_in hj l q1
              have := List.all_eq_true.mp hno j hj
              rw [q1] at this
              simp [q2] at this
            · rw [backE_at hj] at q1
              exact oD j ⟨⟨c, q1, q2⟩, by rw [wipe_at hj]; exact q3⟩
    · simp only [if_neg hno] at p; exact p.elim
end
section
variable {X : Cx} {W : WX} {fx : List Bool} {elt tg iter : Expr} {ifs : List Expr} {scope : Scope} {own : List (Str × Nat)} {pos : Pos} {wi : TI} {g : TG} {tt : TT} {te : TE} {mi : MI} {f : MG} {mt : MT} {me : ME}
/-- the tests of a comprehension -/
structure DTs (X : Cx) (W : WX) (ifs : List Expr) (t : TT) (m : MT) : Prop where
  pts : PTs X ifs t
  st : ST X.K X.mg W t m
def mYes : MT := fun ρ => .ok true ρ
theorem dts_nil : DTs X W [] tYes mYes := ⟨pts_nil, fun fx vs0 Hr Hf H σ ρ Q E p => p Hf H (Ext.refl _) E⟩
theorem dts_one {c : Expr} (h : DT X W c tt mt) : DTs X W [c] tt mt := ⟨pts_one h.pt, h.st⟩
theorem de_lc (hc : X.calm = true) (hN : X.N.Nodup) (hi : DI X W tg iter wi mi) (ok : BlkOk X.N X.env.scope scope own)
    (hg : ∀ (s : Shared) (H : Hp) (C : Addr) (cl : List (Str × Addr)) (fp : List Addr), PG (X.blk s H scope (compEnvC scope cl C X.env) fp) tg g) (sg : SGC X.K X.mg (own.map (·.2)) g f)
    (ht : ∀ (s : Shared) (H : Hp) (C : Addr) (cl : List (Str × Addr)) (fp : List Addr), DTs (X.blk s H scope (compEnvC scope cl C X.env) fp) W0 ifs tt mt)
    (he : ∀ (s : Shared) (H : Hp) (C : Addr) (cl : List (Str × Addr)) (fp : List Addr), DE (X.blk s H scope (compEnvC scope cl C X.env) fp) W0 elt te me) (hs : ∀ x, foldedSetIterable iter X.env x = pure x := by intro _; rfl) :
    DE X W (.ListComp elt [⟨tg, iter, ifs, 0⟩] scope pos) (tLc wi g tt te (own.map (·.2))) (mLc (own.map (·.2)) mi f mt me) :=
  ⟨pe_lc hc hN hi.pi ok hg (fun s H C cl fp => (ht s H C cl fp).pts) (fun s H C cl fp => (he s H C cl fp).pe) hs,
    SE.lc hi.si sg (ht X.s_0 X.H_0 0 [] []).st (he X.s_0 X.H_0 0 [] []).se⟩
/-- name = [..] -/
theorem ds_setLc (i : Nat) {y : Str} {py spos : Pos} (hc : X.calm = true) (hN : X.N.Nodup) (hi : DI X W tg iter wi mi) (ok : BlkOk X.N X.env.scope scope own)
    (hg : ∀ (s : Shared) (H : Hp) (C : Addr) (cl : List (Str × Addr)) (fp : List Addr), PG (X.blk s H scope (compEnvC scope cl C X.env) fp) tg g) (sg : SGC X.K X.mg (own.map (·.2)) g f)
    (ht : ∀ (s : Shared) (H : Hp) (C : Addr) (cl : List (Str × Addr)) (fp : List Addr), DTs (X.blk s H scope (compEnvC scope cl C X.env) fp) W0 ifs tt mt)
    (he : ∀ (s : Shared) (H : Hp) (C : Addr) (cl : List (Str × Addr)) (fp : List Addr), DE (X.blk s H scope (compEnvC scope cl C X.env) fp) W0 elt te me)
    (hsw : swapsWith (.ListComp elt [⟨tg, iter, ifs, 0⟩] scope pos) (some (.Name y py)) spos.line X.env = pure true) (hy : X.N[i]? = some y := by rfl) (hyl : X.env.scope.names.lookup y = some .local := by rfl) (hfx : fx[i]? ≠ some true := by decide)
    (hs : ∀ x, foldedSetIterable iter X.env x = pure x := by intro _; rfl) :
    DS X W fx (.Assign [.Name y py] (.ListComp elt [⟨tg, iter, ifs, 0⟩] scope pos) spos) (tAsg (tLc wi g tt te (own.map (·.2))) (gName i)) (mAsg i (mLc (own.map (·.2)) mi f mt me)) :=
  ⟨ps_setLc hc hN hy hyl hsw hi.pi ok hg (fun s H C cl fp => (ht s H C cl fp).pts) (fun s H C cl fp => (he s H C cl fp).pe) hs,
    (SE.lc hi.si sg (ht X.s_0 X.H_0 0 [] []).st (he X.s_0 X.H_0 0 [] []).se).asg hfx⟩
end

/-! ### raise -/
section
variable {X : Cx} {W : WX} {fx : List Bool} {e : Expr} {te : TE} {m : ME}
def mRaise (x : Str) (m : ME) : MS := fun ρ => match m ρ with
  | .ok _ ρ1 => .exc x ρ1
  | .exc y ρ1 => .exc y ρ1
  | .bad => .bad
theorem ds_raise {C : Addr} {bmB : List Value} {B newId initId : String} {x : Str} {p pos pos' : Pos} (hc : X.calm = true) (tk : Takes X W) (F : ExcBaseFacts B newId initId bmB) (q : PySem.W.excIn X.K C bmB newId = true) (gC : X.mg x = some (.ref C))
    (kC : PySem.W.keepIn X.K (.ref C) = true) (r : Raises X (.ref C)) (h : DE X W e te m) (hg : Gl X x := by rfl) (hs : starEach [e] X.env = (false, eval e X.env) :: starEach [] X.env := by rfl) (hdb : (x == ("__debug__" : Str)) = false := by decide) :
    DS X W fx (.Raise (some (.Call (.Name x p) [e] [] pos)) none pos') (fun _ σ H => te σ H fun _ H1 => W (.ref C) none σ H1) (mRaise x m) := by
  refine ⟨ps_raise hc tk (SkE.pmk_own1 F q gC kC r hg h.pe hs hdb), fun vs0 Hr Hf H σ ρ D E p => h.se fx vs0 Hr Hf H σ ρ _ E ?_⟩
  unfold mRaise at p
  cases hm : m ρ with
  | bad => rw [hm] at p; exact p
  | exc y ρ1 => rw [hm] at p; exact fun C h1 F H' e E' => p C h1 σ F H' e E'
  | ok r ρ1 =>
    rw [hm] at p
    exact fun v F H' e E' _ => p C gC σ F H' e E'
end

/-! ### f-strings -/
def D.fmt : D → Option R
  | .str y => if y.length ≤ sizeLine then some (.dd (.str y)) else none
  | .int i => if i.natAbs.log2 < 1920 then some (.dd (.str (toString i : Str))) else none
  | _ => none
def mJs : List ME → Str → ME
  | [], acc, ρ => .ok (.dd (.str acc)) ρ
  | m :: ms, acc, ρ => match m ρ with
    | .ok r ρ1 => match use r.fix ρ1 with
      | some (.str y) => if (acc ++ y).length ≤ sizeLine then mJs ms (acc ++ y) ρ1 else .bad
      | _ => .bad
    | .exc x ρ1 => .exc x ρ1
    | .bad => .bad
inductive DJ (X : Cx) (W : WX) : List Expr → List TE → List ME → Prop where
  | nil : DJ X W [] [] []
  | cons {e : Expr} {t : TE} {m : ME} {es : List Expr} {ts : List TE} {ms : List ME} (h : DE X W e t m) (r : DJ X W es ts ms) : DJ X W (e :: es) (t :: ts) (m :: ms)
theorem DJ.pj {X : Cx} {W : WX} {es : List Expr} {ts : List TE} {ms : List ME} (h : DJ X W es ts ms) : PJ X es ts := by
  induction h with
  | nil => exact .nil
  | cons h _ ih => exact .cons h.pe ih
theorem DJ.run {X : Cx} {W : WX} {es : List Expr} {ts : List TE} {ms : List ME} (h : DJ X W es ts ms) : ∀ acc fx vs0 Hr Hf H σ ρ Q, EnvOk X.K X.mg fx vs0 Hr Hf H σ ρ → PostE X.K X.mg W fx vs0 Hr Hf σ (mJs ms acc ρ) Q → tJs ts acc σ H fun out H1 => Q (.str out) H1 := by
  induction h with
  | nil => intro acc fx vs0 Hr Hf H σ ρ Q E p; exact p (.str acc) Hf H (Ext.refl _) E rfl
  | @cons e t m es ts ms h _ ih =>
    intro acc fx vs0 Hr Hf H σ ρ Q E p
    refine h.se fx vs0 Hr Hf H σ ρ _ E ?_
    unfold mJs at p
    cases hm : m ρ with
    | bad => rw [hm] at p; exact p
    | exc x ρ1 => rw [hm] at p; exact p
    | ok r ρ1 =>
      rw [hm] at p
      intro v F H1 e1 E1 q1
      obtain ⟨F', e', E2, q2⟩ := q1.fixed E1
      cases hu : use r.fix ρ1 with
      | none => simp only [hu] at p; exact p.elim
      | some d =>
        have u := use_ok E2 q2 hu
        simp only [hu] at p
        cases d with
        | str y =>
          cases (show v = .str y from u)
          simp only at p
          by_cases hz : (acc ++ y).length ≤ sizeLine
          · rw [if_pos hz] at p
            exact ⟨y, rfl, hz, ih _ fx vs0 Hr F' H1 σ ρ1 Q E2 (PostE.mono p (e1.trans e'))⟩
          · rw [if_neg hz] at p; exact p.elim
        | _ => exact p.elim
section
variable {X : Cx} {W : WX} {e : Expr} {te : TE} {m : ME} {pos : Pos}
theorem de_fmt (h : DE X W e te m) : DE X W (.FormattedValue e (-1) none pos) (tFmt te) (m1 D.fmt m) := by
  refine ⟨pe_fmt h.pe, fun fx vs0 Hr Hf H σ ρ Q E p => ?_⟩
  refine h.se.bind E p fun r ρ1 v F H1 e1 E1 c1 s1 q => ?_
  cases hu : use r ρ1 with
  | none => simp only [hu] at q; exact q.elim
  | some d =>
    have u := use_ok E1 (s1 Hr F H1 ρ1 (Ext.refl _)) hu
    simp only [hu] at q
    cases d with
    | str y =>
      cases (show v = .str y from u)
      unfold D.fmt at q
      by_cases hz : y.length ≤ sizeLine
      · simp only [if_pos hz] at q
        exact .inl ⟨y, rfl, hz, q _ F H1 (Ext.refl _) E1 rfl⟩
      · simp only [if_neg hz] at q; exact q.elim
    | int i =>
      cases (show v = .int i from u)
      unfold D.fmt at q
      by_cases hz : i.natAbs.log2 < 1920
      · simp only [if_pos hz] at q
        exact .inr ⟨i, rfl, hz, q _ F H1 (Ext.refl _) E1 rfl⟩
      · simp only [if_neg hz] at q; exact q.elim
    | _ => exact q.elim
theorem de_join {v1 v2 : Expr} {rest : List Expr} {ts : List TE} {ms : List ME} (h : DJ X W (v1 :: v2 :: rest) ts ms) : DE X W (.JoinedStr (v1 :: v2 :: rest) pos) (fun σ H Q => tJs ts Str.empty σ H fun out H1 => Q (.str out) H1) (mJs ms Str.empty) :=
  ⟨pe_joined h.pj, fun fx vs0 Hr Hf H σ ρ Q E p => h.run _ fx vs0 Hr Hf H σ ρ Q E p⟩
theorem de_join1 (h : DE X W e te m) : DE X W (.JoinedStr [e] pos) te m := ⟨pe_joined1 h.pe, h.se⟩
end

/-! ### try -/
/-- the clauses: what each says of a class (caught or not), its suite -/
def mHands : List ((Str → Option Bool) × MS) → Str → MS
  | [], x, ρ => .exc x ρ
  | (h, m) :: r, x, ρ => match h x with
    | none => .bad
    | some true => match m ρ with
      | .exc _ _ => .bad
      | z => z
    | some false => mHands r x ρ
def mTry (mb : MS) (hs : List ((Str → Option Bool) × MS)) : MS := fun ρ => match mb ρ with
  | .exc x ρ1 => mHands hs x ρ1
  | r => r
section
variable {X : Cx} {fx : List Bool}
inductive DHs (X : Cx) (fx : List Bool) : List ExceptHandler → List (Value × (Addr → Value → Option Addr → TS)) → List ((Str → Option Bool) × MS) → Prop where
  | nil : DHs X fx [] [] []
  | cons {x : Str} {c : Value} {ts : Addr → Value → Option Addr → TS} {b₀ : Stmt} {suite : List Stmt} {np pos' : Pos} {hds : List ExceptHandler} {l : List (Value × (Addr → Value → Option Addr → TS))} {h : Str → Option Bool} {m : MS} {hs : List ((Str → Option Bool) × MS)}
      (hc : Names X x c) (hh : ∀ y b C, h y = some b → X.mg y = some (.ref C) → PySem.W.exmOne X.K (.ref C) c = some b)
      (hsu : ∀ (a : Addr) (oe : Obj) (cls : Value) (d : Option Addr) (pn : List (Addr × Obj)), Zc cls d oe → (∃ vs, oe.data = .fields vs) → DSs (X.suite a ((a, oe) :: pn)) W0 fx (b₀ :: suite) (ts a cls d) m) (r : DHs X fx hds l hs) :
      DHs X fx (.ExceptHandler (some (.Name x np)) none (b₀ :: suite) pos' :: hds) ((c, ts) :: l) ((h, m) :: hs)
theorem DHs.ok {hds : List ExceptHandler} {l : List (Value × (Addr → Value → Option Addr → TS))} {hs : List ((Str → Option Bool) × MS)} (h : DHs X fx hds l hs) : HdsOk X hds l := by
  induction h with
  | nil => exact .nil
  | cons hc hh hsu _ ih => exact .cons hc (fun a oe cls d pn z v => (hsu a oe cls d pn z v).ps) ih
theorem DHs.run {hds : List ExceptHandler} {l : List (Value × (Addr → Value → Option Addr → TS))} {hs : List ((Str → Option Bool) × MS)} (h : DHs X fx hds l hs) {Wout : WX} {vs0 : List V} {Hr Hf : Hp} {D : Ends} {x : Str} {ρ : Env}
    (p : PostS X.K X.mg Wout fx vs0 Hr Hf (mHands hs x ρ) D) {C : Addr} (gC : X.mg x = some (.ref C)) {σ : St} {Hf' H : Hp} (e : Ext Hf Hf') (E : EnvOk X.K X.mg fx vs0 Hr Hf' H σ ρ) : wMany X.K Wout D l (.ref C) none σ H := by
  induction h with
  | nil =>
    exact p C gC σ Hf' H e E
  | @cons y c ts b₀ suite np pos' hds l h m hs hc hh hsu _ ih =>
    unfold mHands at p
    cases hx : h x with
    | none => simp only [hx] at p; exact p.elim
    | some b =>
      refine ⟨b, hh x b C hx gC, fun hb a na => ?_, fun hb => ?_⟩
      · subst hb
        simp only [hx] at p
        obtain ⟨oe, hz, hv⟩ : ∃ oe, Zc (.ref C) none oe ∧ ∃ vs, oe.data = .fields vs := ⟨{ cls := .ref C, dict := none, data := .fields #[] }, ⟨rfl, rfl⟩, _, rfl⟩
        refine (hsu a oe (.ref C) none [] hz hv).ss vs0 Hr Hf' H σ ρ D E ?_
        cases hm : m ρ with
        | exc _ _ => simp only [hm] at p; exact p.elim
        | nx ρ1 => simp only [hm] at p; exact PostS.mono (W := Wout) p e
        | bk ρ1 => simp only [hm] at p; exact PostS.mono (W := Wout) p e
        | ct ρ1 => simp only [hm] at p; exact PostS.mono (W := Wout) p e
        | ret r ρ1 => simp only [hm] at p; exact PostS.mono (W := Wout) p e
        | bad => simp only [hm] at p; exact p.elim
      · subst hb
        simp only [hx] at p
        exact ih p
theorem ds_try {body : List Stmt} {h₀ : ExceptHandler} {hds : List ExceptHandler} {l : List (Value × (Addr → Value → Option Addr → TS))} {hs : List ((Str → Option Bool) × MS)} {pos : Pos} {tb : WX → TS} {mb : MS} {Wout : WX} (hst : X.stack = X.env :: X.outer) (hf : X.env.frame = some X.env.locals) (tk : Takes X Wout)
    (hb : ∀ (W : WX) (pn : List (Addr × Obj)) (xe : Value → Shared → Prop), Takes (X.tr pn xe) W → PassesOwn (model X.prog X.w) X.A X.env xe → DSs (X.tr pn xe) W fx body (tb W) mb) (hbS : ∀ W, SS X.K X.mg W fx (tb W) mb) (hh : DHs X fx (h₀ :: hds) l hs) :
    DS X Wout fx (.Try body (h₀ :: hds) [] [] pos) (fun D σ H => tb (wMany X.K Wout D l) D σ H) (mTry mb hs) := by
  refine ⟨ps_try_many hst hf tk (fun W pn xe tk po => (hb W pn xe tk po).ps) hh.ok, fun vs0 Hr Hf H σ ρ D E p => ?_⟩
  refine hbS _ vs0 Hr Hf H σ ρ D E ?_
  unfold mTry at p
  cases hm : mb ρ with
  | exc x ρ1 =>
    rw [hm] at p
    exact fun C gC σ F H' e E' => hh.run p gC e E'
  | _ => rw [hm] at p; exact p
end
/-! ### operators -/
section
variable {K : PySem.W.Frag} {mg : Str → Option Value} {fx : List Bool} {vs0 : List V} {Hr Hf Hf' H H' : Hp} {σ : St} {ρ : Env} {v : V} {d : D}
/-- the end: a value that needs no heap -/
theorem EnvOk.giveD {Q : VK} (E : EnvOk K mg fx vs0 Hr Hf H σ ρ) (q : ∀ v Hf' H', Ext Hf Hf' → EnvOk K mg fx vs0 Hr Hf' H' σ ρ → ROk K mg Hr Hf' H' σ ρ (.dd d) v → Q v H') (r : Rep K mg Hf d v) : Q v H := q v Hf H (Ext.refl _) E r
/-- .. a new list -/
theorem EnvOk.giveL {Q : VK} {xs : List D} {vs : List V} (E : EnvOk K mg fx vs0 Hr Hf H σ ρ) (q : ∀ v Hf' H', Ext Hf Hf' → EnvOk K mg fx vs0 Hr Hf' H' σ ρ → ROk K mg Hr Hf' H' σ ρ (.ow (.own xs)) v → Q v H') (r : RepL K mg Hf xs vs) :
    ∀ p, H p = none → Q (.ref p) (upd H p (.lst vs)) := fun p hp => q (.ref p) Hf _ (Ext.refl _) (E.newO hp) (E.newR hp ⟨vs, rfl, r⟩)
/-- .. a new tuple -/
theorem EnvOk.giveT {Q : VK} {xs : List D} {vs : List V} (E : EnvOk K mg fx vs0 Hr Hf H σ ρ) (q : ∀ v Hf' H', Ext Hf Hf' → EnvOk K mg fx vs0 Hr Hf' H' σ ρ → ROk K mg Hr Hf' H' σ ρ (.dd (.tup xs)) v → Q v H') (r : RepL K mg Hf xs vs) :
    ∀ p, H p = none → Q (.ref p) (upd H p (.tup vs)) := fun p hp => q (.ref p) (upd Hf p (.tup vs)) _ (Ext.new (E.freshF hp)) (E.newF hp) ⟨p, vs, rfl, .of upd_same, r.mono (Ext.new (E.freshF hp))⟩
end
def CallR.or {X : Cx} {f : Value} {r r' : List V → Hp → VK → Prop} (h : CallR X f r) (h' : CallR X f r') : CallR X f (fun xs H Q => r xs H Q ∨ r' xs H Q) := by
  intro pins s σ H xs us Q I rv q
  rcases q with q | q
  · exact h pins s σ H xs us Q I rv q
  · exact h' pins s σ H xs us Q I rv q

/-! #### + -/
def oAdd : D → D → Option R
  | .int i, .int j => some (.dd (.int (i + j)))
  | .str x, .str y => if x.length + y.length ≤ sizeLine then some (.dd (.str (x ++ y))) else none
  | .lst xs, .lst ys => if xs.length + ys.length ≤ sizeLine then some (.ow (.own (xs ++ ys))) else none
  | .tup xs, .tup ys => if xs.length + ys.length ≤ sizeLine then some (.dd (.tup (xs ++ ys))) else none
  | _, _ => none
def rAdd4 (K : PySem.W.Frag) : R2 := fun x y H Q => (∃ i j, x = .int i ∧ y = .int j ∧ Q (.int (i + j)) H) ∨ (∃ i j, x = .str i ∧ y = .str j ∧ i.length + j.length ≤ sizeLine ∧ Q (.str (i ++ j)) H) ∨ rCat x y H Q ∨ rCatA K x y H Q
theorem op_add4 {X : Cx} : OpR X (binaryOp .Add) (rAdd4 X.K) := op_add.or (op_add_str.or (op_cat.or op_catA))
theorem os_add {K : PySem.W.Frag} {mg : Str → Option Value} : OpS K mg (rAdd4 K) oAdd := by
  intro fx vs0 Hr Hf H σ ρ a b x y z Q E ra rb e q
  cases a with
  | int i =>
    cases b with
    | int j =>
      cases e
      exact .inl ⟨i, j, ra, rb, E.giveD q rfl⟩
    | _ => cases e
  | str i =>
    cases b with
    | str j =>
      dsimp only [oAdd] at e
      by_cases hz : i.length + j.length ≤ sizeLine
      · rw [if_pos hz] at e; cases e
        exact .inr (.inl ⟨i, j, ra, rb, hz, E.giveD q rfl⟩)
      · rw [if_neg hz] at e; cases e
    | _ => cases e
  | lst xs =>
    cases b with
    | lst ys =>
      dsimp only [oAdd] at e
      by_cases hz : xs.length + ys.length ≤ sizeLine
      · rw [if_pos hz] at e; cases e
        obtain ⟨l, vs, rfl, h1, h2⟩ := ra
        obtain ⟨m, ws, rfl, k1, k2⟩ := rb
        exact .inr (.inr (.inl ⟨l, m, vs, ws, rfl, rfl, h1, k1, by rw [h2.length, k2.length]; exact hz, E.giveL q (h2.append k2)⟩))
      · rw [if_neg hz] at e; cases e
    | _ => cases e
  | tup xs =>
    cases b with
    | tup ys =>
      dsimp only [oAdd] at e
      by_cases hz : xs.length + ys.length ≤ sizeLine
      · rw [if_pos hz] at e; cases e
        obtain ⟨l, vs, rfl, h1, h2⟩ := ra
        obtain ⟨m, ws, rfl, k1, k2⟩ := rb
        refine .inr (.inr (.inr ⟨l, m, vs, ws, rfl, rfl, E.sub.sqt h1, E.sub.sqt k1, by rw [h2.length, k2.length]; exact hz, fun hv => ?_, fun _ hw => ?_, fun _ _ => E.giveT q (h2.append k2)⟩))
        · subst hv
          have : xs = [] := by have := h2.length; cases xs; rfl; simp at this
          subst this
          exact E.giveD q ⟨m, ws, rfl, k1, k2⟩
        · subst hw
          have : ys = [] := by have := k2.length; cases ys; rfl; simp at this
          subst this
          rw [List.append_nil] at q
          exact E.giveD q ⟨l, vs, rfl, h1, h2⟩
      · rw [if_neg hz] at e; cases e
    | _ => cases e
  | _ => cases e

/-! #### - * // % ** of ints, list * int -/
def oSub : D → D → Option R
  | .int i, .int j => some (.dd (.int (i - j)))
  | _, _ => none
theorem os_sub {K : PySem.W.Frag} {mg : Str → Option Value} : OpS K mg (rI0 fun i j => .int (i - j)) oSub := by
  intro fx vs0 Hr Hf H σ ρ a b x y z Q E ra rb e q
  cases a with
  | int i =>
    cases b with
    | int j => cases e; exact ⟨i, j, ra, rb, E.giveD q rfl⟩
    | _ => cases e
  | _ => cases e
instance (i j : Int) : Decidable (CMul i j) := by unfold CMul; infer_instance
instance (i j : Int) : Decidable (CDiv i j) := by unfold CDiv; infer_instance
instance (i j : Int) : Decidable (CPow i j) := by unfold CPow; infer_instance
def oMul : D → D → Option R
  | .int i, .int j => if CMul i j then some (.dd (.int (i * j))) else none
  | .lst xs, .int k => if -(2 ^ 63) ≤ k ∧ k < 2 ^ 63 ∧ xs.length * k.toNat ≤ sizeLine then some (.ow (.own (List.replicate k.toNat xs).flatten)) else none
  | _, _ => none
def rMul2 : R2 := fun x y H Q => rI CMul (fun i j => .int (i * j)) x y H Q ∨ rRep x y H Q
theorem op_mul2 {X : Cx} : OpR X (binaryOp .Mult) rMul2 := op_mul.or op_rep
theorem os_mul {K : PySem.W.Frag} {mg : Str → Option Value} : OpS K mg rMul2 oMul := by
  intro fx vs0 Hr Hf H σ ρ a b x y z Q E ra rb e q
  cases a with
  | int i =>
    cases b with
    | int j =>
      dsimp only [oMul] at e
      by_cases hz : CMul i j
      · rw [if_pos hz] at e; cases e
        exact .inl ⟨i, j, ra, rb, hz, E.giveD q rfl⟩
      · rw [if_neg hz] at e; cases e
    | _ => cases e
  | lst xs =>
    cases b with
    | int k =>
      dsimp only [oMul] at e
      by_cases hz : -(2 ^ 63) ≤ k ∧ k < 2 ^ 63 ∧ xs.length * k.toNat ≤ sizeLine
      · rw [if_pos hz] at e; cases e
        obtain ⟨l, vs, rfl, h1, h2⟩ := ra
        exact .inr ⟨l, k, vs, rfl, rb, h1, hz.1, hz.2.1, by rw [h2.length]; exact hz.2.2, E.giveL q (h2.flatRep _)⟩
      · rw [if_neg hz] at e; cases e
    | _ => cases e
  | _ => cases e
def oDiv : D → D → Option R
  | .int i, .int j => if CDiv i j then some (.dd (.int (i / j))) else none
  | _, _ => none
theorem os_div {K : PySem.W.Frag} {mg : Str → Option Value} : OpS K mg (rI CDiv fun i j => .int (i / j)) oDiv := by
  intro fx vs0 Hr Hf H σ ρ a b x y z Q E ra rb e q
  cases a with
  | int i =>
    cases b with
    | int j =>
      dsimp only [oDiv] at e
      by_cases hz : CDiv i j
      · rw [if_pos hz] at e; cases e
        exact ⟨i, j, ra, rb, hz, E.giveD q rfl⟩
      · rw [if_neg hz] at e; cases e
    | _ => cases e
  | _ => cases e
def oMod : D → D → Option R
  | .int i, .int j => if 0 < j then some (.dd (.int (i % j))) else none
  | _, _ => none
theorem os_mod {K : PySem.W.Frag} {mg : Str → Option Value} : OpS K mg (rI (fun _ j => 0 < j) fun i j => .int (i % j)) oMod := by
  intro fx vs0 Hr Hf H σ ρ a b x y z Q E ra rb e q
  cases a with
  | int i =>
    cases b with
    | int j =>
      dsimp only [oMod] at e
      by_cases hz : 0 < j
      · rw [if_pos hz] at e; cases e
        exact ⟨i, j, ra, rb, hz, E.giveD q rfl⟩
      · rw [if_neg hz] at e; cases e
    | _ => cases e
  | _ => cases e
def oPow : D → D → Option R
  | .int i, .int j => if CPow i j then some (.dd (.int (i ^ j.toNat))) else none
  | _, _ => none
theorem os_pow {K : PySem.W.Frag} {mg : Str → Option Value} : OpS K mg (rI CPow fun i j => .int (i ^ j.toNat)) oPow := by
  intro fx vs0 Hr Hf H σ ρ a b x y z Q E ra rb e q
  cases a with
  | int i =>
    cases b with
    | int j =>
      dsimp only [oPow] at e
      by_cases hz : CPow i j
      · rw [if_pos hz] at e; cases e
        exact ⟨i, j, ra, rb, hz, E.giveD q rfl⟩
      · rw [if_neg hz] at e; cases e
    | _ => cases e
  | _ => cases e
/-- the negative of an int -/
def oNeg : D → Option R
  | .int i => some (.dd (.int (-i)))
  | _ => none
theorem de_neg {X : Cx} {W : WX} {a : Expr} {ta : TE} {ma : ME} {pos : Pos} (h : DE X W a ta ma) : DE X W (.UnaryOp .USub a pos) (tUn (rU fun i => .int (-i)) ta) (m1 oNeg ma) := by
  refine ⟨pe_un un_neg h.pe, fun fx vs0 Hr Hf H σ ρ Q E p => ?_⟩
  refine h.se.bind E p fun r ρ1 v F H1 e1 E1 c1 s1 q => ?_
  cases hu : use r ρ1 with
  | none => simp only [hu] at q; exact q.elim
  | some d =>
    have u := use_ok E1 (s1 Hr F H1 ρ1 (Ext.refl _)) hu
    simp only [hu] at q
    cases d with
    | int i =>
      cases (show v = .int i from u)
      exact ⟨i, rfl, E1.giveD q rfl⟩
    | _ => exact q.elim

/-! #### comparisons -/
def oCmp (p : Int → Int → Bool) : D → D → Option R
  | .int i, .int j => some (.dd (.bl (p i j)))
  | _, _ => none
theorem os_cmp {K : PySem.W.Frag} {mg : Str → Option Value} {p : Int → Int → Bool} : OpS K mg (rI0 fun i j => .bl (p i j)) (oCmp p) := by
  intro fx vs0 Hr Hf H σ ρ a b x y z Q E ra rb e q
  cases a with
  | int i =>
    cases b with
    | int j => cases e; exact ⟨i, j, ra, rb, E.giveD q rfl⟩
    | _ => cases e
  | _ => cases e
abbrev oLt := oCmp fun i j => decide (i < j)
abbrev oLe := oCmp fun i j => decide (i ≤ j)
abbrev oGt := oCmp fun i j => decide (j < i)
abbrev oGe := oCmp fun i j => decide (j ≤ i)

mutual
/-- as the library's data -/
def D.py : D → Option PyData
  | .non => some .none
  | .bl b => some (.bool b)
  | .int i => some (.int i)
  | .str s => some (.str s)
  | .lst xs => (pyL xs).map .list
  | .fls xs => (pyL xs).map .list
  | .tup xs => (pyL xs).map .tuple
  | _ => none
def pyL : List D → Option (List PyData)
  | [] => some []
  | d :: ds => match d.py, pyL ds with
    | some p, some ps => some (p :: ps)
    | _, _ => none
end
section
variable {K : PySem.W.Frag} {mg : Str → Option Value} {Hf H : Hp}
mutual
theorem Rep.dp (S : Ext Hf H) : ∀ {d : D} {v : V} {p : PyData}, Rep K mg Hf d v → d.py = some p → Dp K H v p
  | .non, _, _, h, e => by cases (show _ = _ from h); cases e; exact .non
  | .bl b, _, _, h, e => by cases (show _ = _ from h); cases e; exact .bl b
  | .int i, _, _, h, e => by cases (show _ = _ from h); cases e; exact .int i
  | .str s, _, _, h, e => by cases (show _ = _ from h); cases e; exact .str s
  | .lst xs, _, _, ⟨a, vs, h1, h2, h3⟩, e => by
    obtain ⟨ps, e1, e2⟩ := Option.map_eq_some_iff.mp e
    subst h1; subst e2
    exact .lst (.of (S a _ h2)) (RepL.dp S h3 e1)
  | .fls xs, _, _, ⟨a, vs, h1, h2, h3⟩, e => by
    obtain ⟨ps, e1, e2⟩ := Option.map_eq_some_iff.mp e
    subst h1; subst e2
    exact .lst (S.sql h2) (RepL.dp S h3 e1)
  | .tup xs, _, _, ⟨a, vs, h1, h2, h3⟩, e => by
    obtain ⟨ps, e1, e2⟩ := Option.map_eq_some_iff.mp e
    subst h1; subst e2
    exact .tup (S.sqt h2) (RepL.dp S h3 e1)
  | .ty _, _, _, _, e => by cases e
  | .fn _, _, _, _, e => by cases e
  | .dct _ _, _, _, _, e => by cases e
theorem RepL.dp (S : Ext Hf H) : ∀ {ds : List D} {vs : List V} {ps : List PyData}, RepL K mg Hf ds vs → pyL ds = some ps → DpAll K H vs ps
  | [], _, _, h, e => by have h : _ = [] := h; subst h; cases e; exact .nil
  | d :: ds, _, ps, ⟨v, ws, h1, h2, h3⟩, e => by
    subst h1
    unfold pyL at e
    cases hd : d.py with
    | none => simp only [hd] at e; cases e
    | some p =>
      cases hs : pyL ds with
      | none => simp only [hd, hs] at e; cases e
      | some qs => simp only [hd, hs] at e; cases e; exact .cons (Rep.dp S h2 hd) (RepL.dp S h3 hs)
end
theorem PRep.dp (S : Ext Hf H) {d : D} {v : V} {p : PyData} (h : PRep K mg Hf H d v) (e : d.py = some p) : Dp K H v p := by
  cases d with
  | lst xs =>
    obtain ⟨a, vs, rfl, h2, h3⟩ := h
    obtain ⟨ps, e1, rfl⟩ := Option.map_eq_some_iff.mp e
    exact .lst (.of h2) (h3.dp S e1)
  | dct ks xs => cases e
  | _ => exact Rep.dp S h e
end
def D.scal : D → Option V
  | .non => some .non
  | .bl b => some (.bl b)
  | .int i => some (.int i)
  | .str s => some (.str s)
  | _ => none
def oEqB (a b : D) : Option Bool := match a.scal, b.scal with
  | some x, some y => if L2.scal x y = true then some (decide (x = y)) else none
  | _, _ => match a.py, b.py with
    | some p, some q => if SeqAt.shaped p = true ∧ SeqAt.shaped q = true then some (PyData.eqv p q) else none
    | _, _ => none
def oEq (a b : D) : Option R := (oEqB a b).map fun c => .dd (.bl c)
def oNe (a b : D) : Option R := (oEqB a b).map fun c => .dd (.bl !c)
theorem PRep.scal {K : PySem.W.Frag} {mg : Str → Option Value} {Hf H : Hp} {d : D} {v x : V} (h : PRep K mg Hf H d v) (e : d.scal = some x) : v = x := by
  cases d <;> cases e <;> exact h
theorem oEqB_ok {K : PySem.W.Frag} {mg : Str → Option Value} {Hf H : Hp} (S : Ext Hf H) {a b : D} {x y : V} {c : Bool} (ra : PRep K mg Hf H a x) (rb : PRep K mg Hf H b y) (e : oEqB a b = some c) :
    (L2.scal x y = true ∧ c = decide (x = y)) ∨ ∃ p q, Dp K H x p ∧ Dp K H y q ∧ SeqAt.shaped p = true ∧ SeqAt.shaped q = true ∧ c = PyData.eqv p q := by
  unfold oEqB at e
  have deep : (match a.py, b.py with
    | some p, some q => if SeqAt.shaped p = true ∧ SeqAt.shaped q = true then some (PyData.eqv p q) else none
    | _, _ => none) = some c → ∃ p q, Dp K H x p ∧ Dp K H y q ∧ SeqAt.shaped p = true ∧ SeqAt.shaped q = true ∧ c = PyData.eqv p q := fun e => by
    cases ha : a.py with
    | none => simp only [ha] at e; cases e
    | some p =>
      cases hb : b.py with
      | none => simp only [ha, hb] at e; cases e
      | some q =>
        simp only [ha, hb] at e
        by_cases hz : SeqAt.shaped p = true ∧ SeqAt.shaped q = true
        · rw [if_pos hz] at e; cases e
          exact ⟨p, q, ra.dp S ha, rb.dp S hb, hz.1, hz.2, rfl⟩
        · rw [if_neg hz] at e; cases e
  cases ha : a.scal with
  | none => simp only [ha] at e; exact .inr (deep e)
  | some u =>
    cases hb : b.scal with
    | none => simp only [ha, hb] at e; exact .inr (deep e)
    | some w =>
      simp only [ha, hb] at e
      rw [ra.scal ha, rb.scal hb]
      by_cases hz : L2.scal u w = true
      · rw [if_pos hz] at e; cases e; exact .inl ⟨hz, rfl⟩
      · rw [if_neg hz] at e; cases e
def rEqA (K : PySem.W.Frag) : R2 := fun x y H Q => rEq x y H Q ∨ rEqD K x y H Q
def rNeA (K : PySem.W.Frag) : R2 := fun x y H Q => rNe x y H Q ∨ rNeD K x y H Q
theorem op_eqA {X : Cx} (hu : X.A.units + 64 < cLine) : OpR X (compareOp .Eq) (rEqA X.K) := op_eq.or (op_eqD hu)
theorem op_neA {X : Cx} (hu : X.A.units + 64 < cLine) : OpR X (compareOp .NotEq) (rNeA X.K) := op_ne.or (op_neD hu)
theorem os_eq {K : PySem.W.Frag} {mg : Str → Option Value} : OpS K mg (rEqA K) oEq := by
  intro fx vs0 Hr Hf H σ ρ a b x y z Q E ra rb e q
  obtain ⟨c, e1, rfl⟩ := Option.map_eq_some_iff.mp e
  rcases oEqB_ok E.sub ra rb e1 with ⟨h1, rfl⟩ | ⟨p, p', h1, h2, h3, h4, rfl⟩
  · exact .inl ⟨h1, E.giveD q rfl⟩
  · exact .inr ⟨p, p', h1, h2, h3, h4, E.giveD q rfl⟩
theorem os_ne {K : PySem.W.Frag} {mg : Str → Option Value} : OpS K mg (rNeA K) oNe := by
  intro fx vs0 Hr Hf H σ ρ a b x y z Q E ra rb e q
  obtain ⟨c, e1, rfl⟩ := Option.map_eq_some_iff.mp e
  rcases oEqB_ok E.sub ra rb e1 with ⟨h1, rfl⟩ | ⟨p, p', h1, h2, h3, h4, rfl⟩
  · exact .inl ⟨h1, E.giveD q rfl⟩
  · exact .inr ⟨p, p', h1, h2, h3, h4, E.giveD q rfl⟩
/-- is None, is not None -/
def D.isNon : D → Bool
  | .non => true
  | _ => false
def oIsN (neg : Bool) : D → D → Option R
  | a, .non => some (.dd (.bl (if neg then !a.isNon else a.isNon)))
  | _, _ => none
theorem PRep.isNon {K : PySem.W.Frag} {mg : Str → Option Value} {Hf H : Hp} {d : D} {v : V} (h : PRep K mg Hf H d v) : decide (v = .non) = d.isNon := by
  cases d with
  | non => cases (show v = .non from h); rfl
  | bl _ => cases (show v = .bl _ from h); rfl
  | int _ => cases (show v = .int _ from h); rfl
  | str _ => cases (show v = .str _ from h); rfl
  | ty _ => cases (show v = .ty _ from h); rfl
  | fn _ => obtain ⟨_, _, rfl⟩ := h; rfl
  | lst _ => obtain ⟨_, _, rfl, _⟩ := h; rfl
  | fls _ => obtain ⟨_, _, rfl, _⟩ := h; rfl
  | tup _ => obtain ⟨_, _, rfl, _⟩ := h; rfl
  | dct _ _ => obtain ⟨_, _, rfl, _⟩ := h; rfl
theorem os_isN {K : PySem.W.Frag} {mg : Str → Option Value} : OpS K mg rIsN (oIsN false) := by
  intro fx vs0 Hr Hf H σ ρ a b x y z Q E ra rb e q
  cases b with
  | non => cases (show y = .non from rb); cases e; exact ⟨rfl, by rw [ra.isNon]; exact E.giveD q rfl⟩
  | _ => cases e
theorem os_notN {K : PySem.W.Frag} {mg : Str → Option Value} : OpS K mg rNotN (oIsN true) := by
  intro fx vs0 Hr Hf H σ ρ a b x y z Q E ra rb e q
  cases b with
  | non => cases (show y = .non from rb); cases e; exact ⟨rfl, by rw [ra.isNon]; exact E.giveD q rfl⟩
  | _ => cases e
/-! #### subscripts -/
def dget : List Key → List D → Key → Option D
  | k' :: ks, v :: vs, k => if k' = k then some v else dget ks vs k
  | _, _, _ => none
def D.key : D → Option Key
  | .int i => some (.inl i)
  | .str s => some (.inr s)
  | _ => none
theorem PRep.key {K : PySem.W.Frag} {mg : Str → Option Value} {Hf H : Hp} {d : D} {v : V} {k : Key} (h : PRep K mg Hf H d v) (e : d.key = some k) : v = kV k := by
  cases d <;> cases e <;> exact h
theorem dget_some {K : PySem.W.Frag} {mg : Str → Option Value} {Hf : Hp} {k : Key} {d : D} : ∀ {kvs : List (Key × V)} {ks : List Key} {ds : List D}, kvs.map (·.1) = ks → RepL K mg Hf ds (kvs.map (·.2)) → dget ks ds k = some d → ∃ v, valV kvs k = some v ∧ Rep K mg Hf d v
  | [], _, [], h, _, e => by subst h; cases e
  | [], _, _ :: _, h, _, e => by subst h; cases e
  | p :: kvs, _, [], h, r, e => by subst h; cases e
  | p :: kvs, _, d' :: ds, h, ⟨v, ws, h1, h2, h3⟩, e => by
    subst h
    have h1 : p.2 :: kvs.map (·.2) = v :: ws := h1
    cases h1
    simp only [List.map_cons, dget] at e
    by_cases hk : p.1 = k
    · rw [if_pos hk] at e; cases e
      exact ⟨p.2, valV_pos hk, h2⟩
    · rw [if_neg hk] at e
      rw [valV_neg hk]
      exact dget_some (kvs := kvs) rfl h3 e
theorem dget_none {K : PySem.W.Frag} {mg : Str → Option Value} {Hf : Hp} {k : Key} : ∀ {kvs : List (Key × V)} {ks : List Key} {ds : List D}, kvs.map (·.1) = ks → RepL K mg Hf ds (kvs.map (·.2)) → dget ks ds k = none → valV kvs k = none
  | [], _, _, _, _, _ => rfl
  | p :: kvs, _, [], h, r, e => by
    have := r.length
    simp at this
  | p :: kvs, _, d' :: ds, h, ⟨v, ws, h1, h2, h3⟩, e => by
    subst h
    have h1 : p.2 :: kvs.map (·.2) = v :: ws := h1
    cases h1
    simp only [List.map_cons, dget] at e
    by_cases hk : p.1 = k
    · rw [if_pos hk] at e; cases e
    · rw [if_neg hk] at e
      rw [valV_neg hk]
      exact dget_none (kvs := kvs) rfl h3 e
theorem atI_rep {K : PySem.W.Frag} {mg : Str → Option Value} {Hf : Hp} {ds : List D} {vs : List V} {i : Int} {d : D} (r : RepL K mg Hf ds vs) (e : atI ds i = some d) : ∃ v, atI vs i = some v ∧ Rep K mg Hf d v := by
  unfold atI at e ⊢
  rw [r.length]
  obtain ⟨j, e1, e2⟩ := Option.bind_eq_some_iff.mp e
  obtain ⟨v, h1, h2⟩ := r.get e2
  exact ⟨v, by rw [e1]; exact h1, h2⟩
def oIx : D → D → Option R
  | .lst xs, .int i => (atI xs i).map .dd
  | .fls xs, .int i => (atI xs i).map .dd
  | .tup xs, .int i => (atI xs i).map .dd
  | .str s, .int i => if s.length ≤ sizeLine then (atI s.cps.toList i).map fun c => .dd (.str ⟨#[c]⟩) else none
  | .dct ks vs, k => match k.key with
    | some k => (dget ks vs k).map .dd
    | none => none
  | _, _ => none
def rIxDk : R2 := fun x y H Q => ∃ a v, x = .ref a ∧ DGet H a y (some v) ∧ Q v H
theorem ix_dk {X : Cx} (hu : X.A.units + 1 < cLine) : IxR X rIxDk := by
  intro value slice pins s σ H x y v u Q I rx ry h hs
  obtain ⟨a, v0, rfl, g, q⟩ := h
  obtain rfl : v = Value.ref a := rx
  exact PyProof.Rows.tail_any (dict_typeIs I g) PySem.slot_dict_getitem.lookup (d_getItem hu I g ry fun w' s' I' r => ⟨v0, H, I', r, q⟩) hs
def rIxAll (K : PySem.W.Frag) : R2 := fun x y H Q => rIx K x y H Q ∨ rIxDk x y H Q
theorem ix_all {X : Cx} (hu : X.A.units + 1 < cLine) : IxR X (rIxAll X.K) := ix_seq.or (ix_dk hu)
theorem os_ix {K : PySem.W.Frag} {mg : Str → Option Value} : OpS K mg (rIxAll K) oIx := by
  intro fx vs0 Hr Hf H σ ρ a b x y z Q E ra rb e q
  have dic : ∀ ks vs, a = .dct ks vs → rIxAll K x y H Q := fun ks vs ha => by
    subst ha
    obtain ⟨l, kvs, rfl, h1, h2, h3, h4⟩ := ra
    have e : (match b.key with
      | some k => (dget ks vs k).map R.dd
      | none => none) = some z := e
    cases hb : b.key with
    | none => simp only [hb] at e; cases e
    | some k =>
      simp only [hb] at e
      obtain ⟨d, e1, rfl⟩ := Option.map_eq_some_iff.mp e
      obtain ⟨v, k1, k2⟩ := dget_some h2 h4 e1
      rw [rb.key hb]
      exact .inr ⟨l, v, rfl, by rw [← k1]; exact DGet.k h1, E.giveD q k2⟩
  cases a with
  | dct ks vs => exact dic ks vs rfl
  | lst xs =>
    cases b with
    | int i =>
      obtain ⟨d, e1, rfl⟩ := Option.map_eq_some_iff.mp e
      obtain ⟨l, vs, rfl, h1, h2⟩ := ra
      obtain ⟨v, k1, k2⟩ := atI_rep h2 e1
      exact .inl (.inl ⟨l, vs, i, v, rfl, rb, .of h1, k1, E.giveD q k2⟩)
    | _ => cases e
  | fls xs =>
    cases b with
    | int i =>
      obtain ⟨d, e1, rfl⟩ := Option.map_eq_some_iff.mp e
      obtain ⟨l, vs, rfl, h1, h2⟩ := ra
      obtain ⟨v, k1, k2⟩ := atI_rep h2 e1
      exact .inl (.inl ⟨l, vs, i, v, rfl, rb, E.sub.sql h1, k1, E.giveD q k2⟩)
    | _ => cases e
  | tup xs =>
    cases b with
    | int i =>
      obtain ⟨d, e1, rfl⟩ := Option.map_eq_some_iff.mp e
      obtain ⟨l, vs, rfl, h1, h2⟩ := ra
      obtain ⟨v, k1, k2⟩ := atI_rep h2 e1
      exact .inl (.inr (.inl ⟨l, vs, i, v, rfl, rb, E.sub.sqt h1, k1, E.giveD q k2⟩))
    | _ => cases e
  | str s =>
    cases b with
    | int i =>
      dsimp only [oIx] at e
      by_cases hz : s.length ≤ sizeLine
      · rw [if_pos hz] at e
        obtain ⟨c, e1, rfl⟩ := Option.map_eq_some_iff.mp e
        exact .inl (.inr (.inr ⟨s, i, c, ra, rb, hz, e1, E.giveD q rfl⟩))
      · rw [if_neg hz] at e; cases e
    | _ => cases e
  | _ => cases e

/-! #### in, not in -/
def D.flat : D → Bool
  | .non => true
  | .bl _ => true
  | .int _ => true
  | .str _ => true
  | _ => false
def eqF : D → D → Bool
  | .non, .non => true
  | .bl a, .bl b => a == b
  | .bl a, .int b => (if a then 1 else 0) == b
  | .int a, .bl b => a == (if b then 1 else 0)
  | .int a, .int b => a == b
  | .str a, .str b => a == b
  | _, _ => false
def oInB : D → D → Option Bool
  | x, .lst xs => if x.flat = true ∧ xs.all D.flat = true then some (xs.any fun y => eqF y x) else none
  | x, .fls xs => if x.flat = true ∧ xs.all D.flat = true then some (xs.any fun y => eqF y x) else none
  | x, .tup xs => if x.flat = true ∧ xs.all D.flat = true then some (xs.any fun y => eqF y x) else none
  | x, .dct ks vs => match x.key with
    | some k => some (dget ks vs k).isSome
    | none => none
  | _, _ => none
def oIn (neg : Bool) (x y : D) : Option R := (oInB x y).map fun c => .dd (.bl (if neg then !c else c))
section
variable {K : PySem.W.Frag} {mg : Str → Option Value} {Hf H : Hp}
theorem flat_rep {d : D} {v : V} (h : Rep K mg Hf d v) (f : d.flat = true) : flatV v = true := by
  cases d with
  | non => cases (show v = _ from h); rfl
  | bl _ => cases (show v = _ from h); rfl
  | int _ => cases (show v = _ from h); rfl
  | str _ => cases (show v = _ from h); rfl
  | _ => cases f
theorem flat_p {d : D} {v : V} (h : PRep K mg Hf H d v) (f : d.flat = true) : Rep K mg Hf d v := by
  cases d with
  | lst _ => cases f
  | dct _ _ => cases f
  | _ => exact h
theorem flat_all : ∀ {ds : List D} {vs : List V}, RepL K mg Hf ds vs → ds.all D.flat = true → vs.all flatV = true
  | [], _, h, _ => by have h : _ = [] := h; subst h; rfl
  | d :: ds, _, ⟨v, ws, h1, h2, h3⟩, f => by
    subst h1
    rw [List.all_cons, Bool.and_eq_true] at f
    rw [List.all_cons, flat_rep h2 f.1, flat_all h3 f.2]
    rfl
theorem eqF_rep {a b : D} {x y : V} (ha : Rep K mg Hf a x) (hb : Rep K mg Hf b y) (fa : a.flat = true) (fb : b.flat = true) : eqF a b = eqV x y := by
  cases a with
  | non => cases (show x = _ from ha); cases b <;> first | (cases (show y = _ from hb); rfl) | cases fb
  | bl _ => cases (show x = _ from ha); cases b <;> first | (cases (show y = _ from hb); rfl) | cases fb
  | int _ => cases (show x = _ from ha); cases b <;> first | (cases (show y = _ from hb); rfl) | cases fb
  | str _ => cases (show x = _ from ha); cases b <;> first | (cases (show y = _ from hb); rfl) | cases fb
  | _ => cases fa
theorem any_rep {b : D} {y : V} (hb : Rep K mg Hf b y) (fb : b.flat = true) : ∀ {ds : List D} {vs : List V}, RepL K mg Hf ds vs → ds.all D.flat = true → (ds.any fun a => eqF a b) = inV y vs
  | [], _, h, _ => by have h : _ = [] := h; subst h; rfl
  | d :: ds, _, ⟨v, ws, h1, h2, h3⟩, f => by
    subst h1
    rw [List.all_cons, Bool.and_eq_true] at f
    show (eqF d b || (ds.any fun a => eqF a b)) = (eqV v y || inV y ws)
    rw [eqF_rep h2 hb f.1 fb, any_rep hb fb h3 f.2]
end
def rInDk (neg : Bool) : R2 := fun x y H Q => ∃ a o, y = .ref a ∧ DGet H a x o ∧ Q (.bl (if neg then !o.isSome else o.isSome)) H
theorem op_inDk {X : Cx} (hu : X.A.units + 1 < cLine) : OpR X (compareOp .In) (rInDk false) := by
  intro pins s σ H x y v u Q I rx ry h
  obtain ⟨a, o, rfl, g, q⟩ := h
  obtain rfl : u = Value.ref a := ry
  exact d_in hu I g rx fun s' I' => ⟨.bl o.isSome, H, I', rfl, q⟩
theorem op_notInDk {X : Cx} (hu : X.A.units + 1 < cLine) : OpR X (compareOp .NotIn) (rInDk true) := by
  intro pins s σ H x y v u Q I rx ry h
  obtain ⟨a, o, rfl, g, q⟩ := h
  obtain rfl : u = Value.ref a := ry
  exact d_notIn hu I g rx fun s' I' => ⟨.bl (!o.isSome), H, I', rfl, q⟩
def rInA (K : PySem.W.Frag) (neg : Bool) : R2 := fun x y H Q => rIn K neg x y H Q ∨ rInDk neg x y H Q
theorem op_inA {X : Cx} (hu : X.A.units + 1 < cLine) : OpR X (compareOp .In) (rInA X.K false) := op_in_seq.or (op_inDk hu)
theorem op_notInA {X : Cx} (hu : X.A.units + 1 < cLine) : OpR X (compareOp .NotIn) (rInA X.K true) := op_notIn_seq.or (op_notInDk hu)
theorem os_in {K : PySem.W.Frag} {mg : Str → Option Value} {neg : Bool} : OpS K mg (rInA K neg) (oIn neg) := by
  intro fx vs0 Hr Hf H σ ρ a b x y z Q E ra rb e q
  obtain ⟨c, e1, rfl⟩ := Option.map_eq_some_iff.mp e
  clear e
  have seq : ∀ xs vs p, y = .ref p → (SqL K H p vs ∨ SqT K H p vs) → RepL K mg Hf xs vs → (if a.flat = true ∧ xs.all D.flat = true then some (xs.any fun y => eqF y a) else none) = some c → rInA K neg x y H Q := fun xs vs p hy hs hr e => by
    by_cases hz : a.flat = true ∧ xs.all D.flat = true
    · rw [if_pos hz] at e
      have ra' := flat_p ra hz.1
      have e : xs.any (fun y => eqF y a) = c := Option.some.inj e
      rw [any_rep ra' hz.1 hr hz.2] at e
      refine .inl ⟨p, vs, hy, hs, flat_rep ra' hz.1, flat_all hr hz.2, ?_⟩
      rw [e]
      exact E.giveD q rfl
    · rw [if_neg hz] at e; cases e
  cases b with
  | lst xs => obtain ⟨p, vs, hy, h1, h2⟩ := rb; exact seq xs vs p hy (.inl (.of h1)) h2 e1
  | fls xs => obtain ⟨p, vs, hy, h1, h2⟩ := rb; exact seq xs vs p hy (.inl (E.sub.sql h1)) h2 e1
  | tup xs => obtain ⟨p, vs, hy, h1, h2⟩ := rb; exact seq xs vs p hy (.inr (E.sub.sqt h1)) h2 e1
  | dct ks vs =>
    obtain ⟨l, kvs, rfl, h1, h2, h3, h4⟩ := rb
    have e : (match a.key with
      | some k => some (dget ks vs k).isSome
      | none => none) = some c := e1
    cases hb : a.key with
    | none => simp only [hb] at e; cases e
    | some k =>
      simp only [hb] at e
      refine .inr ⟨l, valV kvs k, rfl, by rw [ra.key hb]; exact DGet.k h1, ?_⟩
      have : (valV kvs k).isSome = c := by
        rw [← Option.some.inj e]
        cases hd : dget ks vs k with
        | none => rw [dget_none h2 h4 hd]; rfl
        | some d => obtain ⟨v, k1, _⟩ := dget_some h2 h4 hd; rw [k1]; rfl
      rw [this]
      exact E.giveD q rfl
  | _ => cases e1

/-! #### slices -/
def cut {α : Type} (xs : List α) (lo hi : Option Int) : List α := (xs.drop (HT.sIx xs.length 0 lo)).take (HT.sIx xs.length xs.length hi - HT.sIx xs.length 0 lo)
def oSl (d : D) (lo hi : Option Int) : Option R := match d with
  | .lst xs => some (.ow (.own (cut xs lo hi)))
  | .fls xs => some (.ow (.own (cut xs lo hi)))
  | .tup xs => some (.dd (.tup (cut xs lo hi)))
  | .str s => if s.length ≤ sizeLine then some (.dd (.str (cutS s lo hi))) else none
  | _ => none
/-- a bound of a slice -/
def mPart (m : Option ME) (k : Option Int → ME) : ME := fun ρ => match m with
  | none => k none ρ
  | some m => match m ρ with
    | .ok r ρ1 => match use r.fix ρ1 with
      | some (.int i) => k (some i) ρ1
      | _ => .bad
    | .exc x ρ1 => .exc x ρ1
    | .bad => .bad
def mSl (m : ME) (lo hi : Option ME) : ME := mB m fun r => mPart lo fun l => mPart hi fun h ρ => match use r ρ with
  | some d => opt (oSl d l h) ρ
  | none => .bad
def SO (K : PySem.W.Frag) (mg : Str → Option Value) (W : WX) (t : TO) (m : Option ME) : Prop := ∀ fx vs0 Hr Hf H σ ρ (Q : Option Int → Hp → Prop) (k : Option Int → ME) (QE : VK), EnvOk K mg fx vs0 Hr Hf H σ ρ → PostE K mg W fx vs0 Hr Hf σ (mPart m k ρ) QE →
  (∀ o Hf' H' ρ', Ext Hf Hf' → EnvOk K mg fx vs0 Hr Hf' H' σ ρ' → PostE K mg W fx vs0 Hr Hf' σ (k o ρ') QE → Q o H') → t σ H Q
structure DO (X : Cx) (W : WX) (e : Option Expr) (t : TO) (m : Option ME) : Prop where
  po : PO X e t
  so : SO X.K X.mg W t m
def rSl4 (K : PySem.W.Frag) : V → Option Int → Option Int → Hp → VK → Prop := fun x lo hi H Q => rSlL K x lo hi H Q ∨ rSlA K x lo hi H Q ∨ rSlS x lo hi H Q
theorem sl_all {X : Cx} : SlR X (rSl4 X.K) := sl_list.or (sl_tupA.or sl_str)
theorem cut_rep {K : PySem.W.Frag} {mg : Str → Option Value} {Hf : Hp} {ds : List D} {vs : List V} {lo hi : Option Int} (r : RepL K mg Hf ds vs) : RepL K mg Hf (cut ds lo hi) (cutV vs lo hi) := by
  unfold cut cutV
  rw [r.length]
  exact (r.drop _).take _
section
variable {X : Cx} {W : WX} {e : Expr} {te : TE} {m : ME} {lo hi : Option Expr} {tl th : TO} {ml mh : Option ME} {pos p2 : Pos}
theorem do_none : DO X W none tNoPart none := ⟨po_none, fun fx vs0 Hr Hf H σ ρ Q k QE E p q => q none Hf H ρ (Ext.refl _) E p⟩
theorem do_some (h : DE X W e te m) : DO X W (some e) (tPart te) (some m) := by
  refine ⟨po_some h.pe, fun fx vs0 Hr Hf H σ ρ Q k QE E p q => ?_⟩
  refine h.se fx vs0 Hr Hf H σ ρ _ E ?_
  unfold mPart at p
  dsimp only at p
  cases hm : m ρ with
  | bad => rw [hm] at p; exact p
  | exc x ρ1 => rw [hm] at p; exact p
  | ok r ρ1 =>
    rw [hm] at p
    intro v F H1 e1 E1 q1
    obtain ⟨F', e', E2, q2⟩ := q1.fixed E1
    cases hu : use r.fix ρ1 with
    | none => simp only [hu] at p; exact p.elim
    | some d =>
      have u := use_ok E2 q2 hu
      simp only [hu] at p
      cases d with
      | int i => exact ⟨i, u, q (some i) F' H1 ρ1 (e1.trans e') E2 (PostE.mono p (e1.trans e'))⟩
      | _ => exact p.elim
theorem de_sl (h : DE X W e te m) (hl : DO X W lo tl ml) (hh : DO X W hi th mh) : DE X W (.Subscript e (.Slice lo hi none p2) pos) (tSl (rSl4 X.K) te tl th) (mSl m ml mh) := by
  refine ⟨pe_slice sl_all h.pe hl.po hh.po, fun fx vs0 Hr Hf H σ ρ Q E p => ?_⟩
  refine h.se.bind E p fun r ρ1 v F H1 e1 E1 c1 s1 q => ?_
  refine hl.so fx vs0 Hr F H1 σ ρ1 _ _ Q E1 q fun l F2 H2 ρ2 e2 E2 q2 => ?_
  refine hh.so fx vs0 Hr F2 H2 σ ρ2 _ _ Q E2 q2 fun u F3 H3 ρ3 e3 E3 q3 => ?_
  cases hu : use r ρ3 with
  | none => simp only [hu] at q3; exact q3.elim
  | some d =>
    have hp := use_ok E3 (s1 Hr F3 H3 ρ3 (e2.trans e3)) hu
    simp only [hu] at q3
    cases d with
    | lst xs => obtain ⟨a, vs, rfl, h1, h2⟩ := hp; exact .inl ⟨a, vs, rfl, .of h1, E3.giveL q3 (cut_rep h2)⟩
    | fls xs => obtain ⟨a, vs, rfl, h1, h2⟩ := hp; exact .inl ⟨a, vs, rfl, E3.sub.sql h1, E3.giveL q3 (cut_rep h2)⟩
    | tup xs =>
      obtain ⟨a, vs, rfl, h1, h2⟩ := hp
      refine .inr (.inl ⟨a, vs, rfl, E3.sub.sqt h1, fun hw => ?_, fun _ => E3.giveT q3 (cut_rep h2)⟩)
      have : cut xs l u = xs := by
        unfold cut
        rw [h2.length] at hw
        rw [hw.1, hw.2]
        simp
      dsimp only [oSl, opt] at q3
      rw [this] at q3
      exact E3.giveD q3 ⟨a, vs, rfl, h1, h2⟩
    | str s =>
      dsimp only [oSl] at q3
      by_cases hz : s.length ≤ sizeLine
      · rw [if_pos hz] at q3
        exact .inr (.inr ⟨s, hp, hz, E3.giveD q3 rfl⟩)
      · rw [if_neg hz] at q3; exact q3.elim
    | _ => exact q3.elim
end

/-! #### built-in functions by values -/
def CS1 (K : PySem.W.Frag) (mg : Str → Option Value) (r : List V → Hp → VK → Prop) (f : D → Option R) : Prop :=
  ∀ fx vs0 Hr Hf H σ ρ a x z Q, EnvOk K mg fx vs0 Hr Hf H σ ρ → PRep K mg Hf H a x → f a = some z →
    (∀ v Hf' H', Ext Hf Hf' → EnvOk K mg fx vs0 Hr Hf' H' σ ρ → ROk K mg Hr Hf' H' σ ρ z v → Q v H') → r [x] H Q
def CS2 (K : PySem.W.Frag) (mg : Str → Option Value) (r : List V → Hp → VK → Prop) (f : D → D → Option R) : Prop := OpS K mg (fun x y H Q => r [x, y] H Q) f
theorem SE.call1 {K : PySem.W.Frag} {mg : Str → Option Value} {W : WX} {ta : TE} {ma : ME} {r : List V → Hp → VK → Prop} {f : D → Option R} (ha : SE K mg W ta ma) (ho : CS1 K mg r f) : SE K mg W (tCB r (tCons ta tNil)) (m1 f ma) := by
  intro fx vs0 Hr Hf H σ ρ Q E p
  refine ha.bind E p fun ra ρ1 v F H1 e1 E1 c1 s1 q => ?_
  cases hu : use ra ρ1 with
  | none => simp only [hu] at q; exact q.elim
  | some a =>
    simp only [hu] at q
    cases hf : f a with
    | none => rw [hf] at q; exact q.elim
    | some z =>
      rw [hf] at q
      exact ho fx vs0 Hr F H1 σ ρ1 a v z Q E1 (use_ok E1 (s1 Hr F H1 ρ1 (Ext.refl _)) hu) hf q
theorem SE.call2 {K : PySem.W.Frag} {mg : Str → Option Value} {W : WX} {ta tb : TE} {ma mb : ME} {r : List V → Hp → VK → Prop} {f : D → D → Option R} (ha : SE K mg W ta ma) (hb : SE K mg W tb mb) (ho : CS2 K mg r f) : SE K mg W (tCB r (tCons ta (tCons tb tNil))) (m2 f ma mb) :=
  ha.op2 hb ho
section
variable {X : Cx} {W : WX} {a b : Expr} {ta tb : TE} {ma mb : ME} {p pos : Pos} {id T : String} {x : Str} {r : List V → Hp → VK → Prop}
theorem de_b1 {f : D → Option R} (hc : CallR X (.builtin id) r) (hs : CS1 X.K X.mg r f) (h : DE X W a ta ma) (hm : X.mg x = none) (hv : bootBuiltins x = some (.builtin id)) (hg : Gl X x := by rfl) (hn : x ≠ "__name__" := by decide) (hdb : (x == ("__debug__" : Str)) = false := by decide)
    (he : starEach (a :: []) X.env = (false, eval a X.env) :: starEach [] X.env := by rfl) (hpl : (backTo pos (starEach [] X.env)).any (·.1) = false := by rfl) : DE X W (.Call (.Name x p) [a] [] pos) (tCB r (tCons ta tNil)) (m1 f ma) :=
  ⟨pe_callB hc hg hm hv (pa_cons h.pe pa_nil he) hn hdb he hpl, h.se.call1 hs⟩
theorem de_t1 {f : D → Option R} (hc : CallR X (.type T) r) (hs : CS1 X.K X.mg r f) (h : DE X W a ta ma) (hm : X.mg x = none) (hv : bootBuiltins x = some (.type T)) (hg : Gl X x := by rfl) (hn : x ≠ "__name__" := by decide) (hdb : (x == ("__debug__" : Str)) = false := by decide)
    (he : starEach (a :: []) X.env = (false, eval a X.env) :: starEach [] X.env := by rfl) (hpl : (backTo pos (starEach [] X.env)).any (·.1) = false := by rfl) : DE X W (.Call (.Name x p) [a] [] pos) (tCB r (tCons ta tNil)) (m1 f ma) :=
  ⟨pe_callTy hc hg hm hv (pa_cons h.pe pa_nil he) hn hdb he hpl, h.se.call1 hs⟩
theorem de_b2 {f : D → D → Option R} (hc : CallR X (.builtin id) r) (hs : CS2 X.K X.mg r f) (h : DE X W a ta ma) (k : DE X W b tb mb) (hm : X.mg x = none) (hv : bootBuiltins x = some (.builtin id)) (hg : Gl X x := by rfl) (hn : x ≠ "__name__" := by decide) (hdb : (x == ("__debug__" : Str)) = false := by decide)
    (he : starEach (a :: [b]) X.env = (false, eval a X.env) :: starEach [b] X.env := by rfl) (he2 : starEach (b :: []) X.env = (false, eval b X.env) :: starEach [] X.env := by rfl) (hpl : (backTo pos (starEach [b] X.env)).any (·.1) = false := by rfl) :
    DE X W (.Call (.Name x p) [a, b] [] pos) (tCB r (tCons ta (tCons tb tNil))) (m2 f ma mb) :=
  ⟨pe_callB hc hg hm hv (pa_cons h.pe (pa_cons k.pe pa_nil he2) he) hn hdb he hpl, h.se.call2 k.se hs⟩
end
def oLen : D → Option R
  | .lst xs => some (.dd (.int xs.length))
  | .fls xs => some (.dd (.int xs.length))
  | .tup xs => some (.dd (.int xs.length))
  | .str s => if s.length ≤ sizeLine then some (.dd (.int s.length)) else none
  | .dct ks _ => some (.dd (.int ks.length))
  | _ => none
def rLenA (K : PySem.W.Frag) : List V → Hp → VK → Prop := fun xs H Q => (∃ x n, xs = [x] ∧ LenV K x H n ∧ Q (.int n) H) ∨ ∃ a kvs, xs = [.ref a] ∧ H a = some (.dK kvs) ∧ Q (.int kvs.length) H
theorem call_lenA {X : Cx} : CallR X (.builtin "len") (rLenA X.K) := CallR.or call_len call_lenD
theorem cs_len {K : PySem.W.Frag} {mg : Str → Option Value} : CS1 K mg (rLenA K) oLen := by
  intro fx vs0 Hr Hf H σ ρ a x z Q E ra e q
  cases a with
  | lst xs => cases e; obtain ⟨l, vs, rfl, h1, h2⟩ := ra; exact .inl ⟨_, vs.length, rfl, .inl ⟨vs, .of h1, rfl⟩, by rw [h2.length]; exact E.giveD q rfl⟩
  | fls xs => cases e; obtain ⟨l, vs, rfl, h1, h2⟩ := ra; exact .inl ⟨_, vs.length, rfl, .inl ⟨vs, E.sub.sql h1, rfl⟩, by rw [h2.length]; exact E.giveD q rfl⟩
  | tup xs => cases e; obtain ⟨l, vs, rfl, h1, h2⟩ := ra; exact .inl ⟨_, vs.length, rfl, .inr ⟨vs, E.sub.sqt h1, rfl⟩, by rw [h2.length]; exact E.giveD q rfl⟩
  | str s =>
    cases (show x = .str s from ra)
    dsimp only [oLen] at e
    by_cases hz : s.length ≤ sizeLine
    · rw [if_pos hz] at e; cases e; exact .inl ⟨_, s.length, rfl, ⟨hz, rfl⟩, E.giveD q rfl⟩
    · rw [if_neg hz] at e; cases e
  | dct ks xs => cases e; obtain ⟨l, kvs, rfl, h1, h2, _⟩ := ra; exact .inr ⟨l, kvs, rfl, h1, by rw [show kvs.length = ks.length by rw [← h2, List.length_map]]; exact E.giveD q rfl⟩
  | _ => cases e
/-- list(x) of a list, a tuple, a dict -/
def keyD : Key → D
  | .inl i => .int i
  | .inr s => .str s
def oList : D → Option R
  | .lst xs => some (.ow (.own xs))
  | .fls xs => some (.ow (.own xs))
  | .tup xs => some (.ow (.own xs))
  | .dct ks _ => some (.ow (.own (ks.map keyD)))
  | _ => none
def rListA (K : PySem.W.Frag) : List V → Hp → VK → Prop := fun xs H Q => (∃ p ys, xs = [.ref p] ∧ (SqL K H p ys ∨ SqT K H p ys) ∧ ∀ l, H l = none → Q (.ref l) (upd H l (.lst ys))) ∨
  ∃ a kvs, xs = [.ref a] ∧ Rd H a (.dK kvs) ∧ ∀ p, H p = none → Q (.ref p) (upd H p (.lst (kvs.map fun kv => kV kv.1)))
theorem call_listA {X : Cx} (hc : X.calm = true) : CallR X (.type "list") (rListA X.K) := CallR.or call_list_of (call_listD hc)
theorem keys_rep {K : PySem.W.Frag} {mg : Str → Option Value} {Hf : Hp} : ∀ (kvs : List (Key × V)), RepL K mg Hf ((kvs.map (·.1)).map keyD) (kvs.map fun kv => kV kv.1)
  | [] => rfl
  | (.inl i, v) :: r => ⟨.int i, _, rfl, rfl, keys_rep r⟩
  | (.inr x, v) :: r => ⟨.str x, _, rfl, rfl, keys_rep r⟩
theorem cs_list {K : PySem.W.Frag} {mg : Str → Option Value} : CS1 K mg (rListA K) oList := by
  intro fx vs0 Hr Hf H σ ρ a x z Q E ra e q
  cases a with
  | lst xs => cases e; obtain ⟨l, vs, rfl, h1, h2⟩ := ra; exact .inl ⟨l, vs, rfl, .inl (.of h1), E.giveL q h2⟩
  | fls xs => cases e; obtain ⟨l, vs, rfl, h1, h2⟩ := ra; exact .inl ⟨l, vs, rfl, .inl (E.sub.sql h1), E.giveL q h2⟩
  | tup xs => cases e; obtain ⟨l, vs, rfl, h1, h2⟩ := ra; exact .inl ⟨l, vs, rfl, .inr (E.sub.sqt h1), E.giveL q h2⟩
  | dct ks xs =>
    cases e
    obtain ⟨l, kvs, rfl, h1, h2, _⟩ := ra
    subst h2
    exact .inr ⟨l, kvs, rfl, .of h1, E.giveL q (keys_rep kvs)⟩
  | _ => cases e
/-- tuple(x) of a list, a tuple -/
def oTuple : D → Option R
  | .lst xs => some (.dd (.tup xs))
  | .fls xs => some (.dd (.tup xs))
  | .tup xs => some (.dd (.tup xs))
  | _ => none
def rTupleA (K : PySem.W.Frag) : List V → Hp → VK → Prop := fun xs H Q => ∃ p ys, xs = [.ref p] ∧ ((SqL K H p ys ∧ ∀ l, H l = none → Q (.ref l) (upd H l (.tup ys))) ∨ (SqT K H p ys ∧ Q (.ref p) H))
theorem call_tupleA {X : Cx} : CallR X (.type "tuple") (rTupleA X.K) := call_tuple_of
theorem cs_tuple {K : PySem.W.Frag} {mg : Str → Option Value} : CS1 K mg (rTupleA K) oTuple := by
  intro fx vs0 Hr Hf H σ ρ a x z Q E ra e q
  cases a with
  | lst xs => cases e; obtain ⟨l, vs, rfl, h1, h2⟩ := ra; exact ⟨l, vs, rfl, .inl ⟨.of h1, E.giveT q h2⟩⟩
  | fls xs => cases e; obtain ⟨l, vs, rfl, h1, h2⟩ := ra; exact ⟨l, vs, rfl, .inl ⟨E.sub.sql h1, E.giveT q h2⟩⟩
  | tup xs => cases e; obtain ⟨l, vs, rfl, h1, h2⟩ := ra; exact ⟨l, vs, rfl, .inr ⟨E.sub.sqt h1, E.giveD q ⟨l, vs, rfl, h1, h2⟩⟩⟩
  | _ => cases e
/-- str(n) -/
def oStr : D → Option R
  | .int i => if i.natAbs.log2 < 1920 then some (.dd (.str (toString i : Str))) else none
  | _ => none
theorem cs_str {K : PySem.W.Frag} {mg : Str → Option Value} : CS1 K mg (fun xs H Q => ∃ i, xs = [.int i] ∧ i.natAbs.log2 < 1920 ∧ Q (.str (toString i)) H) oStr := by
  intro fx vs0 Hr Hf H σ ρ a x z Q E ra e q
  cases a with
  | int i =>
    cases (show x = .int i from ra)
    dsimp only [oStr] at e
    by_cases hz : i.natAbs.log2 < 1920
    · rw [if_pos hz] at e; cases e; exact ⟨i, rfl, hz, E.giveD q rfl⟩
    · rw [if_neg hz] at e; cases e
  | _ => cases e
/-- int(b), int(n) -/
def oInt : D → Option R
  | .int i => some (.dd (.int i))
  | .bl k => some (.dd (.int (if k then 1 else 0)))
  | _ => none
theorem cs_int {K : PySem.W.Frag} {mg : Str → Option Value} : CS1 K mg (fun xs H Q => (∃ i, xs = [.int i] ∧ Q (.int i) H) ∨ ∃ k, xs = [.bl k] ∧ Q (.int (if k then 1 else 0)) H) oInt := by
  intro fx vs0 Hr Hf H σ ρ a x z Q E ra e q
  cases a with
  | int i => cases (show x = .int i from ra); cases e; exact .inl ⟨i, rfl, E.giveD q rfl⟩
  | bl k => cases (show x = .bl k from ra); cases e; exact .inr ⟨k, rfl, E.giveD q rfl⟩
  | _ => cases e
def oAbs : D → Option R
  | .int i => some (.dd (.int (if i < 0 then -i else i)))
  | _ => none
theorem cs_abs {K : PySem.W.Frag} {mg : Str → Option Value} : CS1 K mg (fun xs H Q => ∃ i, xs = [.int i] ∧ Q (.int (if i < 0 then -i else i)) H) oAbs := by
  intro fx vs0 Hr Hf H σ ρ a x z Q E ra e q
  cases a with
  | int i => cases (show x = .int i from ra); cases e; exact ⟨i, rfl, E.giveD q rfl⟩
  | _ => cases e
def oMax : D → D → Option R
  | .int i, .int j => some (.dd (.int (if j > i then j else i)))
  | _, _ => none
def oMin : D → D → Option R
  | .int i, .int j => some (.dd (.int (if j < i then j else i)))
  | _, _ => none
theorem cs_max {K : PySem.W.Frag} {mg : Str → Option Value} : CS2 K mg (fun xs H Q => ∃ i j, xs = [.int i, .int j] ∧ Q (.int (if j > i then j else i)) H) oMax := by
  intro fx vs0 Hr Hf H σ ρ a b x y z Q E ra rb e q
  cases a with
  | int i =>
    cases b with
    | int j => cases (show x = .int i from ra); cases (show y = .int j from rb); cases e; exact ⟨i, j, rfl, E.giveD q rfl⟩
    | _ => cases e
  | _ => cases e
theorem cs_min {K : PySem.W.Frag} {mg : Str → Option Value} : CS2 K mg (fun xs H Q => ∃ i j, xs = [.int i, .int j] ∧ Q (.int (if j < i then j else i)) H) oMin := by
  intro fx vs0 Hr Hf H σ ρ a b x y z Q E ra rb e q
  cases a with
  | int i =>
    cases b with
    | int j => cases (show x = .int i from ra); cases (show y = .int j from rb); cases e; exact ⟨i, j, rfl, E.giveD q rfl⟩
    | _ => cases e
  | _ => cases e
def bools : List D → Option (List Bool)
  | [] => some []
  | .bl b :: ds => (bools ds).map (b :: ·)
  | _ => none
def oAny : D → Option R
  | .lst xs => (bools xs).map fun bs => .dd (.bl (bs.any id))
  | _ => none
theorem bools_rep {K : PySem.W.Frag} {mg : Str → Option Value} {Hf : Hp} : ∀ {ds : List D} {vs : List V} {bs : List Bool}, RepL K mg Hf ds vs → bools ds = some bs → vs = bs.map V.bl
  | [], _, _, h, e => by have h : _ = [] := h; subst h; cases e; rfl
  | .bl b :: ds, _, _, ⟨v, ws, h1, h2, h3⟩, e => by
    obtain ⟨cs, e1, rfl⟩ := Option.map_eq_some_iff.mp e
    subst h1
    rw [bools_rep h3 e1]
    cases (show v = .bl b from h2)
    rfl
  | .non :: _, _, _, _, e => by cases e
  | .int _ :: _, _, _, _, e => by cases e
  | .str _ :: _, _, _, _, e => by cases e
  | .ty _ :: _, _, _, _, e => by cases e
  | .fn _ :: _, _, _, _, e => by cases e
  | .lst _ :: _, _, _, _, e => by cases e
  | .fls _ :: _, _, _, _, e => by cases e
  | .tup _ :: _, _, _, _, e => by cases e
  | .dct _ _ :: _, _, _, _, e => by cases e
theorem cs_any {K : PySem.W.Frag} {mg : Str → Option Value} : CS1 K mg (rAny K) oAny := by
  intro fx vs0 Hr Hf H σ ρ a x z Q E ra e q
  cases a with
  | lst xs =>
    obtain ⟨bs, e1, rfl⟩ := Option.map_eq_some_iff.mp e
    obtain ⟨l, vs, rfl, h1, h2⟩ := ra
    have := bools_rep h2 e1
    subst this
    exact ⟨l, bs, rfl, .of h1, E.giveD q rfl⟩
  | _ => cases e

/-! #### isinstance with built-in types -/
def D.tyN : D → Option String
  | .non => some "NoneType"
  | .bl _ => some "bool"
  | .int _ => some "int"
  | .str _ => some "str"
  | .lst _ => some "list"
  | .fls _ => some "list"
  | .tup _ => some "tuple"
  | .dct _ _ => some "dict"
  | _ => none
def D.isTy (d : D) (n : String) : Option Bool := match d.tyN with
  | some t => if ["bool", "int", "str", "list", "tuple", "dict"].contains n = true then some (t == n || (t == "bool" && n == "int")) else none
  | none => none
theorem kit_all {t n : String} (ht : t ∈ ["NoneType", "bool", "int", "str", "list", "tuple", "dict"]) (hn : n ∈ ["bool", "int", "str", "list", "tuple", "dict"]) : kitB t n = some (t == n || (t == "bool" && n == "int")) := by
  simp only [List.mem_cons, List.not_mem_nil, or_false] at ht hn
  rcases ht with rfl | rfl | rfl | rfl | rfl | rfl | rfl <;> rcases hn with rfl | rfl | rfl | rfl | rfl | rfl <;> decide +kernel
section
variable {K : PySem.W.Frag} {mg : Str → Option Value} {Hf H : Hp}
theorem sqt_ty {a : Addr} {vs : List V} (h : SqT K H a vs) : TyX K H (.ref a) (.type "tuple") := by
  rcases h with (h | ⟨o, h⟩) | ⟨o, its, n, hk, hc, _⟩
  · exact .base (.tup h)
  · exact .fTuple h
  · exact .kTuple hk hc
theorem sql_ty {a : Addr} {vs : List V} (h : SqL K H a vs) : TyX K H (.ref a) (.type "list") := by
  rcases h with (h | ⟨o, h⟩) | ⟨o, its, n, hk, hc, _⟩
  · exact .base (.lst h)
  · exact .base (.frz h)
  · exact .kList hk hc
theorem PRep.ty (S : Ext Hf H) {d : D} {v : V} {t : String} (h : PRep K mg Hf H d v) (e : d.tyN = some t) : TyX K H v (.type t) ∧ t ∈ ["NoneType", "bool", "int", "str", "list", "tuple", "dict"] := by
  cases d with
  | non => cases (show v = _ from h); cases e; exact ⟨.base .non, by simp⟩
  | bl b => cases (show v = _ from h); cases e; exact ⟨.base (.bl b), by simp⟩
  | int b => cases (show v = _ from h); cases e; exact ⟨.base (.int b), by simp⟩
  | str b => cases (show v = _ from h); cases e; exact ⟨.base (.str b), by simp⟩
  | lst xs => obtain ⟨a, vs, rfl, h1, _⟩ := h; cases e; exact ⟨.base (.lst h1), by simp⟩
  | fls xs => obtain ⟨a, vs, rfl, h1, _⟩ := h; cases e; exact ⟨sql_ty (S.sql h1), by simp⟩
  | tup xs => obtain ⟨a, vs, rfl, h1, _⟩ := h; cases e; exact ⟨sqt_ty (S.sqt h1), by simp⟩
  | dct ks xs => obtain ⟨a, vs, rfl, h1, _⟩ := h; cases e; exact ⟨.base (.dK h1), by simp⟩
  | _ => cases e
theorem isTy_ok (S : Ext Hf H) {d : D} {v : V} {n : String} {b : Bool} (h : PRep K mg Hf H d v) (e : d.isTy n = some b) : ∃ t, d.tyN = some t ∧ TyX K H v (.type t) ∧ PySem.W.kitOne K (.type t) (.type n) = some b := by
  unfold D.isTy at e
  cases ht : d.tyN with
  | none => simp only [ht] at e; cases e
  | some t =>
    simp only [ht] at e
    by_cases hn : ["bool", "int", "str", "list", "tuple", "dict"].contains n = true
    · rw [if_pos hn] at e
      obtain ⟨h1, h2⟩ := h.ty S ht
      refine ⟨t, rfl, h1, kit_ty ?_⟩
      rw [kit_all h2 (by simpa using hn)]
      exact e
    · rw [if_neg hn] at e; cases e
end
def oIsi : D → D → Option R
  | d, .ty n => (d.isTy n).map fun b => .dd (.bl b)
  | _, _ => none
theorem cs_isi {K : PySem.W.Frag} {mg : Str → Option Value} : CS2 K mg (rIsi K) oIsi := by
  intro fx vs0 Hr Hf H σ ρ a b x y z Q E ra rb e q
  cases b with
  | ty n =>
    obtain ⟨c, e1, rfl⟩ := Option.map_eq_some_iff.mp e
    cases (show y = .ty n from rb)
    obtain ⟨t, _, h1, h2⟩ := isTy_ok E.sub ra e1
    exact ⟨x, .ty n, .type t, .type n, c, rfl, .ty n, h1, h2, E.giveD q rfl⟩
  | _ => cases e
section
variable {X : Cx} {W : WX} {a : Expr} {ta : TE} {ma : ME} {p pos : Pos}
/-- a built-in type as a value -/
theorem de_ty {x : Str} (n : String) (hm : X.mg x = none) (hv : bootBuiltins x = some (.type n)) (hg : Gl X x := by rfl) (hn : x ≠ "__name__" := by decide) (hd : (x == ("__debug__" : Str)) = false := by decide) : DE X W (.Name x pos) (tC (.ty n)) (mC (.ty n)) :=
  ⟨pe_bltn hg hm hv rfl hn hd, se_c fun _ => rfl⟩
/-- a global of the program, by its name -/
theorem de_glob {x : Str} {f : Addr} (hm : X.mg x = some (.ref f)) (hg : Gl X x := by rfl) (hd : (x == ("__debug__" : Str)) = false := by decide) : DE X W (.Name x pos) (tC (.ref f)) (mC (.fn x)) :=
  ⟨pe_glob hg hm rfl hd, se_c fun _ => ⟨f, hm, rfl⟩⟩
/-- a module's int, text -/
theorem de_globI {x : Str} {i : Int} {t : Tok} (hm : X.mg x = some (.int i t)) (hg : Gl X x := by rfl) (hd : (x == ("__debug__" : Str)) = false := by decide) : DE X W (.Name x pos) (tC (.int i)) (mC (.int i)) :=
  ⟨pe_glob hg hm ⟨t, rfl⟩ hd, se_c fun _ => rfl⟩
theorem de_globS {x : Str} {i : Str} {t : Tok} (hm : X.mg x = some (.str i t)) (hg : Gl X x := by rfl) (hd : (x == ("__debug__" : Str)) = false := by decide) : DE X W (.Name x pos) (tC (.str i)) (mC (.str i)) :=
  ⟨pe_glob hg hm ⟨t, rfl⟩ hd, se_c fun _ => rfl⟩
def oIsi2 (n1 n2 : String) (d : D) : Option R := match d.isTy n1, d.isTy n2 with
  | some b, some c => some (.dd (.bl (b || c)))
  | _, _ => none
/-- isinstance(x, (A, B)) of built-in types -/
theorem de_isi2 {x : Str} {x1 x2 : Str} {n1 n2 : String} {p1 p2 p3 : Pos} {kk} (h : DE X W a ta ma) (hm : X.mg "isinstance" = none) (h1 : DE X W (.Name x1 p1) (tC (.ty n1)) (mC (.ty n1))) (h2 : DE X W (.Name x2 p2) (tC (.ty n2)) (mC (.ty n2))) (hg : Gl X "isinstance" := by rfl)
    (he : starEach (a :: [.Tuple [.Name x1 p1, .Name x2 p2] kk p3]) X.env = (false, eval a X.env) :: starEach [.Tuple [.Name x1 p1, .Name x2 p2] kk p3] X.env := by rfl) (he2 : starEach [.Tuple [.Name x1 p1, .Name x2 p2] kk p3] X.env = (false, eval (.Tuple [.Name x1 p1, .Name x2 p2] kk p3) X.env) :: starEach [] X.env := by rfl)
    (hpl : (backTo pos (starEach [.Tuple [.Name x1 p1, .Name x2 p2] kk p3] X.env)).any (·.1) = false := by rfl)
    (hs1 : starEach (.Name x1 p1 :: [.Name x2 p2]) X.env = (false, eval (.Name x1 p1) X.env) :: starEach [.Name x2 p2] X.env := by rfl) (hs2 : starEach (.Name x2 p2 :: []) X.env = (false, eval (.Name x2 p2) X.env) :: starEach [] X.env := by rfl) :
    DE X W (.Call (.Name "isinstance" p) [a, .Tuple [.Name x1 p1, .Name x2 p2] kk p3] [] pos) (tCB (rIsiT X.K) (tCons ta (tCons (tTup (tCons (tC (.ty n1)) (tCons (tC (.ty n2)) tNil))) tNil))) (m1 (oIsi2 n1 n2) ma) := by
  refine ⟨pe_callB call_isiT hg hm (by decide +kernel) (pa_cons h.pe (pa_cons (pe_tup (pa_cons h1.pe (pa_cons h2.pe pa_nil hs2) hs1)) pa_nil he2) he) (by decide) (by decide) he hpl, fun fx vs0 Hr Hf H σ ρ Q E p => ?_⟩
  refine h.se.bind E p fun r ρ1 v F H1 e1 E1 c1 s1 q => ?_
  cases hu : use r ρ1 with
  | none => simp only [hu] at q; exact q.elim
  | some d =>
    have hp := use_ok E1 (s1 Hr F H1 ρ1 (Ext.refl _)) hu
    simp only [hu] at q
    cases hb : d.isTy n1 with
    | none => simp only [oIsi2, hb] at q; exact q.elim
    | some b =>
      cases hc : d.isTy n2 with
      | none => simp only [oIsi2, hb, hc] at q; exact q.elim
      | some c =>
        simp only [oIsi2, hb, hc] at q
        refine ⟨by show 2 ≤ sizeLine; rw [sizeLine_eq]; decide, fun tp htp => ?_⟩
        have E2 := E1.newF (o := .tup [.ty n1, .ty n2]) htp
        have hp2 : PRep X.K X.mg (upd F tp (.tup [.ty n1, .ty n2])) (upd H1 tp (.tup [.ty n1, .ty n2])) d v := use_ok E2 (s1 Hr _ _ ρ1 (Ext.new (E1.freshF htp))) hu
        obtain ⟨t, k0, k1, k2⟩ := isTy_ok E2.sub hp2 hb
        obtain ⟨t', k3, _, k4⟩ := isTy_ok E2.sub hp2 hc
        have et : t' = t := by rw [k0] at k3; cases k3; rfl
        subst et
        refine ⟨v, tp, _, .type t', [.type n1, .type n2], b || c, rfl, upd_same, .cons (.ty n1) (.cons (.ty n2) .nil), k1, ?_, ?_⟩
        · refine L2.kitAny_cons k2 (fun hb => ?_) (fun hb => by rw [hb]; rfl)
          subst hb
          exact L2.kitAny_cons k4 (fun hc => by subst hc; rfl) fun hc => by rw [hc]; rfl
        · exact q (.bl (b || c)) _ _ (Ext.new (E1.freshF htp)) E2 rfl
end
/-! ### displays -/
def vals : List AC → Option (List D)
  | [] => some []
  | (.val d, none) :: cs => (vals cs).map (d :: ·)
  | _ => none
theorem vals_ok {K : PySem.W.Frag} {mg : Str → Option Value} {Hf : Hp} {σ : St} : ∀ {vs : List V} {cs : List AC} {Hr Hr' : Hp} {ds : List D}, ArgsOk K mg Hf σ Hr Hr' vs cs → vals cs = some ds → Hr' = Hr ∧ RepL K mg Hf ds vs
  | [], [], _, _, _, h, e => by cases e; exact ⟨h, rfl⟩
  | v :: vs, (.val d, none) :: cs, _, _, _, ⟨⟨d', h1, h2⟩, h3⟩, e => by
    obtain ⟨ds, e1, rfl⟩ := Option.map_eq_some_iff.mp e
    cases h1
    obtain ⟨k1, k2⟩ := vals_ok h3 e1
    exact ⟨k1, .cons h2 k2⟩
  | _ :: _, (.no, none) :: _, _, _, _, _, e => by cases e
  | _ :: _, (.own _, none) :: _, _, _, _, _, e => by cases e
  | _ :: _, (.ownD _ _, none) :: _, _, _, _, _, e => by cases e
  | _ :: _, (.no, some _) :: _, _, _, _, _, e => by cases e
  | _ :: _, (.val _, some _) :: _, _, _, _, _, e => by cases e
  | _ :: _, (.own _, some _) :: _, _, _, _, _, e => by cases e
  | _ :: _, (.ownD _ _, some _) :: _, _, _, _, _, e => by cases e
  | [], (_ :: _), _, _, _, h, _ => h.elim
  | _ :: _, [], _, _, _, h, _ => h.elim
def mSeqD (f : List D → R) (as : List AM) : ME := fun ρ => mArgs as ρ fun cs ρ1 => match vals cs with
  | some ds => if ds.length ≤ sizeLine then .ok (f ds) ρ1 else .bad
  | none => .bad
section
variable {X : Cx} {W : WX} {es : List Expr} {t : TA} {as : List AM} {pos : Pos}
theorem SA.vals {K : PySem.W.Frag} {mg : Str → Option Value} (ha : SA K mg W t as) {f : List D → R} {fx : List Bool} {vs0 : List V} {Hr Hf H : Hp} {σ : St} {ρ : Env} {Q : VK} {QA : List V → Hp → Prop} (E : EnvOk K mg fx vs0 Hr Hf H σ ρ)
    (p : PostE K mg W fx vs0 Hr Hf σ (mSeqD f as ρ) Q) (hk : ∀ vs ds Hf' H' ρ', Ext Hf Hf' → EnvOk K mg fx vs0 Hr Hf' H' σ ρ' → RepL K mg Hf' ds vs → vs.length ≤ sizeLine → PostE K mg W fx vs0 Hr Hf' σ (.ok (f ds) ρ') Q → QA vs H') : t σ H QA := by
  refine ha fx vs0 Hr Hr Hf H σ ρ _ _ Q E (Ext.refl _) p fun vs cs Hr' Hf' H' ρ' e1 E1 a p1 => ?_
  cases hv : TL.vals cs with
  | none => simp only [hv] at p1; exact p1.elim
  | some ds =>
    simp only [hv] at p1
    by_cases hz : ds.length ≤ sizeLine
    · rw [if_pos hz] at p1
      obtain ⟨k1, k2⟩ := vals_ok a hv
      subst k1
      exact hk vs ds Hf' H' ρ' e1 E1 k2 (by rw [k2.length]; exact hz) p1
    · rw [if_neg hz] at p1; exact p1.elim
theorem de_tup {x1} (h : DA X W es t as) : DE X W (.Tuple es x1 pos) (tTup t) (mSeqD (fun ds => .dd (.tup ds)) as) :=
  ⟨pe_tup h.pa, fun fx vs0 Hr Hf H σ ρ Q E p => h.sa.vals E p fun vs ds Hf' H' ρ' e1 E1 r hz q => ⟨hz, E1.giveT q r⟩⟩
theorem de_lst (h : DA X W es t as) : DE X W (.List es pos) (tLst t) (mSeqD (fun ds => .ow (.own ds)) as) :=
  ⟨pe_lst h.pa, fun fx vs0 Hr Hf H σ ρ Q E p => h.sa.vals E p fun vs ds Hf' H' ρ' e1 E1 r hz q => ⟨hz, E1.giveL q r⟩⟩
/-- {} -/
def mDict0 : ME := fun ρ => .ok (.ow (.ownD [] [])) ρ
theorem de_dict0 : DE X W (.Dict [] [] pos) tDNewK mDict0 :=
  ⟨pe_dnewK, fun fx vs0 Hr Hf H σ ρ Q E p => fun l hl => p (.ref l) Hf _ (Ext.refl _) (E.newO hl) (E.newR hl ⟨[], rfl, rfl, List.nodup_nil, rfl⟩)⟩
/-- {"a": 1, ..}: written keys, written values -/
def cV : D → V
  | .bl b => .bl b
  | .int i => .int i
  | .str s => .str s
  | _ => .non
def cOk : D → Bool
  | .bl _ => true
  | .int _ => true
  | .str _ => true
  | .non => true
  | _ => false
theorem cV_rep {K : PySem.W.Frag} {mg : Str → Option Value} {H : Hp} {d : D} (h : cOk d = true) : Rep K mg H d (cV d) := by
  cases d <;> first | exact rfl | cases h
def mDictC (kds : List (Key × D)) : ME := fun ρ => .ok (.ow (.ownD (kds.map (·.1)) (kds.map (·.2)))) ρ
def trsC (kds : List (Key × D)) : List (TE × TE) := kds.map fun kd => (tC (kV kd.1), tC (cV kd.2))
theorem tPairs_c {σ : St} {H : Hp} {Q : List (V × V) → Hp → Prop} : ∀ (kds : List (Key × D)), Q (kds.map fun kd => (kV kd.1, cV kd.2)) H → tPairs (trsC kds) σ H Q
  | [], h => h
  | (k, d) :: r, h => tPairs_c (Q := fun ps H3 => Q ((kV k, cV d) :: ps) H3) r h
theorem merge_nd : ∀ (more kvs : List (Key × V)), ((kvs ++ more).map (·.1)).Nodup → mergeK kvs more = kvs ++ more
  | [], kvs, _ => by simp [mergeK]
  | (k, v) :: r, kvs, h => by
    have hn : valV kvs k = none := by
      cases hq : valV kvs k with
      | none => rfl
      | some u =>
        have h1 := valV_in hq
        rw [List.map_append, List.nodup_append] at h
        exact (h.2.2 k h1 k (by simp) rfl).elim
    show mergeK (putK kvs k v) r = _
    rw [putK_new v hn, merge_nd r (kvs ++ [(k, v)]) (by simpa using h)]
    simp
theorem repL_c {K : PySem.W.Frag} {mg : Str → Option Value} {H : Hp} : ∀ (kds : List (Key × D)), (∀ kd ∈ kds, cOk kd.2 = true) → RepL K mg H (kds.map (·.2)) (kds.map fun kd => cV kd.2)
  | [], _ => rfl
  | kd :: r, h => ⟨cV kd.2, _, rfl, cV_rep (h kd List.mem_cons_self), repL_c r fun x hx => h x (List.mem_cons_of_mem _ hx)⟩
theorem de_dictC {keys : List (Option Expr)} {values : List Expr} (kds : List (Key × D)) (h : PPs X pos keys values (trsC kds)) (hall : keys.all (·.isSome) = true) (hl : keys.length = values.length) (h0 : keys ≠ []) (h15 : keys.length ≤ 15) (hk : kds.length ≤ 15)
    (hc : ∀ kd ∈ kds, cOk kd.2 = true) (hn : (kds.map (·.1)).Nodup) : DE X W (.Dict keys values pos) (tDisp (trsC kds)) (mDictC kds) := by
  refine ⟨pe_disp h hall hl h0 h15, fun fx vs0 Hr Hf H σ ρ Q E p => fun l hl => ?_⟩
  refine tPairs_c kds ⟨upd_same, kds.map fun kd => (kd.1, cV kd.2), by simp, by simpa using hk, ?_⟩
  have e := merge_nd (kds.map fun kd => (kd.1, cV kd.2)) [] (by simpa [Function.comp_def] using hn)
  rw [List.nil_append] at e
  rw [e, upd_upd]
  exact p (.ref l) Hf _ (Ext.refl _) (E.newO hl) (E.newR hl ⟨_, rfl, by simp [Function.comp_def], hn, by simpa [Function.comp_def] using repL_c kds hc⟩)
end

/-! ### an owned object changes -/
section
variable {K : PySem.W.Frag} {mg : Str → Option Value} {fx : List Bool} {vs0 : List V} {Hr Hf Hf' H H' : Hp} {σ : St} {ρ : Env} {c c' : Cell} {i : Nat} {a : Addr} {o : HO}
theorem EnvOk.mutate (E : EnvOk K mg fx vs0 Hr Hf H σ ρ) (hc : ρ[i]? = some c) (ho : isOwn c = true) (hs : σ[i]? = some (some (.ref a))) (h' : OwnsO K mg Hf c' o) : EnvOk K mg fx vs0 Hr Hf (upd H a o) σ (ρ.set i c') := by
  obtain ⟨b, u, h1, h2, h3, h4, h5⟩ := (E.cel i c hc).own ho
  rw [joinEq, hs] at h1; cases h1
  have hi : i < ρ.length := (List.getElem?_eq_some_iff.mp hc).1
  have own' : ∀ {j : Nat} {b : Addr}, OwnAt σ (ρ.set i c') j b → OwnAt σ ρ j b := fun {j b} ⟨⟨c2, hc2, ho2⟩, hs2⟩ => by
    by_cases hj : i = j
    · subst hj; exact ⟨⟨c, hc, ho⟩, hs2⟩
    · rw [List.getElem?_set_ne hj] at hc2; exact ⟨⟨c2, hc2, ho2⟩, hs2⟩
  refine ⟨by rw [List.length_set]; exact E.len, fun b u hb => ?_, fun b u hb => ?_, E.dis, fun j c2 hc2 => ?_, fun j k b p q => E.inj j k b (own' p) (own' q), E.fix⟩
  · rw [upd_ne (ne_of_none hb h4)]; exact E.sub b u hb
  · rw [upd_ne (ne_of_none hb h5)]; exact E.frm b u hb
  · by_cases hj : i = j
    · subst hj
      rw [List.getElem?_set_self hi] at hc2; cases hc2
      exact .ofOwn h'.isOwn ⟨_, o, joinEq.mpr hs, upd_same, h', h4, h5⟩
    · rw [List.getElem?_set_ne hj] at hc2
      refine (E.cel j c2 hc2).step (Ext.refl _) fun ho2 b u k1 k2 k3 k4 => ⟨?_, k3, k4⟩
      have : b ≠ a := fun z => by
        subst z
        exact hj (E.inj i j b ⟨⟨c, hc, ho⟩, hs⟩ ⟨⟨c2, hc2, ho2⟩, joinEq.mp k1⟩)
      rw [upd_ne this]; exact k2
theorem EnvOk.ownAt (E : EnvOk K mg fx vs0 Hr Hf H σ ρ) (hc : ρ[i]? = some c) (ho : isOwn c = true) : ∃ a u, σ[i]? = some (some (.ref a)) ∧ H a = some u ∧ OwnsO K mg Hf c u := by
  obtain ⟨b, u, h1, h2, h3, h4, h5⟩ := (E.cel i c hc).own ho
  exact ⟨b, u, joinEq.mp h1, h2, h3⟩
end
/-- the name is an owned list ahead and behind -/
def ownL (ρ : Env) (i : Nat) : Option (List D) := match ρ[i]? with
  | some (.own xs) => some xs
  | _ => none
theorem ownL_some {ρ : Env} {i : Nat} {xs : List D} (h : ownL ρ i = some xs) : ρ[i]? = some (.own xs) := by
  unfold ownL at h
  split at h
  · rename_i ys e; cases h; exact e
  · cases h
/-- x.append(e) -/
def mApp (i : Nat) (m : ME) : ME := fun ρ => match ownL ρ i with
  | none => .bad
  | some _ => match m ρ with
    | .ok r ρ1 => match frz r ρ1 with
      | some (d, ρ2) => match ownL ρ2 i with
        | some xs => if xs.length < sizeLine then .ok (.dd .non) (ρ2.set i (.own (xs ++ [d]))) else .bad
        | none => .bad
      | none => .bad
    | .exc x ρ1 => .exc x ρ1
    | .bad => .bad
def mPop (i : Nat) : ME := fun ρ => match ownL ρ i with
  | none => .bad
  | some xs => match xs.getLast? with
    | some d => .ok (.dd d) (ρ.set i (.own xs.dropLast))
    | none => .bad
/-- x.insert(k, e) -/
def mIns (i : Nat) (mk me : ME) : ME := fun ρ => match ownL ρ i with
  | none => .bad
  | some _ => match mk ρ with
    | .ok rk ρ1 => match use rk.fix ρ1 with
      | some (.int k) => match me ρ1 with
        | .ok r ρ2 => match frz r ρ2 with
          | some (d, ρ3) => match ownL ρ3 i with
            | some xs => if xs.length < sizeLine ∧ 0 ≤ k ∧ k.natAbs < 2 ^ 63 then .ok (.dd .non) (ρ3.set i (.own (xs.take k.toNat ++ [d] ++ xs.drop k.toNat))) else .bad
            | none => .bad
          | none => .bad
        | .exc x ρ2 => .exc x ρ2
        | .bad => .bad
      | _ => .bad
    | .exc x ρ1 => .exc x ρ1
    | .bad => .bad
section
variable {X : Cx} {W : WX} {o e k : Expr} {te tk : TE} {me mk : ME} {apos cpos : Pos}
theorem de_app (i : Nat) (ho : DE X W o (tVar i) (mVar i)) (he : DE X W e te me) (hbase : attributeBase o "append" X.env (eval o X.env) = eval o X.env := by rfl)
    (hfew : ((backTo cpos (starEach (e :: []) X.env)).all (fun x => !x.1) && (backToKw cpos (keywordEach [] X.env)).all (fun x => x.1.isSome)
      && decide ((e :: ([] : List Expr)).length + ([] : List Keyword).length + (if ([] : List Keyword).isEmpty then 0 else 1) < 30)) = true := by rfl)
    (hline : (apos.endLine == cpos.line) = true := by rfl) (hs : starEach (e :: []) X.env = (false, eval e X.env) :: starEach [] X.env := by rfl) (hplain : (backTo cpos (starEach [] X.env)).any (·.1) = false := by rfl) :
    DE X W (.Call (.Attribute o "append" apos) [e] [] cpos) (tBM X.K "list" rAppend (tVar i) (tCons te tNil)) (mApp i me) := by
  refine ⟨pe_bm PySem.F.plainAttrs_list PySem.F.slot_list_append PySem.F.type_list_append mt_append ho.pe (pa_cons he.pe pa_nil hs) hbase hfew hline hs hplain, fun fx vs0 Hr Hf H σ ρ Q E p => ?_⟩
  unfold mApp at p
  cases h0 : ownL ρ i with
  | none => simp only [h0] at p; exact p.elim
  | some xs0 =>
    simp only [h0] at p
    obtain ⟨a, u, s1, s2, vs0', rfl, s3⟩ := E.ownAt (ownL_some h0) rfl
    refine ⟨.ref a, s1, .inl ⟨rfl, _, .of s2⟩, he.se fx vs0 Hr Hf H σ ρ _ E ?_⟩
    cases hm : me ρ with
    | bad => simp only [hm] at p; exact p
    | exc x ρ1 => simp only [hm] at p; exact p
    | ok r ρ1 =>
      simp only [hm] at p
      intro v F H1 e1 E1 q1
      cases hz : frz r ρ1 with
      | none => simp only [hz] at p; exact p.elim
      | some x =>
        obtain ⟨d, ρ2⟩ := x
        simp only [hz] at p
        obtain ⟨F', e', E2, r2⟩ := frz_ok E1 q1 hz
        cases h2 : ownL ρ2 i with
        | none => simp only [h2] at p; exact p.elim
        | some xs =>
          simp only [h2] at p
          by_cases hl : xs.length < sizeLine
          · rw [if_pos hl] at p
            obtain ⟨a', u, t1, t2, vs, rfl, t3⟩ := E2.ownAt (ownL_some h2) rfl
            rw [s1] at t1; cases t1
            exact ⟨a, vs, v, rfl, rfl, t2, by rw [t3.length]; exact hl, p .non F' _ (e1.trans e') (E2.mutate (ownL_some h2) rfl s1 ⟨_, rfl, t3.append (.cons r2 .nil)⟩) rfl⟩
          · rw [if_neg hl] at p; exact p.elim
theorem de_pop (i : Nat) (ho : DE X W o (tVar i) (mVar i)) (hbase : attributeBase o "pop" X.env (eval o X.env) = eval o X.env := by rfl) (hline : (apos.endLine == cpos.line) = true := by rfl) :
    DE X W (.Call (.Attribute o "pop" apos) [] [] cpos) (tBM0 X.K "list" rPop (tVar i)) (mPop i) := by
  refine ⟨pe_bm0 PySem.F.plainAttrs_list PySem.F.slot_list_pop PySem.F.type_list_pop mt_pop ho.pe hbase hline, fun fx vs0 Hr Hf H σ ρ Q E p => ?_⟩
  unfold mPop at p
  cases h0 : ownL ρ i with
  | none => simp only [h0] at p; exact p.elim
  | some xs =>
    simp only [h0] at p
    obtain ⟨a, u, s1, s2, vs, rfl, s3⟩ := E.ownAt (ownL_some h0) rfl
    cases hg : xs.getLast? with
    | none => simp only [hg] at p; exact p.elim
    | some d =>
      simp only [hg] at p
      rw [List.getLast?_eq_getElem?] at hg
      obtain ⟨v, k1, k2⟩ := s3.get hg
      refine ⟨.ref a, s1, .inl ⟨rfl, _, .of s2⟩, a, vs, v, rfl, rfl, s2, by rw [s3.length]; exact k1, ?_⟩
      exact p v Hf _ (Ext.refl _) (E.mutate (ownL_some h0) rfl s1 ⟨_, rfl, s3.dropLast⟩) k2
theorem de_ins (i : Nat) (ho : DE X W o (tVar i) (mVar i)) (hk : DE X W k tk mk) (he : DE X W e te me) (hbase : attributeBase o "insert" X.env (eval o X.env) = eval o X.env := by rfl)
    (hfew : ((backTo cpos (starEach (k :: [e]) X.env)).all (fun x => !x.1) && (backToKw cpos (keywordEach [] X.env)).all (fun x => x.1.isSome)
      && decide ((k :: ([e] : List Expr)).length + ([] : List Keyword).length + (if ([] : List Keyword).isEmpty then 0 else 1) < 30)) = true := by rfl)
    (hline : (apos.endLine == cpos.line) = true := by rfl) (hs : starEach (k :: [e]) X.env = (false, eval k X.env) :: starEach [e] X.env := by rfl) (hs2 : starEach (e :: []) X.env = (false, eval e X.env) :: starEach [] X.env := by rfl) (hplain : (backTo cpos (starEach [e] X.env)).any (·.1) = false := by rfl) :
    DE X W (.Call (.Attribute o "insert" apos) [k, e] [] cpos) (tBM X.K "list" (fun x vs H Q => ∃ (l : Addr) (xs : List V) (i : Int) (y : V), x = .ref l ∧ vs = [.int i, y] ∧ H l = some (.lst xs) ∧ xs.length < sizeLine ∧ 0 ≤ i ∧ i < 2 ^ 63 ∧ Q .non (upd H l (.lst (xs.take i.toNat ++ [y] ++ xs.drop i.toNat)))) (tVar i) (tCons tk (tCons te tNil))) (mIns i mk me) := by
  refine ⟨pe_bm PySem.F.plainAttrs_list PySem.F.slot_list_insert PySem.F.type_list_insert mt_insert ho.pe (pa_cons hk.pe (pa_cons he.pe pa_nil hs2) hs) hbase hfew hline hs hplain, fun fx vs0 Hr Hf H σ ρ Q E p => ?_⟩
  unfold mIns at p
  cases h0 : ownL ρ i with
  | none => simp only [h0] at p; exact p.elim
  | some xs0 =>
    simp only [h0] at p
    obtain ⟨a, u, s1, s2, vs0', rfl, s3⟩ := E.ownAt (ownL_some h0) rfl
    refine ⟨.ref a, s1, .inl ⟨rfl, _, .of s2⟩, hk.se fx vs0 Hr Hf H σ ρ _ E ?_⟩
    cases hm : mk ρ with
    | bad => simp only [hm] at p; exact p
    | exc x ρ1 => simp only [hm] at p; exact p
    | ok rk ρ1 =>
      simp only [hm] at p
      intro vk F H1 e1 E1 q1
      obtain ⟨F', e', E2, q2⟩ := q1.fixed E1
      cases hu : use rk.fix ρ1 with
      | none => simp only [hu] at p; exact p.elim
      | some dk =>
        have uk := use_ok E2 q2 hu
        simp only [hu] at p
        cases dk with
        | int kk =>
          cases (show vk = .int kk from uk)
          refine he.se fx vs0 Hr F' H1 σ ρ1 _ E2 ?_
          simp only at p
          cases hm2 : me ρ1 with
          | bad => simp only [hm2] at p; exact p
          | exc x ρ2 => simp only [hm2] at p; exact PostE.mono p (e1.trans e')
          | ok r ρ2 =>
            simp only [hm2] at p
            intro v F2 H2 e2 E3 q3
            cases hz : frz r ρ2 with
            | none => simp only [hz] at p; exact p.elim
            | some x =>
              obtain ⟨d, ρ3⟩ := x
              simp only [hz] at p
              obtain ⟨F3, e3, E4, r4⟩ := frz_ok E3 q3 hz
              cases h2 : ownL ρ3 i with
              | none => simp only [h2] at p; exact p.elim
              | some xs =>
                simp only [h2] at p
                by_cases hl : xs.length < sizeLine ∧ 0 ≤ kk ∧ kk.natAbs < 2 ^ 63
                · rw [if_pos hl] at p
                  obtain ⟨a', u, t1, t2, vs, rfl, t3⟩ := E4.ownAt (ownL_some h2) rfl
                  rw [s1] at t1; cases t1
                  exact ⟨a, vs, kk, v, rfl, rfl, t2, by rw [t3.length]; exact hl.1, hl.2.1, by omega, p .non F3 _ (((e1.trans e').trans e2).trans e3) (E4.mutate (ownL_some h2) rfl s1 ⟨_, rfl, ((t3.take _).append (.cons r4 .nil)).append (t3.drop _)⟩) rfl⟩
                · rw [if_neg hl] at p; exact p.elim
        | _ => exact p.elim
end
/-! ### x[k] = e -/
def dput : List Key → List D → Key → D → List Key × List D
  | k' :: ks, v :: vs, k, d => if k' = k then (k' :: ks, d :: vs) else ((dput ks vs k d).1.cons k', (dput ks vs k d).2.cons v)
  | ks, vs, k, d => (ks ++ [k], vs ++ [d])
def mPut (i : Nat) (mk me : ME) : MS := fun ρ => match me ρ with
  | .ok r ρ1 => match frz r ρ1 with
    | some (d, ρ2) => match ρ2[i]? with
      | some .no => .bad
      | none => .bad
      | some _ => match mk ρ2 with
        | .ok rk ρ3 => match use rk.fix ρ3 with
          | some kd => match ρ3[i]? with
            | some (.own xs) => match kd with
              | .int k => match ixN xs.length k with
                | some j => .nx (ρ3.set i (.own (xs.set j d)))
                | none => .bad
              | _ => .bad
            | some (.ownD ks vs) => match kd.key with
              | some k => if ks.length < sizeLine then .nx (ρ3.set i (.ownD (dput ks vs k d).1 (dput ks vs k d).2)) else .bad
              | none => .bad
            | _ => .bad
          | none => .bad
        | .exc x ρ3 => .exc x ρ3
        | .bad => .bad
    | none => .bad
  | .exc x ρ1 => .exc x ρ1
  | .bad => .bad
def rSetA : TSet := fun o i v H Q => rSetL o i v H Q ∨ rSetD o i v H Q
theorem set_any {X : Cx} (hu : X.A.units + 1 < cLine) : PSet X rSetA := by
  intro pins s σ H o i v ov iv u Q I ro ri rv h
  rcases h with h | h
  · exact set_list pins s σ H o i v ov iv u Q I ro ri rv h
  · exact set_dict hu pins s σ H o i v ov iv u Q I ro ri rv h
theorem putK_hit {kvs : List (Key × V)} {k : Key} {v : V} (p : Key × V) (e : p.1 = k) (hn : ((p :: kvs).map (·.1)).Nodup) : putK (p :: kvs) k v = (p.1, v) :: kvs := by
  unfold putK
  rw [if_pos (by simp [e])]
  rw [List.map_cons, if_pos e]
  congr 1
  have : ∀ q ∈ kvs, (if q.1 = k then (q.1, v) else q) = q := fun q hq => by
    rw [if_neg]
    intro z
    rw [List.map_cons, List.nodup_cons] at hn
    exact hn.1 (by rw [e, ← z]; exact List.mem_map_of_mem hq)
  rw [List.map_congr_left this, List.map_id'']
  exact fun _ => rfl
theorem putK_miss {kvs : List (Key × V)} {k : Key} {v : V} (p : Key × V) (e : ¬ p.1 = k) : putK (p :: kvs) k v = p :: putK kvs k v := by
  unfold putK
  rw [List.any_cons, decide_eq_false e, Bool.false_or]
  by_cases h : (kvs.any fun kv => decide (kv.1 = k)) = true
  · rw [if_pos h, if_pos h, List.map_cons, if_neg e]
  · rw [if_neg h, if_neg h]; rfl
theorem dput_ok {K : PySem.W.Frag} {mg : Str → Option Value} {Hf : Hp} {k : Key} {d : D} {v : V} (rd : Rep K mg Hf d v) : ∀ {kvs : List (Key × V)} {ks : List Key} {ds : List D}, kvs.map (·.1) = ks → ks.Nodup → RepL K mg Hf ds (kvs.map (·.2)) →
    (putK kvs k v).map (·.1) = (dput ks ds k d).1 ∧ RepL K mg Hf (dput ks ds k d).2 ((putK kvs k v).map (·.2)) ∧ ((dput ks ds k d).1).Nodup ∧ (∀ x, x ∈ (dput ks ds k d).1 → x ∈ ks ∨ x = k)
  | [], _, [], h, n, r => by
    subst h
    refine ⟨rfl, ⟨v, [], rfl, rd, rfl⟩, by simp [dput], fun x hx => ?_⟩
    simp [dput] at hx
    exact .inr hx
  | [], _, _ :: _, h, n, ⟨_, _, h1, _⟩ => by cases h1
  | p :: kvs, _, [], h, n, r => by have := r.length; simp at this
  | p :: kvs, _, d' :: ds, h, n, ⟨w, ws, h1, h2, h3⟩ => by
    subst h
    have h1 : p.2 :: kvs.map (·.2) = w :: ws := h1
    cases h1
    by_cases hk : p.1 = k
    · rw [putK_hit p hk n]
      simp only [List.map_cons, dput, if_pos hk]
      exact ⟨trivial, ⟨v, _, rfl, rd, h3⟩, n, fun x hx => .inl hx⟩
    · rw [putK_miss p hk]
      simp only [List.map_cons, dput, if_neg hk]
      obtain ⟨k1, k2, k3, k4⟩ := dput_ok rd (kvs := kvs) rfl (List.nodup_cons.mp n).2 h3
      refine ⟨by rw [k1], ⟨p.2, _, rfl, h2, k2⟩, List.nodup_cons.mpr ⟨fun z => ?_, k3⟩, fun x hx => ?_⟩
      · rcases k4 _ z with z | z
        · exact (List.nodup_cons.mp n).1 z
        · exact hk z
      · rcases List.mem_cons.mp hx with rfl | hx
        · exact .inl List.mem_cons_self
        · rcases k4 x hx with z | z
          · exact .inl (List.mem_cons_of_mem _ z)
          · exact .inr z
section
variable {X : Cx} {W : WX} {fx : List Bool} {o k e : Expr} {te tk : TE} {me mk : ME} {pos pos' : Pos}
theorem ds_put (i : Nat) (hu : X.A.units + 1 < cLine) (ho : DE X W o (tVar i) (mVar i)) (hk : DE X W k tk mk) (he : DE X W e te me) (hs : swapsWithSole [.Subscript o k pos'] e pos.line X.env = pure false := by rfl) (hw : swappedStores [.Subscript o k pos'] e X.env = pure none := by rfl)
    (h1 : (assignEach [.Subscript o k pos'] X.env).map (·.2) = [assign (.Subscript o k pos') X.env] := by rfl)
    (ha : ∀ v, assign (.Subscript o k pos') X.env v = (do
      let ov ← holding [v] (eval o X.env)
      let iv ← holding [v, ov] (eval k X.env)
      standAt pos'
      holding [v, ov, iv] (setItem ov iv v)
      release [v, ov, iv] []) := by intro _; rfl) : DS X W fx (.Assign [.Subscript o k pos'] e pos) (tAsg te (gSub (tVar i) tk rSetA)) (mPut i mk me) := by
  refine ⟨ps_asg he.pe (pg_sub ho.pe hk.pe (set_any hu) ha) hs hw h1, fun vs0 Hr Hf H σ ρ D E p => he.se fx vs0 Hr Hf H σ ρ _ E ?_⟩
  unfold mPut at p
  cases hm : me ρ with
  | bad => simp only [hm] at p; exact p
  | exc x ρ1 => simp only [hm] at p; exact fun C h1 F H' e E' => p C h1 σ F H' e E'
  | ok r ρ1 =>
    simp only [hm] at p
    intro v F H1 e1 E1 q1
    cases hz : frz r ρ1 with
    | none => simp only [hz] at p; exact p.elim
    | some x =>
      obtain ⟨d, ρ2⟩ := x
      simp only [hz] at p
      obtain ⟨F', e', E2, r2⟩ := frz_ok E1 q1 hz
      have go : ∀ c, ρ2[i]? = some c → c ≠ .no → PostS X.K X.mg W fx vs0 Hr Hf (match mk ρ2 with
        | .ok rk ρ3 => match use rk.fix ρ3 with
          | some kd => match ρ3[i]? with
            | some (.own xs) => match kd with
              | .int k => match ixN xs.length k with
                | some j => .nx (ρ3.set i (.own (xs.set j d)))
                | none => .bad
              | _ => .bad
            | some (.ownD ks vs) => match kd.key with
              | some k => if ks.length < sizeLine then .nx (ρ3.set i (.ownD (dput ks vs k d).1 (dput ks vs k d).2)) else .bad
              | none => .bad
            | _ => .bad
          | none => .bad
        | .exc x ρ3 => .exc x ρ3
        | .bad => .bad) D → gSub (tVar i) tk rSetA v σ H1 D.nx := fun c hc hn p => by
        obtain ⟨w, sw⟩ := (E2.cel i c hc).some hn
        have sw := joinEq.mp sw
        refine ⟨w, sw, hk.se fx vs0 Hr F' H1 σ ρ2 _ E2 ?_⟩
        cases hm2 : mk ρ2 with
        | bad => simp only [hm2] at p; exact p
        | exc x ρ3 => simp only [hm2] at p; exact fun C h1 F2 H' e E' => p C h1 σ F2 H' ((e1.trans e').trans e) E'
        | ok rk ρ3 =>
          simp only [hm2] at p
          intro vk F2 H2 e2 E3 q3
          obtain ⟨F3, e3, E4, q4⟩ := q3.fixed E3
          cases hu2 : use rk.fix ρ3 with
          | none => simp only [hu2] at p; exact p.elim
          | some kd =>
            have uk := use_ok E4 q4 hu2
            simp only [hu2] at p
            have rd := r2.mono (e2.trans e3)
            cases hc3 : ρ3[i]? with
            | none => simp only [hc3] at p; exact p.elim
            | some c3 =>
              simp only [hc3] at p
              cases c3 with
              | no => exact p.elim
              | val _ => exact p.elim
              | own xs =>
                simp only at p
                obtain ⟨a, u, t1, t2, vs, rfl, t3⟩ := E4.ownAt hc3 rfl
                rw [sw] at t1; cases t1
                cases kd with
                | int kk =>
                  simp only at p
                  cases hj : ixN xs.length kk with
                  | none => simp only [hj] at p; exact p.elim
                  | some j =>
                    simp only [hj] at p
                    refine .inl ⟨a, vs, kk, j, rfl, uk, t2, by rw [t3.length]; exact hj, ?_⟩
                    exact p σ F3 _ (((e1.trans e').trans e2).trans e3) (E4.mutate hc3 rfl sw ⟨_, rfl, t3.set j rd⟩)
                | _ => exact p.elim
              | ownD ks xs =>
                simp only at p
                obtain ⟨a, u, t1, t2, kvs, rfl, t3, t4, t5⟩ := E4.ownAt hc3 rfl
                rw [sw] at t1; cases t1
                cases hkk : kd.key with
                | none => simp only [hkk] at p; exact p.elim
                | some kk =>
                  simp only [hkk] at p
                  by_cases hl : ks.length < sizeLine
                  · rw [if_pos hl] at p
                    obtain ⟨z1, z2, z3, _⟩ := dput_ok rd (k := kk) t3 t4 t5
                    refine .inr ⟨a, _, rfl, by rw [uk.key hkk]; exact DPut.k t2 (by rw [← t3, List.length_map] at hl; exact hl), ?_⟩
                    exact p σ F3 _ (((e1.trans e').trans e2).trans e3) (E4.mutate hc3 rfl sw ⟨_, rfl, z1, z3, z2⟩)
                  · rw [if_neg hl] at p; exact p.elim
      cases hc : ρ2[i]? with
      | none => simp only [hc] at p; exact p.elim
      | some c =>
        simp only [hc] at p
        cases c with
        | no => exact p.elim
        | _ => exact go _ hc (by intro z; cases z) p
end
/-! ### "sep".join(list of texts) -/
def strL : List D → Option (List Str)
  | [] => some []
  | .str s :: ds => (strL ds).map (s :: ·)
  | _ => none
theorem strL_rep {K : PySem.W.Frag} {mg : Str → Option Value} {Hf : Hp} : ∀ {ds : List D} {vs : List V} {bs : List Str}, RepL K mg Hf ds vs → strL ds = some bs → vs = bs.map V.str
  | [], _, _, h, e => by have h : _ = [] := h; subst h; cases e; rfl
  | .str b :: ds, _, _, ⟨v, ws, h1, h2, h3⟩, e => by
    obtain ⟨cs, e1, rfl⟩ := Option.map_eq_some_iff.mp e
    subst h1
    rw [strL_rep h3 e1]
    cases (show v = .str b from h2)
    rfl
  | .non :: _, _, _, _, e => by cases e
  | .int _ :: _, _, _, _, e => by cases e
  | .bl _ :: _, _, _, _, e => by cases e
  | .ty _ :: _, _, _, _, e => by cases e
  | .fn _ :: _, _, _, _, e => by cases e
  | .lst _ :: _, _, _, _, e => by cases e
  | .fls _ :: _, _, _, _, e => by cases e
  | .tup _ :: _, _, _, _, e => by cases e
  | .dct _ _ :: _, _, _, _, e => by cases e
def mJoin (mo me : ME) : ME := mB mo fun ra ρ1 => match use ra ρ1 with
  | some (.str a) => mB me (fun rb ρ2 => match use rb ρ2 with
    | some (.lst xs) => match strL xs with
      | some ys => if (ys.map (·.length)).sum + ys.length * a.length ≤ 16777216 then .ok (.dd (.str (Txt.join a ys))) ρ2 else .bad
      | none => .bad
    | _ => .bad) ρ1
  | _ => .bad
section
variable {X : Cx} {W : WX} {o e : Expr} {to te : TE} {mo me : ME} {apos pos : Pos}
theorem de_txtjoin (ho : DE X W o to mo) (he : DE X W e te me) (hs : starEach [e] X.env = [(false, eval e X.env)] := by rfl) (hbase : attributeBase o "join" X.env (eval o X.env) = eval o X.env := by rfl) (hline : (apos.endLine == pos.line) = true := by rfl) :
    DE X W (.Call (.Attribute o "join" apos) [e] [] pos) (tM1 (fun x xs H Q => ∃ a p, ∃ ys : List Str, x = .str a ∧ xs = [.ref p] ∧ (SqL X.K H p (ys.map V.str) ∨ SqT X.K H p (ys.map V.str)) ∧
      (ys.map (·.length)).sum + ys.length * a.length ≤ 16777216 ∧ Q (.str (Txt.join a ys)) H) to te) (mJoin mo me) := by
  refine ⟨L2.pe_join ho.pe he.pe hs hbase hline, fun fx vs0 Hr Hf H σ ρ Q E p => ?_⟩
  refine ho.se.bind E p fun ra ρ1 x F1 H1 e1 E1 c1 s1 h1 => ?_
  cases hra : use ra ρ1 with
  | none => simp only [hra] at h1; exact h1.elim
  | some d =>
    have u := use_ok E1 (s1 Hr F1 H1 ρ1 (Ext.refl _)) hra
    simp only [hra] at h1
    cases d with
    | str a =>
      cases (show x = .str a from u)
      refine ⟨⟨a, rfl⟩, he.se.bind E1 h1 fun rb ρ2 y F2 H2 e2 E2 c2 s2 h2 => ?_⟩
      cases hrb : use rb ρ2 with
      | none => simp only [hrb] at h2; exact h2.elim
      | some d2 =>
        have u2 := use_ok E2 (s2 Hr F2 H2 ρ2 (Ext.refl _)) hrb
        simp only [hrb] at h2
        cases d2 with
        | lst xs =>
          simp only at h2
          cases hs : strL xs with
          | none => simp only [hs] at h2; exact h2.elim
          | some ys =>
            simp only [hs] at h2
            by_cases hz : (ys.map (·.length)).sum + ys.length * a.length ≤ 16777216
            · rw [if_pos hz] at h2
              obtain ⟨l, vs, rfl, k1, k2⟩ := u2
              have := strL_rep k2 hs
              subst this
              exact ⟨a, l, ys, rfl, rfl, .inl (.of k1), hz, E2.giveD h2 rfl⟩
            · rw [if_neg hz] at h2; exact h2.elim
        | _ => exact h2.elim
    | _ => exact h1.elim
end

/-! ### dicts of the written part: x is the global name of the dict at d; tbl tells of the words that are asked -/
structure KTab (K : PySem.W.Frag) (w : World) (mg : Str → Option Value) (x : Str) (d : Addr) (tbl : List (Str × Option D)) : Prop where
  at_ : mg x = some (.ref d)
  kd : ∃ es n, KDict K w d es n
  tab : ∀ p ∈ tbl, match p.2 with
    | some D => ∃ u v, PySem.W.nsIn K d p.1 = some (some u) ∧ RelV v u ∧ ∀ H, Rep K mg H D v
    | none => PySem.W.nsIn K d p.1 = some none
theorem lookup_mem {α : Type} : ∀ {l : List (Str × α)} {n : Str} {c : α}, l.lookup n = some c → (n, c) ∈ l
  | (k, v) :: r, n, c, h => by
    rw [List.lookup_cons] at h
    cases hb : n == k with
    | true =>
      rw [hb] at h
      cases h
      have : n = k := by simpa using hb
      subst this
      exact List.mem_cons_self
    | false => rw [hb] at h; exact List.mem_cons_of_mem _ (lookup_mem h)
def mKGet (tbl : List (Str × Option D)) (mk : ME) : ME := mB mk fun r ρ => match use r ρ with
  | some (.str k) => match tbl.lookup k with
    | some (some d) => .ok (.dd d) ρ
    | _ => .bad
  | _ => .bad
def mKIn (tbl : List (Str × Option D)) (neg : Bool) (mk : ME) : ME := mB mk fun r ρ => match use r ρ with
  | some (.str k) => match tbl.lookup k with
    | some o => .ok (.dd (.bl (if neg then !o.isSome else o.isSome))) ρ
    | none => .bad
  | _ => .bad
section
variable {X : Cx} {W : WX} {k : Expr} {tk : TE} {mk : ME} {p pos : Pos} {x : Str} {d : Addr} {tbl : List (Str × Option D)}
theorem de_kget (T : KTab X.K X.w X.mg x d tbl) (h : DE X W k tk mk) (hp : PlainIx k) (hg : Gl X x := by rfl) (hd : (x == ("__debug__" : Str)) = false := by decide) :
    DE X W (.Subscript (.Name x p) k pos) (tOp (rIxD X.K X.w) (tC (.ref d)) tk) (mKGet tbl mk) := by
  refine ⟨pe_ix ix_kdict (pe_glob hg T.at_ rfl hd) h.pe hp, fun fx vs0 Hr Hf H σ ρ Q E p => ?_⟩
  refine h.se.bind E p fun r ρ1 y F1 H1 e1 E1 c1 s1 q => ?_
  cases hu : use r ρ1 with
  | none => simp only [hu] at q; exact q.elim
  | some dk =>
    have u := use_ok E1 (s1 Hr F1 H1 ρ1 (Ext.refl _)) hu
    simp only [hu] at q
    cases dk with
    | str z =>
      cases (show y = .str z from u)
      simp only at q
      cases hl : tbl.lookup z with
      | none => simp only [hl] at q; exact q.elim
      | some o =>
        cases o with
        | none => simp only [hl] at q; exact q.elim
        | some dd =>
          simp only [hl] at q
          obtain ⟨u0, v0, n1, n2, n3⟩ := T.tab _ (lookup_mem hl)
          obtain ⟨es, n, kd⟩ := T.kd
          exact ⟨d, z, v0, rfl, rfl, ⟨es, n, u0, kd.at_, kd.lit, n1, n2⟩, E1.giveD q (n3 _)⟩
    | _ => exact q.elim
theorem kin_ok {neg : Bool} {fx : List Bool} {vs0 : List V} {Hr Hf H : Hp} {σ : St} {ρ : Env} {Q : VK} (T : KTab X.K X.w X.mg x d tbl) (h : DE X W k tk mk) (E : EnvOk X.K X.mg fx vs0 Hr Hf H σ ρ) (p : PostE X.K X.mg W fx vs0 Hr Hf σ (mKIn tbl neg mk ρ) Q) :
    tk σ H fun y H1 => ∃ (z : Str) (r : Option Value), y = .str z ∧ V.ref d = .ref d ∧ PySem.W.nsIn X.K d z = some r ∧ Q (.bl (if neg then !r.isSome else r.isSome)) H1 := by
  refine h.se.bind E p fun r ρ1 y F1 H1 e1 E1 c1 s1 q => ?_
  cases hu : use r ρ1 with
  | none => simp only [hu] at q; exact q.elim
  | some dk =>
    have u := use_ok E1 (s1 Hr F1 H1 ρ1 (Ext.refl _)) hu
    simp only [hu] at q
    cases dk with
    | str z =>
      cases (show y = .str z from u)
      simp only at q
      cases hl : tbl.lookup z with
      | none => simp only [hl] at q; exact q.elim
      | some o =>
        simp only [hl] at q
        have t := T.tab _ (lookup_mem hl)
        cases o with
        | none => exact ⟨z, none, rfl, rfl, t, E1.giveD q rfl⟩
        | some dd =>
          obtain ⟨u0, v0, n1, n2, n3⟩ := t
          exact ⟨z, some u0, rfl, rfl, n1, E1.giveD q rfl⟩
    | _ => exact q.elim
def rKIn (K : PySem.W.Frag) (d : Addr) : R2 := fun x y H Q => ∃ (z : Str) (r : Option Value), x = .str z ∧ y = .ref d ∧ PySem.W.nsIn K d z = some r ∧ Q (.bl r.isSome) H
def rKNotIn (K : PySem.W.Frag) (d : Addr) : R2 := fun x y H Q => ∃ (z : Str) (r : Option Value), x = .str z ∧ y = .ref d ∧ PySem.W.nsIn K d z = some r ∧ Q (.bl (!r.isSome)) H
theorem de_kin (T : KTab X.K X.w X.mg x d tbl) (h : DE X W k tk mk) (hg : Gl X x := by rfl) (hd : (x == ("__debug__" : Str)) = false := by decide) : DE X W (.Compare k [.In] [.Name x p] pos) (tOp (rKIn X.K d) tk (tC (.ref d))) (mKIn tbl false mk) := by
  obtain ⟨es, n, kd⟩ := T.kd
  exact ⟨pe_cmpR (op_in_kd kd) h.pe (pe_glob hg T.at_ rfl hd) rfl, fun fx vs0 Hr Hf H σ ρ Q E p => kin_ok T h E p⟩
theorem de_knotin (T : KTab X.K X.w X.mg x d tbl) (h : DE X W k tk mk) (hg : Gl X x := by rfl) (hd : (x == ("__debug__" : Str)) = false := by decide) : DE X W (.Compare k [.NotIn] [.Name x p] pos) (tOp (rKNotIn X.K d) tk (tC (.ref d))) (mKIn tbl true mk) := by
  obtain ⟨es, n, kd⟩ := T.kd
  exact ⟨pe_cmpR (op_notIn_kd kd) h.pe (pe_glob hg T.at_ rfl hd) rfl, fun fx vs0 Hr Hf H σ ρ Q E p => kin_ok T h E p⟩
theorem dt_kin (T : KTab X.K X.w X.mg x d tbl) (h : DE X W k tk mk) (hg : Gl X x := by rfl) (hd : (x == ("__debug__" : Str)) = false := by decide) : DT X W (.Compare k [.In] [.Name x p] pos) (tTest (tOp (rKIn X.K d) tk (tC (.ref d)))) (mTest D.bool (mKIn tbl false mk)) := by
  obtain ⟨es, n, kd⟩ := T.kd
  have s : SE X.K X.mg W (tOp (rKIn X.K d) tk (tC (.ref d))) (mKIn tbl false mk) := fun fx vs0 Hr Hf H σ ρ Q E p => kin_ok T h E p
  exact ⟨pt_cmpR (op_in_kd kd) h.pe (pe_glob hg T.at_ rfl hd) rfl, fun fx vs0 Hr Hf H σ ρ Q E p => s.test E p fun d b v Hf1 H1 ρ1 _ E1 q e k => ⟨b, q.bool e, k⟩⟩
theorem dt_knotin (T : KTab X.K X.w X.mg x d tbl) (h : DE X W k tk mk) (hg : Gl X x := by rfl) (hd : (x == ("__debug__" : Str)) = false := by decide) : DT X W (.Compare k [.NotIn] [.Name x p] pos) (tTest (tOp (rKNotIn X.K d) tk (tC (.ref d)))) (mTest D.bool (mKIn tbl true mk)) := by
  obtain ⟨es, n, kd⟩ := T.kd
  have s : SE X.K X.mg W (tOp (rKNotIn X.K d) tk (tC (.ref d))) (mKIn tbl true mk) := fun fx vs0 Hr Hf H σ ρ Q E p => kin_ok T h E p
  exact ⟨pt_cmpR (op_notIn_kd kd) h.pe (pe_glob hg T.at_ rfl hd) rfl, fun fx vs0 Hr Hf H σ ρ Q E p => s.test E p fun d b v Hf1 H1 ρ1 _ E1 q e k => ⟨b, q.bool e, k⟩⟩
end

/-! ### a call of a name that holds one of several defs of the module -/
structure KFns (P : Program) (w : World) (K : PySem.W.Frag) (mg : Str → Option Value) (base : Heap) (k : Nat) (tbl : List (Str × Nat × MF)) : Prop where
  all : ∀ p ∈ tbl, ∃ f fd ps, mg p.1 = some (.ref f) ∧ ps.length = p.2.1 ∧ FnOk P w K mg base (L2.CX P w) k f fd ps (spT K mg p.2.1 p.2.2) ∧ PySem.W.keepIn K (.ref f) = true ∧ Binds K fd ps []
def mCallV (i : Nat) (tbl : List (Str × Nat × MF)) (as : List AM) : ME := fun ρ => match ρ[i]? with
  | some (.val (.fn x)) => match tbl.lookup x with
    | some (n, F) => mCall n F as ρ
    | none => .bad
  | _ => .bad
def tCallT (P : Program) (w : World) (K : PySem.W.Frag) (mg : Str → Option Value) (base : Heap) (k : Nat) (i : Nat) (E : St → XK) (t : TA) : TE := fun σ H Q => ∃ f fd ps sp, σ[i]? = some (some (.ref f)) ∧ FnOk P w K mg base (L2.CX P w) k f fd ps sp ∧ PySem.W.keepIn K (.ref f) = true ∧ Binds K fd ps [] ∧
  t σ H fun vs H1 => sp vs H1 Q (E σ)
section
variable {X : Cx} {W : WX} {i k : Nat} {x : Str} {p pos : Pos} {e : Expr} {es : List Expr} {t : TA} {as : List AM} {tbl : List (Str × Nat × MF)}
theorem pe_callT (hr : Room k X.A) (hN : X.N[i]? = some x) (hv : Vis X.env.scope x) (tk : Takes X W) (ha : PA X (e :: es) t)
    (hdb : (x == ("__debug__" : Str)) = false := by decide) (hcd : (x == ("__classdict__" : Str)) = false := by decide)
    (he : starEach (e :: es) X.env = (false, eval e X.env) :: starEach es X.env := by rfl) (hpl : (backTo pos (starEach es X.env)).any (·.1) = false := by rfl) : PE X (.Call (.Name x p) (e :: es) [] pos) (tCallT X.prog X.w X.K X.mg X.base k i (WE W) t) := by
  refine ⟨fun pins s σ H Q I h => ?_⟩
  obtain ⟨f, fd, ps, sp, hs, F, hk, hb, ht⟩ := h
  refine wpAny_Call_Name_kw (thn ((pe_var (pos := p) hN hv hdb hcd).run pins s σ H (fun v H1 => v = .ref f ∧ H1 = H) I ⟨.ref f, hs, rfl, rfl⟩) fun u s1 ⟨v, H1, I1, r1, q1⟩ => ?_)
  obtain ⟨rfl, rfl⟩ := q1
  cases r1
  refine PySem.W.callWith_K (h₀ := X.base) I.ok.mod.kin hk (thn (ha.run pos pins s1 σ _ _ I1 ht) fun us s2 ⟨vs, H2, I2, r, q⟩ => ⟨I2.kIn, ?_⟩) he hpl
  exact run_fnS F hr hb (passAt tk σ) I2 r q
theorem de_callV (i : Nat) (T : KFns X.prog X.w X.K X.mg X.base k tbl) (hr : Room k X.A) (tk : Takes X W) (ha : DA X W (e :: es) t as) (hN : X.N[i]? = some x := by rfl) (hv : Vis X.env.scope x := by first | exact Or.inl rfl | exact Or.inr (Or.inl rfl) | exact Or.inr (Or.inr rfl))
    (hdb : (x == ("__debug__" : Str)) = false := by decide) (hcd : (x == ("__classdict__" : Str)) = false := by decide)
    (he : starEach (e :: es) X.env = (false, eval e X.env) :: starEach es X.env := by rfl) (hpl : (backTo pos (starEach es X.env)).any (·.1) = false := by rfl) :
    DE X W (.Call (.Name x p) (e :: es) [] pos) (tCallT X.prog X.w X.K X.mg X.base k i (WE W) t) (mCallV i tbl as) := by
  refine ⟨pe_callT hr hN hv tk ha.pa hdb hcd he hpl, fun fx vs0 Hr Hf H σ ρ Q E p => ?_⟩
  unfold mCallV at p
  cases hc : ρ[i]? with
  | none => simp only [hc] at p; exact p.elim
  | some c =>
    simp only [hc] at p
    cases c with
    | val d =>
      cases d with
      | fn y =>
        simp only at p
        cases hl : tbl.lookup y with
        | none => simp only [hl] at p; exact p.elim
        | some nF =>
          obtain ⟨n, F⟩ := nF
          simp only [hl] at p
          obtain ⟨f, fd, ps, m1, m2, m3, m4, m5⟩ := T.all _ (lookup_mem hl)
          obtain ⟨v, h1, f', h2, rfl⟩ := E.cel i _ hc
          rw [m1] at h2; cases h2
          exact ⟨f, fd, ps, _, joinEq.mp h1, m3, m4, m5, se_call ha.sa fx vs0 Hr Hf H σ ρ Q E p⟩
      | _ => exact p.elim
    | _ => exact p.elim
end

/-! ### x[::-1] of a list -/
def oRev : D → Option R
  | .lst xs => some (.ow (.own xs.reverse))
  | .fls xs => some (.ow (.own xs.reverse))
  | _ => none
theorem de_rev {X : Cx} {W : WX} {e : Expr} {te : TE} {m : ME} {k : Nat} {p1 p2 p3 pos : Pos} (h : DE X W e te m) : DE X W (.Subscript e (.Slice none none (some (.UnaryOp .USub (.Constant (.int 1) k p1) p2)) p3) pos) (tRevL X.K te) (m1 oRev m) := by
  refine ⟨pe_revL h.pe, fun fx vs0 Hr Hf H σ ρ Q E p => ?_⟩
  refine h.se.bind E p fun r ρ1 v F H1 e1 E1 c1 s1 q => ?_
  cases hu : use r ρ1 with
  | none => simp only [hu] at q; exact q.elim
  | some d =>
    have u := use_ok E1 (s1 Hr F H1 ρ1 (Ext.refl _)) hu
    simp only [hu] at q
    cases d with
    | lst xs => obtain ⟨a, vs, rfl, h1, h2⟩ := u; exact ⟨a, vs, rfl, .of h1, E1.giveL q h2.reverse⟩
    | fls xs => obtain ⟨a, vs, rfl, h1, h2⟩ := u; exact ⟨a, vs, rfl, E1.sub.sql h1, E1.giveL q h2.reverse⟩
    | _ => exact q.elim
/-! ### a, b = a tuple or a list -/
section
variable {X : Cx} {W : WX} {fx : List Bool} {pos : Pos}
def gSeq (K : PySem.W.Frag) (n : Nat) (t : TGs) : TG := fun v σ H Q => gTup K n t v σ H Q ∨ gLst K n t v σ H Q
theorem pg_seq {es : List Expr} {k : Nat} {t : TGs} {n : Nat} (hc : X.calm = true) (h : PGs X es t) (hn : (assignEach es X.env).length = n := by rfl) (hst : (assignEach es X.env).findIdx? (·.1) = none := by rfl) : PG X (.Tuple es k pos) (gSeq X.K n t) := by
  refine ⟨fun pins s σ H v u Q I r hw => ?_⟩
  rcases hw with hw | hw
  · exact (pg_tup hc h hn hst).run pins s σ H v u Q I r hw
  · exact (pg_lst hc h hn hst).run pins s σ H v u Q I r hw
def mgSeq (is : List Nat) : MG := fun d ρ => match d.items with
  | some ds => if ds.length = is.length then some (setAll ρ is ds) else none
  | none => none
theorem sg_seq {K : PySem.W.Frag} {mg : Str → Option Value} {is : List Nat} {n : Nat} (hn : n = is.length) (hi : ∀ i ∈ is, fx[i]? ≠ some true) : SG K mg fx (gSeq K n (gNames is)) (mgSeq is) := by
  intro vs0 Hr Hf H σ ρ d v ρ' Q E r e q
  unfold mgSeq at e
  cases hd : d.items with
  | none => simp only [hd] at e; cases e
  | some ds =>
    simp only [hd] at e
    by_cases hl : ds.length = is.length
    · simp only [if_pos hl, Option.some.injEq] at e
      subst e
      cases d with
      | tup _ => cases hd; obtain ⟨a, vs, rfl, h2, h3⟩ := r; exact .inl ⟨a, vs, rfl, E.sub.sqt h2, by rw [h3.length, hl, hn], sg_names hi hl E h3 q⟩
      | lst _ => cases hd; obtain ⟨a, vs, rfl, h2, h3⟩ := r; exact .inr ⟨a, vs, rfl, .of (E.sub a _ h2), by rw [h3.length, hl, hn], sg_names hi hl E h3 q⟩
      | fls _ => cases hd; obtain ⟨a, vs, rfl, h2, h3⟩ := r; exact .inr ⟨a, vs, rfl, E.sub.sql h2, by rw [h3.length, hl, hn], sg_names hi hl E h3 q⟩
      | _ => cases hd
    · simp only [if_neg hl] at e; cases e
theorem dg_seq {es : List Expr} {k : Nat} (is : List Nat) (hc : X.calm = true) (h : PGs X es (gNames is)) (hi : ∀ i ∈ is, fx[i]? ≠ some true := by decide) (hn : (assignEach es X.env).length = is.length := by rfl) (hst : (assignEach es X.env).findIdx? (·.1) = none := by rfl) :
    DG X fx (.Tuple es k pos) (gSeq X.K is.length (gNames is)) (mgSeq is) := ⟨pg_seq hc h hn hst, sg_seq rfl hi⟩
/-- (target, ..) = e -/
def mAsgG (f : MG) (m : ME) : MS := fun ρ => match m ρ with
  | .ok r ρ1 => match frz r ρ1 with
    | some (d, ρ2) => match f d ρ2 with
      | some ρ3 => .nx ρ3
      | none => .bad
    | none => .bad
  | .exc x ρ1 => .exc x ρ1
  | .bad => .bad
theorem ds_asgG {tg e : Expr} {te : TE} {me : ME} {g : TG} {f : MG} (h : DE X W e te me) (hg : DG X fx tg g f) (hs : swapsWithSole [tg] e pos.line X.env = pure false := by rfl) (hw : swappedStores [tg] e X.env = pure none := by rfl)
    (h1 : (assignEach [tg] X.env).map (·.2) = [assign tg X.env] := by rfl) : DS X W fx (.Assign [tg] e pos) (tAsg te g) (mAsgG f me) := by
  refine ⟨ps_asg h.pe hg.pg hs hw h1, fun vs0 Hr Hf H σ ρ D E p => h.se fx vs0 Hr Hf H σ ρ _ E ?_⟩
  unfold mAsgG at p
  cases hm : me ρ with
  | bad => rw [hm] at p; exact p
  | exc x ρ1 => rw [hm] at p; exact fun C h1 F H' e E' => p C h1 σ F H' e E'
  | ok r ρ1 =>
    rw [hm] at p
    intro v F H1 e1 E1 q1
    cases hz : frz r ρ1 with
    | none => simp only [hz] at p; exact p.elim
    | some x =>
      obtain ⟨d, ρ2⟩ := x
      simp only [hz] at p
      obtain ⟨F', e', E2, r2⟩ := frz_ok E1 q1 hz
      cases hf : f d ρ2 with
      | none => simp only [hf] at p; exact p.elim
      | some ρ3 =>
        simp only [hf] at p
        exact hg.sg vs0 Hr F' H1 σ ρ2 d v ρ3 _ E2 r2 hf fun σ' E3 => p σ' F' H1 (e1.trans e') E3
end

/-! ### a def, told once -/
structure Fk (P : Program) (w : World) (K : PySem.W.Frag) (mg : Str → Option Value) (base : Heap) (k : Nat) (x : Str) (n : Nat) (F : MF) : Prop where
  all : ∃ f fd ps, mg x = some (.ref f) ∧ ps.length = n ∧ FnOk P w K mg base (L2.CX P w) k f fd ps (spT K mg n F) ∧ PySem.W.keepIn K (.ref f) = true ∧ Binds K fd ps []
/-- a def of the text stands behind the name -/
structure Fd (K : PySem.W.Frag) (mg : Str → Option Value) (x : Str) (st : Stmt) : Prop where
  all : ∃ f fd, mg x = some (.ref f) ∧ Fun K x x st f fd
theorem fk_of {P : Program} {w : World} {K : PySem.W.Frag} {mg : Str → Option Value} {base : Heap} {k : Nat} {x : Str} {st : Stmt} {ps : List Str} {n : Nat} {F : MF} (D : Fd K mg x st) (hn : ps.length = n)
    (hb : ∀ (kV doc pm : Value) (an : Option Addr) (cdv ct : Value) (us : List Value), us.length = ps.length → bindArgs (PySem.W.fnOf x x (defArgs st) (defBody st) (defScope st) .none kV doc pm an cdv ct) ⟨us, []⟩ = pure (ps.zip us))
    (h : ∀ f fd, Fun K x x st f fd → FnOk P w K mg base (L2.CX P w) k f fd ps (spT K mg ps.length F)) : Fk P w K mg base k x n F := by
  obtain ⟨f, fd, m, Fn⟩ := D.all
  subst hn
  exact ⟨f, fd, ps, m, rfl, h f fd Fn, Fn.kp, Fn.binds hb⟩
section
variable {X : Cx} {W : WX} {e : Expr} {es : List Expr} {t : TA} {as : List AM}
theorem de_callK {k k' n : Nat} {F : MF} {x : Str} {p pos : Pos} (hF : Fk X.prog X.w X.K X.mg X.base k x n F) (hr : Room k' X.A) (tk : Takes X W) (ha : DA X W (e :: es) t as) (hk : k ≤ k' := by decide) (hg : Gl X x := by rfl) (hdb : (x == ("__debug__" : Str)) = false := by decide)
    (he : starEach (e :: es) X.env = (false, eval e X.env) :: starEach es X.env := by rfl) (hpl : (backTo pos (starEach es X.env)).any (·.1) = false := by rfl) :
    DE X W (.Call (.Name x p) (e :: es) [] pos) (tCallS (spT X.K X.mg n F) (WE W) t) (mCall n F as) := by
  obtain ⟨f, fd, ps, m1, m2, m3, m4, m5⟩ := hF.all
  subst m2
  exact de_call m3 (hr.mono hk) m1 m4 m5 tk ha hg hdb he hpl
theorem kfns_of {P : Program} {w : World} {K : PySem.W.Frag} {mg : Str → Option Value} {base : Heap} {k : Nat} {x : Str} {n : Nat} {F : MF} {tbl : List (Str × Nat × MF)} (h : Fk P w K mg base k x n F) (T : KFns P w K mg base k tbl) : KFns P w K mg base k ((x, n, F) :: tbl) :=
  ⟨fun p hp => by
    rcases List.mem_cons.mp hp with rfl | hp
    · exact h.all
    · exact T.all p hp⟩
theorem kfns_nil {P : Program} {w : World} {K : PySem.W.Frag} {mg : Str → Option Value} {base : Heap} {k : Nat} : KFns P w K mg base k [] := ⟨fun p hp => by cases hp⟩
theorem FnOk.up {P : Program} {w : World} {K : PySem.W.Frag} {mg : Str → Option Value} {base : Heap} {CX : CXT} {k k' : Nat} {f : Addr} {fd : FuncData} {ps : List Str} {sp : Sp} (F : FnOk P w K mg base CX k f fd ps sp) (h : k ≤ k') : FnOk P w K mg base CX k' f fd ps sp := F.mono h
theorem Fk.up {P : Program} {w : World} {K : PySem.W.Frag} {mg : Str → Option Value} {base : Heap} {k k' : Nat} {x : Str} {n : Nat} {F : MF} (h : Fk P w K mg base k x n F) (hk : k ≤ k' := by decide) : Fk P w K mg base k' x n F := by
  obtain ⟨f, fd, ps, m1, m2, m3, m4, m5⟩ := h.all
  exact ⟨f, fd, ps, m1, m2, FnOk.up m3 hk, m4, m5⟩
end

/-! ### an exception class of the text, below ValueError -/
abbrev bmV : List Value := [Value.type "ValueError", Value.type "Exception", Value.type "BaseException", Value.type "object"]
structure ExT (K : PySem.W.Frag) (mg : Str → Option Value) (x : Str) : Prop where
  all : ∃ C, mg x = some (.ref C) ∧ PySem.W.excIn K C bmV "ValueError.__new__" = true ∧ PySem.W.keepIn K (.ref C) = true ∧ PySem.W.subIn K (.ref C) (.type "BaseException") = some true ∧ PySem.W.typeIn K (.ref C) = some (.type "type")
def tRaise (W : WX) (mg : Str → Option Value) (x : Str) (te : TE) : TS := fun _ σ H => te σ H fun _ H1 => ∀ C, mg x = some (.ref C) → W (.ref C) none σ H1
section
variable {X : Cx} {W : WX} {fx : List Bool} {e : Expr} {te : TE} {m : ME}
theorem ds_raiseT {x : Str} {p pos pos' : Pos} (hc : X.calm = true) (tk : Takes X W) (q : ExT X.K X.mg x) (h : DE X W e te m) (hg : Gl X x := by rfl) (hs : starEach [e] X.env = (false, eval e X.env) :: starEach [] X.env := by rfl) (hdb : (x == ("__debug__" : Str)) = false := by decide) :
    DS X W fx (.Raise (some (.Call (.Name x p) [e] [] pos)) none pos') (tRaise W X.mg x te) (mRaise x m) := by
  obtain ⟨C, g, q1, q2, q3, q4⟩ := q.all
  have d := ds_raise (fx := fx) (pos := pos) (pos' := pos') (p := p) hc tk PySem.F.excBase_ValueError q1 g q2 (raises_own q3 q4) h hg hs hdb
  have e1 : tRaise W X.mg x te = (fun _ σ H => te σ H fun _ H1 => W (.ref C) none σ H1) := by
    funext D σ H
    unfold tRaise
    have : (fun (_ : V) (H1 : Hp) => ∀ C, X.mg x = some (.ref C) → W (.ref C) none σ H1) = fun _ H1 => W (.ref C) none σ H1 := by
      funext v H1
      exact propext ⟨fun z => z C g, fun z C' h' => by rw [g] at h'; cases h'; exact z⟩
    rw [this]
  rw [e1]
  exact d
end
/-! ### xs.count(True) of a list of bools -/
def eqb (k : Bool) (v : Value) : Bool := match v with
  | .bool n => n == k
  | _ => false
theorem vals_bools : ∀ {bs : List Bool} {us : List Value}, Vals (bs.map V.bl) us → us = bs.map Value.bool
  | [], _, .nil => rfl
  | b :: bs, _, .cons r rr => by
    have r : _ = _ := r
    rw [r, vals_bools rr]; rfl
theorem eqb_count {k : Bool} : ∀ (bs : List Bool), (bs.map Value.bool).countP (eqb k) = bs.count k
  | [] => rfl
  | b :: bs => by
    rw [List.map_cons, List.countP_cons, List.count_cons, eqb_count bs] <;> rfl
def rCntB (K : PySem.W.Frag) : V → List V → Hp → VK → Prop := fun x xs H Q => ∃ (p : Addr) (bs : List Bool) (k : Bool), x = .ref p ∧ xs = [.bl k] ∧ SqL K H p (bs.map V.bl) ∧ Q (.int (bs.count k : Nat)) H
open PyProof.Rows in
theorem mt_lcountB {X : Cx} : MtR X "list.count" (rCntB X.K) := by
  intro pins s σ H x xs v us Q I rx rxs h
  obtain ⟨p, bs, k, rfl, rfl, hs, q⟩ := h
  cases rx
  obtain ⟨u, rfl, ru⟩ := rxs.one
  have ru : u = Value.bool k := ru
  subst ru
  obtain ⟨its, rv, ⟨⟨cls, dd, data, sl⟩, n, ho, hc, hdn, hd⟩, hlen⟩ := I.list hs
  simp only at hc hd
  subst hc hd
  have hi := vals_bools rv
  subst hi
  refine call_meets PySem.F.slot_list_count ⟨_, ho, rfl⟩ PySem.F.entry_list_count (PySem.F.args_list_count_2 _ _)
    (SeqAt.list_countAt p (bs.map Value.bool).toArray n dd sl (.bool k) (eqb k)) ⟨ho, fun y hy => ?_, ?_⟩
  · have hy : y ∈ bs.map Value.bool := by simpa using hy
    obtain ⟨b, _, rfl⟩ := List.mem_map.mp hy
    exact SeqAt.EqAt.bool_bool b k
  · have ec : (bs.map Value.bool).toArray.toList.countP (eqb k) = bs.count k := eqb_count bs
    refine ⟨.int (bs.count k : Nat), H, I.tok _, ⟨s.toks, ?_⟩, q⟩
    show Value.int (((bs.map Value.bool).toArray.toList.countP (eqb k) : Nat) : Int) s.toks = Value.int ((bs.count k : Nat) : Int) s.toks
    rw [ec]

/-! ### _law_any: try: .. except S as e: which of the classes, counted -/
/-- what isinstance says of an error of the class x -/
structure AnyX (K : PySem.W.Frag) (C cS c1 c2 c3 c4 c5 : Addr) (r : Bool) : Prop where
  ec : ExcC K C
  ex : PySem.W.exmOne K (.ref C) (.ref cS) = some true
  is : ∃ b1 b2 b3 b4 b5 bv, PySem.W.kitOne K (.ref C) (.ref c1) = some b1 ∧ PySem.W.kitOne K (.ref C) (.ref c2) = some b2 ∧ PySem.W.kitOne K (.ref C) (.ref c3) = some b3 ∧ PySem.W.kitOne K (.ref C) (.ref c4) = some b4 ∧
    PySem.W.kitOne K (.ref C) (.ref c5) = some b5 ∧ PySem.W.kitOne K (.ref C) (.type "ValueError") = some bv ∧ r = (bv && decide (([b1, b2, b3] ++ [b4, b5]).count true = 1))
structure AnyT (K : PySem.W.Frag) (mg : Str → Option Value) (nS n1 n2 n3 n4 n5 : Str) (tbl : List (Str × Bool)) : Prop where
  all : ∃ cS c1 c2 c3 c4 c5, mg nS = some (.ref cS) ∧ mg n1 = some (.ref c1) ∧ mg n2 = some (.ref c2) ∧ mg n3 = some (.ref c3) ∧ mg n4 = some (.ref c4) ∧ mg n5 = some (.ref c5) ∧ mg "isinstance" = none ∧ mg "ValueError" = none ∧
    ∀ p ∈ tbl, ∃ C, mg p.1 = some (.ref C) ∧ AnyX K C cS c1 c2 c3 c4 c5 p.2
def mAny (ie js : Nat) (tbl : List (Str × Bool)) (mb : MS) : MS := fun ρ => match mb ρ with
  | .exc x ρ1 => match tbl.lookup x with
    | some r => if ie < ρ1.length ∧ js < ρ1.length then .ret (.dd (.bl r)) ((ρ1.set ie .no).set js .no) else .bad
    | none => .bad
  | r => r
abbrev tIsE (K : PySem.W.Frag) (C a : Addr) (ie : Nat) (c : V) : TE := tCB (rIsE K C a) (tCons (tVar ie) (tCons (tC c) tNil))
def tAnyB (K : PySem.W.Frag) (C a : Addr) (ie js : Nat) (c1 c2 c3 c4 c5 : Addr) : TS :=
  tSeq (tAsg (tLst (tCons (tIsE K C a ie (.ref c1)) (tCons (tIsE K C a ie (.ref c2)) (tCons (tIsE K C a ie (.ref c3)) tNil)))) (gName js))
  (tSeq (tAsg (tOp rCat (tVar js) (tLst (tCons (tIsE K C a ie (.ref c4)) (tCons (tIsE K C a ie (.ref c5)) tNil)))) (gName js))
    (tRet (tAndV (tIsE K C a ie (.ty "ValueError")) (tOp rEq (tBM K "list" (rCntB K) (tVar js) (tCons (tC (.bl true)) tNil)) (tC (.int 1))))))
def tAny (K : PySem.W.Frag) (ie js : Nat) (c1 c2 c3 c4 c5 : Addr) : Addr → Value → Option Addr → TS := fun a cls d D σ H => ∃ C, cls = .ref C ∧ d = none ∧ ExcC K C ∧ tAnyB K C a ie js c1 c2 c3 c4 c5 D σ H
theorem pss_pre {X : Cx} {ss : List Stmt} {t : TS} (P : Ends → St → Hp → Prop) (h : ∀ D σ H, P D σ H → ∃ t', PSs X ss t' ∧ t' D σ H) (ht : ∀ D σ H, t D σ H → P D σ H) : PSs X ss t :=
  ⟨fun pins s σ H D I q => by
    obtain ⟨t', h1, h2⟩ := h D σ H (ht D σ H q)
    exact h1.run pins s σ H D I h2⟩
section
variable {X : Cx} {W : WX} {fx : List Bool} {body : List Stmt}
theorem pe_isE {a C : Addr} {oe : Obj} {pn : List (Addr × Obj)} {ie : Nat} {n : Str} {c : V} {p pe pos : Pos} {ce : Expr} (hC : ExcC X.K C) (hz : Zc (.ref C) none oe) (hf : ∃ vs, oe.data = .fields vs) (hm : X.mg "isinstance" = none) (hg : Gl (X.suite a ((a, oe) :: pn)) "isinstance")
    (hv : PE (X.suite a ((a, oe) :: pn)) (.Name n pe) (tVar ie)) (hc : PE (X.suite a ((a, oe) :: pn)) ce (tC c)) (he : starEach (.Name n pe :: [ce]) X.env = (false, eval (.Name n pe) X.env) :: starEach [ce] X.env := by rfl) (he2 : starEach (ce :: []) X.env = (false, eval ce X.env) :: starEach [] X.env := by rfl)
    (hpl : (backTo pos (starEach [ce] X.env)).any (·.1) = false := by rfl) :
    PE (X.suite a ((a, oe) :: pn)) (.Call (.Name "isinstance" p) [.Name n pe, ce] [] pos) (tIsE X.K C a ie c) :=
  pe_callB (call_isE hC hz hf) hg hm (by decide +kernel) (pa_cons hv (pa_cons hc pa_nil he2) he) (by decide) (by decide) he hpl
theorem tIsE_ok {K : PySem.W.Frag} {C a : Addr} {ie : Nat} {c : V} {cv : Value} {b : Bool} {σ : St} {H : Hp} {Q : VK} (hs : σ[ie]? = some (some (.ref a))) (hc : ∀ u, RelV c u → u = cv) (h : PySem.W.kitOne K (.ref C) cv = some b) (q : Q (.bl b) H) : tIsE K C a ie c σ H Q :=
  ⟨.ref a, hs, c, cv, b, rfl, hc, h, q⟩
theorem ds_any {nS n1 n2 n3 n4 n5 : Str} {tbl : List (Str × Bool)} (ie js : Nat) {n sn : Str} (tb : WX → TS) {mb : MS} {Wout : WX} (T : AnyT X.K X.mg nS n1 n2 n3 n4 n5 tbl)
    {np p' pos e1 e2 e3 e4 e5 e6 i1 i2 i3 i4 i5 i6 q1 q2 q3 q4 q5 q6 r1 r2 r3 r4 r5 r6 l1 l2 s1 s2 s3 y1 y2 y3 y4 b1 b2 c1p c2p c3p c4p c5p : Pos} {k1 k2 : Nat}
    (hst : X.stack = X.env :: X.outer) (hfr : X.env.frame = some X.env.locals) (hN : X.N.Nodup) (tk : Takes X Wout)
    (hb : ∀ (W : WX) (pn : List (Addr × Obj)) (xe : Value → Shared → Prop), Takes (X.tr pn xe) W → DSs (X.tr pn xe) W fx body (tb W) mb)
    (hgS : Gl X nS := by rfl) (hg1 : Gl X n1 := by rfl) (hg2 : Gl X n2 := by rfl) (hg3 : Gl X n3 := by rfl) (hg4 : Gl X n4 := by rfl) (hg5 : Gl X n5 := by rfl) (hgi : Gl X "isinstance" := by rfl) (hgv : Gl X "ValueError" := by rfl)
    (hi : X.N[ie]? = some n := by rfl) (hj : X.N[js]? = some sn := by rfl) (hln : X.env.kindOf n = some .local := by rfl) (hlj : X.env.scope.names.lookup sn = some .local := by rfl) (hij : ie ≠ js := by decide) (hfi : fx[ie]? ≠ some true := by decide) (hfj : fx[js]? ≠ some true := by decide)
    (dS : (nS == ("__debug__" : Str)) = false := by decide) (d1 : (n1 == ("__debug__" : Str)) = false := by decide) (d2 : (n2 == ("__debug__" : Str)) = false := by decide) (d3 : (n3 == ("__debug__" : Str)) = false := by decide) (d4 : (n4 == ("__debug__" : Str)) = false := by decide) (d5 : (n5 == ("__debug__" : Str)) = false := by decide)
    (dn : (n == ("__debug__" : Str)) = false := by decide) (dn2 : (n == ("__classdict__" : Str)) = false := by decide) (dj : (sn == ("__debug__" : Str)) = false := by decide) (dj2 : (sn == ("__classdict__" : Str)) = false := by decide)
    (hw1 : ∀ ln e, swapsWith (.List e l1) (some (.Name sn s1)) ln X.env = pure false := by intros; rfl) (hw2 : ∀ ln a b, swapsWith (.BinOp a .Add b b1) (some (.Name sn s2)) ln X.env = pure false := by intros; rfl)
    (hs : ∀ a b : Expr, ∀ f p1 p2, starEach (.Call f [a, b] [] p1 :: p2) X.env = (false, eval (.Call f [a, b] [] p1) X.env) :: starEach p2 X.env := by intros; rfl) (hs2 : ∀ a p1 p2, starEach (.Name a p1 :: p2) X.env = (false, eval (.Name a p1) X.env) :: starEach p2 X.env := by intros; rfl)
    (hpl : ∀ a p1 pos, (backTo pos (starEach [.Name a p1] X.env)).any (·.1) = false := by intros; rfl)
    (hbase : attributeBase (.Name sn y1) "count" X.env (eval (.Name sn y1) X.env) = eval (.Name sn y1) X.env := by rfl)
    (hfew : ((backTo y3 (starEach (.Constant (.bool true) k1 y4 :: []) X.env)).all (fun x => !x.1) && (backToKw y3 (keywordEach [] X.env)).all (fun x => x.1.isSome)
      && decide ((Expr.Constant (.bool true) k1 y4 :: ([] : List Expr)).length + ([] : List Keyword).length + (if ([] : List Keyword).isEmpty then 0 else 1) < 30)) = true := by rfl)
    (hline : (y2.endLine == y3.line) = true := by rfl) (hs3 : starEach (.Constant (.bool true) k1 y4 :: []) X.env = (false, eval (.Constant (.bool true) k1 y4) X.env) :: starEach [] X.env := by rfl) (hplain : (backTo y3 (starEach [] X.env)).any (·.1) = false := by rfl) :
    DS X Wout fx (.Try body [.ExceptHandler (some (.Name nS np)) (some n)
      [.Assign [.Name sn s1] (.List [.Call (.Name "isinstance" i1) [.Name n e1, .Name n1 q1] [] r1, .Call (.Name "isinstance" i2) [.Name n e2, .Name n2 q2] [] r2, .Call (.Name "isinstance" i3) [.Name n e3, .Name n3 q3] [] r3] l1) c1p,
       .Assign [.Name sn s2] (.BinOp (.Name sn s3) .Add (.List [.Call (.Name "isinstance" i4) [.Name n e4, .Name n4 q4] [] r4, .Call (.Name "isinstance" i5) [.Name n e5, .Name n5 q5] [] r5] l2) b1) c2p,
       .Return (some (.BoolOp .And [.Call (.Name "isinstance" i6) [.Name n e6, .Name "ValueError" q6] [] r6, .Compare (.Call (.Attribute (.Name sn y1) "count" y2) [.Constant (.bool true) k1 y4] [] y3) [.Eq] [.Constant (.int 1) k2 c4p] c5p] b2)) c3p] p'] [] [] pos)
      (fun D σ H => ∃ cS c1 c2 c3 c4 c5, X.mg nS = some (.ref cS) ∧ X.mg n1 = some (.ref c1) ∧ X.mg n2 = some (.ref c2) ∧ X.mg n3 = some (.ref c3) ∧ X.mg n4 = some (.ref c4) ∧ X.mg n5 = some (.ref c5) ∧ tb (wAs X.K (.ref cS) ie (tAny X.K ie js c1 c2 c3 c4 c5) Wout D) D σ H) (mAny ie js tbl mb) := by
  have hbS : ∀ W, SS X.K X.mg W fx (tb W) mb := fun W => (hb W [] (fun _ _ => True) fun _ _ _ => trivial).ss
  obtain ⟨cS, c1, c2, c3, c4, c5, gS, g1, g2, g3, g4, g5, gi, gv, hall⟩ := T.all
  refine ⟨⟨fun pins s σ H D I q => ?_⟩, fun vs0 Hr Hf H σ ρ D E p => ?_⟩
  · obtain ⟨cS', c1', c2', c3', c4', c5', z0, z1, z2, z3, z4, z5, q⟩ := q
    rw [gS] at z0; cases z0
    rw [g1] at z1; cases z1
    rw [g2] at z2; cases z2
    rw [g3] at z3; cases z3
    rw [g4] at z4; cases z4
    rw [g5] at z5; cases z5
    refine (ps_try_as (i := ie) (tb := tb) (ts := tAny X.K ie js c1 c2 c3 c4 c5) (Wout := Wout) hst hfr hN hi hln ⟨hgS, dS, .inl gS⟩ tk (fun W pn xe tk _ => (hb W pn xe tk).ps) (fun a oe cls d pn hz hf => ?_)).run pins s σ H D I q
    refine pss_pre (fun D σ H => tAny X.K ie js c1 c2 c3 c4 c5 a cls d D σ H) (fun D σ H h => ?_) fun _ _ _ h => h
    obtain ⟨C, rfl, rfl, hC, h⟩ := h
    refine ⟨_, ?_, h⟩
    have ve : ∀ pe, PE (X.suite a ((a, oe) :: pn)) (.Name n pe) (tVar ie) := fun pe => pe_var hi (.inl hln) dn dn2
    have vj : ∀ pe, PE (X.suite a ((a, oe) :: pn)) (.Name sn pe) (tVar js) := fun pe => pe_var hj (.inl hlj) dj dj2
    have is : ∀ {x : Str} {c : Addr} {p pe pc pos : Pos}, Gl X x → X.mg x = some (.ref c) → (x == ("__debug__" : Str)) = false → PE (X.suite a ((a, oe) :: pn)) (.Call (.Name "isinstance" p) [.Name n pe, .Name x pc] [] pos) (tIsE X.K C a ie (.ref c)) := fun hg hm hd =>
      pe_isE hC hz hf gi hgi (ve _) (pe_glob hg hm rfl hd) (hs2 _ _ _) (hs2 _ _ _) (hpl _ _ _)
    have st : ∀ {e : Expr} {te : TE} {s1 pos : Pos}, PE (X.suite a ((a, oe) :: pn)) e te → swapsWith e (some (.Name sn s1)) pos.line X.env = pure false → PS (X.suite a ((a, oe) :: pn)) (.Assign [.Name sn s1] e pos) (tAsg te (gName js)) := fun he hsw =>
      ps_set hN hj (.inl hlj) he hsw (.inr hlj)
    exact pss_cons (st (pe_lst (pa_cons (is hg1 g1 d1) (pa_cons (is hg2 g2 d2) (pa_cons (is hg3 g3 d3) pa_nil (hs _ _ _ _ _)) (hs _ _ _ _ _)) (hs _ _ _ _ _))) (hw1 _ _))
      (pss_cons (st (pe_op op_cat (vj _) (pe_lst (pa_cons (is hg4 g4 d4) (pa_cons (is hg5 g5 d5) pa_nil (hs _ _ _ _ _)) (hs _ _ _ _ _)))) (hw2 _ _ _))
      (pss_one (ps_ret (pe_and (pe_isE hC hz hf gi hgi (ve _) (pe_bltn hgv gv (by decide +kernel) rfl (by decide) (by decide)) (hs2 _ _ _) (hs2 _ _ _) (hpl _ _ _))
        (pe_one (pe_cmpR op_eq (pe_bm PySem.F.plainAttrs_list PySem.F.slot_list_count PySem.F.type_list_count mt_lcountB (vj _) (pa_cons pe_bl pa_nil hs3) hbase hfew hline hs3 hplain) pe_int rfl))))))
  · refine ⟨cS, c1, c2, c3, c4, c5, gS, g1, g2, g3, g4, g5, hbS _ vs0 Hr Hf H σ ρ D E ?_⟩
    unfold mAny at p
    cases hm : mb ρ with
    | exc x ρ1 =>
      rw [hm] at p
      intro C gC σ1 F1 H1 e1 E1
      cases hl : tbl.lookup x with
      | none => simp only [hl] at p; exact p.elim
      | some r =>
        simp only [hl] at p
        obtain ⟨C', gC', A⟩ := hall _ (lookup_mem hl)
        rw [gC] at gC'; cases gC'
        obtain ⟨b1, b2, b3, b4, b5, bv, k1, k2, k3, k4, k5, kv, hr⟩ := A.is
        have hr : r = _ := hr
        refine ⟨true, A.ex, fun _ a ha => ⟨C, rfl, rfl, A.ec, ?_⟩, fun z => by cases z⟩
        by_cases hl : ie < ρ1.length ∧ js < ρ1.length
        · simp only [if_pos hl] at p
          have sz : ∀ n : Nat, n ≤ 1000 → n ≤ sizeLine := fun n h => Nat.le_of_lt (small1000 h)
          have E2 := E1.store hfi (v := .ref a) (c := .no) (.inr (.inl rfl))
          have m1 : ie < σ1.length := by rw [E1.len]; exact hl.1
          have m2 : js < σ1.length := by rw [E1.len]; exact hl.2
          have hse : (σ1.set ie (some (V.ref a)))[ie]? = some (some (V.ref a)) := by rw [List.getElem?_set_self m1]
          have hse' : ∀ v, ((σ1.set ie (some (V.ref a))).set js v)[ie]? = some (some (V.ref a)) := fun v => by rw [List.getElem?_set_ne (Ne.symm hij)]; exact hse
          have hsj : ∀ (τ : St) v, τ.length = σ1.length → (τ.set js v)[js]? = some v := fun τ v hτ => by rw [List.getElem?_set_self (by rw [hτ]; exact m2)]
          refine ⟨_, hse, _, _, b1, rfl, fun _ r => r, k1, _, hse, _, _, b2, rfl, fun _ r => r, k2, _, hse, _, _, b3, rfl, fun _ r => r, k3, sz 3 (by decide), fun p0 hp0 => ?_⟩
          have E3 := (E2.newO (o := .lst [.bl b1, .bl b2, .bl b3]) hp0).store hfj (v := .ref p0) (c := .no) (.inr (.inl rfl))
          refine ⟨_, hsj _ _ (by simp), _, hse' _, _, _, b4, rfl, fun _ r => r, k4, _, hse' _, _, _, b5, rfl, fun _ r => r, k5, sz 2 (by decide), fun p1 hp1 => ?_⟩
          have n1 : p0 ≠ p1 := fun z => by rw [← z, upd_same] at hp1; cases hp1
          refine ⟨p0, p1, [.bl b1, .bl b2, .bl b3], [.bl b4, .bl b5], rfl, rfl, by rw [upd_ne n1, upd_same], upd_same, sz 5 (by decide), fun p2 hp2 => ?_⟩
          have E4 := ((E3.newO (o := .lst [.bl b4, .bl b5]) hp1).newO (o := .lst ([.bl b1, .bl b2, .bl b3] ++ [.bl b4, .bl b5])) hp2).store hfj (v := .ref p2) (c := .no) (.inr (.inl rfl))
          have er : ((ρ1.set ie Cell.no).set js Cell.no).set js Cell.no = (ρ1.set ie Cell.no).set js Cell.no := List.set_set ..
          rw [er] at E4
          have hv : (((σ1.set ie (some (V.ref a))).set js (some (V.ref p0))).set js (some (V.ref p2)))[ie]? = some (some (V.ref a)) := by rw [List.getElem?_set_ne (Ne.symm hij)]; exact hse' _
          refine ⟨_, hv, .ty "ValueError", .type "ValueError", bv, rfl, fun _ r => r, kv, bv, rfl, ?_⟩
          have fin : ∀ rr, rr = r → D.rt (.bl rr) (upd (upd (upd H1 p0 (.lst [.bl b1, .bl b2, .bl b3])) p1 (.lst [.bl b4, .bl b5])) p2 (.lst ([.bl b1, .bl b2, .bl b3] ++ [.bl b4, .bl b5]))) := fun rr hrr => by
            subst hrr
            exact p (.bl rr) _ F1 _ e1 E4 rfl
          cases bv with
          | false => exact fin false (by rw [hr]; rfl)
          | true =>
            refine ⟨_, hsj _ _ (by simp), .inl ⟨rfl, _, .of upd_same⟩, p2, [b1, b2, b3] ++ [b4, b5], true, rfl, rfl, .of upd_same, rfl, ?_⟩
            refine fin _ ?_
            rw [hr, Bool.true_and]
            generalize List.count true ([b1, b2, b3] ++ [b4, b5]) = m
            by_cases hm : m = 1
            · subst hm; rfl
            · rw [decide_eq_false hm]
              apply decide_eq_false
              intro z
              have z : (m : Int) = 1 := V.int.inj z
              exact hm (by omega)
        · simp only [if_neg hl] at p; exact p.elim
    | _ => rw [hm] at p; exact p
end

/-! ### try: without as, the clauses by tables -/
structure HdT (K : PySem.W.Frag) (mg : Str → Option Value) (x : Str) (tbl : List (Str × Bool)) : Prop where
  all : ∃ c, mg x = some (.ref c) ∧ ∀ p ∈ tbl, ∃ C, mg p.1 = some (.ref C) ∧ PySem.W.exmOne K (.ref C) (.ref c) = some p.2
theorem hd_ok {K : PySem.W.Frag} {mg : Str → Option Value} {c : Addr} {tbl : List (Str × Bool)} (h : ∀ p ∈ tbl, ∃ C, mg p.1 = some (.ref C) ∧ PySem.W.exmOne K (.ref C) (.ref c) = some p.2) :
    ∀ y b C, (fun y => tbl.lookup y) y = some b → mg y = some (.ref C) → PySem.W.exmOne K (.ref C) (.ref c) = some b := fun y b C e g => by
  obtain ⟨C', g', h'⟩ := h _ (lookup_mem e)
  have g' : mg y = some (.ref C') := g'
  rw [g] at g'; cases g'
  exact h'
theorem ds_tryN {X : Cx} {fx : List Bool} {body : List Stmt} {h₀ : ExceptHandler} {hds : List ExceptHandler} {l : List (Value × (Addr → Value → Option Addr → TS))} {hs : List ((Str → Option Bool) × MS)} {pos : Pos} {tb : WX → TS} {mb : MS} {Wout : WX} (hst : X.stack = X.env :: X.outer) (hf : X.env.frame = some X.env.locals) (tk : Takes X Wout)
    (hb : ∀ (W : WX) (pn : List (Addr × Obj)) (xe : Value → Shared → Prop), Takes (X.tr pn xe) W → DSs (X.tr pn xe) W fx body (tb W) mb) (hh : DHs X fx (h₀ :: hds) l hs) :
    DS X Wout fx (.Try body (h₀ :: hds) [] [] pos) (fun D σ H => tb (wMany X.K Wout D l) D σ H) (mTry mb hs) :=
  ds_try hst hf tk (fun W pn xe tk _ => hb W pn xe tk) (fun W => (hb W [] (fun _ _ => True) fun _ _ _ => trivial).ss) hh
/-! ### the reading that a mirror gives -/
def tE (K : PySem.W.Frag) (mg : Str → Option Value) (W : WX) (m : ME) : TE := fun σ H Q => ∃ fx vs0 Hr Hf ρ, EnvOk K mg fx vs0 Hr Hf H σ ρ ∧ PostE K mg W fx vs0 Hr Hf σ (m ρ) Q
def tTs (K : PySem.W.Frag) (mg : Str → Option Value) (W : WX) (m : MT) : TT := fun σ H Q => ∃ fx vs0 Hr Hf ρ, EnvOk K mg fx vs0 Hr Hf H σ ρ ∧ PostT K mg W fx vs0 Hr Hf σ (m ρ) Q
def tSs (K : PySem.W.Frag) (mg : Str → Option Value) (W : WX) (fx : List Bool) (m : MS) : TS := fun D σ H => ∃ vs0 Hr Hf ρ, EnvOk K mg fx vs0 Hr Hf H σ ρ ∧ PostS K mg W fx vs0 Hr Hf (m ρ) D
section
variable {X : Cx} {W : WX} {fx : List Bool}
theorem DE.can {e : Expr} {t : TE} {m : ME} (h : DE X W e t m) : DE X W e (tE X.K X.mg W m) m :=
  ⟨⟨fun pins s σ H Q I ⟨fx, vs0, Hr, Hf, ρ, E, p⟩ => h.pe.run pins s σ H Q I (h.se fx vs0 Hr Hf H σ ρ Q E p)⟩, fun fx vs0 Hr Hf H σ ρ Q E p => ⟨fx, vs0, Hr, Hf, ρ, E, p⟩⟩
theorem DTs.can {ifs : List Expr} {t : TT} {m : MT} (h : DTs X W ifs t m) : DTs X W ifs (tTs X.K X.mg W m) m :=
  ⟨⟨fun pins s σ H Q I ⟨fx, vs0, Hr, Hf, ρ, E, p⟩ => h.pts.run pins s σ H Q I (h.st fx vs0 Hr Hf H σ ρ Q E p)⟩, fun fx vs0 Hr Hf H σ ρ Q E p => ⟨fx, vs0, Hr, Hf, ρ, E, p⟩⟩
theorem DSs.can {ss : List Stmt} {t : TS} {m : MS} (h : DSs X W fx ss t m) : DSs X W fx ss (tSs X.K X.mg W fx m) m :=
  ⟨⟨fun pins s σ H D I ⟨vs0, Hr, Hf, ρ, E, p⟩ => h.ps.run pins s σ H D I (h.ss vs0 Hr Hf H σ ρ D E p)⟩, fun vs0 Hr Hf H σ ρ D E p => ⟨vs0, Hr, Hf, ρ, E, p⟩⟩
variable {elt tg iter : Expr} {ifs : List Expr} {scope : Scope} {pos : Pos} {wi : TI} {g : TG} {mi : MI} {f : MG} {mt : MT} {me : ME}
theorem de_lcm (own : List (Str × Nat)) (hc : X.calm = true) (hN : X.N.Nodup) (hi : DI X W tg iter wi mi) (ok : BlkOk X.N X.env.scope scope own)
    (hg : ∀ (s : Shared) (H : Hp) (C : Addr) (cl : List (Str × Addr)) (fp : List Addr), PG (X.blk s H scope (compEnvC scope cl C X.env) fp) tg g) (sg : SGC X.K X.mg (own.map (·.2)) g f)
    (ht : ∀ (s : Shared) (H : Hp) (C : Addr) (cl : List (Str × Addr)) (fp : List Addr), ∃ t, DTs (X.blk s H scope (compEnvC scope cl C X.env) fp) W0 ifs t mt)
    (he : ∀ (s : Shared) (H : Hp) (C : Addr) (cl : List (Str × Addr)) (fp : List Addr), ∃ t, DE (X.blk s H scope (compEnvC scope cl C X.env) fp) W0 elt t me) (hs : ∀ x, foldedSetIterable iter X.env x = pure x := by intro _; rfl) :
    DE X W (.ListComp elt [⟨tg, iter, ifs, 0⟩] scope pos) (tLc wi g (tTs X.K X.mg W0 mt) (tE X.K X.mg W0 me) (own.map (·.2))) (mLc (own.map (·.2)) mi f mt me) :=
  de_lc hc hN hi ok hg sg (fun s H C cl fp => (ht s H C cl fp).choose_spec.can) (fun s H C cl fp => (he s H C cl fp).choose_spec.can) hs
theorem ds_setLcm (i : Nat) (own : List (Str × Nat)) {y : Str} {py spos : Pos} (hc : X.calm = true) (hN : X.N.Nodup) (hi : DI X W tg iter wi mi) (ok : BlkOk X.N X.env.scope scope own)
    (hg : ∀ (s : Shared) (H : Hp) (C : Addr) (cl : List (Str × Addr)) (fp : List Addr), PG (X.blk s H scope (compEnvC scope cl C X.env) fp) tg g) (sg : SGC X.K X.mg (own.map (·.2)) g f)
    (ht : ∀ (s : Shared) (H : Hp) (C : Addr) (cl : List (Str × Addr)) (fp : List Addr), ∃ t, DTs (X.blk s H scope (compEnvC scope cl C X.env) fp) W0 ifs t mt)
    (he : ∀ (s : Shared) (H : Hp) (C : Addr) (cl : List (Str × Addr)) (fp : List Addr), ∃ t, DE (X.blk s H scope (compEnvC scope cl C X.env) fp) W0 elt t me)
    (hsw : swapsWith (.ListComp elt [⟨tg, iter, ifs, 0⟩] scope pos) (some (.Name y py)) spos.line X.env = pure true) (hy : X.N[i]? = some y := by rfl) (hyl : X.env.scope.names.lookup y = some .local := by rfl) (hfx : fx[i]? ≠ some true := by decide)
    (hs : ∀ x, foldedSetIterable iter X.env x = pure x := by intro _; rfl) :
    DS X W fx (.Assign [.Name y py] (.ListComp elt [⟨tg, iter, ifs, 0⟩] scope pos) spos) (tAsg (tLc wi g (tTs X.K X.mg W0 mt) (tE X.K X.mg W0 me) (own.map (·.2))) (gName i)) (mAsg i (mLc (own.map (·.2)) mi f mt me)) :=
  ds_setLc i hc hN hi ok hg sg (fun s H C cl fp => (ht s H C cl fp).choose_spec.can) (fun s H C cl fp => (he s H C cl fp).choose_spec.can) hsw hy hyl hfx hs
theorem ds_tryM {body : List Stmt} {h₀ : ExceptHandler} {hds : List ExceptHandler} {l : List (Value × (Addr → Value → Option Addr → TS))} {hs : List ((Str → Option Bool) × MS)} {pos : Pos} {mb : MS} (hst : X.stack = X.env :: X.outer) (hf : X.env.frame = some X.env.locals) (tk : Takes X W)
    (hb : ∀ (W : WX) (pn : List (Addr × Obj)) (xe : Value → Shared → Prop), Takes (X.tr pn xe) W → ∃ t, DSs (X.tr pn xe) W fx body t mb) (hh : DHs X fx (h₀ :: hds) l hs) :
    DS X W fx (.Try body (h₀ :: hds) [] [] pos) (fun D σ H => tSs X.K X.mg (wMany X.K W D l) fx mb D σ H) (mTry mb hs) :=
  ds_tryN (tb := fun W => tSs X.K X.mg W fx mb) hst hf tk (fun W pn xe tk => (hb W pn xe tk).choose_spec.can) hh
end
/-! ### the end: what the top has written, and the law -/
section
variable {K : PySem.W.Frag} {h : Heap} {mg : Str → Option Value} {w : World}
theorem fd_mk {x : Str} {st : Stmt} {f : Addr} {oc : Value} {od an : Option Addr} {osl : Array (Option Value)} {kV doc pm cdv ct : Value} (X : K.In h) (G : h.Ns mainGlobals mg) (a : PySem.W.nsIn K mainGlobals x = some (some (.ref f)))
    (l : K.lookup f = some ⟨oc, od, .func (PySem.W.fnOf x x (defArgs st) (defBody st) (defScope st) .none kV doc pm an cdv ct), osl⟩) (c : PySem.W.codeIn K cdv x = true) (k : PySem.W.keepIn K (.ref f) = true) : Fd K mg x st := ⟨f, _, PySem.W.mg_of X G a, fun_mk l c k⟩
theorem none_mk {x : Str} (X : K.In h) (G : h.Ns mainGlobals mg) (a : PySem.W.nsIn K mainGlobals x = some none) : mg x = none := PySem.W.mg_none_of X G a
theorem int_mk {x : Str} {i : Int} {t : Tok} (X : K.In h) (G : h.Ns mainGlobals mg) (a : PySem.W.nsIn K mainGlobals x = some (some (.int i t))) : ∃ t, mg x = some (.int i t) := ⟨t, PySem.W.mg_of X G a⟩
theorem ext_mk {x : Str} {C : Addr} (X : K.In h) (G : h.Ns mainGlobals mg) (a : PySem.W.nsIn K mainGlobals x = some (some (.ref C))) (q : PySem.W.excIn K C bmV "ValueError.__new__" = true) (k : PySem.W.keepIn K (.ref C) = true)
    (s : PySem.W.subIn K (.ref C) (.type "BaseException") = some true) (t : PySem.W.typeIn K (.ref C) = some (.type "type")) : ExT K mg x := ⟨C, PySem.W.mg_of X G a, q, k, s, t⟩
/-- the entries of a table -/
def TabE (K : PySem.W.Frag) (mg : Str → Option Value) (d : Addr) (p : Str × Option D) : Prop := match p.2 with
  | some D => ∃ u v, PySem.W.nsIn K d p.1 = some (some u) ∧ RelV v u ∧ ∀ H, Rep K mg H D v
  | none => PySem.W.nsIn K d p.1 = some none
theorem tab_int {d : Addr} {k : Str} {i : Int} {t : Tok} (a : PySem.W.nsIn K d k = some (some (.int i t))) : TabE K mg d (k, some (.int i)) := ⟨_, .int i, a, ⟨t, rfl⟩, fun _ => rfl⟩
theorem tab_str {d : Addr} {k : Str} {i : Str} {t : Tok} (a : PySem.W.nsIn K d k = some (some (.str i t))) : TabE K mg d (k, some (.str i)) := ⟨_, .str i, a, ⟨t, rfl⟩, fun _ => rfl⟩
theorem tab_fn {d : Addr} {k x : Str} {f : Addr} (X : K.In h) (G : h.Ns mainGlobals mg) (a : PySem.W.nsIn K d k = some (some (.ref f))) (b : PySem.W.nsIn K mainGlobals x = some (some (.ref f))) : TabE K mg d (k, some (.fn x)) := ⟨_, .ref f, a, rfl, fun _ => ⟨f, PySem.W.mg_of X G b, rfl⟩⟩
theorem tab_no {d : Addr} {k : Str} (a : PySem.W.nsIn K d k = some none) : TabE K mg d (k, none) := a
theorem tabs_nil {d : Addr} : ∀ p ∈ ([] : List (Str × Option D)), TabE K mg d p := fun p hp => by cases hp
theorem tabs_cons {d : Addr} {p : Str × Option D} {ps : List (Str × Option D)} (h1 : TabE K mg d p) (h2 : ∀ p ∈ ps, TabE K mg d p) : ∀ q ∈ p :: ps, TabE K mg d q := fun q hq => by
  rcases List.mem_cons.mp hq with rfl | hq
  · exact h1
  · exact h2 q hq
theorem ktab_mk {x : Str} {d : Addr} {es : Array DictEntry} {n : Nat} {tbl : List (Str × Option D)} (X : K.In h) (G : h.Ns mainGlobals mg) (a : PySem.W.nsIn K mainGlobals x = some (some (.ref d))) (l : K.lookup d = some ⟨.type "dict", none, .dict es n, #[]⟩)
    (k : PySem.W.KeysLit w.params es.toList) (lo : (d == sysModules) = false) (t : ∀ p ∈ tbl, TabE K mg d p) : ∃ d, KTab K w mg x d tbl := ⟨d, PySem.W.mg_of X G a, ⟨es, n, l, k, lo⟩, t⟩
theorem hdt_mk {x : Str} {c : Addr} {tbl : List (Str × Bool)} (X : K.In h) (G : h.Ns mainGlobals mg) (a : PySem.W.nsIn K mainGlobals x = some (some (.ref c))) (t : ∀ p ∈ tbl, ∃ C, mg p.1 = some (.ref C) ∧ PySem.W.exmOne K (.ref C) (.ref c) = some p.2) : HdT K mg x tbl := ⟨c, PySem.W.mg_of X G a, t⟩
theorem hdt_nil {c : Addr} : ∀ p ∈ ([] : List (Str × Bool)), ∃ C, mg p.1 = some (.ref C) ∧ PySem.W.exmOne K (.ref C) (.ref c) = some p.2 := fun p hp => by cases hp
theorem hdt_cons {c C : Addr} {x : Str} {b : Bool} {ps : List (Str × Bool)} (X : K.In h) (G : h.Ns mainGlobals mg) (a : PySem.W.nsIn K mainGlobals x = some (some (.ref C))) (e : PySem.W.exmOne K (.ref C) (.ref c) = some b)
    (t : ∀ p ∈ ps, ∃ C, mg p.1 = some (.ref C) ∧ PySem.W.exmOne K (.ref C) (.ref c) = some p.2) : ∀ p ∈ (x, b) :: ps, ∃ C, mg p.1 = some (.ref C) ∧ PySem.W.exmOne K (.ref C) (.ref c) = some p.2 := fun p hp => by
  rcases List.mem_cons.mp hp with rfl | hp
  · exact ⟨C, PySem.W.mg_of X G a, e⟩
  · exact t p hp
theorem anyT_mk {nS n1 n2 n3 n4 n5 : Str} {cS c1 c2 c3 c4 c5 : Addr} {tbl : List (Str × Bool)} (X : K.In h) (G : h.Ns mainGlobals mg) (aS : PySem.W.nsIn K mainGlobals nS = some (some (.ref cS))) (a1 : PySem.W.nsIn K mainGlobals n1 = some (some (.ref c1))) (a2 : PySem.W.nsIn K mainGlobals n2 = some (some (.ref c2)))
    (a3 : PySem.W.nsIn K mainGlobals n3 = some (some (.ref c3))) (a4 : PySem.W.nsIn K mainGlobals n4 = some (some (.ref c4))) (a5 : PySem.W.nsIn K mainGlobals n5 = some (some (.ref c5))) (ai : mg "isinstance" = none) (av : PySem.W.nsIn K mainGlobals "ValueError" = some none)
    (t : ∀ p ∈ tbl, ∃ C, mg p.1 = some (.ref C) ∧ AnyX K C cS c1 c2 c3 c4 c5 p.2) : AnyT K mg nS n1 n2 n3 n4 n5 tbl :=
  ⟨cS, c1, c2, c3, c4, c5, PySem.W.mg_of X G aS, PySem.W.mg_of X G a1, PySem.W.mg_of X G a2, PySem.W.mg_of X G a3, PySem.W.mg_of X G a4, PySem.W.mg_of X G a5, ai, PySem.W.mg_none_of X G av, t⟩
theorem any_nil {cS c1 c2 c3 c4 c5 : Addr} : ∀ p ∈ ([] : List (Str × Bool)), ∃ C, mg p.1 = some (.ref C) ∧ AnyX K C cS c1 c2 c3 c4 c5 p.2 := fun p hp => by cases hp
theorem any_cons {x : Str} {C cS c1 c2 c3 c4 c5 : Addr} {b1 b2 b3 b4 b5 bv r : Bool} {ps : List (Str × Bool)} (X : K.In h) (G : h.Ns mainGlobals mg) (a : PySem.W.nsIn K mainGlobals x = some (some (.ref C)))
    (hg : PySem.W.findIn K (.ref C) "__getattribute__" = some (some (.builtin "BaseException.__getattribute__"))) (hk : PySem.W.findIn K (.ref C) "__getattr__" = some none) (hs : PySem.W.subIn K (.ref C) (.type "BaseException") = some true) (hd : PySem.W.hasDictIn K C = true)
    (ha : PySem.W.findIn K (.ref C) "__class__" = some (some (.builtin "object.__class__"))) (hn : PySem.W.specialIn K (.builtin "object.__class__") "__get__" = some (some (.builtin "getset_descriptor.__get__"))) (ht : PySem.W.takesIn K (.builtin "object.__class__") = some true) (hm : PySem.W.mroIn K C (.type "object") = some true)
    (e : PySem.W.exmOne K (.ref C) (.ref cS) = some true) (k1 : PySem.W.kitOne K (.ref C) (.ref c1) = some b1) (k2 : PySem.W.kitOne K (.ref C) (.ref c2) = some b2) (k3 : PySem.W.kitOne K (.ref C) (.ref c3) = some b3) (k4 : PySem.W.kitOne K (.ref C) (.ref c4) = some b4)
    (k5 : PySem.W.kitOne K (.ref C) (.ref c5) = some b5) (kv : PySem.W.kitOne K (.ref C) (.type "ValueError") = some bv) (hr : r = (bv && decide (([b1, b2, b3] ++ [b4, b5]).count true = 1)))
    (t : ∀ p ∈ ps, ∃ C, mg p.1 = some (.ref C) ∧ AnyX K C cS c1 c2 c3 c4 c5 p.2) : ∀ p ∈ (x, r) :: ps, ∃ C, mg p.1 = some (.ref C) ∧ AnyX K C cS c1 c2 c3 c4 c5 p.2 := fun p hp => by
  rcases List.mem_cons.mp hp with rfl | hp
  · exact ⟨C, PySem.W.mg_of X G a, ⟨⟨hg, hk, hs, hd, ha, hn, ht, hm⟩, e, _, _, _, _, _, _, k1, k2, k3, k4, k5, kv, hr⟩⟩
  · exact t p hp
end
abbrev FdX {K : PySem.W.Frag} {h : Heap} (_ : K.In h) (mg : Str → Option Value) (x : Str) (st : Stmt) : Prop := Fd K mg x st
abbrev ExTX {K : PySem.W.Frag} {h : Heap} (_ : K.In h) (mg : Str → Option Value) (x : Str) : Prop := ExT K mg x
abbrev KTabX {K : PySem.W.Frag} {h : Heap} (_ : K.In h) (w : World) (mg : Str → Option Value) (x : Str) (tbl : List (Str × Option D)) : Prop := ∃ d, KTab K w mg x d tbl
abbrev HdTX {K : PySem.W.Frag} {h : Heap} (_ : K.In h) (mg : Str → Option Value) (x : Str) (tbl : List (Str × Bool)) : Prop := HdT K mg x tbl
abbrev AnyTX {K : PySem.W.Frag} {h : Heap} (_ : K.In h) (mg : Str → Option Value) (nS n1 n2 n3 n4 n5 : Str) (tbl : List (Str × Bool)) : Prop := AnyT K mg nS n1 n2 n3 n4 n5 tbl
/-- law's: a list of at most n ints is handed in, True comes out -/
def spLaw (n : Nat) (K : PySem.W.Frag) : Sp := fun vs H Q _ => ∃ (a : Addr) (ns : List Int), vs = [.ref a] ∧ SqL K H a (ns.map V.int) ∧ ns.length ≤ n ∧ ∀ H', Q (.bl true) H'
theorem repL_ints {K : PySem.W.Frag} {mg : Str → Option Value} {H : Hp} : ∀ ns : List Int, RepL K mg H (ns.map D.int) (ns.map V.int)
  | [] => rfl
  | n :: ns => ⟨_, _, rfl, rfl, repL_ints ns⟩
theorem spT_law {n : Nat} {K : PySem.W.Frag} {mg : Str → Option Value} {F : MF} (hF : ∀ ns : List Int, ns.length ≤ n → ∃ os, F [.val (.fls (ns.map D.int))] = .ret (.dd (.bl true)) os) : ∀ vs H Q E, spLaw n K vs H Q E → spT K mg 1 F vs H Q E := by
  rintro vs H Q E ⟨a, ns, rfl, hs, hl, q⟩
  obtain ⟨os, hF⟩ := hF ns hl
  have E : EnvOk K mg [] [] (fun _ => none) H H [some (.ref a)] [.val (.fls (ns.map D.int))] := by
    refine ⟨rfl, Ext.refl _, (fun _ _ z => by cases z), (fun _ _ z => by cases z), fun i c hc => ?_, fun i j b p q => ?_, fun i h => by simp at h⟩
    · match i with
      | 0 => cases hc; exact ⟨.ref a, rfl, a, _, rfl, hs, repL_ints ns⟩
      | i + 1 => simp at hc
    · obtain ⟨⟨c, h1, h2⟩, _⟩ := p
      match i with
      | 0 => cases h1; cases h2
      | i + 1 => simp at h1
  refine ⟨rfl, fun _ => none, H, [.val (.fls (ns.map D.int))], E, ?_⟩
  rw [hF]
  intro v F' H' _ _ r
  cases (show v = .bl true from r)
  exact q H'
theorem walkL {l : PySem.W.OpenLaw} {q : Program} {loose : List Str} {XP : (Str → Option Value) → Heap → Prop} {YP : World → Heap → Prop} {d : DefRec} {K : Params → PySem.W.Frag} {x : Str} {st : Stmt} {k : Nat} {F : MF} (hn : l.most = some 63) (hdf : d.params.defaults = []) (hnm : d.name = ("law" : Str)) (hr : Room k callerA)
    (hY : ∀ (w : World) (h : Heap), YP w h → (K w.params).In h) (hF : ∀ ns : List Int, ns.length ≤ 63 → ∃ os, F [.val (.fls (ns.map D.int))] = .ret (.dd (.bl true)) os)
    (hb : ∀ (kV doc pm : Value) (an : Option Addr) (cdv ct : Value) (u : Value), bindArgs (PySem.W.fnOf "law" "law" (defArgs st) (defBody st) (defScope st) .none kV doc pm an cdv ct) ⟨[u], []⟩ = pure [(x, u)])
    (G : ∀ (w : World) (mg : Str → Option Value) (h : Heap), (K w.params).In h → h.Ns mainGlobals mg →
      Fd (K w.params) mg "law" st ∧ ∀ base : Heap, ∀ f fd, Fun (K w.params) "law" "law" st f fd → FnOk l.prog w (K w.params) mg base (L2.CX l.prog w) k f fd [x] (spT (K w.params) mg 1 F)) :
    PySem.W.WalkO q loose XP YP l.row.toRowW d [] (fun f vs => PySem.call f vs) :=
  L2.walk_of (n := 63) (k := k) (x := x) (CX := fun w => L2.CX l.prog w) (sp := fun w => spLaw 63 (K w.params)) hn (by decide) hdf hr hY (fun w mg fa h KX Gn hmg => by
    obtain ⟨g1, g2⟩ := G w mg h KX Gn
    obtain ⟨f, fd, m, Fn⟩ := g1.all
    rw [hnm, m] at hmg
    cases hmg
    refine ⟨fd, ?_, fun base _ _ => (g2 base _ fd Fn).imp (spT_law hF)⟩
    obtain ⟨oc, od, kV, doc, pm, an, cdv, ct, osl, rfl, lk, hcd⟩ := Fn.ex
    exact fun s v => .of_eq (hb kV doc pm an cdv ct v)) (fun _ _ a ns hl _ hS => ⟨a, ns, rfl, hS, hl, fun _ => rfl⟩) fun _ _ _ _ _ h => by
      obtain ⟨_, _, _, _, _, _, _, _, _, _, _, _, z⟩ := h
      exact z
/-! ### reckoning with mirrors -/
theorem sz0 : 0 ≤ sizeLine := by decide
theorem sz1 : 1 ≤ sizeLine := by decide
theorem sz2 : 2 ≤ sizeLine := by decide
theorem sz3 : 3 ≤ sizeLine := by decide
theorem sz4 : 4 ≤ sizeLine := by decide
theorem sz5 : 5 ≤ sizeLine := by decide
theorem sz6 : 6 ≤ sizeLine := by decide
theorem sz7 : 7 ≤ sizeLine := by decide
theorem sz8 : 8 ≤ sizeLine := by decide
theorem sz9 : 9 ≤ sizeLine := by decide
theorem sz10 : 10 ≤ sizeLine := by decide
theorem sz11 : 11 ≤ sizeLine := by decide
theorem sz12 : 12 ≤ sizeLine := by decide
theorem sz13 : 13 ≤ sizeLine := by decide
theorem sz14 : 14 ≤ sizeLine := by decide
theorem sz15 : 15 ≤ sizeLine := by decide
theorem oNe_str (a b : Str) : oNe (.str a) (.str b) = some (.dd (.bl (!decide (a = b)))) := by
  show some (R.dd (.bl (!decide (V.str a = V.str b)))) = _
  congr 4
  exact decide_eq_decide.mpr ⟨fun h => by cases h; rfl, fun h => by rw [h]⟩
theorem oNe_int (a b : Int) : oNe (.int a) (.int b) = some (.dd (.bl (!decide (a = b)))) := by
  show some (R.dd (.bl (!decide (V.int a = V.int b)))) = _
  congr 4
  exact decide_eq_decide.mpr ⟨fun h => by cases h; rfl, fun h => by rw [h]⟩
theorem oNe_bl (a b : Bool) : oNe (.bl a) (.bl b) = some (.dd (.bl (!decide (a = b)))) := by
  show some (R.dd (.bl (!decide (V.bl a = V.bl b)))) = _
  congr 4
  exact decide_eq_decide.mpr ⟨fun h => by cases h; rfl, fun h => by rw [h]⟩
theorem mLoop_nx {f : MG} {mb : MS} {d : D} {ds : List D} {ρ ρ1 ρ2 : Env} (h1 : f d ρ = some ρ1) (h2 : mb ρ1 = .nx ρ2) : mLoop f mb (d :: ds) ρ = mLoop f mb ds ρ2 := by
  rw [mLoop]; simp only [h1, h2]
theorem mLoop_ret {f : MG} {mb : MS} {d : D} {ds : List D} {ρ ρ1 ρ2 : Env} {r : R} (h1 : f d ρ = some ρ1) (h2 : mb ρ1 = .ret r ρ2) : mLoop f mb (d :: ds) ρ = .ret r ρ2 := by
  rw [mLoop]; simp only [h1, h2]
theorem mLoop_exc {f : MG} {mb : MS} {d : D} {ds : List D} {ρ ρ1 ρ2 : Env} {x : Str} (h1 : f d ρ = some ρ1) (h2 : mb ρ1 = .exc x ρ2) : mLoop f mb (d :: ds) ρ = .exc x ρ2 := by
  rw [mLoop]; simp only [h1, h2]
theorem js_all (ρ : Env) : ∀ (ms : List ME) (acc : Str), acc.length + 1000 * ms.length ≤ sizeLine → (∀ m ∈ ms, ∃ y, y.length ≤ 1000 ∧ m ρ = .ok (.dd (.str y)) ρ) → ∃ s, mJs ms acc ρ = .ok (.dd (.str s)) ρ
  | [], acc, _, _ => ⟨acc, rfl⟩
  | m :: ms, acc, hl, h => by
    obtain ⟨y, hy, e⟩ := h m List.mem_cons_self
    have hc : (acc ++ y).length = acc.length + y.length := Str.length_append acc y
    simp only [List.length_cons] at hl
    obtain ⟨s, hs⟩ := js_all ρ ms (acc ++ y) (by rw [hc]; omega) fun m' hm => h m' (List.mem_cons_of_mem _ hm)
    refine ⟨s, ?_⟩
    unfold mJs
    have hz : (acc ++ y).length ≤ sizeLine := by rw [hc]; omega
    simp only [e, R.fix, use, if_pos hz]
    exact hs
theorem le_sz {n : Nat} (h : n ≤ 16777216) : n ≤ sizeLine := h
theorem cut_map {α β : Type} (f : α → β) (xs : List α) (lo hi : Option Int) : cut (xs.map f) lo hi = (cut xs lo hi).map f := by
  unfold cut; rw [List.length_map, ← List.map_drop, ← List.map_take]
theorem atI_nat {α : Type} (xs : List α) (i : Int) (h0 : 0 ≤ i) (h : i < xs.length) : atI xs i = xs[i.toNat]? := by
  unfold atI ixN; rw [if_pos h0, if_pos h]; rfl
theorem atI_lt {α : Type} (xs : List α) (i : Int) (h0 : 0 ≤ i) (h : i < xs.length) : ∃ x, x ∈ xs ∧ atI xs i = some x := by
  rw [atI_nat xs i h0 h]
  have : i.toNat < xs.length := by omega
  exact ⟨xs[i.toNat], List.getElem_mem this, List.getElem?_eq_getElem this⟩
instance (i j : Int) : Decidable (CMul i j) := by unfold CMul; infer_instance
/-! ### xs[a:] = ys -/
section
variable {prog : Program} {w : World} {A : Around} {E : Value → Shared → Prop} {s : Shared}
theorem from_run {k n : Nat} (h : k ≤ n) : sliceBounds (some (k : Int)) none none n = ((k : Int), (n : Int), 1) := by
  simp only [sliceBounds, Option.getD_none]
  have z1 : ¬ ((k : Int) < 0) := by omega
  simp only [z1, if_false, show (1 : Int) > 0 by decide, if_true]
  congr 1
  omega
theorem splice_from (olds news : List Value) (k : Nat) : olds.toArray.extract 0 k ++ news.toArray ++ olds.toArray.extract olds.toArray.size olds.toArray.size = (olds.take k ++ news).toArray := by
  apply Array.toList_inj.mp
  simp
set_option maxRecDepth 100000 in
theorem setFrom {lA bA sA : Addr} {olds news : Array Value} {nO nN : Nat} {va : Value} {k : Nat} {Q : Unit → Shared → Prop}
    (g1 : s.heap.get? lA = some { cls := .type "list", data := .seq olds nO }) (g2 : s.heap.get? bA = some { cls := .type "list", data := .seq news nN }) (g3 : lA ≠ bA)
    (g4 : s.heap.IsSliceOf sA va .none .none) (g5 : IsPart va (some (k : Int))) (g6 : k ≤ olds.size)
    (g7 : olds.size + news.size ≤ sizeLine) (g8 : Q () { s with heap := s.heap.update lA (Obj.mapSeq fun xs => xs.extract 0 k ++ news ++ xs.extract olds.size xs.size) }) :
    wpAny (model prog w) A (setItem (.ref lA) (.ref sA) (.ref bA)) Q E s := by
  have y1 : s.heap.IsList lA olds := PySem.IsL.isList g1
  have y2 : s.heap.IsList bA news := PySem.IsL.isList g2
  obtain ⟨os, y3, y4, y5⟩ := id g4
  have y6 : s.TypeIs (.ref sA) "slice" := ⟨os, y3, y4⟩
  have y7 : ¬ ((rawPart none == rawInt 0) = true) := Bool.false_ne_true
  have y8 : Builtin.List.listSameRef (.ref lA) (.ref bA) = false := by
    unfold Builtin.List.listSameRef; exact beq_eq_false_iff_ne.mpr g3
  have y9 : (max (k : Int) (olds.size : Int)).toNat = olds.size := by omega
  have ya : ((fun xs : Array Value => xs.extract 0 k ++ news ++ xs.extract olds.size xs.size) olds).size ≤ sizeLine + 1 := by
    simp only [Array.size_append, Array.size_extract]; omega
  unfold setItem; try with_reducible refine wpAny_holding ?_
  first | (refine wpAny_bind (wpAny_pure ?_)) | skip
  refine wpAny_bind (wpAny_sequenceKey y1.typeIs (by decide) ?_)
  refine wpAny_bind (wpAny_callSpecial?_slot (name := Str.ofString "__setitem__") y1.typeIs slot_list_setitem (wpAny_call_entry slot_list_setitem y1.typeIs entry_list_setitem ?_ (args_list_setitem _ _ _)))
  show wpAny _ _ (Builtin.List.listSubscript? (.ref sA) >>= _) _ _ s
  refine wpAny_bind ?_; unfold Builtin.List.listSubscript?
  refine wpAny_bind (wpAny_specialOf y6 slice_no_index ?_)
  simp only [Option.isNone_none, if_true]; refine wpAny_pure ?_
  show wpAny _ _ (typeOf (.ref sA) >>= _) _ _ s
  refine wpAny_bind (wpAny_typeOf y6 ?_)
  first | (rw [if_neg (by decide)]) | (refine PySem.W.KFB.if_not (by decide) ?_)
  rw [listSliceParts_eq]; refine wpAny_bind (wpAny_bind (wpAny_field y3 y5 (x := .none) rfl (wpAny_bind (wpAny_listPart .none ?_))))
  rw [if_neg y7]; refine wpAny_bind (wpAny_field y3 y5 (x := va) rfl (wpAny_bind (wpAny_listPart g5 ?_)))
  refine wpAny_bind (wpAny_field y3 y5 (x := .none) rfl (wpAny_bind (wpAny_listPart .none (wpAny_pure ?_))))
  first | (simp only [y8, Bool.false_eq_true, if_false]) | (refine PySem.W.KFB.if_not y8 ?_) | (dsimp only; rw [if_neg (by rw [y8]; exact Bool.false_ne_true)])
  refine wpAny_bind (m := Builtin.List.listAllItems (.ref bA) "must assign iterable to extended slice") ?_
  unfold Builtin.List.listAllItems; refine wpAny_bind (wpAny_typeOf y2.typeIs ?_)
  first | (refine PySem.W.KFB.if_so (by decide) ?_) | (rw [if_pos (by decide)]) | (simp only [beq_self_eq_true, Bool.true_or, if_true])
  unfold Builtin.List.listItems; refine wpAny_bind (wpAny_seqItems g2 rfl (wpAny_pure ?_))
  refine wpAny_bind (wpAny_bind (wpAny_seqItems g1 rfl (wpAny_pure ?_)))
  refine wpAny_bind (wpAny_of_eq ((sliceIndices_raw (some (k : Int)) none none olds.size (by simp)).trans (congrArg (pure : Int × Int × Int → Sem (Int × Int × Int)) (from_run g6))) ?_)
  show wpAny _ _ (if ((1 : Int) == 1) = true then _ else _) _ _ s
  rw [if_pos (by decide)]; refine wpAny_bind (wpAny_rule ?_)
  first | (simp only [notLongL g7, Bool.false_eq_true, if_false]) | (refine PySem.W.KFB.if_not (notLongL g7) ?_)
  first | (refine wpAny_bind (wpAny_pure ?_)) | skip
  show wpAny _ _ (updateSeq lA (fun xs => xs.extract 0 ((k : Int)).toNat ++ news ++ xs.extract (max (k : Int) (olds.size : Int)).toNat xs.size) >>= _) _ _ s
  rw [y9, Int.toNat_natCast]
  refine wpAny_bind (wpAny_updateSeq (hz := Nat.le_trans (Nat.le_add_right _ _) g7) (_hz' := ya) g1 rfl ?_)
  refine wpAny_bind (wpAny_letGo ?_)
  first | (exact wpAny_bind (wpAny_pure (wpAny_pure ⟨.none, rfl, wpAny_pure g8⟩))) | (exact wpAny_pure ⟨.none, rfl, wpAny_pure g8⟩)
end
section
variable {X : Cx}
theorem set_from {pins : List (Addr × Obj)} {s : Shared} {σ : St} {H : Hp} {l b sl : Addr} {xs ys : List V} {k : Int} {va : Value} {Q : Unit → Shared → Prop} (I : Inv X pins σ H s)
    (hH : H l = some (.lst xs)) (hB : H b = some (.lst ys)) (hne : l ≠ b) (g4 : s.heap.IsSliceOf sl va .none .none) (ra : IsPart va (some k)) (h0 : 0 ≤ k) (hk : k ≤ xs.length)
    (hz : xs.length + ys.length ≤ sizeLine) (h : ∀ s', Inv X pins σ (upd H l (.lst (xs.take k.toNat ++ ys))) s' → Q () s') :
    wpAny (model X.prog X.w) X.A (setItem (.ref l) (.ref sl) (.ref b)) Q X.xe s := by
  obtain ⟨z, its, n, r, hl, e⟩ := I.lstM hH
  obtain ⟨z2, its2, n2, r2, hl2, e2⟩ := I.lstM hB
  obtain ⟨k', rfl⟩ := Int.eq_ofNat_of_zero_le h0
  simp only [Int.toNat_natCast] at h
  refine setFrom (k := k') e e2 hne g4 ra (by rw [List.size_toArray]; omega) (by rw [List.size_toArray, List.size_toArray]; omega) (h _ ?_)
  refine I.lset (its' := its.take k' ++ its2) (t' := s.toks) hH e ?_ (Vals.append (r.take _) r2) ?_
  · exact splice_from its its2 k'
  · rw [List.length_append, List.length_take]; omega
/-- o[a:] = .. -/
def gFrom (to : TE) (tl : TO) : TG := fun v σ H Q => to σ H fun o H1 => tl σ H1 fun lo H2 => ∃ l b xs ys k, o = .ref l ∧ v = .ref b ∧ lo = some k ∧ H2 l = some (.lst xs) ∧ H2 b = some (.lst ys) ∧ l ≠ b ∧ 0 ≤ k ∧ k ≤ xs.length ∧ xs.length + ys.length ≤ sizeLine ∧ Q σ (upd H2 l (.lst (xs.take k.toNat ++ ys)))
theorem pg_from {o lo : Expr} {to : TE} {tl : TO} {p2 pos : Pos} (ho : PE X o to) (hl : PO X (some lo) tl)
    (ha : ∀ v, assign (.Subscript o (.Slice (some lo) none none p2) pos) X.env v = (do
      let ov ← holding [v] (eval o X.env)
      let iv ← holding [v, ov] (eval (.Slice (some lo) none none p2) X.env)
      standAt pos
      holding [v, ov, iv] (setItem ov iv v)
      release [iv, v, ov] []) := by intro _; rfl) : PG X (.Subscript o (.Slice (some lo) none none p2) pos) (gFrom to tl) := by
  refine ⟨fun pins s σ H v u Q I r h => ?_⟩
  rw [ha]
  refine wpAny_bind (wpAny_holding (thn (ho.run pins s σ H _ I h) fun ov s1 ⟨x, H1, I1, r1, q1⟩ => ?_))
  refine wpAny_bind (wpAny_holding (wpAny_Slice (thn (hl.run pins s1 σ H1 _ I1 q1) fun vl s2 ⟨l, H2, I2, pl, q2⟩ => ?_)))
  rw [evalPart_none]
  refine wpAny_pure (wpAny_pure ?_)
  have I4 : Inv X pins σ H2 { s2 with heap := s2.heap.push { cls := .type "slice", data := .fields #[vl, .none, .none] } } := I2.kept (t' := s2.toks) fun b ob q => Heap.get?_push_of_some _ q
  obtain ⟨la, ba, xs, ys, k, rfl, rfl, rfl, q3, q4, q5, q6, q7, q8, q9⟩ := q2
  cases r1
  cases r
  refine wpAny_bind (wpAny_standAt (wpAny_bind (wpAny_holding ?_)))
  refine set_from I4 q3 q4 q5 (Heap.IsSliceOf.new ..) pl q6 q7 q8 fun s' I' => ?_
  exact wpAny_release ⟨σ, _, I', q9⟩
end

/-- x[a:] = e, x an owned list -/
def mPutSl (i : Nat) (ml m : ME) : MS := fun ρ => match m ρ with
  | .ok r ρ1 => match frz r ρ1 with
    | some (.lst ys, ρ2) => match ownL ρ2 i with
      | none => .bad
      | some _ => match ml ρ2 with
        | .ok rl ρ3 => match use rl.fix ρ3 with
          | some (.int k) => match ownL ρ3 i with
            | some xs => if 0 ≤ k ∧ k.natAbs ≤ xs.length ∧ xs.length + ys.length ≤ sizeLine then .nx (ρ3.set i (.own (xs.take k.natAbs ++ ys))) else .bad
            | none => .bad
          | _ => .bad
        | .exc x ρ3 => .exc x ρ3
        | .bad => .bad
    | _ => .bad
  | .exc x ρ1 => .exc x ρ1
  | .bad => .bad
section
variable {X : Cx} {W : WX} {fx : List Bool} {o lo e : Expr} {te tl : TE} {me ml : ME} {pos pos' p2 : Pos}
theorem ds_putSl (i : Nat) (ho : DE X W o (tVar i) (mVar i)) (hl : DE X W lo tl ml) (he : DE X W e te me) (hs : swapsWithSole [.Subscript o (.Slice (some lo) none none p2) pos'] e pos.line X.env = pure false := by rfl) (hw : swappedStores [.Subscript o (.Slice (some lo) none none p2) pos'] e X.env = pure none := by rfl)
    (h1 : (assignEach [.Subscript o (.Slice (some lo) none none p2) pos'] X.env).map (·.2) = [assign (.Subscript o (.Slice (some lo) none none p2) pos') X.env] := by rfl)
    (ha : ∀ v, assign (.Subscript o (.Slice (some lo) none none p2) pos') X.env v = (do
      let ov ← holding [v] (eval o X.env)
      let iv ← holding [v, ov] (eval (.Slice (some lo) none none p2) X.env)
      standAt pos'
      holding [v, ov, iv] (setItem ov iv v)
      release [iv, v, ov] []) := by intro _; rfl) : DS X W fx (.Assign [.Subscript o (.Slice (some lo) none none p2) pos'] e pos) (tAsg te (gFrom (tVar i) (tPart tl))) (mPutSl i ml me) := by
  refine ⟨ps_asg he.pe (pg_from ho.pe (po_some hl.pe) ha) hs hw h1, fun vs0 Hr Hf H σ ρ D E p => he.se fx vs0 Hr Hf H σ ρ _ E ?_⟩
  unfold mPutSl at p
  cases hm : me ρ with
  | bad => simp only [hm] at p; exact p
  | exc x ρ1 => simp only [hm] at p; exact fun C h1 F H' e E' => p C h1 σ F H' e E'
  | ok r ρ1 =>
    simp only [hm] at p
    intro v F H1 e1 E1 q1
    cases hz : frz r ρ1 with
    | none => simp only [hz] at p; exact p.elim
    | some x =>
      obtain ⟨d, ρ2⟩ := x
      obtain ⟨F', e', E2, r2⟩ := frz_ok E1 q1 hz
      cases d with
      | lst ys =>
        simp only [hz] at p
        cases h2 : ownL ρ2 i with
        | none => simp only [h2] at p; exact p.elim
        | some xs0 =>
          simp only [h2] at p
          obtain ⟨a, u, s1, s2, vs0', rfl, s3⟩ := E2.ownAt (ownL_some h2) rfl
          refine ⟨.ref a, s1, hl.se fx vs0 Hr F' H1 σ ρ2 _ E2 ?_⟩
          cases hm2 : ml ρ2 with
          | bad => simp only [hm2] at p; exact p
          | exc x ρ3 => simp only [hm2] at p; exact fun C h1 F2 H' e E' => p C h1 σ F2 H' ((e1.trans e').trans e) E'
          | ok rl ρ3 =>
            simp only [hm2] at p
            intro vk F2 H2 e2 E3 q3
            obtain ⟨F3, e3, E4, q4⟩ := q3.fixed E3
            cases hu : use rl.fix ρ3 with
            | none => simp only [hu] at p; exact p.elim
            | some dk =>
              have uk := use_ok E4 q4 hu
              simp only [hu] at p
              cases dk with
              | int k =>
                cases (show vk = .int k from uk)
                simp only at p
                cases h3 : ownL ρ3 i with
                | none => simp only [h3] at p; exact p.elim
                | some xs =>
                  simp only [h3] at p
                  by_cases hc : 0 ≤ k ∧ k.natAbs ≤ xs.length ∧ xs.length + ys.length ≤ sizeLine
                  · rw [if_pos hc] at p
                    obtain ⟨c1, c2, c3⟩ := hc
                    obtain ⟨a', u, t1, t2, vs, rfl, t3⟩ := E4.ownAt (ownL_some h3) rfl
                    rw [s1] at t1; cases t1
                    obtain ⟨b, ws, rfl, b1, b2⟩ := r2.mono (e2.trans e3)
                    have hab : a ≠ b := fun z => by
                      subst z
                      obtain ⟨a2, u2, k1, k2, k3, k4, k5⟩ := (E4.cel i _ (ownL_some h3)).own rfl
                      rw [joinEq, s1] at k1; cases k1
                      rw [k4] at b1; cases b1
                    have kk : k.toNat = k.natAbs := by omega
                    refine ⟨k, rfl, ?_⟩
                    refine ⟨a, b, vs, ws, k, rfl, rfl, rfl, t2, E4.sub _ _ b1, hab, c1, by rw [t3.length]; omega, by rw [t3.length, b2.length]; exact c3, ?_⟩
                    rw [kk]
                    exact p σ F3 _ (((e1.trans e').trans e2).trans e3) (E4.mutate (ownL_some h3) rfl s1 ⟨_, rfl, (t3.take _).append b2⟩)
                  · rw [if_neg hc] at p; exact p.elim
              | _ => exact p.elim
      | _ => simp only [hz] at p; exact p.elim
end
/-! ### enumerate(xs) -/
def enumD : Nat → List D → List D
  | _, [] => []
  | n, d :: ds => .tup [.int n, d] :: enumD (n + 1) ds
theorem enumD_get : ∀ (n : Nat) (ds : List D) (i : Nat), (enumD n ds)[i]? = (ds[i]?).map fun d => .tup [.int ((n + i : Nat)), d]
  | _, [], i => by simp [enumD]
  | n, d :: ds, 0 => by simp [enumD]
  | n, d :: ds, i + 1 => by
    have := enumD_get (n + 1) ds i
    simp only [enumD, List.getElem?_cons_succ, this]
    rw [show n + 1 + i = n + (i + 1) by omega]
theorem enumD_len : ∀ (n : Nat) (ds : List D), (enumD n ds).length = ds.length
  | _, [] => rfl
  | n, d :: ds => by simp [enumD, enumD_len (n + 1) ds]
def miEnum (m : ME) : MI := fun ρ => match m ρ with
  | .ok r ρ1 => match frz r ρ1 with
    | some (.lst ds, ρ2) => .ok (enumD 0 ds) ρ2
    | _ => .bad
  | .exc x ρ1 => .exc x ρ1
  | .bad => .bad
theorem yields_e {K : PySem.W.Frag} {mg : Str → Option Value} {Hf : Hp} {a : Addr} {vs : List V} {ds : List D} (h : SqL K Hf a vs) (r : RepL K mg Hf ds vs) : Yields K mg Hf (Ite K a) (enumD 0 ds) := by
  refine ⟨fun H e i hi => ?_, fun H e => ⟨vs, e.sql h, by rw [r.length, enumD_len]; exact Nat.le_refl _⟩, fun H e i x H' hi y => ?_⟩
  · rw [enumD_len] at hi
    exact ⟨vs, vs[i]'(by rw [r.length]; exact hi), e.sql h, by simp [r.length, hi]⟩
  · obtain ⟨T, z, rfl, h1, h2, h3⟩ := y
    have hx := h3 vs (e.sql h)
    obtain ⟨d, k1, k2⟩ := r.getV hx
    refine ⟨.tup [.int (i : Nat), d], by rw [enumD_get, k1]; simp, .inr ⟨T, [.int (i : Nat), z], [.int (i : Nat), d], h1, h2, rfl, rfl, .cons rfl (.cons k2 .nil)⟩⟩
theorem di_enum {X : Cx} {W : WX} {a : Expr} {ta : TE} {m : ME} {p pos tpos : Pos} {elts : List Expr} {kk : Nat} (h : DE X W a ta m) (hm : X.mg "enumerate" = none) (hg : Gl X "enumerate" := by rfl) (hs : starEach [a] X.env = [(false, eval a X.env)] := by rfl) (hs2 : starEach (a :: []) X.env = (false, eval a X.env) :: starEach [] X.env := by rfl) :
    DI X W (.Tuple elts kk tpos) (.Call (.Name "enumerate" p) [a] [] pos) (iEnum X.K (tCons ta tNil)) (miEnum m) := by
  refine ⟨pi_enum hg hm (pa_cons h.pe pa_nil hs2) hs, fun fx vs0 Hr Hf H σ ρ R E q => ?_⟩
  refine h.se fx vs0 Hr Hf H σ ρ _ E ?_
  unfold miEnum at q
  cases hm : m ρ with
  | bad => rw [hm] at q; exact q
  | exc x ρ1 => rw [hm] at q; exact q
  | ok r ρ1 =>
    simp only [hm] at q
    intro v F H1 e1 E1 q1
    cases hz : frz r ρ1 with
    | none => simp only [hz] at q; exact q.elim
    | some x =>
      obtain ⟨d, ρ2⟩ := x
      obtain ⟨F', e', E2, r2⟩ := frz_ok E1 q1 hz
      cases d with
      | lst ds =>
        simp only [hz] at q
        obtain ⟨b, ws, rfl, b1, b2⟩ := r2
        exact ⟨b, ws, rfl, .of (E2.sub _ _ b1), q (Ite X.K b) F' H1 (e1.trans e') E2 (yields_e (.of b1) b2)⟩
      | _ => simp only [hz] at q; exact q.elim
/-- how many turns a while is followed -/
def whileMost : Nat := 1048576
/-! ### == and != of two dicts that are alike -/
section
variable {X : Cx}
theorem hits_F {A : Around} {s : Shared} {F : V → V → Prop} (ih : ∀ x y v u, F x y → RelV x v → RelV y u → SeqAt.EqAt A s v u true) {ls : List (Key × V)} {vb : List (Key × Value)} (hb : KV ls vb) {ks : List (Key × V)} {va : List (Key × Value)}
    (ha : KV ks va) : (∀ p ∈ ks, ∃ u, valV ls p.1 = some u ∧ F p.2 u) → PySem.W.KeqHits A s vb va true := by
  unfold KV at ha
  induction ha with
  | nil => exact fun _ => .nil
  | @cons p q ps qs h t k =>
    intro hp
    obtain ⟨u, e, f⟩ := hp p List.mem_cons_self
    have z : RelO (some u) (valueAt vb p.1) := by rw [← e]; exact hb.val p.1
    obtain ⟨y, hy, ry⟩ := z.some_of
    obtain ⟨key, v⟩ := q
    obtain ⟨h1, h2⟩ := h
    have h1' : p.1 = key := h1
    rw [h1'] at hy
    exact (.hit hy (ih _ _ _ _ f h2 ry) (k fun p' hm => hp p' (List.mem_cons_of_mem _ hm)) : PySem.W.KeqHits A s vb ((key, v) :: qs) (true && true))
def Lk (K : PySem.W.Frag) (H : Hp) (x y : V) : Prop := ∃ d e, Dp K H x d ∧ Dp K H y e ∧ SeqAt.shaped d = true ∧ SeqAt.shaped e = true ∧ PyData.eqv d e = true
def rEqK (K : PySem.W.Frag) (r : Bool) : R2 := fun x y H Q => ∃ a b ks ls, x = .ref a ∧ y = .ref b ∧ H a = some (.dK ks) ∧ H b = some (.dK ls) ∧ ks.length = ls.length ∧ (∀ p ∈ ks, ∃ u, valV ls p.1 = some u ∧ Lk K H p.2 u) ∧ Q (.bl r) H
theorem lk_run {pins : List (Addr × Obj)} {s : Shared} {σ : St} {H : Hp} (I : Inv X pins σ H s) (hu : X.A.units + 65 < cLine) : ∀ x y v u, Lk X.K H x y → RelV x v → RelV y u → SeqAt.EqAt X.A.in1 s v u true := by
  rintro x y v u ⟨d, e, hd, he, sd, se, h⟩ rx ry
  obtain ⟨as, r1⟩ := Dp.reads I d x v hd rx
  obtain ⟨bs, r2⟩ := Dp.reads I e y u he ry
  rw [← h]
  exact PySem.W.keq_at r1 r2 sd se (by show X.A.units + 1 + 64 < cLine; omega)
theorem op_eqK (hu : X.A.units + 65 < cLine) : OpR X (compareOp .Eq) (rEqK X.K true) := by
  intro pins s σ H x y v u Q I rx ry h
  obtain ⟨a, b, ks, ls, rfl, rfl, ea, eb, hl, hp, q⟩ := h
  obtain rfl : v = Value.ref a := rx
  obtain rfl : u = Value.ref b := ry
  obtain ⟨_, ya, va, ra, da⟩ := (show ObjOk X.prog X.w H s.heap a (.dK ks) from I.hok a _ ea)
  obtain ⟨_, yb, vb, rb, db⟩ := (show ObjOk X.prog X.w H s.heap b (.dK ls) from I.hok b _ eb)
  have hl : va.length = vb.length := by rw [← ra.length, ← rb.length]; exact hl
  refine PySem.W.keq_eq (knd := mixKind X.prog X.w) (r := true) ya yb da db (by omega) (fun _ => hits_F (lk_run I hu) rb ra hp) ?_
  rw [show (va.length == vb.length && true) = true by simp [hl]]
  exact ⟨.bl true, H, I, rfl, q⟩
theorem op_neK (hu : X.A.units + 65 < cLine) : OpR X (compareOp .NotEq) (rEqK X.K false) := by
  intro pins s σ H x y v u Q I rx ry h
  obtain ⟨a, b, ks, ls, rfl, rfl, ea, eb, hl, hp, q⟩ := h
  obtain rfl : v = Value.ref a := rx
  obtain rfl : u = Value.ref b := ry
  obtain ⟨_, ya, va, ra, da⟩ := (show ObjOk X.prog X.w H s.heap a (.dK ks) from I.hok a _ ea)
  obtain ⟨_, yb, vb, rb, db⟩ := (show ObjOk X.prog X.w H s.heap b (.dK ls) from I.hok b _ eb)
  have hl : va.length = vb.length := by rw [← ra.length, ← rb.length]; exact hl
  refine PySem.W.keq_ne (knd := mixKind X.prog X.w) (r := true) ya yb da db (by omega) (fun _ => hits_F (lk_run I hu) rb ra hp) ?_
  rw [show (!(va.length == vb.length && true)) = false by simp [hl]]
  exact ⟨.bl false, H, I, rfl, q⟩
end
/-- the data are alike -/
def eqKB (vs ws : List D) : Bool := match pyL vs, pyL ws with
  | some ps, some qs => decide (ps.length = qs.length) && ps.all SeqAt.shaped && qs.all SeqAt.shaped && (ps.zip qs).all fun pq => PyData.eqv pq.1 pq.2
  | _, _ => false
def oEqK (r : Bool) (a b : D) : Option R := match a, b with
  | .dct ks vs, .dct ls ws => if ks = ls ∧ eqKB vs ws = true then some (.dd (.bl r)) else none
  | _, _ => none
theorem eqKB_same {vs : List D} {ps : List PyData} (h : pyL vs = some ps) (hs : ∀ p ∈ ps, SeqAt.shaped p = true) : eqKB vs vs = true := by
  have z : ∀ qs : List PyData, (∀ p ∈ qs, SeqAt.shaped p = true) → (qs.zip qs).all (fun pq => PyData.eqv pq.1 pq.2) = true := fun qs => by
    induction qs with
    | nil => exact fun _ => rfl
    | cons q qs ih =>
      intro hq
      rw [List.zip_cons_cons, List.all_cons, ih fun p hp => hq p (List.mem_cons_of_mem _ hp), SeqAt.eqv_refl _ (SeqAt.canLay_of_shaped (hq q List.mem_cons_self))]; rfl
  have a : ps.all SeqAt.shaped = true := List.all_eq_true.mpr hs
  simp only [eqKB, h, a, z ps hs, decide_true, Bool.and_self]
theorem dget_at : ∀ {ks : List Key} {ds : List D} {i : Nat} {k : Key} {d : D}, ks.Nodup → ks[i]? = some k → ds[i]? = some d → dget ks ds k = some d
  | [], _, _, _, _, _, h, _ => by simp at h
  | _ :: _, [], _, _, _, _, _, h => by simp at h
  | k0 :: ks, d0 :: ds, 0, _, _, _, h, h' => by simp at h h'; subst h; subst h'; simp [dget]
  | k0 :: ks, d0 :: ds, i + 1, k, d, n, h, h' => by
    simp at h h'
    have hm : k ∈ ks := by obtain ⟨hh, e⟩ := List.getElem?_eq_some_iff.mp h; rw [← e]; exact List.getElem_mem hh
    have hne : k0 ≠ k := fun z => (List.nodup_cons.mp n).1 (z ▸ hm)
    have := dget_at (List.nodup_cons.mp n).2 h h'
    unfold dget
    rw [if_neg hne]; exact this
theorem pyL_get : ∀ {ds : List D} {ps : List PyData} {i : Nat} {d : D}, pyL ds = some ps → ds[i]? = some d → ∃ p, ps[i]? = some p ∧ d.py = some p
  | [], _, _, _, _, h => by simp at h
  | d :: ds, ps, i, d', e, h => by
    unfold pyL at e
    cases hd : d.py with
    | none => simp only [hd] at e; cases e
    | some p =>
      cases hs : pyL ds with
      | none => simp only [hd, hs] at e; cases e
      | some qs =>
        simp only [hd, hs, Option.some.injEq] at e; subst e
        cases i with
        | zero => simp at h; subst h; exact ⟨p, rfl, hd⟩
        | succ i => simp at h; obtain ⟨q, h1, h2⟩ := pyL_get (i := i) hs h; exact ⟨q, by simpa using h1, h2⟩
theorem pyL_len : ∀ {ds : List D} {ps : List PyData}, pyL ds = some ps → ps.length = ds.length
  | [], _, e => by cases e; rfl
  | d :: ds, ps, e => by
    unfold pyL at e
    cases hd : d.py with
    | none => simp only [hd] at e; cases e
    | some p =>
      cases hs : pyL ds with
      | none => simp only [hd, hs] at e; cases e
      | some qs => simp only [hd, hs, Option.some.injEq] at e; subst e; simp [pyL_len hs]
theorem os_eqK {K : PySem.W.Frag} {mg : Str → Option Value} {r : Bool} : OpS K mg (rEqK K r) (oEqK r) := by
  intro fx vs0 Hr Hf H σ ρ a b x y z Q E ra rb e q
  cases a with
  | dct ks vs =>
    cases b with
    | dct ls ws =>
      dsimp only [oEqK] at e
      by_cases hc : ks = ls ∧ eqKB vs ws = true
      · rw [if_pos hc] at e; cases e
        obtain ⟨rfl, hb⟩ := hc
        obtain ⟨a, kvs, rfl, a1, a2, a3, a4⟩ := ra
        obtain ⟨b, lvs, rfl, b1, b2, b3, b4⟩ := rb
        unfold eqKB at hb
        cases hp : pyL vs with
        | none => simp only [hp] at hb; cases hb
        | some ps =>
          cases hq : pyL ws with
          | none => simp only [hp, hq] at hb; cases hb
          | some qs =>
            simp only [hp, hq, Bool.and_eq_true, decide_eq_true_eq] at hb
            obtain ⟨⟨⟨h1, h2⟩, h3⟩, h4⟩ := hb
            refine ⟨a, b, kvs, lvs, rfl, rfl, a1, b1, by rw [← List.length_map (f := Prod.fst) (as := kvs), a2, ← b2, List.length_map], fun p hm => ?_, E.giveD q rfl⟩
            obtain ⟨i, hi, e⟩ := List.getElem_of_mem hm
            have k1 : ks[i]? = some p.1 := by rw [← a2, List.getElem?_map, List.getElem?_eq_getElem hi, e]; rfl
            have hv : (kvs.map (·.2))[i]? = some p.2 := by rw [List.getElem?_map, List.getElem?_eq_getElem hi, e]; rfl
            obtain ⟨d, d1, d2⟩ := a4.getV hv
            obtain ⟨dp, d3, d4⟩ := pyL_get hp d1
            have hi2 : i < qs.length := by rw [← h1]; exact (List.getElem?_eq_some_iff.mp d3).1
            have hi3 : i < ws.length := by rw [← pyL_len hq]; exact hi2
            have w1 : ws[i]? = some ws[i] := List.getElem?_eq_getElem hi3
            obtain ⟨eq, w2, w3⟩ := pyL_get hq w1
            obtain ⟨u, u1, u2⟩ := dget_some (k := p.1) b2 b4 (dget_at (b2 ▸ b3 : ks.Nodup) k1 w1)
            refine ⟨u, u1, dp, eq, d2.dp E.sub d4, u2.dp E.sub w3, List.all_eq_true.mp h2 _ (List.mem_of_getElem? d3), List.all_eq_true.mp h3 _ (List.mem_of_getElem? w2), ?_⟩
            exact List.all_eq_true.mp h4 (dp, eq) (List.mem_of_getElem? (i := i) (by rw [List.getElem?_zip_eq_some]; exact ⟨d3, w2⟩))
      · rw [if_neg hc] at e; cases e
    | _ => cases e
  | _ => cases e
theorem room65 {k : Nat} {A : Around} (r : Room k A) : A.units + 65 < cLine := by have := r.un; omega
end TL

set_option maxHeartbeats 0
namespace LW
open PySem L2 TL
def tbl_PUT : List (Str × Option D) := [("add", some (.fn "added")), ("mul", some (.fn "multiplied")), ("less", some (.fn "compared")), ("join", some (.fn "joined")), ("long", some (.fn "measured")), ("show", some (.fn "shown")), ("swap", some (.fn "swapped")), ("drop", some (.fn "dropped")), ("copy", some (.fn "copied")), ("num", none), ("text", none)]
def tbl_TOLD : List (Str × Option D) := [("add", some (.str "num")), ("mul", some (.str "num")), ("less", some (.str "num")), ("join", some (.str "text")), ("long", some (.str "text")), ("show", some (.str "num")), ("if", some (.str "num")), ("num", none), ("text", none), ("swap", none), ("drop", none), ("copy", none)]
def tbl_WANTED : List (Str × Option D) := [("num", some (.int 0)), ("text", some (.int 0)), ("add", some (.int 2)), ("mul", some (.int 2)), ("less", some (.int 2)), ("join", some (.int 2)), ("long", some (.int 1)), ("show", some (.int 1)), ("swap", some (.int 2)), ("drop", some (.int 1)), ("if", some (.int 1)), ("copy", none)]
def hdt_Empty : List (Str × Bool) := [("Empty", true), ("WrongKind", false)]
def hdt_WrongKind : List (Str × Bool) := [("Empty", false), ("WrongKind", true)]
def tbl_any : List (Str × Bool) := [("Empty", true), ("WrongKind", true)]
def B_law_draw_1 : MS := mAsg 3 (m2 oMod (m2 oAdd (m2 oMul (mVar 3) (mC (.int 131))) (mVar 4)) (mC (.int 1000003)))
def M_law_draw : MS := mSeq (mPut 1 (mC (.int 0)) (m2 oAdd (m2 oIx (mVar 1) (mC (.int 0))) (mC (.int 1))))
 (mSeq (mIfS (mTest D.bool (m2 oLe (m2 oIx (mVar 1) (mC (.int 0))) (m1 oLen (mVar 0)))) (mRet (m2 oMod (m2 oIx (mVar 0) (m2 oSub (m2 oIx (mVar 1) (mC (.int 0))) (mC (.int 1)))) (mVar 2))) (mNx))
 (mSeq (mAsg 3 (m1 oLen (mVar 0)))
 (mSeq (mFor (miSeq (mSl (mVar 0) none (some (mC (.int 4))))) (mgName 4) (B_law_draw_1))
 (mRet (m2 oMod (m2 oMod (m2 oMul (m2 oAdd (mVar 3) (mC (.int 7))) (m2 oAdd (m2 oMul (m2 oIx (mVar 1) (mC (.int 0))) (m2 oIx (mVar 1) (mC (.int 0)))) (mC (.int 48271)))) (mC (.int 1000003))) (mVar 2))))))
def F_law_draw : MF := mkF [true, true, true] 5 M_law_draw
def E_law_words_1 : ME := m2 oIx (mVar 2) (m2 oMod (m2 oAdd (m2 oDiv (mVar 0) (m2 oAdd (mVar 3) (mC (.int 1)))) (m2 oMul (mC (.int 5)) (mVar 3))) (mC (.int 94)))
def M_law_words : MS := mSeq (mAsg 2 (mC (.str "abcdefghijklmnopqrstuvwxyzABCDEFGHIJKLMNOPQRSTUVWXYZ0123456789")))
 (mSeq (mAsg 2 (m2 oAdd (mVar 2) (mC (.str " .,;:!?'\"()[]{}<>+-*/=&|^~_#$@\\`"))))
 (mRet (mJoin (mC (.str "")) (mLc [3] (miRange (mVar 1)) (mgName 3) (mYes) (E_law_words_1)))))
def F_law_words : MF := mkF [true, true] 4 M_law_words
def M_law_value : MS := mSeq (mAsg 3 (mCall 3 F_law_draw [.ln 0, .ln 1, .ex (mC (.int 1000000000))]))
 (mSeq (mAsg 4 (mCall 3 F_law_draw [.ln 0, .ln 1, .ex (mC (.int 6))]))
 (mSeq (mIfS (mTest D.bool (m2 oEq (mVar 2) (mC (.str "text")))) (mSeq (mIfS (mTest D.bool (m2 oEq (mVar 4) (mC (.int 0)))) (mRet (mCall 2 F_law_words [.ln 3, .ex (m2 oAdd (mC (.int 58)) (m2 oMod (mVar 3) (mC (.int 3))))])) (mNx))
 (mRet (mCall 2 F_law_words [.ln 3, .ex (m2 oMod (m2 oDiv (mVar 3) (mC (.int 94))) (mC (.int 8)))]))) (mNx))
 (mSeq (mIfS (mTest D.bool (m2 oEq (mVar 4) (mC (.int 0)))) (mRet (m2 oSub (mC (.int 999999999)) (m2 oMod (mVar 3) (mC (.int 3))))) (mNx))
 (mSeq (mIfS (mTest D.bool (m2 oLt (mVar 4) (mC (.int 3)))) (mRet (m2 oMod (mVar 3) (mC (.int 4)))) (mNx))
 (mRetV 3)))))
def F_law_value : MF := mkF [true, true, true] 5 M_law_value
def M_law_plain_row : MS := mSeq (mAsg 2 (mSeqD (fun ds => .ow (.own ds)) [.ex (mC (.str "num")), .ex (mC (.str "text")), .ex (mC (.str "add")), .ex (mC (.str "mul")), .ex (mC (.str "less")), .ex (mC (.str "join")), .ex (mC (.str "long")), .ex (mC (.str "show")), .ex (mC (.str "swap")), .ex (mC (.str "drop")), .ex (mC (.str "copy")), .ex (mC (.str "copy")), .ex (mC (.str "copy"))]))
 (mSeq (mAsg 3 (m2 oIx (mVar 2) (mCall 3 F_law_draw [.ln 0, .ln 1, .ex (mC (.int 13))])))
 (mSeq (mIfS (tmOr (mTest D.bool (m2 oEq (mVar 3) (mC (.str "num")))) (mTest D.bool (m2 oEq (mVar 3) (mC (.str "text"))))) (mRet (mSeqD (fun ds => .dd (.tup ds)) [.ex (mVar 3), .ex (mCall 3 F_law_value [.nm 0, .nm 1, .nm 3])])) (mNx))
 (mSeq (mIfS (mTest D.bool (m2 oEq (mVar 3) (mC (.str "copy")))) (mRet (mSeqD (fun ds => .dd (.tup ds)) [.ex (mVar 3), .ex (m2 oIx (mSeqD (fun ds => .ow (.own ds)) [.ex (mC (.int 0)), .ex (mC (.int 0)), .ex (mC (.int 1)), .ex (mC (.int 1)), .ex (mC (.int 2)), .ex (mC (.int 3)), .ex (mCall 3 F_law_draw [.ln 0, .ln 1, .ex (mC (.int 61))]), .ex (mC (.int 60))]) (mCall 3 F_law_draw [.ln 0, .ln 1, .ex (mC (.int 8))]))])) (mNx))
 (mRet (mSeqD (fun ds => .dd (.tup ds)) [.ex (mVar 3)])))))
def F_law_plain_row : MF := mkF [true, true] 4 M_law_plain_row
def M_law_wanted : MS := mSeq (mIfS (mTest D.bool (m2 oEq (m2 oIx (mVar 0) (mC (.int 0))) (mC (.str "copy")))) (mRet (m2 oMul (mSeqD (fun ds => .ow (.own ds)) [.ex (mC (.str ""))]) (m2 oAdd (m2 oIx (mVar 0) (mC (.int 1))) (mC (.int 1))))) (mNx))
 (mSeq (mAsg 1 (mDictC [(.inr "add", D.str "num"), (.inr "mul", D.str "num"), (.inr "less", D.str "num"), (.inr "join", D.str "text"), (.inr "swap", D.str "")]))
 (mSeq (mAsg 2 (mDictC [(.inr "long", D.str "text"), (.inr "show", D.str "num"), (.inr "drop", D.str "")]))
 (mSeq (mIfS (mTest D.bool (m2 (oIn false) (m2 oIx (mVar 0) (mC (.int 0))) (mVar 1))) (mRet (mSeqD (fun ds => .ow (.own ds)) [.ex (m2 oIx (mVar 1) (m2 oIx (mVar 0) (mC (.int 0)))), .ex (m2 oIx (mVar 1) (m2 oIx (mVar 0) (mC (.int 0))))])) (mNx))
 (mSeq (mIfS (mTest D.bool (m2 (oIn false) (m2 oIx (mVar 0) (mC (.int 0))) (mVar 2))) (mRet (mSeqD (fun ds => .ow (.own ds)) [.ex (m2 oIx (mVar 2) (m2 oIx (mVar 0) (mC (.int 0))))])) (mNx))
 (mRet (mSeqD (fun ds => .ow (.own ds)) []))))))
def F_law_wanted : MF := mkF [true] 3 M_law_wanted
def B_law_stack_1 : MS := mExpr (mApp 4 (mCall 3 F_law_value [.ln 0, .ln 1, .ex (m2 oIx (mSeqD (fun ds => .ow (.own ds)) [.ex (mC (.str "num")), .ex (mC (.str "text"))]) (mCall 3 F_law_draw [.ln 0, .ln 1, .ex (mC (.int 2))]))]))
def B_law_stack_2 : MS := mSeq (mIfS (mTest D.bool (m2 oEq (mVar 6) (mC (.str "")))) (mAsg 6 (m2 oIx (mSeqD (fun ds => .ow (.own ds)) [.ex (mC (.str "num")), .ex (mC (.str "text"))]) (mCall 3 F_law_draw [.ln 0, .ln 1, .ex (mC (.int 2))]))) (mIfS (mTest D.bool (m2 oEq (mCall 3 F_law_draw [.ln 0, .ln 1, .ex (mC (.int 5))]) (mC (.int 0)))) (mAsg 6 (m2 oIx (mSeqD (fun ds => .ow (.own ds)) [.ex (mC (.str "num")), .ex (mC (.str "text"))]) (m1 oInt (m2 oEq (mVar 6) (mC (.str "num")))))) (mNx)))
 (mExpr (mApp 4 (mCall 3 F_law_value [.nm 0, .nm 1, .nm 6])))
def M_law_stack : MS := mSeq (mAsg 3 (mCall 3 F_law_draw [.ln 0, .ln 1, .ex (mC (.int 5))]))
 (mSeq (mIfS (mTest D.bool (m2 oEq (mCall 3 F_law_draw [.ln 0, .ln 1, .ex (mC (.int 4))]) (mC (.int 1)))) (mAsg 3 (m2 oAdd (mVar 3) (mC (.int 57)))) (mNx))
 (mSeq (mAsg 4 (mSeqD (fun ds => .ow (.own ds)) []))
 (mSeq (mFor (miRange (mVar 3)) (mgName 5) (B_law_stack_1))
 (mSeq (mFor (miSeq (mCall 1 F_law_wanted [.nm 2])) (mgName 6) (B_law_stack_2))
 (mSeq (mIfS (tmAnd (mTest D.bool (m2 oGt (m1 oLen (mVar 4)) (mC (.int 1)))) (mTest D.bool (m2 oEq (mCall 3 F_law_draw [.ln 0, .ln 1, .ex (mC (.int 4))]) (mC (.int 0))))) (mPut 4 (m2 oSub (m1 oLen (mVar 4)) (mC (.int 1))) (m2 oIx (mVar 4) (m2 oSub (m1 oLen (mVar 4)) (mC (.int 2))))) (mNx))
 (mSeq (mIfS (mTest D.bool (m2 oEq (mCall 3 F_law_draw [.ln 0, .ln 1, .ex (mC (.int 5))]) (mC (.int 0)))) (mAsg 4 (mSl (mVar 4) (some (mCall 3 F_law_draw [.ln 0, .ln 1, .ex (m2 oAdd (m1 oLen (mVar 4)) (mC (.int 1)))])) none)) (mNx))
 (mRetV 4)))))))
def F_law_stack : MF := mkF [true, true, true] 7 M_law_stack
def B_law_lack_1 : MS := mIfS (tmAnd (mTest D.bool (m2 oNe (m2 oIx (mVar 1) (mVar 3)) (mC (.str "")))) (mTest D.bool (m2 oNe (m2 oIx (mVar 1) (mVar 3)) (m2 oIx (mVar 0) (m2 oAdd (mVar 2) (mVar 3)))))) (mRet (mC (.str "kind"))) (mNx)
def M_law_lack : MS := mSeq (mIfS (mTest D.bool (m2 oLt (m1 oLen (mVar 0)) (m1 oLen (mVar 1)))) (mRet (mC (.str "empty"))) (mNx))
 (mSeq (mAsg 2 (m2 oSub (m1 oLen (mVar 0)) (m1 oLen (mVar 1))))
 (mSeq (mFor (miRange (m1 oLen (mVar 1))) (mgName 3) (B_law_lack_1))
 (mRet (mC (.str "")))))
def F_law_lack : MF := mkF [true, true] 4 M_law_lack
def M_wanted : MS := mSeq (mAsg 1 (m2 oIx (mVar 0) (mC (.int 0))))
 (mSeq (mIfS (mTest D.bool (m2 oEq (mVar 1) (mC (.str "copy")))) (mRet (m2 oAdd (m2 oIx (mVar 0) (mC (.int 1))) (mC (.int 1)))) (mNx))
 (mRet (mKGet tbl_WANTED (mVar 1))))
def F_wanted : MF := mkF [true] 2 M_wanted
def X_check_1 : MS := mRaise "Empty" (mJs [m1 D.fmt (mVar 2), mC (.str " wants "), m1 D.fmt (mCall 1 F_wanted [.nm 0]), mC (.str " values and there are "), m1 D.fmt (m1 oLen (mVar 1))] Str.empty)
def X_check_2 : MS := mRaise "WrongKind" (mJs [m1 D.fmt (mVar 2), mC (.str " takes values of the kind "), m1 D.fmt (mKGet tbl_TOLD (mVar 2)), mC (.str " alone")] Str.empty)
def B_check_3 : MS := mIfS (mTest D.bool (m2 oNe (mVar 3) (mKGet tbl_TOLD (mVar 2)))) (X_check_2) (mNx)
def M_check : MS := mSeq (mAsg 2 (m2 oIx (mVar 0) (mC (.int 0))))
 (mSeq (mIfS (mTest D.bool (m2 oLt (m1 oLen (mVar 1)) (mCall 1 F_wanted [.nm 0]))) (X_check_1) (mNx))
 (mSeq (mIfS (mTest D.bool (mKIn tbl_TOLD true (mVar 2))) (mRetN) (mNx))
 (mFor (miSeq (mVar 1)) (mgName 3) (B_check_3))))
def F_check : MF := mkF [true, true] 4 M_check
def M_kind_of : MS := mRet (mIf (mTest D.tru (m2 oIsi (mVar 0) (mC (.ty "str")))) (mC (.str "text")) (mC (.str "num")))
def F_kind_of : MF := mkF [true] 1 M_kind_of
def E_kinds_of_1 : ME := mCall 1 F_kind_of [.nm 1]
def M_kinds_of : MS := mRet (m1 oTuple (mLc [1] (miSeq (mVar 0)) (mgName 1) (mYes) (E_kinds_of_1)))
def F_kinds_of : MF := mkF [true] 2 M_kinds_of
def M_added : MS := mSeq (mAsgG (mgSeq [1, 2]) (mVar 0))
 (mRet (mSeqD (fun ds => .ow (.own ds)) [.ex (m2 oMod (m2 oAdd (mVar 1) (mVar 2)) (mC (.int 1000000000)))]))
def F_added : MF := mkF [true] 3 M_added
def M_multiplied : MS := mSeq (mAsgG (mgSeq [1, 2]) (mVar 0))
 (mRet (mSeqD (fun ds => .ow (.own ds)) [.ex (m2 oMod (m2 oMul (mVar 1) (mVar 2)) (mC (.int 1000000000)))]))
def F_multiplied : MF := mkF [true] 3 M_multiplied
def M_compared : MS := mSeq (mAsgG (mgSeq [1, 2]) (mVar 0))
 (mRet (mSeqD (fun ds => .ow (.own ds)) [.ex (mIf (mTest D.bool (m2 oLt (mVar 1) (mVar 2))) (mC (.int 1)) (mC (.int 0)))]))
def F_compared : MF := mkF [true] 3 M_compared
def M_joined : MS := mSeq (mAsgG (mgSeq [1, 2]) (mVar 0))
 (mRet (mSeqD (fun ds => .ow (.own ds)) [.ex (mSl (m2 oAdd (mVar 1) (mVar 2)) none (some (mC (.int 60))))]))
def F_joined : MF := mkF [true] 3 M_joined
def M_measured : MS := mRet (mSeqD (fun ds => .ow (.own ds)) [.ex (m1 oLen (m2 oIx (mVar 0) (mC (.int 0))))])
def F_measured : MF := mkF [true] 1 M_measured
def M_shown : MS := mRet (mSeqD (fun ds => .ow (.own ds)) [.ex (m1 oStr (m2 oIx (mVar 0) (mC (.int 0))))])
def F_shown : MF := mkF [true] 1 M_shown
def M_swapped : MS := mSeq (mAsgG (mgSeq [1, 2]) (mVar 0))
 (mRet (mSeqD (fun ds => .ow (.own ds)) [.ex (mVar 2), .ex (mVar 1)]))
def F_swapped : MF := mkF [true] 3 M_swapped
def M_dropped : MS := mRet (mSeqD (fun ds => .ow (.own ds)) [])
def F_dropped : MF := mkF [true] 1 M_dropped
def M_copied : MS := mRet (m2 oAdd (mVar 0) (mSl (mVar 0) none (some (mC (.int 1)))))
def F_copied : MF := mkF [true] 1 M_copied
def tbv_put_by_put : List (Str × Nat × MF) := [("added", 1, F_added), ("multiplied", 1, F_multiplied), ("compared", 1, F_compared), ("joined", 1, F_joined), ("measured", 1, F_measured), ("shown", 1, F_shown), ("swapped", 1, F_swapped), ("dropped", 1, F_dropped), ("copied", 1, F_copied)]
def M_put_by : MS := mSeq (mAsg 2 (m2 oIx (mVar 0) (mC (.int 0))))
 (mSeq (mIfS (mTest D.bool (m2 (oIn false) (mVar 2) (mSeqD (fun ds => .dd (.tup ds)) [.ex (mC (.str "num")), .ex (mC (.str "text"))]))) (mRet (mSeqD (fun ds => .ow (.own ds)) [.ex (m2 oIx (mVar 0) (mC (.int 1)))])) (mNx))
 (mSeq (mAsg 3 (mKGet tbl_PUT (mVar 2)))
 (mRet (mCallV 3 tbv_put_by_put [.nm 1]))))
def F_put_by : MF := mkF [true, true] 4 M_put_by
def M_do : MS := mSeq (mAsg 2 (m2 oMax (mC (.int 0)) (m2 oSub (m1 oLen (mVar 0)) (mCall 1 F_wanted [.nm 1]))))
 (mSeq (mAsg 3 (mSl (mVar 0) (some (mVar 2)) none))
 (mSeq (mExpr (mCall 2 F_check [.ln 1, .ex (mCall 1 F_kinds_of [.nm 3])]))
 (mPutSl 0 (mVar 2) (mCall 2 F_put_by [.nm 1, .nm 3]))))
def F_do : MF := mkF [true, true] 4 M_do
def M_done : MS := mSeq (mAsg 2 (m1 oList (mVar 0)))
 (mSeq (mExpr (mCall 2 F_do [.nm 2, .nm 1]))
 (mRetV 2))
def F_done : MF := mkF [true, true] 3 M_done
def M_law_told : MS := mTry (mRet (mCall 2 F_done [.nm 0, .nm 1])) [(fun y => hdt_Empty.lookup y, mRet (mC (.str "empty"))), (fun y => hdt_WrongKind.lookup y, mRet (mC (.str "kind")))]
def F_law_told : MF := mkF [true, true] 2 M_law_told
def M_law_any : MS := mSeq (mAny 2 3 tbl_any (mExpr (mCall 2 F_done [.nm 0, .nm 1])))
 (mRet (mC (.bl false)))
def F_law_any : MF := mkF [true, true] 4 M_law_any
def B_law_alike_1 : MS := mSeq (mIfS (mTest D.bool (m2 oNe (m2 oIsi (m2 oIx (mVar 1) (mVar 2)) (mC (.ty "str"))) (m2 oIsi (m2 oIx (mVar 0) (mVar 2)) (mC (.ty "str"))))) (mRet (mC (.bl false))) (mNx))
 (mIfS (tmAnd (tmNot (mTest D.tru (m2 oIsi (m2 oIx (mVar 1) (mVar 2)) (mC (.ty "str"))))) (tmOr (mTest D.tru (m2 oIsi (m2 oIx (mVar 0) (mVar 2)) (mC (.ty "bool")))) (tmNot (mTest D.tru (m2 oIsi (m2 oIx (mVar 0) (mVar 2)) (mC (.ty "int"))))))) (mRet (mC (.bl false))) (mNx))
def M_law_alike : MS := mSeq (mIfS (tmOr (tmNot (mTest D.tru (m2 oIsi (mVar 0) (mC (.ty "list"))))) (mTest D.bool (m2 oNe (m1 oLen (mVar 0)) (m1 oLen (mVar 1))))) (mRet (mC (.bl false))) (mNx))
 (mSeq (mFor (miRange (m1 oLen (mVar 1))) (mgName 2) (B_law_alike_1))
 (mRet (m2 oEq (mVar 0) (mVar 1))))
def F_law_alike : MF := mkF [true, true] 3 M_law_alike
def M_law_reckoned : MS := mSeq (mIfS (mTest D.bool (m2 oEq (m2 oIx (mVar 0) (mC (.int 0))) (mC (.str "less")))) (mSeq (mIfS (mTest D.bool (m2 oLt (mVar 1) (mVar 2))) (mRet (mC (.int 1))) (mNx))
 (mRet (mC (.int 0)))) (mNx))
 (mSeq (mIfS (mTest D.bool (m2 oEq (m2 oIx (mVar 0) (mC (.int 0))) (mC (.str "join")))) (mRet (mSl (m2 oAdd (mVar 1) (mVar 2)) none (some (mC (.int 60))))) (mNx))
 (mSeq (mIfS (mTest D.bool (m2 oEq (m2 oIx (mVar 0) (mC (.int 0))) (mC (.str "add")))) (mRet (m2 oMod (m2 oAdd (mVar 1) (mVar 2)) (m2 oPow (mC (.int 10)) (mC (.int 9))))) (mNx))
 (mRet (m2 oMod (m2 oMul (mVar 1) (mVar 2)) (m2 oPow (mC (.int 10)) (mC (.int 9)))))))
def F_law_reckoned : MF := mkF [true, true, true] 3 M_law_reckoned
def M_law_behind : MS := mSeq (mAsg 2 (m1 oList (mVar 0)))
 (mSeq (mIfS (tmOr (mTest D.bool (m2 oEq (m2 oIx (mVar 1) (mC (.int 0))) (mC (.str "num")))) (mTest D.bool (m2 oEq (m2 oIx (mVar 1) (mC (.int 0))) (mC (.str "text"))))) (mExpr (mApp 2 (m2 oIx (mVar 1) (mC (.int 1))))) (mIfS (mTest D.bool (m2 oEq (m2 oIx (mVar 1) (mC (.int 0))) (mC (.str "copy")))) (mExpr (mApp 2 (m2 oIx (mVar 0) (m2 oSub (m2 oSub (m1 oLen (mVar 0)) (mC (.int 1))) (m2 oIx (mVar 1) (mC (.int 1))))))) (mSeq (mAsg 3 (mPop 2))
 (mIfS (mTest D.bool (m2 oEq (m2 oIx (mVar 1) (mC (.int 0))) (mC (.str "long")))) (mExpr (mApp 2 (m1 oLen (mVar 3)))) (mIfS (mTest D.bool (m2 oEq (m2 oIx (mVar 1) (mC (.int 0))) (mC (.str "show")))) (mExpr (mApp 2 (m1 oStr (mVar 3)))) (mIfS (mTest D.bool (m2 oEq (m2 oIx (mVar 1) (mC (.int 0))) (mC (.str "swap")))) (mExpr (mIns 2 (m2 oSub (m1 oLen (mVar 2)) (mC (.int 1))) (mVar 3))) (mIfS (mTest D.bool (m2 oNe (m2 oIx (mVar 1) (mC (.int 0))) (mC (.str "drop")))) (mExpr (mApp 2 (mCall 3 F_law_reckoned [.ln 1, .ex (mPop 2), .ln 3]))) (mNx))))))))
 (mRetV 2))
def F_law_behind : MF := mkF [true, true] 4 M_law_behind
def E_law_1 : ME := m2 oIx (mSeqD (fun ds => .ow (.own ds)) [.ex (mC (.str "num")), .ex (mC (.str "text"))]) (m1 oInt (m2 oIsi (mVar 8) (mC (.ty "str"))))
def M_law : MS := mSeq (mAsg 1 (mSeqD (fun ds => .ow (.own ds)) [.ex (mC (.int 0))]))
 (mSeq (mAsg 2 (mCall 2 F_law_plain_row [.nm 0, .nm 1]))
 (mSeq (mAsg 3 (mCall 3 F_law_stack [.nm 0, .nm 1, .nm 2]))
 (mSeq (mAsg 4 (mLc [8] (miSeq (mVar 3)) (mgName 8) (mYes) (E_law_1)))
 (mSeq (mAsg 5 (mCall 2 F_law_lack [.ln 4, .ex (mCall 1 F_law_wanted [.nm 2])]))
 (mSeq (mAsg 6 (m1 oList (mVar 3)))
 (mSeq (mAsg 7 (mCall 2 F_law_told [.nm 6, .nm 2]))
 (mSeq (mIfS (mTest D.bool (m2 oNe (mVar 5) (mC (.str "")))) (mRet (mAndV (m2 oIsi (mVar 7) (mC (.ty "str"))) (mAndV (m2 oEq (mVar 7) (mVar 5)) (mAndV (mCall 2 F_law_any [.nm 6, .nm 2]) (mCall 2 F_law_alike [.nm 6, .nm 3]))))) (mNx))
 (mSeq (mIfS (tmNot (mTest D.tru (mCall 2 F_law_alike [.ln 7, .ex (mCall 2 F_law_behind [.nm 3, .nm 2])]))) (mRet (mC (.bl false))) (mNx))
 (mSeq (mExpr (mApp 7 (mC (.int 7))))
 (mRet (mCall 2 F_law_alike [.nm 6, .nm 3])))))))))))
def F_law : MF := mkF [true] 9 M_law
end LW

namespace LW
open PySem L2 TL
def fS (ns : List Int) : Cell := .val (.fls (ns.map D.int))
theorem draw_loop (sc tp my c : Cell) : ∀ (cs : List Int) (s : Int), 0 ≤ s → s < 1000003 → ∀ c : Cell, ∃ s' c', 0 ≤ s' ∧ s' < 1000003 ∧
    mLoop (mgName 4) B_law_draw_1 (cs.map D.int) [sc, tp, my, .val (.int s), c] = .nx [sc, tp, my, .val (.int s'), c']
  | [], s, h0, h1, c => ⟨s, c, h0, h1, rfl⟩
  | x :: cs, s, h0, h1, c => by
    obtain ⟨s', c', k1, k2, k3⟩ := draw_loop sc tp my c cs ((s * 131 + x) % 1000003) (by omega) (by omega) (.val (.int x))
    refine ⟨s', c', k1, k2, ?_⟩
    have hm : CMul s 131 := .inr (by decide)
    rw [List.map_cons]
    unfold mLoop B_law_draw_1
    have z : (0 : Int) < 1000003 := by decide
    simp only [mkF, pad, outs, mSeq, mAsg, mAsgG, mExpr, mRet, mRetV, mRetN, mIfS, mIf, mNx, mTest, tmNot, tmAnd, tmOr, mVar, mC, mB, TL.m1, TL.m2, opt, use, R.fix, frz, tak, Cell.dat, mSeqD, mArgs, vals, mSl, mPart, mgSeq, setAll, D.items, mCall, give, mPut, mApp, mPop, mIns, ownL, mFor, miSeq, miRange, mAndV, mOrV, mNotV, D.bool, D.tru, mKGet, mKIn, mCallV, mRaise, mTry, mHands, mAny, mJoin, mLc, oAdd, oSub, oMul, oDiv, oMod, oPow, oNeg, oCmp, oIx, oSl, oLen, oList, oTuple, oStr, oInt, oMax, oMin, oIn, List.getElem?_cons_zero, List.getElem?_cons_succ, List.getElem?_nil, List.set_cons_zero, List.set_cons_succ, List.length_cons, List.length_nil, List.cons_append, List.nil_append, List.append_nil, List.replicate, List.map_cons, List.map_nil, Option.map_some, Option.map_none, Option.bind_some, Option.bind_none, if_true, if_false, reduceIte, ↓reduceIte, Nat.reduceAdd, Nat.reduceSub, Nat.reduceLeDiff, Nat.reduceLT, Nat.reduceEqDiff, Int.reduceLT, Int.reduceLE, Bool.not_true, Bool.not_false, Bool.false_eq_true, sz0, sz1, sz2, sz3, sz4, sz5, sz6, sz7, sz8, sz9, sz10, sz11, sz12, sz13, sz14, sz15, hm, mgName, z]
    exact k3
set_option maxHeartbeats 1000000 in
theorem draw_ok (ns : List Int) (t m : Int) (h0 : 0 ≤ t) (h1 : t < 1000000) (hm : 0 < m) (hn : ns.length ≤ 63) : ∃ v, 0 ≤ v ∧ v < m ∧ F_law_draw [fS ns, .own [.int t], .val (.int m)] = .ret (.dd (.int v)) [fS ns, .own [.int (t + 1)], .val (.int m)] := by
  by_cases hc : t + 1 ≤ (ns.length : Int)
  · obtain ⟨x, _, hx⟩ := atI_lt ns (t + 1 - 1) (by omega) (by omega)
    have hx' : atI (ns.map D.int) (t + 1 - 1) = some (.int x) := by
      rw [atI_nat _ _ (by omega) (by simp; omega)]
      rw [atI_nat _ _ (by omega) (by omega)] at hx
      rw [List.getElem?_map, hx]; rfl
    refine ⟨x % m, Int.emod_nonneg _ (by omega), Int.emod_lt_of_pos _ hm, ?_⟩
    have e0 : atI [D.int t] 0 = some (.int t) := rfl
    have e1 : atI [D.int (t + 1)] 0 = some (.int (t + 1)) := rfl
    have ei : ixN 1 0 = some 0 := rfl
    unfold F_law_draw M_law_draw fS
    simp only [mkF, pad, outs, mSeq, mAsg, mAsgG, mExpr, mRet, mRetV, mRetN, mIfS, mIf, mNx, mTest, tmNot, tmAnd, tmOr, mVar, mC, mB, TL.m1, TL.m2, opt, use, R.fix, frz, tak, Cell.dat, mSeqD, mArgs, vals, mSl, mPart, mgSeq, setAll, D.items, mCall, give, mPut, mApp, mPop, mIns, ownL, mFor, miSeq, miRange, mAndV, mOrV, mNotV, D.bool, D.tru, mKGet, mKIn, mCallV, mRaise, mTry, mHands, mAny, mJoin, mLc, oAdd, oSub, oMul, oDiv, oMod, oPow, oNeg, oCmp, oIx, oSl, oLen, oList, oTuple, oStr, oInt, oMax, oMin, oIn, List.getElem?_cons_zero, List.getElem?_cons_succ, List.getElem?_nil, List.set_cons_zero, List.set_cons_succ, List.length_cons, List.length_nil, List.cons_append, List.nil_append, List.append_nil, List.replicate, List.map_cons, List.map_nil, Option.map_some, Option.map_none, Option.bind_some, Option.bind_none, if_true, if_false, reduceIte, ↓reduceIte, Nat.reduceAdd, Nat.reduceSub, Nat.reduceLeDiff, Nat.reduceLT, Nat.reduceEqDiff, Int.reduceLT, Int.reduceLE, Bool.not_true, Bool.not_false, Bool.false_eq_true, sz0, sz1, sz2, sz3, sz4, sz5, sz6, sz7, sz8, sz9, sz10, sz11, sz12, sz13, sz14, sz15, e0, e1, ei, hx', hc, hm, List.length_map, decide_true]
  · obtain ⟨s', c', k1, k2, k3⟩ := draw_loop (fS ns) (.own [.int (t + 1)]) (.val (.int m)) .no (cut ns none (some 4)) (ns.length : Int) (by omega) (by omega) .no
    have e0 : atI [D.int t] 0 = some (.int t) := rfl
    have e1 : atI [D.int (t + 1)] 0 = some (.int (t + 1)) := rfl
    have ei : ixN 1 0 = some 0 := rfl
    have m1 : CMul (t + 1) (t + 1) := .inl (by omega)
    have m2 : CMul (s' + 7) ((t + 1) * (t + 1) + 48271) := .inl (by omega)
    have z : (0 : Int) < 1000003 := by decide
    refine ⟨(s' + 7) * ((t + 1) * (t + 1) + 48271) % 1000003 % m, Int.emod_nonneg _ (by omega), Int.emod_lt_of_pos _ hm, ?_⟩
    unfold F_law_draw M_law_draw
    unfold fS at k3 ⊢
    simp only [mkF, pad, outs, mSeq, mAsg, mAsgG, mExpr, mRet, mRetV, mRetN, mIfS, mIf, mNx, mTest, tmNot, tmAnd, tmOr, mVar, mC, mB, TL.m1, TL.m2, opt, use, R.fix, frz, tak, Cell.dat, mSeqD, mArgs, vals, mSl, mPart, mgSeq, setAll, D.items, mCall, give, mPut, mApp, mPop, mIns, ownL, mFor, miSeq, miRange, mAndV, mOrV, mNotV, D.bool, D.tru, mKGet, mKIn, mCallV, mRaise, mTry, mHands, mAny, mJoin, mLc, oAdd, oSub, oMul, oDiv, oMod, oPow, oNeg, oCmp, oIx, oSl, oLen, oList, oTuple, oStr, oInt, oMax, oMin, oIn, List.getElem?_cons_zero, List.getElem?_cons_succ, List.getElem?_nil, List.set_cons_zero, List.set_cons_succ, List.length_cons, List.length_nil, List.cons_append, List.nil_append, List.append_nil, List.replicate, List.map_cons, List.map_nil, Option.map_some, Option.map_none, Option.bind_some, Option.bind_none, if_true, if_false, reduceIte, ↓reduceIte, Nat.reduceAdd, Nat.reduceSub, Nat.reduceLeDiff, Nat.reduceLT, Nat.reduceEqDiff, Int.reduceLT, Int.reduceLE, Bool.not_true, Bool.not_false, Bool.false_eq_true, sz0, sz1, sz2, sz3, sz4, sz5, sz6, sz7, sz8, sz9, sz10, sz11, sz12, sz13, sz14, sz15, e0, e1, ei, hc, hm, List.length_map, decide_false, cut_map, k3, m1, m2, z]
/-- a text that the laws make -/
def gS (s : Str) : Prop := s.length ≤ 60 ∧ PyData.strOk s = true
theorem strOk_of {s : Str} (h : ∀ c ∈ s.cps.toList, c < 1114112) : PyData.strOk s = true := by
  unfold PyData.strOk
  rw [Array.all_eq_true']
  intro c hc
  simpa using h c (by simpa using hc)
theorem strOk_mem {s : Str} (h : PyData.strOk s = true) : ∀ c ∈ s.cps.toList, c < 1114112 := by
  unfold PyData.strOk at h
  rw [Array.all_eq_true'] at h
  intro c hc
  simpa using h c (by simpa using hc)
def signs : Str := ("abcdefghijklmnopqrstuvwxyzABCDEFGHIJKLMNOPQRSTUVWXYZ0123456789" : Str) ++ (" .,;:!?'\"()[]{}<>+-*/=&|^~_#$@\\`" : Str)
theorem signs_len : signs.length = 94 := by decide +kernel
theorem signs_ok : ∀ c ∈ signs.cps.toList, c < 1114112 := by decide +kernel
theorem words_loop (cell size : Int) (hc : 0 ≤ cell) : ∀ (ks : List Nat) (acc : List D) (c : Cell), (∀ k ∈ ks, k ≤ 1000) → acc.length + ks.length ≤ 1000 → (∃ ys : List Nat, acc = ys.map (fun y => D.str ⟨#[y]⟩) ∧ ∀ y ∈ ys, y < 1114112) →
    ∃ ys : List Nat, (∀ y ∈ ys, y < 1114112) ∧ ys.length = acc.length + ks.length ∧ mLcLoop [3] (mgName 3) mYes E_law_words_1 (ks.map fun (k : Nat) => .int k) acc
      [.val (.int cell), .val (.int size), .val (.str signs), .no] = .ok (ys.map fun y => D.str ⟨#[y]⟩) [.val (.int cell), .val (.int size), .val (.str signs), .no]
  | [], acc, c, _, _, ⟨ys, h1, h2⟩ => ⟨ys, h2, by rw [h1]; simp, by rw [h1]; rfl⟩
  | k :: ks, acc, c, hk, hl, ⟨ys, h1, h2⟩ => by
    have hk0 := hk k List.mem_cons_self
    have d1 : CDiv cell ((k : Int) + 1) := ⟨by omega, by omega⟩
    have d2 : CMul 5 (k : Int) := .inl (by decide)
    have z : (0 : Int) < 94 := by decide
    obtain ⟨y, y1, y2⟩ := atI_lt signs.cps.toList ((cell / ((k : Int) + 1) + 5 * (k : Int)) % 94) (by omega) (by have := signs_len; unfold Str.length at this; rw [Array.length_toList, this]; omega)
    obtain ⟨zs, z1, z2, z3⟩ := words_loop cell size hc ks (acc ++ [.str ⟨#[y]⟩]) c (fun x hx => hk x (List.mem_cons_of_mem _ hx)) (by simp at hl ⊢; omega) ⟨ys ++ [y], by rw [h1]; simp, fun x hx => by
      rcases List.mem_append.mp hx with hx | hx
      · exact h2 x hx
      · simp at hx; subst hx; exact signs_ok _ y1⟩
    refine ⟨zs, z1, by rw [z2]; simp; omega, ?_⟩
    rw [List.map_cons]
    unfold mLcLoop E_law_words_1
    have sl : signs.length ≤ sizeLine := by rw [signs_len]; decide
    have al : acc.length < sizeLine := Nat.lt_of_le_of_lt (by simp at hl; omega) (show 1000 < sizeLine by decide)
    simp only [mkF, pad, outs, mSeq, mAsg, mAsgG, mExpr, mRet, mRetV, mRetN, mIfS, mIf, mNx, mTest, tmNot, tmAnd, tmOr, mVar, mC, mB, TL.m1, TL.m2, opt, use, R.fix, frz, tak, Cell.dat, mSeqD, mArgs, vals, mSl, mPart, mgSeq, setAll, D.items, mCall, give, mPut, mApp, mPop, mIns, ownL, mFor, miSeq, miRange, mAndV, mOrV, mNotV, D.bool, D.tru, mKGet, mKIn, mCallV, mRaise, mTry, mHands, mAny, mJoin, mLc, oAdd, oSub, oMul, oDiv, oMod, oPow, oNeg, oCmp, oIx, oSl, oLen, oList, oTuple, oStr, oInt, oMax, oMin, oIn, List.getElem?_cons_zero, List.getElem?_cons_succ, List.getElem?_nil, List.set_cons_zero, List.set_cons_succ, List.length_cons, List.length_nil, List.cons_append, List.nil_append, List.append_nil, List.replicate, List.map_cons, List.map_nil, Option.map_some, Option.map_none, Option.bind_some, Option.bind_none, if_true, if_false, reduceIte, ↓reduceIte, Nat.reduceAdd, Nat.reduceSub, Nat.reduceLeDiff, Nat.reduceLT, Nat.reduceEqDiff, Int.reduceLT, Int.reduceLE, Bool.not_true, Bool.not_false, Bool.false_eq_true, sz0, sz1, sz2, sz3, sz4, sz5, sz6, sz7, sz8, sz9, sz10, sz11, sz12, sz13, sz14, sz15, d1, d2, z, y2, sl, al, mgName, mYes, wipeE]
    exact z3
theorem strOk_ofString (s : String) : PyData.strOk (Str.ofString s) = true := by
  refine strOk_of fun c hc => ?_
  rw [Str.ofString_eq_toList] at hc
  simp only [List.mem_map] at hc
  obtain ⟨ch, _, rfl⟩ := hc
  have := ch.valid
  unfold UInt32.isValidChar Nat.isValidChar at this
  show ch.val.toNat < _
  omega
theorem strOk_app {a b : Str} (ha : PyData.strOk a = true) (hb : PyData.strOk b = true) : PyData.strOk (a ++ b) = true := by
  refine strOk_of fun c hc => ?_
  rw [Str.cps_append, Array.toList_append, List.mem_append] at hc
  rcases hc with h | h
  · exact strOk_mem ha c h
  · exact strOk_mem hb c h
theorem strOk_cut {a : Str} (ha : PyData.strOk a = true) (lo hi : Option Int) : PyData.strOk (cutS a lo hi) = true := by
  refine strOk_of fun c hc => strOk_mem ha c ?_
  unfold cutS at hc
  exact List.mem_of_mem_drop (List.mem_of_mem_take hc)
theorem glue_fold : ∀ (ys : List Nat) (acc : Array Nat), ((ys.map fun y => (⟨#[y]⟩ : Str)).foldl (fun acc p => acc ++ (Str.ofString "").cps ++ p.cps) acc).toList = acc.toList ++ ys
  | [], acc => by simp
  | y :: ys, acc => by
    rw [List.map_cons, List.foldl_cons, glue_fold ys]
    have : (Str.ofString "").cps = #[] := by decide +kernel
    rw [this]
    simp
theorem glue_chars (ys : List Nat) : (Txt.join (Str.ofString "") (ys.map fun y => (⟨#[y]⟩ : Str))).cps.toList = ys := by
  unfold Txt.join PySem.Builtin.Str.glued
  cases ys with
  | nil => decide +kernel
  | cons y ys =>
    rw [List.map_cons, List.drop_succ_cons, List.drop_zero]
    have := glue_fold ys #[y]
    simpa using this
theorem strL_chars : ∀ ys : List Nat, strL (ys.map fun y => D.str ⟨#[y]⟩) = some (ys.map fun y => (⟨#[y]⟩ : Str))
  | [] => rfl
  | y :: ys => by rw [List.map_cons]; unfold strL; rw [strL_chars ys]; rfl
theorem sum_chars : ∀ ys : List Nat, ((ys.map fun y => (⟨#[y]⟩ : Str)).map (·.length)).sum = ys.length
  | [] => rfl
  | y :: ys => by rw [List.map_cons, List.map_cons, List.sum_cons, sum_chars ys]; simp [Str.length]; omega
theorem words_ok (cell size : Int) (hc : 0 ≤ cell) (h0 : 0 ≤ size) (h1 : size ≤ 60) : ∃ s, gS s ∧ F_law_words [.val (.int cell), .val (.int size)] = .ret (.dd (.str s)) [.val (.int cell), .val (.int size)] := by
  obtain ⟨ys, y1, y2, y3⟩ := words_loop cell size hc (List.range size.toNat) [] .no (fun k hk => by rw [List.mem_range] at hk; omega) (by simp; omega) ⟨[], rfl, by simp⟩
  rw [List.length_range] at y2
  simp only [List.length_nil, Nat.zero_add] at y2
  refine ⟨Txt.join (Str.ofString "") (ys.map fun y => (⟨#[y]⟩ : Str)), ⟨?_, strOk_of fun c hc => y1 c (by rw [glue_chars] at hc; exact hc)⟩, ?_⟩
  · unfold Str.length; rw [← Array.length_toList, glue_chars]; omega
  have hz : (Str.ofString "abcdefghijklmnopqrstuvwxyzABCDEFGHIJKLMNOPQRSTUVWXYZ0123456789").length + (Str.ofString " .,;:!?'\"()[]{}<>+-*/=&|^~_#$@\\`").length ≤ sizeLine := by decide +kernel
  have hr1 : size.natAbs < 2 ^ 62 := by omega
  have hl : (ys.length + (ys.map fun y => (⟨#[y]⟩ : Str)).length * (Str.ofString "").length) ≤ 16777216 := by
    have : (Str.ofString "").length = 0 := by decide +kernel
    rw [this]; omega
  unfold signs at y3
  unfold F_law_words M_law_words
  simp only [mkF, pad, outs, mSeq, mAsg, mAsgG, mExpr, mRet, mRetV, mRetN, mIfS, mIf, mNx, mTest, tmNot, tmAnd, tmOr, mVar, mC, mB, TL.m1, TL.m2, opt, use, R.fix, frz, tak, Cell.dat, mSeqD, mArgs, vals, mSl, mPart, mgSeq, setAll, D.items, mCall, give, mPut, mApp, mPop, mIns, ownL, mFor, miSeq, miRange, mAndV, mOrV, mNotV, D.bool, D.tru, mKGet, mKIn, mCallV, mRaise, mTry, mHands, mAny, mJoin, mLc, oAdd, oSub, oMul, oDiv, oMod, oPow, oNeg, oCmp, oIx, oSl, oLen, oList, oTuple, oStr, oInt, oMax, oMin, oIn, List.getElem?_cons_zero, List.getElem?_cons_succ, List.getElem?_nil, List.set_cons_zero, List.set_cons_succ, List.length_cons, List.length_nil, List.cons_append, List.nil_append, List.append_nil, List.replicate, List.map_cons, List.map_nil, Option.map_some, Option.map_none, Option.bind_some, Option.bind_none, if_true, if_false, reduceIte, ↓reduceIte, Nat.reduceAdd, Nat.reduceSub, Nat.reduceLeDiff, Nat.reduceLT, Nat.reduceEqDiff, Int.reduceLT, Int.reduceLE, Bool.not_true, Bool.not_false, Bool.false_eq_true, sz0, sz1, sz2, sz3, sz4, sz5, sz6, sz7, sz8, sz9, sz10, sz11, sz12, sz13, sz14, sz15, hz, hr1, y3, wipeE, backE, noneOwn, List.all_cons, List.all_nil, isOwn, Bool.and_true, strL_chars, sum_chars, hl]
theorem txt_ne : ¬ (Str.ofString "num" = Str.ofString "text") := by decide +kernel
theorem oEq_str (a b : Str) : oEq (.str a) (.str b) = some (.dd (.bl (decide (a = b)))) := by
  show some (R.dd (.bl (decide (V.str a = V.str b)))) = _
  congr 3
  exact decide_eq_decide.mpr ⟨fun h => by cases h; rfl, fun h => by rw [h]⟩
theorem oEq_int (a b : Int) : oEq (.int a) (.int b) = some (.dd (.bl (decide (a = b)))) := by
  show some (R.dd (.bl (decide (V.int a = V.int b)))) = _
  congr 3
  exact decide_eq_decide.mpr ⟨fun h => by cases h; rfl, fun h => by rw [h]⟩
/-- a value that the laws make -/
inductive IsVal : D → Prop where
  | int (i : Int) (h0 : 0 ≤ i) (h1 : i < 1000000000) : IsVal (.int i)
  | str (s : Str) (h : gS s) : IsVal (.str s)
def kOf : D → Str
  | .str _ => Str.ofString "text"
  | _ => Str.ofString "num"
theorem value_ok (ns : List Int) (t : Int) (k : Str) (hk : k = Str.ofString "num" ∨ k = Str.ofString "text") (h0 : 0 ≤ t) (h1 : t < 999000) (hn : ns.length ≤ 63) :
    ∃ d, IsVal d ∧ kOf d = k ∧ F_law_value [fS ns, .own [.int t], .val (.str k)] = .ret (.dd d) [fS ns, .own [.int (t + 2)], .val (.str k)] := by
  obtain ⟨v, v0, v1, e1⟩ := draw_ok ns t 1000000000 h0 (by omega) (by decide) hn
  obtain ⟨u, u0, u1, e2⟩ := draw_ok ns (t + 1) 6 (by omega) (by omega) (by decide) hn
  have et : t + 1 + 1 = t + 2 := by omega
  rw [et] at e2
  have z3 : (0 : Int) < 3 := by decide
  have z4 : (0 : Int) < 4 := by decide
  have z8 : (0 : Int) < 8 := by decide
  have zd : CDiv v 94 := ⟨by decide, by decide⟩
  unfold fS at *
  rcases hk with rfl | rfl
  · by_cases c0 : u = 0
    · refine ⟨.int (999999999 - v % 3), .int _ (by omega) (by omega), rfl, ?_⟩
      unfold F_law_value M_law_value
      simp only [mkF, pad, outs, mSeq, mAsg, mAsgG, mExpr, mRet, mRetV, mRetN, mIfS, mIf, mNx, mTest, tmNot, tmAnd, tmOr, mVar, mC, mB, TL.m1, TL.m2, opt, use, R.fix, frz, tak, Cell.dat, mSeqD, mArgs, vals, mSl, mPart, mgSeq, setAll, D.items, mCall, give, mPut, mApp, mPop, mIns, ownL, mFor, miSeq, miRange, mAndV, mOrV, mNotV, D.bool, D.tru, mKGet, mKIn, mCallV, mRaise, mTry, mHands, mAny, mJoin, mLc, oAdd, oSub, oMul, oDiv, oMod, oPow, oNeg, oCmp, oIx, oSl, oLen, oList, oTuple, oStr, oInt, oMax, oMin, oIn, List.getElem?_cons_zero, List.getElem?_cons_succ, List.getElem?_nil, List.set_cons_zero, List.set_cons_succ, List.length_cons, List.length_nil, List.cons_append, List.nil_append, List.append_nil, List.replicate, List.map_cons, List.map_nil, Option.map_some, Option.map_none, Option.bind_some, Option.bind_none, if_true, if_false, reduceIte, ↓reduceIte, Nat.reduceAdd, Nat.reduceSub, Nat.reduceLeDiff, Nat.reduceLT, Nat.reduceEqDiff, Int.reduceLT, Int.reduceLE, Bool.not_true, Bool.not_false, Bool.false_eq_true, sz0, sz1, sz2, sz3, sz4, sz5, sz6, sz7, sz8, sz9, sz10, sz11, sz12, sz13, sz14, sz15, e1, e2, oEq_str, oEq_int, txt_ne, decide_false, c0, decide_true, z3]
    · by_cases c3 : u < 3
      · refine ⟨.int (v % 4), .int _ (by omega) (by omega), rfl, ?_⟩
        unfold F_law_value M_law_value
        simp only [mkF, pad, outs, mSeq, mAsg, mAsgG, mExpr, mRet, mRetV, mRetN, mIfS, mIf, mNx, mTest, tmNot, tmAnd, tmOr, mVar, mC, mB, TL.m1, TL.m2, opt, use, R.fix, frz, tak, Cell.dat, mSeqD, mArgs, vals, mSl, mPart, mgSeq, setAll, D.items, mCall, give, mPut, mApp, mPop, mIns, ownL, mFor, miSeq, miRange, mAndV, mOrV, mNotV, D.bool, D.tru, mKGet, mKIn, mCallV, mRaise, mTry, mHands, mAny, mJoin, mLc, oAdd, oSub, oMul, oDiv, oMod, oPow, oNeg, oCmp, oIx, oSl, oLen, oList, oTuple, oStr, oInt, oMax, oMin, oIn, List.getElem?_cons_zero, List.getElem?_cons_succ, List.getElem?_nil, List.set_cons_zero, List.set_cons_succ, List.length_cons, List.length_nil, List.cons_append, List.nil_append, List.append_nil, List.replicate, List.map_cons, List.map_nil, Option.map_some, Option.map_none, Option.bind_some, Option.bind_none, if_true, if_false, reduceIte, ↓reduceIte, Nat.reduceAdd, Nat.reduceSub, Nat.reduceLeDiff, Nat.reduceLT, Nat.reduceEqDiff, Int.reduceLT, Int.reduceLE, Bool.not_true, Bool.not_false, Bool.false_eq_true, sz0, sz1, sz2, sz3, sz4, sz5, sz6, sz7, sz8, sz9, sz10, sz11, sz12, sz13, sz14, sz15, e1, e2, oEq_str, oEq_int, txt_ne, decide_false, c0, decide_true, c3, z4]
      · refine ⟨.int v, .int _ (by omega) (by omega), rfl, ?_⟩
        unfold F_law_value M_law_value
        simp only [mkF, pad, outs, mSeq, mAsg, mAsgG, mExpr, mRet, mRetV, mRetN, mIfS, mIf, mNx, mTest, tmNot, tmAnd, tmOr, mVar, mC, mB, TL.m1, TL.m2, opt, use, R.fix, frz, tak, Cell.dat, mSeqD, mArgs, vals, mSl, mPart, mgSeq, setAll, D.items, mCall, give, mPut, mApp, mPop, mIns, ownL, mFor, miSeq, miRange, mAndV, mOrV, mNotV, D.bool, D.tru, mKGet, mKIn, mCallV, mRaise, mTry, mHands, mAny, mJoin, mLc, oAdd, oSub, oMul, oDiv, oMod, oPow, oNeg, oCmp, oIx, oSl, oLen, oList, oTuple, oStr, oInt, oMax, oMin, oIn, List.getElem?_cons_zero, List.getElem?_cons_succ, List.getElem?_nil, List.set_cons_zero, List.set_cons_succ, List.length_cons, List.length_nil, List.cons_append, List.nil_append, List.append_nil, List.replicate, List.map_cons, List.map_nil, Option.map_some, Option.map_none, Option.bind_some, Option.bind_none, if_true, if_false, reduceIte, ↓reduceIte, Nat.reduceAdd, Nat.reduceSub, Nat.reduceLeDiff, Nat.reduceLT, Nat.reduceEqDiff, Int.reduceLT, Int.reduceLE, Bool.not_true, Bool.not_false, Bool.false_eq_true, sz0, sz1, sz2, sz3, sz4, sz5, sz6, sz7, sz8, sz9, sz10, sz11, sz12, sz13, sz14, sz15, e1, e2, oEq_str, oEq_int, txt_ne, decide_false, c0, decide_true, c3]
  · by_cases c0 : u = 0
    · obtain ⟨s, s1, s2⟩ := words_ok v (58 + v % 3) v0 (by omega) (by omega)
      refine ⟨.str s, .str s s1, rfl, ?_⟩
      unfold F_law_value M_law_value
      simp only [mkF, pad, outs, mSeq, mAsg, mAsgG, mExpr, mRet, mRetV, mRetN, mIfS, mIf, mNx, mTest, tmNot, tmAnd, tmOr, mVar, mC, mB, TL.m1, TL.m2, opt, use, R.fix, frz, tak, Cell.dat, mSeqD, mArgs, vals, mSl, mPart, mgSeq, setAll, D.items, mCall, give, mPut, mApp, mPop, mIns, ownL, mFor, miSeq, miRange, mAndV, mOrV, mNotV, D.bool, D.tru, mKGet, mKIn, mCallV, mRaise, mTry, mHands, mAny, mJoin, mLc, oAdd, oSub, oMul, oDiv, oMod, oPow, oNeg, oCmp, oIx, oSl, oLen, oList, oTuple, oStr, oInt, oMax, oMin, oIn, List.getElem?_cons_zero, List.getElem?_cons_succ, List.getElem?_nil, List.set_cons_zero, List.set_cons_succ, List.length_cons, List.length_nil, List.cons_append, List.nil_append, List.append_nil, List.replicate, List.map_cons, List.map_nil, Option.map_some, Option.map_none, Option.bind_some, Option.bind_none, if_true, if_false, reduceIte, ↓reduceIte, Nat.reduceAdd, Nat.reduceSub, Nat.reduceLeDiff, Nat.reduceLT, Nat.reduceEqDiff, Int.reduceLT, Int.reduceLE, Bool.not_true, Bool.not_false, Bool.false_eq_true, sz0, sz1, sz2, sz3, sz4, sz5, sz6, sz7, sz8, sz9, sz10, sz11, sz12, sz13, sz14, sz15, e1, e2, oEq_str, oEq_int, decide_false, c0, decide_true, z3, s2]
    · obtain ⟨s, s1, s2⟩ := words_ok v (v / 94 % 8) v0 (by omega) (by omega)
      refine ⟨.str s, .str s s1, rfl, ?_⟩
      unfold F_law_value M_law_value
      simp only [mkF, pad, outs, mSeq, mAsg, mAsgG, mExpr, mRet, mRetV, mRetN, mIfS, mIf, mNx, mTest, tmNot, tmAnd, tmOr, mVar, mC, mB, TL.m1, TL.m2, opt, use, R.fix, frz, tak, Cell.dat, mSeqD, mArgs, vals, mSl, mPart, mgSeq, setAll, D.items, mCall, give, mPut, mApp, mPop, mIns, ownL, mFor, miSeq, miRange, mAndV, mOrV, mNotV, D.bool, D.tru, mKGet, mKIn, mCallV, mRaise, mTry, mHands, mAny, mJoin, mLc, oAdd, oSub, oMul, oDiv, oMod, oPow, oNeg, oCmp, oIx, oSl, oLen, oList, oTuple, oStr, oInt, oMax, oMin, oIn, List.getElem?_cons_zero, List.getElem?_cons_succ, List.getElem?_nil, List.set_cons_zero, List.set_cons_succ, List.length_cons, List.length_nil, List.cons_append, List.nil_append, List.append_nil, List.replicate, List.map_cons, List.map_nil, Option.map_some, Option.map_none, Option.bind_some, Option.bind_none, if_true, if_false, reduceIte, ↓reduceIte, Nat.reduceAdd, Nat.reduceSub, Nat.reduceLeDiff, Nat.reduceLT, Nat.reduceEqDiff, Int.reduceLT, Int.reduceLE, Bool.not_true, Bool.not_false, Bool.false_eq_true, sz0, sz1, sz2, sz3, sz4, sz5, sz6, sz7, sz8, sz9, sz10, sz11, sz12, sz13, sz14, sz15, e1, e2, oEq_str, oEq_int, decide_false, c0, decide_true, z8, zd, s2]
end LW

namespace LW
open PySem L2 TL
theorem n_num_text : (Str.ofString "num" = Str.ofString "text") = False := eq_false (by decide +kernel)
theorem n_num_add : (Str.ofString "num" = Str.ofString "add") = False := eq_false (by decide +kernel)
theorem n_num_mul : (Str.ofString "num" = Str.ofString "mul") = False := eq_false (by decide +kernel)
theorem n_num_less : (Str.ofString "num" = Str.ofString "less") = False := eq_false (by decide +kernel)
theorem n_num_join : (Str.ofString "num" = Str.ofString "join") = False := eq_false (by decide +kernel)
theorem n_num_long : (Str.ofString "num" = Str.ofString "long") = False := eq_false (by decide +kernel)
theorem n_num_show : (Str.ofString "num" = Str.ofString "show") = False := eq_false (by decide +kernel)
theorem n_num_swap : (Str.ofString "num" = Str.ofString "swap") = False := eq_false (by decide +kernel)
theorem n_num_drop : (Str.ofString "num" = Str.ofString "drop") = False := eq_false (by decide +kernel)
theorem n_num_copy : (Str.ofString "num" = Str.ofString "copy") = False := eq_false (by decide +kernel)
theorem n_num_e : (Str.ofString "num" = Str.ofString "") = False := eq_false (by decide +kernel)
theorem n_num_empty : (Str.ofString "num" = Str.ofString "empty") = False := eq_false (by decide +kernel)
theorem n_num_kind : (Str.ofString "num" = Str.ofString "kind") = False := eq_false (by decide +kernel)
theorem n_text_num : (Str.ofString "text" = Str.ofString "num") = False := eq_false (by decide +kernel)
theorem n_text_add : (Str.ofString "text" = Str.ofString "add") = False := eq_false (by decide +kernel)
theorem n_text_mul : (Str.ofString "text" = Str.ofString "mul") = False := eq_false (by decide +kernel)
theorem n_text_less : (Str.ofString "text" = Str.ofString "less") = False := eq_false (by decide +kernel)
theorem n_text_join : (Str.ofString "text" = Str.ofString "join") = False := eq_false (by decide +kernel)
theorem n_text_long : (Str.ofString "text" = Str.ofString "long") = False := eq_false (by decide +kernel)
theorem n_text_show : (Str.ofString "text" = Str.ofString "show") = False := eq_false (by decide +kernel)
theorem n_text_swap : (Str.ofString "text" = Str.ofString "swap") = False := eq_false (by decide +kernel)
theorem n_text_drop : (Str.ofString "text" = Str.ofString "drop") = False := eq_false (by decide +kernel)
theorem n_text_copy : (Str.ofString "text" = Str.ofString "copy") = False := eq_false (by decide +kernel)
theorem n_text_e : (Str.ofString "text" = Str.ofString "") = False := eq_false (by decide +kernel)
theorem n_text_empty : (Str.ofString "text" = Str.ofString "empty") = False := eq_false (by decide +kernel)
theorem n_text_kind : (Str.ofString "text" = Str.ofString "kind") = False := eq_false (by decide +kernel)
theorem n_add_num : (Str.ofString "add" = Str.ofString "num") = False := eq_false (by decide +kernel)
theorem n_add_text : (Str.ofString "add" = Str.ofString "text") = False := eq_false (by decide +kernel)
theorem n_add_mul : (Str.ofString "add" = Str.ofString "mul") = False := eq_false (by decide +kernel)
theorem n_add_less : (Str.ofString "add" = Str.ofString "less") = False := eq_false (by decide +kernel)
theorem n_add_join : (Str.ofString "add" = Str.ofString "join") = False := eq_false (by decide +kernel)
theorem n_add_long : (Str.ofString "add" = Str.ofString "long") = False := eq_false (by decide +kernel)
theorem n_add_show : (Str.ofString "add" = Str.ofString "show") = False := eq_false (by decide +kernel)
theorem n_add_swap : (Str.ofString "add" = Str.ofString "swap") = False := eq_false (by decide +kernel)
theorem n_add_drop : (Str.ofString "add" = Str.ofString "drop") = False := eq_false (by decide +kernel)
theorem n_add_copy : (Str.ofString "add" = Str.ofString "copy") = False := eq_false (by decide +kernel)
theorem n_add_e : (Str.ofString "add" = Str.ofString "") = False := eq_false (by decide +kernel)
theorem n_add_empty : (Str.ofString "add" = Str.ofString "empty") = False := eq_false (by decide +kernel)
theorem n_add_kind : (Str.ofString "add" = Str.ofString "kind") = False := eq_false (by decide +kernel)
theorem n_mul_num : (Str.ofString "mul" = Str.ofString "num") = False := eq_false (by decide +kernel)
theorem n_mul_text : (Str.ofString "mul" = Str.ofString "text") = False := eq_false (by decide +kernel)
theorem n_mul_add : (Str.ofString "mul" = Str.ofString "add") = False := eq_false (by decide +kernel)
theorem n_mul_less : (Str.ofString "mul" = Str.ofString "less") = False := eq_false (by decide +kernel)
theorem n_mul_join : (Str.ofString "mul" = Str.ofString "join") = False := eq_false (by decide +kernel)
theorem n_mul_long : (Str.ofString "mul" = Str.ofString "long") = False := eq_false (by decide +kernel)
theorem n_mul_show : (Str.ofString "mul" = Str.ofString "show") = False := eq_false (by decide +kernel)
theorem n_mul_swap : (Str.ofString "mul" = Str.ofString "swap") = False := eq_false (by decide +kernel)
theorem n_mul_drop : (Str.ofString "mul" = Str.ofString "drop") = False := eq_false (by decide +kernel)
theorem n_mul_copy : (Str.ofString "mul" = Str.ofString "copy") = False := eq_false (by decide +kernel)
theorem n_mul_e : (Str.ofString "mul" = Str.ofString "") = False := eq_false (by decide +kernel)
theorem n_mul_empty : (Str.ofString "mul" = Str.ofString "empty") = False := eq_false (by decide +kernel)
theorem n_mul_kind : (Str.ofString "mul" = Str.ofString "kind") = False := eq_false (by decide +kernel)
theorem n_less_num : (Str.ofString "less" = Str.ofString "num") = False := eq_false (by decide +kernel)
theorem n_less_text : (Str.ofString "less" = Str.ofString "text") = False := eq_false (by decide +kernel)
theorem n_less_add : (Str.ofString "less" = Str.ofString "add") = False := eq_false (by decide +kernel)
theorem n_less_mul : (Str.ofString "less" = Str.ofString "mul") = False := eq_false (by decide +kernel)
theorem n_less_join : (Str.ofString "less" = Str.ofString "join") = False := eq_false (by decide +kernel)
theorem n_less_long : (Str.ofString "less" = Str.ofString "long") = False := eq_false (by decide +kernel)
theorem n_less_show : (Str.ofString "less" = Str.ofString "show") = False := eq_false (by decide +kernel)
theorem n_less_swap : (Str.ofString "less" = Str.ofString "swap") = False := eq_false (by decide +kernel)
theorem n_less_drop : (Str.ofString "less" = Str.ofString "drop") = False := eq_false (by decide +kernel)
theorem n_less_copy : (Str.ofString "less" = Str.ofString "copy") = False := eq_false (by decide +kernel)
theorem n_less_e : (Str.ofString "less" = Str.ofString "") = False := eq_false (by decide +kernel)
theorem n_less_empty : (Str.ofString "less" = Str.ofString "empty") = False := eq_false (by decide +kernel)
theorem n_less_kind : (Str.ofString "less" = Str.ofString "kind") = False := eq_false (by decide +kernel)
theorem n_join_num : (Str.ofString "join" = Str.ofString "num") = False := eq_false (by decide +kernel)
theorem n_join_text : (Str.ofString "join" = Str.ofString "text") = False := eq_false (by decide +kernel)
theorem n_join_add : (Str.ofString "join" = Str.ofString "add") = False := eq_false (by decide +kernel)
theorem n_join_mul : (Str.ofString "join" = Str.ofString "mul") = False := eq_false (by decide +kernel)
theorem n_join_less : (Str.ofString "join" = Str.ofString "less") = False := eq_false (by decide +kernel)
theorem n_join_long : (Str.ofString "join" = Str.ofString "long") = False := eq_false (by decide +kernel)
theorem n_join_show : (Str.ofString "join" = Str.ofString "show") = False := eq_false (by decide +kernel)
theorem n_join_swap : (Str.ofString "join" = Str.ofString "swap") = False := eq_false (by decide +kernel)
theorem n_join_drop : (Str.ofString "join" = Str.ofString "drop") = False := eq_false (by decide +kernel)
theorem n_join_copy : (Str.ofString "join" = Str.ofString "copy") = False := eq_false (by decide +kernel)
theorem n_join_e : (Str.ofString "join" = Str.ofString "") = False := eq_false (by decide +kernel)
theorem n_join_empty : (Str.ofString "join" = Str.ofString "empty") = False := eq_false (by decide +kernel)
theorem n_join_kind : (Str.ofString "join" = Str.ofString "kind") = False := eq_false (by decide +kernel)
theorem n_long_num : (Str.ofString "long" = Str.ofString "num") = False := eq_false (by decide +kernel)
theorem n_long_text : (Str.ofString "long" = Str.ofString "text") = False := eq_false (by decide +kernel)
theorem n_long_add : (Str.ofString "long" = Str.ofString "add") = False := eq_false (by decide +kernel)
theorem n_long_mul : (Str.ofString "long" = Str.ofString "mul") = False := eq_false (by decide +kernel)
theorem n_long_less : (Str.ofString "long" = Str.ofString "less") = False := eq_false (by decide +kernel)
theorem n_long_join : (Str.ofString "long" = Str.ofString "join") = False := eq_false (by decide +kernel)
theorem n_long_show : (Str.ofString "long" = Str.ofString "show") = False := eq_false (by decide +kernel)
theorem n_long_swap : (Str.ofString "long" = Str.ofString "swap") = False := eq_false (by decide +kernel)
theorem n_long_drop : (Str.ofString "long" = Str.ofString "drop") = False := eq_false (by decide +kernel)
theorem n_long_copy : (Str.ofString "long" = Str.ofString "copy") = False := eq_false (by decide +kernel)
theorem n_long_e : (Str.ofString "long" = Str.ofString "") = False := eq_false (by decide +kernel)
theorem n_long_empty : (Str.ofString "long" = Str.ofString "empty") = False := eq_false (by decide +kernel)
theorem n_long_kind : (Str.ofString "long" = Str.ofString "kind") = False := eq_false (by decide +kernel)
theorem n_show_num : (Str.ofString "show" = Str.ofString "num") = False := eq_false (by decide +kernel)
theorem n_show_text : (Str.ofString "show" = Str.ofString "text") = False := eq_false (by decide +kernel)
theorem n_show_add : (Str.ofString "show" = Str.ofString "add") = False := eq_false (by decide +kernel)
theorem n_show_mul : (Str.ofString "show" = Str.ofString "mul") = False := eq_false (by decide +kernel)
theorem n_show_less : (Str.ofString "show" = Str.ofString "less") = False := eq_false (by decide +kernel)
theorem n_show_join : (Str.ofString "show" = Str.ofString "join") = False := eq_false (by decide +kernel)
theorem n_show_long : (Str.ofString "show" = Str.ofString "long") = False := eq_false (by decide +kernel)
theorem n_show_swap : (Str.ofString "show" = Str.ofString "swap") = False := eq_false (by decide +kernel)
theorem n_show_drop : (Str.ofString "show" = Str.ofString "drop") = False := eq_false (by decide +kernel)
theorem n_show_copy : (Str.ofString "show" = Str.ofString "copy") = False := eq_false (by decide +kernel)
theorem n_show_e : (Str.ofString "show" = Str.ofString "") = False := eq_false (by decide +kernel)
theorem n_show_empty : (Str.ofString "show" = Str.ofString "empty") = False := eq_false (by decide +kernel)
theorem n_show_kind : (Str.ofString "show" = Str.ofString "kind") = False := eq_false (by decide +kernel)
theorem n_swap_num : (Str.ofString "swap" = Str.ofString "num") = False := eq_false (by decide +kernel)
theorem n_swap_text : (Str.ofString "swap" = Str.ofString "text") = False := eq_false (by decide +kernel)
theorem n_swap_add : (Str.ofString "swap" = Str.ofString "add") = False := eq_false (by decide +kernel)
theorem n_swap_mul : (Str.ofString "swap" = Str.ofString "mul") = False := eq_false (by decide +kernel)
theorem n_swap_less : (Str.ofString "swap" = Str.ofString "less") = False := eq_false (by decide +kernel)
theorem n_swap_join : (Str.ofString "swap" = Str.ofString "join") = False := eq_false (by decide +kernel)
theorem n_swap_long : (Str.ofString "swap" = Str.ofString "long") = False := eq_false (by decide +kernel)
theorem n_swap_show : (Str.ofString "swap" = Str.ofString "show") = False := eq_false (by decide +kernel)
theorem n_swap_drop : (Str.ofString "swap" = Str.ofString "drop") = False := eq_false (by decide +kernel)
theorem n_swap_copy : (Str.ofString "swap" = Str.ofString "copy") = False := eq_false (by decide +kernel)
theorem n_swap_e : (Str.ofString "swap" = Str.ofString "") = False := eq_false (by decide +kernel)
theorem n_swap_empty : (Str.ofString "swap" = Str.ofString "empty") = False := eq_false (by decide +kernel)
theorem n_swap_kind : (Str.ofString "swap" = Str.ofString "kind") = False := eq_false (by decide +kernel)
theorem n_drop_num : (Str.ofString "drop" = Str.ofString "num") = False := eq_false (by decide +kernel)
theorem n_drop_text : (Str.ofString "drop" = Str.ofString "text") = False := eq_false (by decide +kernel)
theorem n_drop_add : (Str.ofString "drop" = Str.ofString "add") = False := eq_false (by decide +kernel)
theorem n_drop_mul : (Str.ofString "drop" = Str.ofString "mul") = False := eq_false (by decide +kernel)
theorem n_drop_less : (Str.ofString "drop" = Str.ofString "less") = False := eq_false (by decide +kernel)
theorem n_drop_join : (Str.ofString "drop" = Str.ofString "join") = False := eq_false (by decide +kernel)
theorem n_drop_long : (Str.ofString "drop" = Str.ofString "long") = False := eq_false (by decide +kernel)
theorem n_drop_show : (Str.ofString "drop" = Str.ofString "show") = False := eq_false (by decide +kernel)
theorem n_drop_swap : (Str.ofString "drop" = Str.ofString "swap") = False := eq_false (by decide +kernel)
theorem n_drop_copy : (Str.ofString "drop" = Str.ofString "copy") = False := eq_false (by decide +kernel)
theorem n_drop_e : (Str.ofString "drop" = Str.ofString "") = False := eq_false (by decide +kernel)
theorem n_drop_empty : (Str.ofString "drop" = Str.ofString "empty") = False := eq_false (by decide +kernel)
theorem n_drop_kind : (Str.ofString "drop" = Str.ofString "kind") = False := eq_false (by decide +kernel)
theorem n_copy_num : (Str.ofString "copy" = Str.ofString "num") = False := eq_false (by decide +kernel)
theorem n_copy_text : (Str.ofString "copy" = Str.ofString "text") = False := eq_false (by decide +kernel)
theorem n_copy_add : (Str.ofString "copy" = Str.ofString "add") = False := eq_false (by decide +kernel)
theorem n_copy_mul : (Str.ofString "copy" = Str.ofString "mul") = False := eq_false (by decide +kernel)
theorem n_copy_less : (Str.ofString "copy" = Str.ofString "less") = False := eq_false (by decide +kernel)
theorem n_copy_join : (Str.ofString "copy" = Str.ofString "join") = False := eq_false (by decide +kernel)
theorem n_copy_long : (Str.ofString "copy" = Str.ofString "long") = False := eq_false (by decide +kernel)
theorem n_copy_show : (Str.ofString "copy" = Str.ofString "show") = False := eq_false (by decide +kernel)
theorem n_copy_swap : (Str.ofString "copy" = Str.ofString "swap") = False := eq_false (by decide +kernel)
theorem n_copy_drop : (Str.ofString "copy" = Str.ofString "drop") = False := eq_false (by decide +kernel)
theorem n_copy_e : (Str.ofString "copy" = Str.ofString "") = False := eq_false (by decide +kernel)
theorem n_copy_empty : (Str.ofString "copy" = Str.ofString "empty") = False := eq_false (by decide +kernel)
theorem n_copy_kind : (Str.ofString "copy" = Str.ofString "kind") = False := eq_false (by decide +kernel)
theorem n_e_num : (Str.ofString "" = Str.ofString "num") = False := eq_false (by decide +kernel)
theorem n_e_text : (Str.ofString "" = Str.ofString "text") = False := eq_false (by decide +kernel)
theorem n_e_add : (Str.ofString "" = Str.ofString "add") = False := eq_false (by decide +kernel)
theorem n_e_mul : (Str.ofString "" = Str.ofString "mul") = False := eq_false (by decide +kernel)
theorem n_e_less : (Str.ofString "" = Str.ofString "less") = False := eq_false (by decide +kernel)
theorem n_e_join : (Str.ofString "" = Str.ofString "join") = False := eq_false (by decide +kernel)
theorem n_e_long : (Str.ofString "" = Str.ofString "long") = False := eq_false (by decide +kernel)
theorem n_e_show : (Str.ofString "" = Str.ofString "show") = False := eq_false (by decide +kernel)
theorem n_e_swap : (Str.ofString "" = Str.ofString "swap") = False := eq_false (by decide +kernel)
theorem n_e_drop : (Str.ofString "" = Str.ofString "drop") = False := eq_false (by decide +kernel)
theorem n_e_copy : (Str.ofString "" = Str.ofString "copy") = False := eq_false (by decide +kernel)
theorem n_e_empty : (Str.ofString "" = Str.ofString "empty") = False := eq_false (by decide +kernel)
theorem n_e_kind : (Str.ofString "" = Str.ofString "kind") = False := eq_false (by decide +kernel)
theorem n_empty_num : (Str.ofString "empty" = Str.ofString "num") = False := eq_false (by decide +kernel)
theorem n_empty_text : (Str.ofString "empty" = Str.ofString "text") = False := eq_false (by decide +kernel)
theorem n_empty_add : (Str.ofString "empty" = Str.ofString "add") = False := eq_false (by decide +kernel)
theorem n_empty_mul : (Str.ofString "empty" = Str.ofString "mul") = False := eq_false (by decide +kernel)
theorem n_empty_less : (Str.ofString "empty" = Str.ofString "less") = False := eq_false (by decide +kernel)
theorem n_empty_join : (Str.ofString "empty" = Str.ofString "join") = False := eq_false (by decide +kernel)
theorem n_empty_long : (Str.ofString "empty" = Str.ofString "long") = False := eq_false (by decide +kernel)
theorem n_empty_show : (Str.ofString "empty" = Str.ofString "show") = False := eq_false (by decide +kernel)
theorem n_empty_swap : (Str.ofString "empty" = Str.ofString "swap") = False := eq_false (by decide +kernel)
theorem n_empty_drop : (Str.ofString "empty" = Str.ofString "drop") = False := eq_false (by decide +kernel)
theorem n_empty_copy : (Str.ofString "empty" = Str.ofString "copy") = False := eq_false (by decide +kernel)
theorem n_empty_e : (Str.ofString "empty" = Str.ofString "") = False := eq_false (by decide +kernel)
theorem n_empty_kind : (Str.ofString "empty" = Str.ofString "kind") = False := eq_false (by decide +kernel)
theorem n_kind_num : (Str.ofString "kind" = Str.ofString "num") = False := eq_false (by decide +kernel)
theorem n_kind_text : (Str.ofString "kind" = Str.ofString "text") = False := eq_false (by decide +kernel)
theorem n_kind_add : (Str.ofString "kind" = Str.ofString "add") = False := eq_false (by decide +kernel)
theorem n_kind_mul : (Str.ofString "kind" = Str.ofString "mul") = False := eq_false (by decide +kernel)
theorem n_kind_less : (Str.ofString "kind" = Str.ofString "less") = False := eq_false (by decide +kernel)
theorem n_kind_join : (Str.ofString "kind" = Str.ofString "join") = False := eq_false (by decide +kernel)
theorem n_kind_long : (Str.ofString "kind" = Str.ofString "long") = False := eq_false (by decide +kernel)
theorem n_kind_show : (Str.ofString "kind" = Str.ofString "show") = False := eq_false (by decide +kernel)
theorem n_kind_swap : (Str.ofString "kind" = Str.ofString "swap") = False := eq_false (by decide +kernel)
theorem n_kind_drop : (Str.ofString "kind" = Str.ofString "drop") = False := eq_false (by decide +kernel)
theorem n_kind_copy : (Str.ofString "kind" = Str.ofString "copy") = False := eq_false (by decide +kernel)
theorem n_kind_e : (Str.ofString "kind" = Str.ofString "") = False := eq_false (by decide +kernel)
theorem n_kind_empty : (Str.ofString "kind" = Str.ofString "empty") = False := eq_false (by decide +kernel)
theorem lW_num : tbl_WANTED.lookup (Str.ofString "num") = some (some (.int 0)) := by kernel_rfl
theorem lW_text : tbl_WANTED.lookup (Str.ofString "text") = some (some (.int 0)) := by kernel_rfl
theorem lW_add : tbl_WANTED.lookup (Str.ofString "add") = some (some (.int 2)) := by kernel_rfl
theorem lW_mul : tbl_WANTED.lookup (Str.ofString "mul") = some (some (.int 2)) := by kernel_rfl
theorem lW_less : tbl_WANTED.lookup (Str.ofString "less") = some (some (.int 2)) := by kernel_rfl
theorem lW_join : tbl_WANTED.lookup (Str.ofString "join") = some (some (.int 2)) := by kernel_rfl
theorem lW_long : tbl_WANTED.lookup (Str.ofString "long") = some (some (.int 1)) := by kernel_rfl
theorem lW_show : tbl_WANTED.lookup (Str.ofString "show") = some (some (.int 1)) := by kernel_rfl
theorem lW_swap : tbl_WANTED.lookup (Str.ofString "swap") = some (some (.int 2)) := by kernel_rfl
theorem lW_drop : tbl_WANTED.lookup (Str.ofString "drop") = some (some (.int 1)) := by kernel_rfl
theorem lW_copy : tbl_WANTED.lookup (Str.ofString "copy") = some (none) := by kernel_rfl
theorem lW_if : tbl_WANTED.lookup (Str.ofString "if") = some (some (.int 1)) := by kernel_rfl
theorem lT_num : tbl_TOLD.lookup (Str.ofString "num") = some (none) := by kernel_rfl
theorem lT_text : tbl_TOLD.lookup (Str.ofString "text") = some (none) := by kernel_rfl
theorem lT_add : tbl_TOLD.lookup (Str.ofString "add") = some (some (.str (Str.ofString "num"))) := by kernel_rfl
theorem lT_mul : tbl_TOLD.lookup (Str.ofString "mul") = some (some (.str (Str.ofString "num"))) := by kernel_rfl
theorem lT_less : tbl_TOLD.lookup (Str.ofString "less") = some (some (.str (Str.ofString "num"))) := by kernel_rfl
theorem lT_join : tbl_TOLD.lookup (Str.ofString "join") = some (some (.str (Str.ofString "text"))) := by kernel_rfl
theorem lT_long : tbl_TOLD.lookup (Str.ofString "long") = some (some (.str (Str.ofString "text"))) := by kernel_rfl
theorem lT_show : tbl_TOLD.lookup (Str.ofString "show") = some (some (.str (Str.ofString "num"))) := by kernel_rfl
theorem lT_swap : tbl_TOLD.lookup (Str.ofString "swap") = some (none) := by kernel_rfl
theorem lT_drop : tbl_TOLD.lookup (Str.ofString "drop") = some (none) := by kernel_rfl
theorem lT_copy : tbl_TOLD.lookup (Str.ofString "copy") = some (none) := by kernel_rfl
theorem lT_if : tbl_TOLD.lookup (Str.ofString "if") = some (some (.str (Str.ofString "num"))) := by kernel_rfl
theorem lP_num : tbl_PUT.lookup (Str.ofString "num") = some (none) := by kernel_rfl
theorem lP_text : tbl_PUT.lookup (Str.ofString "text") = some (none) := by kernel_rfl
theorem lP_add : tbl_PUT.lookup (Str.ofString "add") = some (some (.fn (Str.ofString "added"))) := by kernel_rfl
theorem lP_mul : tbl_PUT.lookup (Str.ofString "mul") = some (some (.fn (Str.ofString "multiplied"))) := by kernel_rfl
theorem lP_less : tbl_PUT.lookup (Str.ofString "less") = some (some (.fn (Str.ofString "compared"))) := by kernel_rfl
theorem lP_join : tbl_PUT.lookup (Str.ofString "join") = some (some (.fn (Str.ofString "joined"))) := by kernel_rfl
theorem lP_long : tbl_PUT.lookup (Str.ofString "long") = some (some (.fn (Str.ofString "measured"))) := by kernel_rfl
theorem lP_show : tbl_PUT.lookup (Str.ofString "show") = some (some (.fn (Str.ofString "shown"))) := by kernel_rfl
theorem lP_swap : tbl_PUT.lookup (Str.ofString "swap") = some (some (.fn (Str.ofString "swapped"))) := by kernel_rfl
theorem lP_drop : tbl_PUT.lookup (Str.ofString "drop") = some (some (.fn (Str.ofString "dropped"))) := by kernel_rfl
theorem lP_copy : tbl_PUT.lookup (Str.ofString "copy") = some (some (.fn (Str.ofString "copied"))) := by kernel_rfl
theorem lF_added : tbv_put_by_put.lookup (Str.ofString "added") = some (1, F_added) := by kernel_rfl
theorem lF_multiplied : tbv_put_by_put.lookup (Str.ofString "multiplied") = some (1, F_multiplied) := by kernel_rfl
theorem lF_compared : tbv_put_by_put.lookup (Str.ofString "compared") = some (1, F_compared) := by kernel_rfl
theorem lF_joined : tbv_put_by_put.lookup (Str.ofString "joined") = some (1, F_joined) := by kernel_rfl
theorem lF_measured : tbv_put_by_put.lookup (Str.ofString "measured") = some (1, F_measured) := by kernel_rfl
theorem lF_shown : tbv_put_by_put.lookup (Str.ofString "shown") = some (1, F_shown) := by kernel_rfl
theorem lF_swapped : tbv_put_by_put.lookup (Str.ofString "swapped") = some (1, F_swapped) := by kernel_rfl
theorem lF_dropped : tbv_put_by_put.lookup (Str.ofString "dropped") = some (1, F_dropped) := by kernel_rfl
theorem lF_copied : tbv_put_by_put.lookup (Str.ofString "copied") = some (1, F_copied) := by kernel_rfl
theorem lI_num : oInB (.str (Str.ofString "num")) (.tup [.str (Str.ofString "num"), .str (Str.ofString "text")]) = some true := by kernel_rfl
theorem lI_text : oInB (.str (Str.ofString "text")) (.tup [.str (Str.ofString "num"), .str (Str.ofString "text")]) = some true := by kernel_rfl
theorem lI_add : oInB (.str (Str.ofString "add")) (.tup [.str (Str.ofString "num"), .str (Str.ofString "text")]) = some false := by kernel_rfl
theorem lI_mul : oInB (.str (Str.ofString "mul")) (.tup [.str (Str.ofString "num"), .str (Str.ofString "text")]) = some false := by kernel_rfl
theorem lI_less : oInB (.str (Str.ofString "less")) (.tup [.str (Str.ofString "num"), .str (Str.ofString "text")]) = some false := by kernel_rfl
theorem lI_join : oInB (.str (Str.ofString "join")) (.tup [.str (Str.ofString "num"), .str (Str.ofString "text")]) = some false := by kernel_rfl
theorem lI_long : oInB (.str (Str.ofString "long")) (.tup [.str (Str.ofString "num"), .str (Str.ofString "text")]) = some false := by kernel_rfl
theorem lI_show : oInB (.str (Str.ofString "show")) (.tup [.str (Str.ofString "num"), .str (Str.ofString "text")]) = some false := by kernel_rfl
theorem lI_swap : oInB (.str (Str.ofString "swap")) (.tup [.str (Str.ofString "num"), .str (Str.ofString "text")]) = some false := by kernel_rfl
theorem lI_drop : oInB (.str (Str.ofString "drop")) (.tup [.str (Str.ofString "num"), .str (Str.ofString "text")]) = some false := by kernel_rfl
theorem lI_copy : oInB (.str (Str.ofString "copy")) (.tup [.str (Str.ofString "num"), .str (Str.ofString "text")]) = some false := by kernel_rfl
theorem lH_Empty_Empty : hdt_Empty.lookup (Str.ofString "Empty") = some true := by kernel_rfl
theorem lH_WrongKind_Empty : hdt_WrongKind.lookup (Str.ofString "Empty") = some false := by kernel_rfl
theorem lA_Empty : tbl_any.lookup (Str.ofString "Empty") = some true := by kernel_rfl
theorem lH_Empty_WrongKind : hdt_Empty.lookup (Str.ofString "WrongKind") = some false := by kernel_rfl
theorem lH_WrongKind_WrongKind : hdt_WrongKind.lookup (Str.ofString "WrongKind") = some true := by kernel_rfl
theorem lA_WrongKind : tbl_any.lookup (Str.ofString "WrongKind") = some true := by kernel_rfl
end LW

namespace LW
open PySem L2 TL
inductive Row : D → List D → Prop where
  | num (i : Int) (h0 : 0 ≤ i) (h1 : i < 1000000000) : Row (.tup [.str "num", .int i]) []
  | text (s : Str) (h : gS s) : Row (.tup [.str "text", .str s]) []
  | copy (n : Int) (h0 : 0 ≤ n) (h1 : n ≤ 60) : Row (.tup [.str "copy", .int n]) (List.replicate (n + 1).toNat (.str ""))
  | add : Row (.tup [.str "add"]) [.str "num", .str "num"]
  | mul : Row (.tup [.str "mul"]) [.str "num", .str "num"]
  | less : Row (.tup [.str "less"]) [.str "num", .str "num"]
  | join : Row (.tup [.str "join"]) [.str "text", .str "text"]
  | swap : Row (.tup [.str "swap"]) [.str "", .str ""]
  | long : Row (.tup [.str "long"]) [.str "text"]
  | shw : Row (.tup [.str "show"]) [.str "num"]
  | drop : Row (.tup [.str "drop"]) [.str ""]
theorem lawW_ok {r : D} {W : List D} (h : Row r W) : F_law_wanted [.val r] = .ret (.ow (.own W)) [.val r] := by
  cases h with
  | copy n h0 h1 =>
    have c1 : -(2 ^ 63) ≤ n + 1 := by omega
    have c2 : n + 1 < 2 ^ 63 := by omega
    have c3 : 1 * (n + 1).toNat ≤ sizeLine := le_sz (by omega)
    have e0 : atI [D.str (Str.ofString "copy"), D.int n] 0 = some (.str "copy") := rfl
    have e1 : atI [D.str (Str.ofString "copy"), D.int n] 1 = some (.int n) := rfl
    unfold F_law_wanted M_law_wanted
    simp only [mkF, pad, outs, mSeq, mAsg, mAsgG, mExpr, mRet, mRetV, mRetN, mIfS, mIf, mNx, mTest, tmNot, tmAnd, tmOr, mVar, mC, mB, TL.m1, TL.m2, opt, use, R.fix, frz, tak, Cell.dat, mSeqD, mArgs, vals, mSl, mPart, mgSeq, setAll, D.items, mCall, give, mPut, mApp, mPop, mIns, ownL, mFor, miSeq, miRange, mAndV, mOrV, mNotV, D.bool, D.tru, mKGet, mKIn, mCallV, mRaise, mTry, mHands, mAny, mJoin, mLc, oAdd, oSub, oMul, oDiv, oMod, oPow, oNeg, oCmp, oIx, oSl, oLen, oList, oTuple, oStr, oInt, oMax, oMin, oIn, List.getElem?_cons_zero, List.getElem?_cons_succ, List.getElem?_nil, List.set_cons_zero, List.set_cons_succ, List.length_cons, List.length_nil, List.cons_append, List.nil_append, List.append_nil, List.replicate, List.map_cons, List.map_nil, Option.map_some, Option.map_none, Option.bind_some, Option.bind_none, if_true, if_false, reduceIte, ↓reduceIte, Nat.reduceAdd, Nat.reduceSub, Nat.reduceLeDiff, Nat.reduceLT, Nat.reduceEqDiff, Int.reduceLT, Int.reduceLE, Bool.not_true, Bool.not_false, Bool.false_eq_true, sz0, sz1, sz2, sz3, sz4, sz5, sz6, sz7, sz8, sz9, sz10, sz11, sz12, sz13, sz14, sz15, oEq_str, oEq_int, oNe_str, oNe_int, decide_false, decide_true, and_self, n_num_text, n_num_add, n_num_mul, n_num_less, n_num_join, n_num_long, n_num_show, n_num_swap, n_num_drop, n_num_copy, n_num_e, n_num_empty, n_num_kind, n_text_num, n_text_add, n_text_mul, n_text_less, n_text_join, n_text_long, n_text_show, n_text_swap, n_text_drop, n_text_copy, n_text_e, n_text_empty, n_text_kind, n_add_num, n_add_text, n_add_mul, n_add_less, n_add_join, n_add_long, n_add_show, n_add_swap, n_add_drop, n_add_copy, n_add_e, n_add_empty, n_add_kind, n_mul_num, n_mul_text, n_mul_add, n_mul_less, n_mul_join, n_mul_long, n_mul_show, n_mul_swap, n_mul_drop, n_mul_copy, n_mul_e, n_mul_empty, n_mul_kind, n_less_num, n_less_text, n_less_add, n_less_mul, n_less_join, n_less_long, n_less_show, n_less_swap, n_less_drop, n_less_copy, n_less_e, n_less_empty, n_less_kind, n_join_num, n_join_text, n_join_add, n_join_mul, n_join_less, n_join_long, n_join_show, n_join_swap, n_join_drop, n_join_copy, n_join_e, n_join_empty, n_join_kind, n_long_num, n_long_text, n_long_add, n_long_mul, n_long_less, n_long_join, n_long_show, n_long_swap, n_long_drop, n_long_copy, n_long_e, n_long_empty, n_long_kind, n_show_num, n_show_text, n_show_add, n_show_mul, n_show_less, n_show_join, n_show_long, n_show_swap, n_show_drop, n_show_copy, n_show_e, n_show_empty, n_show_kind, n_swap_num, n_swap_text, n_swap_add, n_swap_mul, n_swap_less, n_swap_join, n_swap_long, n_swap_show, n_swap_drop, n_swap_copy, n_swap_e, n_swap_empty, n_swap_kind, n_drop_num, n_drop_text, n_drop_add, n_drop_mul, n_drop_less, n_drop_join, n_drop_long, n_drop_show, n_drop_swap, n_drop_copy, n_drop_e, n_drop_empty, n_drop_kind, n_copy_num, n_copy_text, n_copy_add, n_copy_mul, n_copy_less, n_copy_join, n_copy_long, n_copy_show, n_copy_swap, n_copy_drop, n_copy_e, n_copy_empty, n_copy_kind, n_e_num, n_e_text, n_e_add, n_e_mul, n_e_less, n_e_join, n_e_long, n_e_show, n_e_swap, n_e_drop, n_e_copy, n_e_empty, n_e_kind, n_empty_num, n_empty_text, n_empty_add, n_empty_mul, n_empty_less, n_empty_join, n_empty_long, n_empty_show, n_empty_swap, n_empty_drop, n_empty_copy, n_empty_e, n_empty_kind, n_kind_num, n_kind_text, n_kind_add, n_kind_mul, n_kind_less, n_kind_join, n_kind_long, n_kind_show, n_kind_swap, n_kind_drop, n_kind_copy, n_kind_e, n_kind_empty, lW_num, lW_text, lW_add, lW_mul, lW_less, lW_join, lW_long, lW_show, lW_swap, lW_drop, lW_copy, lW_if, lT_num, lT_text, lT_add, lT_mul, lT_less, lT_join, lT_long, lT_show, lT_swap, lT_drop, lT_copy, lT_if, lP_num, lP_text, lP_add, lP_mul, lP_less, lP_join, lP_long, lP_show, lP_swap, lP_drop, lP_copy, lF_added, lF_multiplied, lF_compared, lF_joined, lF_measured, lF_shown, lF_swapped, lF_dropped, lF_copied, lI_num, lI_text, lI_add, lI_mul, lI_less, lI_join, lI_long, lI_show, lI_swap, lI_drop, lI_copy, lH_Empty_Empty, lH_WrongKind_Empty, lA_Empty, lH_Empty_WrongKind, lH_WrongKind_WrongKind, lA_WrongKind, e0, e1, c1, c2, c3, List.flatten_replicate_singleton]
  | _ => kernel_rfl
theorem pick (v : Int) (h0 : 0 ≤ v) (h1 : v < 13) : ∃ w : Str, atI [D.str (Str.ofString "num"), D.str (Str.ofString "text"), D.str (Str.ofString "add"), D.str (Str.ofString "mul"), D.str (Str.ofString "less"), D.str (Str.ofString "join"), D.str (Str.ofString "long"), D.str (Str.ofString "show"), D.str (Str.ofString "swap"), D.str (Str.ofString "drop"), D.str (Str.ofString "copy"), D.str (Str.ofString "copy"), D.str (Str.ofString "copy")] v = some (.str w) ∧
    (w = "num" ∨ w = "text" ∨ w = "copy" ∨ ((w = "num") = False ∧ (w = "text") = False ∧ (w = "copy") = False ∧ ∃ W, Row (.tup [.str w]) W)) := by
  have : v = 0 ∨ v = 1 ∨ v = 2 ∨ v = 3 ∨ v = 4 ∨ v = 5 ∨ v = 6 ∨ v = 7 ∨ v = 8 ∨ v = 9 ∨ v = 10 ∨ v = 11 ∨ v = 12 := by omega
  rcases this with rfl | rfl | rfl | rfl | rfl | rfl | rfl | rfl | rfl | rfl | rfl | rfl | rfl
  · exact ⟨_, rfl, .inl rfl⟩
  · exact ⟨_, rfl, .inr (.inl rfl)⟩
  · exact ⟨_, rfl, .inr (.inr (.inr ⟨n_add_num, n_add_text, n_add_copy, _, .add⟩))⟩
  · exact ⟨_, rfl, .inr (.inr (.inr ⟨n_mul_num, n_mul_text, n_mul_copy, _, .mul⟩))⟩
  · exact ⟨_, rfl, .inr (.inr (.inr ⟨n_less_num, n_less_text, n_less_copy, _, .less⟩))⟩
  · exact ⟨_, rfl, .inr (.inr (.inr ⟨n_join_num, n_join_text, n_join_copy, _, .join⟩))⟩
  · exact ⟨_, rfl, .inr (.inr (.inr ⟨n_long_num, n_long_text, n_long_copy, _, .long⟩))⟩
  · exact ⟨_, rfl, .inr (.inr (.inr ⟨n_show_num, n_show_text, n_show_copy, _, .shw⟩))⟩
  · exact ⟨_, rfl, .inr (.inr (.inr ⟨n_swap_num, n_swap_text, n_swap_copy, _, .swap⟩))⟩
  · exact ⟨_, rfl, .inr (.inr (.inr ⟨n_drop_num, n_drop_text, n_drop_copy, _, .drop⟩))⟩
  · exact ⟨_, rfl, .inr (.inr (.inl rfl))⟩
  · exact ⟨_, rfl, .inr (.inr (.inl rfl))⟩
  · exact ⟨_, rfl, .inr (.inr (.inl rfl))⟩
theorem pick8 (v a : Int) (h0 : 0 ≤ v) (h1 : v < 8) (a0 : 0 ≤ a) (a1 : a < 61) : ∃ n : Int, 0 ≤ n ∧ n ≤ 60 ∧ atI [D.int 0, D.int 0, D.int 1, D.int 1, D.int 2, D.int 3, D.int a, D.int 60] v = some (.int n) := by
  have : v = 0 ∨ v = 1 ∨ v = 2 ∨ v = 3 ∨ v = 4 ∨ v = 5 ∨ v = 6 ∨ v = 7 := by omega
  rcases this with rfl | rfl | rfl | rfl | rfl | rfl | rfl | rfl
  · exact ⟨0, by decide, by decide, rfl⟩
  · exact ⟨0, by decide, by decide, rfl⟩
  · exact ⟨1, by decide, by decide, rfl⟩
  · exact ⟨1, by decide, by decide, rfl⟩
  · exact ⟨2, by decide, by decide, rfl⟩
  · exact ⟨3, by decide, by decide, rfl⟩
  · exact ⟨a, a0, by omega, rfl⟩
  · exact ⟨60, by decide, by decide, rfl⟩
theorem plain_ok (ns : List Int) (t : Int) (h0 : 0 ≤ t) (h1 : t < 990000) (hn : ns.length ≤ 63) : ∃ r W t', Row r W ∧ t ≤ t' ∧ t' ≤ t + 3 ∧ F_law_plain_row [fS ns, .own [.int t]] = .ret (.dd r) [fS ns, .own [.int t']] := by
  obtain ⟨v, v0, v1, e1⟩ := draw_ok ns t 13 h0 (by omega) (by decide) hn
  obtain ⟨w, w1, w2⟩ := pick v v0 v1
  rcases w2 with rfl | rfl | rfl | ⟨q1, q2, q3, W, q4⟩
  · obtain ⟨d, d1, d2, d3⟩ := value_ok ns (t + 1) "num" (.inl rfl) (by omega) (by omega) hn
    cases d1 with
    | str s _ => exact absurd d2.symm txt_ne
    | int i i0 i1 =>
      refine ⟨_, _, t + 1 + 2, .num i i0 i1, by omega, by omega, ?_⟩
      unfold fS at *
      unfold F_law_plain_row M_law_plain_row
      simp only [mkF, pad, outs, mSeq, mAsg, mAsgG, mExpr, mRet, mRetV, mRetN, mIfS, mIf, mNx, mTest, tmNot, tmAnd, tmOr, mVar, mC, mB, TL.m1, TL.m2, opt, use, R.fix, frz, tak, Cell.dat, mSeqD, mArgs, vals, mSl, mPart, mgSeq, setAll, D.items, mCall, give, mPut, mApp, mPop, mIns, ownL, mFor, miSeq, miRange, mAndV, mOrV, mNotV, D.bool, D.tru, mKGet, mKIn, mCallV, mRaise, mTry, mHands, mAny, mJoin, mLc, oAdd, oSub, oMul, oDiv, oMod, oPow, oNeg, oCmp, oIx, oSl, oLen, oList, oTuple, oStr, oInt, oMax, oMin, oIn, List.getElem?_cons_zero, List.getElem?_cons_succ, List.getElem?_nil, List.set_cons_zero, List.set_cons_succ, List.length_cons, List.length_nil, List.cons_append, List.nil_append, List.append_nil, List.replicate, List.map_cons, List.map_nil, Option.map_some, Option.map_none, Option.bind_some, Option.bind_none, if_true, if_false, reduceIte, ↓reduceIte, Nat.reduceAdd, Nat.reduceSub, Nat.reduceLeDiff, Nat.reduceLT, Nat.reduceEqDiff, Int.reduceLT, Int.reduceLE, Bool.not_true, Bool.not_false, Bool.false_eq_true, sz0, sz1, sz2, sz3, sz4, sz5, sz6, sz7, sz8, sz9, sz10, sz11, sz12, sz13, sz14, sz15, oEq_str, oEq_int, oNe_str, oNe_int, decide_false, decide_true, and_self, n_num_text, n_num_add, n_num_mul, n_num_less, n_num_join, n_num_long, n_num_show, n_num_swap, n_num_drop, n_num_copy, n_num_e, n_num_empty, n_num_kind, n_text_num, n_text_add, n_text_mul, n_text_less, n_text_join, n_text_long, n_text_show, n_text_swap, n_text_drop, n_text_copy, n_text_e, n_text_empty, n_text_kind, n_add_num, n_add_text, n_add_mul, n_add_less, n_add_join, n_add_long, n_add_show, n_add_swap, n_add_drop, n_add_copy, n_add_e, n_add_empty, n_add_kind, n_mul_num, n_mul_text, n_mul_add, n_mul_less, n_mul_join, n_mul_long, n_mul_show, n_mul_swap, n_mul_drop, n_mul_copy, n_mul_e, n_mul_empty, n_mul_kind, n_less_num, n_less_text, n_less_add, n_less_mul, n_less_join, n_less_long, n_less_show, n_less_swap, n_less_drop, n_less_copy, n_less_e, n_less_empty, n_less_kind, n_join_num, n_join_text, n_join_add, n_join_mul, n_join_less, n_join_long, n_join_show, n_join_swap, n_join_drop, n_join_copy, n_join_e, n_join_empty, n_join_kind, n_long_num, n_long_text, n_long_add, n_long_mul, n_long_less, n_long_join, n_long_show, n_long_swap, n_long_drop, n_long_copy, n_long_e, n_long_empty, n_long_kind, n_show_num, n_show_text, n_show_add, n_show_mul, n_show_less, n_show_join, n_show_long, n_show_swap, n_show_drop, n_show_copy, n_show_e, n_show_empty, n_show_kind, n_swap_num, n_swap_text, n_swap_add, n_swap_mul, n_swap_less, n_swap_join, n_swap_long, n_swap_show, n_swap_drop, n_swap_copy, n_swap_e, n_swap_empty, n_swap_kind, n_drop_num, n_drop_text, n_drop_add, n_drop_mul, n_drop_less, n_drop_join, n_drop_long, n_drop_show, n_drop_swap, n_drop_copy, n_drop_e, n_drop_empty, n_drop_kind, n_copy_num, n_copy_text, n_copy_add, n_copy_mul, n_copy_less, n_copy_join, n_copy_long, n_copy_show, n_copy_swap, n_copy_drop, n_copy_e, n_copy_empty, n_copy_kind, n_e_num, n_e_text, n_e_add, n_e_mul, n_e_less, n_e_join, n_e_long, n_e_show, n_e_swap, n_e_drop, n_e_copy, n_e_empty, n_e_kind, n_empty_num, n_empty_text, n_empty_add, n_empty_mul, n_empty_less, n_empty_join, n_empty_long, n_empty_show, n_empty_swap, n_empty_drop, n_empty_copy, n_empty_e, n_empty_kind, n_kind_num, n_kind_text, n_kind_add, n_kind_mul, n_kind_less, n_kind_join, n_kind_long, n_kind_show, n_kind_swap, n_kind_drop, n_kind_copy, n_kind_e, n_kind_empty, lW_num, lW_text, lW_add, lW_mul, lW_less, lW_join, lW_long, lW_show, lW_swap, lW_drop, lW_copy, lW_if, lT_num, lT_text, lT_add, lT_mul, lT_less, lT_join, lT_long, lT_show, lT_swap, lT_drop, lT_copy, lT_if, lP_num, lP_text, lP_add, lP_mul, lP_less, lP_join, lP_long, lP_show, lP_swap, lP_drop, lP_copy, lF_added, lF_multiplied, lF_compared, lF_joined, lF_measured, lF_shown, lF_swapped, lF_dropped, lF_copied, lI_num, lI_text, lI_add, lI_mul, lI_less, lI_join, lI_long, lI_show, lI_swap, lI_drop, lI_copy, lH_Empty_Empty, lH_WrongKind_Empty, lA_Empty, lH_Empty_WrongKind, lH_WrongKind_WrongKind, lA_WrongKind, e1, w1, d3]
  · obtain ⟨d, d1, d2, d3⟩ := value_ok ns (t + 1) "text" (.inr rfl) (by omega) (by omega) hn
    cases d1 with
    | int s _ => exact absurd d2 txt_ne
    | str i i0 =>
      refine ⟨_, _, t + 1 + 2, .text i i0, by omega, by omega, ?_⟩
      unfold fS at *
      unfold F_law_plain_row M_law_plain_row
      simp only [mkF, pad, outs, mSeq, mAsg, mAsgG, mExpr, mRet, mRetV, mRetN, mIfS, mIf, mNx, mTest, tmNot, tmAnd, tmOr, mVar, mC, mB, TL.m1, TL.m2, opt, use, R.fix, frz, tak, Cell.dat, mSeqD, mArgs, vals, mSl, mPart, mgSeq, setAll, D.items, mCall, give, mPut, mApp, mPop, mIns, ownL, mFor, miSeq, miRange, mAndV, mOrV, mNotV, D.bool, D.tru, mKGet, mKIn, mCallV, mRaise, mTry, mHands, mAny, mJoin, mLc, oAdd, oSub, oMul, oDiv, oMod, oPow, oNeg, oCmp, oIx, oSl, oLen, oList, oTuple, oStr, oInt, oMax, oMin, oIn, List.getElem?_cons_zero, List.getElem?_cons_succ, List.getElem?_nil, List.set_cons_zero, List.set_cons_succ, List.length_cons, List.length_nil, List.cons_append, List.nil_append, List.append_nil, List.replicate, List.map_cons, List.map_nil, Option.map_some, Option.map_none, Option.bind_some, Option.bind_none, if_true, if_false, reduceIte, ↓reduceIte, Nat.reduceAdd, Nat.reduceSub, Nat.reduceLeDiff, Nat.reduceLT, Nat.reduceEqDiff, Int.reduceLT, Int.reduceLE, Bool.not_true, Bool.not_false, Bool.false_eq_true, sz0, sz1, sz2, sz3, sz4, sz5, sz6, sz7, sz8, sz9, sz10, sz11, sz12, sz13, sz14, sz15, oEq_str, oEq_int, oNe_str, oNe_int, decide_false, decide_true, and_self, n_num_text, n_num_add, n_num_mul, n_num_less, n_num_join, n_num_long, n_num_show, n_num_swap, n_num_drop, n_num_copy, n_num_e, n_num_empty, n_num_kind, n_text_num, n_text_add, n_text_mul, n_text_less, n_text_join, n_text_long, n_text_show, n_text_swap, n_text_drop, n_text_copy, n_text_e, n_text_empty, n_text_kind, n_add_num, n_add_text, n_add_mul, n_add_less, n_add_join, n_add_long, n_add_show, n_add_swap, n_add_drop, n_add_copy, n_add_e, n_add_empty, n_add_kind, n_mul_num, n_mul_text, n_mul_add, n_mul_less, n_mul_join, n_mul_long, n_mul_show, n_mul_swap, n_mul_drop, n_mul_copy, n_mul_e, n_mul_empty, n_mul_kind, n_less_num, n_less_text, n_less_add, n_less_mul, n_less_join, n_less_long, n_less_show, n_less_swap, n_less_drop, n_less_copy, n_less_e, n_less_empty, n_less_kind, n_join_num, n_join_text, n_join_add, n_join_mul, n_join_less, n_join_long, n_join_show, n_join_swap, n_join_drop, n_join_copy, n_join_e, n_join_empty, n_join_kind, n_long_num, n_long_text, n_long_add, n_long_mul, n_long_less, n_long_join, n_long_show, n_long_swap, n_long_drop, n_long_copy, n_long_e, n_long_empty, n_long_kind, n_show_num, n_show_text, n_show_add, n_show_mul, n_show_less, n_show_join, n_show_long, n_show_swap, n_show_drop, n_show_copy, n_show_e, n_show_empty, n_show_kind, n_swap_num, n_swap_text, n_swap_add, n_swap_mul, n_swap_less, n_swap_join, n_swap_long, n_swap_show, n_swap_drop, n_swap_copy, n_swap_e, n_swap_empty, n_swap_kind, n_drop_num, n_drop_text, n_drop_add, n_drop_mul, n_drop_less, n_drop_join, n_drop_long, n_drop_show, n_drop_swap, n_drop_copy, n_drop_e, n_drop_empty, n_drop_kind, n_copy_num, n_copy_text, n_copy_add, n_copy_mul, n_copy_less, n_copy_join, n_copy_long, n_copy_show, n_copy_swap, n_copy_drop, n_copy_e, n_copy_empty, n_copy_kind, n_e_num, n_e_text, n_e_add, n_e_mul, n_e_less, n_e_join, n_e_long, n_e_show, n_e_swap, n_e_drop, n_e_copy, n_e_empty, n_e_kind, n_empty_num, n_empty_text, n_empty_add, n_empty_mul, n_empty_less, n_empty_join, n_empty_long, n_empty_show, n_empty_swap, n_empty_drop, n_empty_copy, n_empty_e, n_empty_kind, n_kind_num, n_kind_text, n_kind_add, n_kind_mul, n_kind_less, n_kind_join, n_kind_long, n_kind_show, n_kind_swap, n_kind_drop, n_kind_copy, n_kind_e, n_kind_empty, lW_num, lW_text, lW_add, lW_mul, lW_less, lW_join, lW_long, lW_show, lW_swap, lW_drop, lW_copy, lW_if, lT_num, lT_text, lT_add, lT_mul, lT_less, lT_join, lT_long, lT_show, lT_swap, lT_drop, lT_copy, lT_if, lP_num, lP_text, lP_add, lP_mul, lP_less, lP_join, lP_long, lP_show, lP_swap, lP_drop, lP_copy, lF_added, lF_multiplied, lF_compared, lF_joined, lF_measured, lF_shown, lF_swapped, lF_dropped, lF_copied, lI_num, lI_text, lI_add, lI_mul, lI_less, lI_join, lI_long, lI_show, lI_swap, lI_drop, lI_copy, lH_Empty_Empty, lH_WrongKind_Empty, lA_Empty, lH_Empty_WrongKind, lH_WrongKind_WrongKind, lA_WrongKind, e1, w1, d3]
  · obtain ⟨a, a0, a1, e2⟩ := draw_ok ns (t + 1) 61 (by omega) (by omega) (by decide) hn
    obtain ⟨b, b0, b1, e3⟩ := draw_ok ns (t + 1 + 1) 8 (by omega) (by omega) (by decide) hn
    obtain ⟨n, n0, n1, e4⟩ := pick8 b a b0 b1 a0 a1
    refine ⟨_, _, t + 1 + 1 + 1, .copy n n0 n1, by omega, by omega, ?_⟩
    unfold fS at *
    unfold F_law_plain_row M_law_plain_row
    simp only [mkF, pad, outs, mSeq, mAsg, mAsgG, mExpr, mRet, mRetV, mRetN, mIfS, mIf, mNx, mTest, tmNot, tmAnd, tmOr, mVar, mC, mB, TL.m1, TL.m2, opt, use, R.fix, frz, tak, Cell.dat, mSeqD, mArgs, vals, mSl, mPart, mgSeq, setAll, D.items, mCall, give, mPut, mApp, mPop, mIns, ownL, mFor, miSeq, miRange, mAndV, mOrV, mNotV, D.bool, D.tru, mKGet, mKIn, mCallV, mRaise, mTry, mHands, mAny, mJoin, mLc, oAdd, oSub, oMul, oDiv, oMod, oPow, oNeg, oCmp, oIx, oSl, oLen, oList, oTuple, oStr, oInt, oMax, oMin, oIn, List.getElem?_cons_zero, List.getElem?_cons_succ, List.getElem?_nil, List.set_cons_zero, List.set_cons_succ, List.length_cons, List.length_nil, List.cons_append, List.nil_append, List.append_nil, List.replicate, List.map_cons, List.map_nil, Option.map_some, Option.map_none, Option.bind_some, Option.bind_none, if_true, if_false, reduceIte, ↓reduceIte, Nat.reduceAdd, Nat.reduceSub, Nat.reduceLeDiff, Nat.reduceLT, Nat.reduceEqDiff, Int.reduceLT, Int.reduceLE, Bool.not_true, Bool.not_false, Bool.false_eq_true, sz0, sz1, sz2, sz3, sz4, sz5, sz6, sz7, sz8, sz9, sz10, sz11, sz12, sz13, sz14, sz15, oEq_str, oEq_int, oNe_str, oNe_int, decide_false, decide_true, and_self, n_num_text, n_num_add, n_num_mul, n_num_less, n_num_join, n_num_long, n_num_show, n_num_swap, n_num_drop, n_num_copy, n_num_e, n_num_empty, n_num_kind, n_text_num, n_text_add, n_text_mul, n_text_less, n_text_join, n_text_long, n_text_show, n_text_swap, n_text_drop, n_text_copy, n_text_e, n_text_empty, n_text_kind, n_add_num, n_add_text, n_add_mul, n_add_less, n_add_join, n_add_long, n_add_show, n_add_swap, n_add_drop, n_add_copy, n_add_e, n_add_empty, n_add_kind, n_mul_num, n_mul_text, n_mul_add, n_mul_less, n_mul_join, n_mul_long, n_mul_show, n_mul_swap, n_mul_drop, n_mul_copy, n_mul_e, n_mul_empty, n_mul_kind, n_less_num, n_less_text, n_less_add, n_less_mul, n_less_join, n_less_long, n_less_show, n_less_swap, n_less_drop, n_less_copy, n_less_e, n_less_empty, n_less_kind, n_join_num, n_join_text, n_join_add, n_join_mul, n_join_less, n_join_long, n_join_show, n_join_swap, n_join_drop, n_join_copy, n_join_e, n_join_empty, n_join_kind, n_long_num, n_long_text, n_long_add, n_long_mul, n_long_less, n_long_join, n_long_show, n_long_swap, n_long_drop, n_long_copy, n_long_e, n_long_empty, n_long_kind, n_show_num, n_show_text, n_show_add, n_show_mul, n_show_less, n_show_join, n_show_long, n_show_swap, n_show_drop, n_show_copy, n_show_e, n_show_empty, n_show_kind, n_swap_num, n_swap_text, n_swap_add, n_swap_mul, n_swap_less, n_swap_join, n_swap_long, n_swap_show, n_swap_drop, n_swap_copy, n_swap_e, n_swap_empty, n_swap_kind, n_drop_num, n_drop_text, n_drop_add, n_drop_mul, n_drop_less, n_drop_join, n_drop_long, n_drop_show, n_drop_swap, n_drop_copy, n_drop_e, n_drop_empty, n_drop_kind, n_copy_num, n_copy_text, n_copy_add, n_copy_mul, n_copy_less, n_copy_join, n_copy_long, n_copy_show, n_copy_swap, n_copy_drop, n_copy_e, n_copy_empty, n_copy_kind, n_e_num, n_e_text, n_e_add, n_e_mul, n_e_less, n_e_join, n_e_long, n_e_show, n_e_swap, n_e_drop, n_e_copy, n_e_empty, n_e_kind, n_empty_num, n_empty_text, n_empty_add, n_empty_mul, n_empty_less, n_empty_join, n_empty_long, n_empty_show, n_empty_swap, n_empty_drop, n_empty_copy, n_empty_e, n_empty_kind, n_kind_num, n_kind_text, n_kind_add, n_kind_mul, n_kind_less, n_kind_join, n_kind_long, n_kind_show, n_kind_swap, n_kind_drop, n_kind_copy, n_kind_e, n_kind_empty, lW_num, lW_text, lW_add, lW_mul, lW_less, lW_join, lW_long, lW_show, lW_swap, lW_drop, lW_copy, lW_if, lT_num, lT_text, lT_add, lT_mul, lT_less, lT_join, lT_long, lT_show, lT_swap, lT_drop, lT_copy, lT_if, lP_num, lP_text, lP_add, lP_mul, lP_less, lP_join, lP_long, lP_show, lP_swap, lP_drop, lP_copy, lF_added, lF_multiplied, lF_compared, lF_joined, lF_measured, lF_shown, lF_swapped, lF_dropped, lF_copied, lI_num, lI_text, lI_add, lI_mul, lI_less, lI_join, lI_long, lI_show, lI_swap, lI_drop, lI_copy, lH_Empty_Empty, lH_WrongKind_Empty, lA_Empty, lH_Empty_WrongKind, lH_WrongKind_WrongKind, lA_WrongKind, e1, w1, e2, e3, e4]
  · refine ⟨_, _, t + 1, q4, by omega, by omega, ?_⟩
    unfold fS at *
    unfold F_law_plain_row M_law_plain_row
    simp only [mkF, pad, outs, mSeq, mAsg, mAsgG, mExpr, mRet, mRetV, mRetN, mIfS, mIf, mNx, mTest, tmNot, tmAnd, tmOr, mVar, mC, mB, TL.m1, TL.m2, opt, use, R.fix, frz, tak, Cell.dat, mSeqD, mArgs, vals, mSl, mPart, mgSeq, setAll, D.items, mCall, give, mPut, mApp, mPop, mIns, ownL, mFor, miSeq, miRange, mAndV, mOrV, mNotV, D.bool, D.tru, mKGet, mKIn, mCallV, mRaise, mTry, mHands, mAny, mJoin, mLc, oAdd, oSub, oMul, oDiv, oMod, oPow, oNeg, oCmp, oIx, oSl, oLen, oList, oTuple, oStr, oInt, oMax, oMin, oIn, List.getElem?_cons_zero, List.getElem?_cons_succ, List.getElem?_nil, List.set_cons_zero, List.set_cons_succ, List.length_cons, List.length_nil, List.cons_append, List.nil_append, List.append_nil, List.replicate, List.map_cons, List.map_nil, Option.map_some, Option.map_none, Option.bind_some, Option.bind_none, if_true, if_false, reduceIte, ↓reduceIte, Nat.reduceAdd, Nat.reduceSub, Nat.reduceLeDiff, Nat.reduceLT, Nat.reduceEqDiff, Int.reduceLT, Int.reduceLE, Bool.not_true, Bool.not_false, Bool.false_eq_true, sz0, sz1, sz2, sz3, sz4, sz5, sz6, sz7, sz8, sz9, sz10, sz11, sz12, sz13, sz14, sz15, oEq_str, oEq_int, oNe_str, oNe_int, decide_false, decide_true, and_self, n_num_text, n_num_add, n_num_mul, n_num_less, n_num_join, n_num_long, n_num_show, n_num_swap, n_num_drop, n_num_copy, n_num_e, n_num_empty, n_num_kind, n_text_num, n_text_add, n_text_mul, n_text_less, n_text_join, n_text_long, n_text_show, n_text_swap, n_text_drop, n_text_copy, n_text_e, n_text_empty, n_text_kind, n_add_num, n_add_text, n_add_mul, n_add_less, n_add_join, n_add_long, n_add_show, n_add_swap, n_add_drop, n_add_copy, n_add_e, n_add_empty, n_add_kind, n_mul_num, n_mul_text, n_mul_add, n_mul_less, n_mul_join, n_mul_long, n_mul_show, n_mul_swap, n_mul_drop, n_mul_copy, n_mul_e, n_mul_empty, n_mul_kind, n_less_num, n_less_text, n_less_add, n_less_mul, n_less_join, n_less_long, n_less_show, n_less_swap, n_less_drop, n_less_copy, n_less_e, n_less_empty, n_less_kind, n_join_num, n_join_text, n_join_add, n_join_mul, n_join_less, n_join_long, n_join_show, n_join_swap, n_join_drop, n_join_copy, n_join_e, n_join_empty, n_join_kind, n_long_num, n_long_text, n_long_add, n_long_mul, n_long_less, n_long_join, n_long_show, n_long_swap, n_long_drop, n_long_copy, n_long_e, n_long_empty, n_long_kind, n_show_num, n_show_text, n_show_add, n_show_mul, n_show_less, n_show_join, n_show_long, n_show_swap, n_show_drop, n_show_copy, n_show_e, n_show_empty, n_show_kind, n_swap_num, n_swap_text, n_swap_add, n_swap_mul, n_swap_less, n_swap_join, n_swap_long, n_swap_show, n_swap_drop, n_swap_copy, n_swap_e, n_swap_empty, n_swap_kind, n_drop_num, n_drop_text, n_drop_add, n_drop_mul, n_drop_less, n_drop_join, n_drop_long, n_drop_show, n_drop_swap, n_drop_copy, n_drop_e, n_drop_empty, n_drop_kind, n_copy_num, n_copy_text, n_copy_add, n_copy_mul, n_copy_less, n_copy_join, n_copy_long, n_copy_show, n_copy_swap, n_copy_drop, n_copy_e, n_copy_empty, n_copy_kind, n_e_num, n_e_text, n_e_add, n_e_mul, n_e_less, n_e_join, n_e_long, n_e_show, n_e_swap, n_e_drop, n_e_copy, n_e_empty, n_e_kind, n_empty_num, n_empty_text, n_empty_add, n_empty_mul, n_empty_less, n_empty_join, n_empty_long, n_empty_show, n_empty_swap, n_empty_drop, n_empty_copy, n_empty_e, n_empty_kind, n_kind_num, n_kind_text, n_kind_add, n_kind_mul, n_kind_less, n_kind_join, n_kind_long, n_kind_show, n_kind_swap, n_kind_drop, n_kind_copy, n_kind_e, n_kind_empty, lW_num, lW_text, lW_add, lW_mul, lW_less, lW_join, lW_long, lW_show, lW_swap, lW_drop, lW_copy, lW_if, lT_num, lT_text, lT_add, lT_mul, lT_less, lT_join, lT_long, lT_show, lT_swap, lT_drop, lT_copy, lT_if, lP_num, lP_text, lP_add, lP_mul, lP_less, lP_join, lP_long, lP_show, lP_swap, lP_drop, lP_copy, lF_added, lF_multiplied, lF_compared, lF_joined, lF_measured, lF_shown, lF_swapped, lF_dropped, lF_copied, lI_num, lI_text, lI_add, lI_mul, lI_less, lI_join, lI_long, lI_show, lI_swap, lI_drop, lI_copy, lH_Empty_Empty, lH_WrongKind_Empty, lA_Empty, lH_Empty_WrongKind, lH_WrongKind_WrongKind, lA_WrongKind, e1, w1, q1, q2, q3]
end LW

namespace LW
open PySem L2 TL
def AllV (xs : List D) : Prop := ∀ d ∈ xs, IsVal d
theorem AllV.app {xs : List D} {d : D} (h : AllV xs) (k : IsVal d) : AllV (xs ++ [d]) := fun x hx => by
  rcases List.mem_append.mp hx with hx | hx
  · exact h x hx
  · simp at hx; subst hx; exact k
theorem pick2 (v : Int) (h0 : 0 ≤ v) (h1 : v < 2) : ∃ k : Str, (k = "num" ∨ k = "text") ∧ atI [D.str (Str.ofString "num"), D.str (Str.ofString "text")] v = some (.str k) := by
  have : v = 0 ∨ v = 1 := by omega
  rcases this with rfl | rfl
  · exact ⟨_, .inl rfl, rfl⟩
  · exact ⟨_, .inr rfl, rfl⟩
theorem stack_l1 (ns : List Int) (r : D) (sz : Cell) (hn : ns.length ≤ 63) : ∀ (ds acc : List D) (t : Int) (c : Cell), AllV acc → acc.length + ds.length ≤ 300 → 0 ≤ t → t + 3 * ds.length < 900000 →
    ∃ acc' t' c', AllV acc' ∧ acc'.length = acc.length + ds.length ∧ t ≤ t' ∧ t' ≤ t + 3 * ds.length ∧
    mLoop (mgName 5) B_law_stack_1 ds [fS ns, .own [.int t], .val r, sz, .own acc, c, .no] = .nx [fS ns, .own [.int t'], .val r, sz, .own acc', c', .no]
  | [], acc, t, c, ha, _, _, _ => ⟨acc, t, c, ha, by simp, by omega, by simp, rfl⟩
  | d :: ds, acc, t, c, ha, hl, h0, h1 => by
    simp only [List.length_cons] at hl h1
    obtain ⟨v, v0, v1, e1⟩ := draw_ok ns t 2 h0 (by omega) (by decide) hn
    obtain ⟨k, hk, k1⟩ := pick2 v v0 v1
    obtain ⟨x, x1, x2, x3⟩ := value_ok ns (t + 1) k hk (by omega) (by omega) hn
    obtain ⟨acc', t', c', a1, a2, a3, a4, a5⟩ := stack_l1 ns r sz hn ds (acc ++ [x]) (t + 1 + 2) (.val d) (ha.app x1) (by simp; omega) (by omega) (by omega)
    have la : acc.length < sizeLine := Nat.lt_of_lt_of_le (show acc.length < 1000 by omega) (by decide)
    refine ⟨acc', t', c', a1, by rw [a2]; simp; omega, by omega, by simp; omega, ?_⟩
    rw [← a5]
    unfold fS at *
    refine mLoop_nx rfl ?_
    unfold B_law_stack_1
    simp only [mkF, pad, outs, mSeq, mAsg, mAsgG, mExpr, mRet, mRetV, mRetN, mIfS, mIf, mNx, mTest, tmNot, tmAnd, tmOr, mVar, mC, mB, TL.m1, TL.m2, opt, use, R.fix, frz, tak, Cell.dat, mSeqD, mArgs, vals, mSl, mPart, mgSeq, setAll, D.items, mCall, give, mPut, mApp, mPop, mIns, ownL, mFor, miSeq, miRange, mAndV, mOrV, mNotV, D.bool, D.tru, mKGet, mKIn, mCallV, mRaise, mTry, mHands, mAny, mJoin, mLc, oAdd, oSub, oMul, oDiv, oMod, oPow, oNeg, oCmp, oIx, oSl, oLen, oList, oTuple, oStr, oInt, oMax, oMin, oIn, List.getElem?_cons_zero, List.getElem?_cons_succ, List.getElem?_nil, List.set_cons_zero, List.set_cons_succ, List.length_cons, List.length_nil, List.cons_append, List.nil_append, List.append_nil, List.replicate, List.map_cons, List.map_nil, Option.map_some, Option.map_none, Option.bind_some, Option.bind_none, if_true, if_false, reduceIte, ↓reduceIte, Nat.reduceAdd, Nat.reduceSub, Nat.reduceLeDiff, Nat.reduceLT, Nat.reduceEqDiff, Int.reduceLT, Int.reduceLE, Bool.not_true, Bool.not_false, Bool.false_eq_true, sz0, sz1, sz2, sz3, sz4, sz5, sz6, sz7, sz8, sz9, sz10, sz11, sz12, sz13, sz14, sz15, oEq_str, oEq_int, oNe_str, oNe_int, decide_false, decide_true, and_self, n_num_text, n_num_add, n_num_mul, n_num_less, n_num_join, n_num_long, n_num_show, n_num_swap, n_num_drop, n_num_copy, n_num_e, n_num_empty, n_num_kind, n_text_num, n_text_add, n_text_mul, n_text_less, n_text_join, n_text_long, n_text_show, n_text_swap, n_text_drop, n_text_copy, n_text_e, n_text_empty, n_text_kind, n_add_num, n_add_text, n_add_mul, n_add_less, n_add_join, n_add_long, n_add_show, n_add_swap, n_add_drop, n_add_copy, n_add_e, n_add_empty, n_add_kind, n_mul_num, n_mul_text, n_mul_add, n_mul_less, n_mul_join, n_mul_long, n_mul_show, n_mul_swap, n_mul_drop, n_mul_copy, n_mul_e, n_mul_empty, n_mul_kind, n_less_num, n_less_text, n_less_add, n_less_mul, n_less_join, n_less_long, n_less_show, n_less_swap, n_less_drop, n_less_copy, n_less_e, n_less_empty, n_less_kind, n_join_num, n_join_text, n_join_add, n_join_mul, n_join_less, n_join_long, n_join_show, n_join_swap, n_join_drop, n_join_copy, n_join_e, n_join_empty, n_join_kind, n_long_num, n_long_text, n_long_add, n_long_mul, n_long_less, n_long_join, n_long_show, n_long_swap, n_long_drop, n_long_copy, n_long_e, n_long_empty, n_long_kind, n_show_num, n_show_text, n_show_add, n_show_mul, n_show_less, n_show_join, n_show_long, n_show_swap, n_show_drop, n_show_copy, n_show_e, n_show_empty, n_show_kind, n_swap_num, n_swap_text, n_swap_add, n_swap_mul, n_swap_less, n_swap_join, n_swap_long, n_swap_show, n_swap_drop, n_swap_copy, n_swap_e, n_swap_empty, n_swap_kind, n_drop_num, n_drop_text, n_drop_add, n_drop_mul, n_drop_less, n_drop_join, n_drop_long, n_drop_show, n_drop_swap, n_drop_copy, n_drop_e, n_drop_empty, n_drop_kind, n_copy_num, n_copy_text, n_copy_add, n_copy_mul, n_copy_less, n_copy_join, n_copy_long, n_copy_show, n_copy_swap, n_copy_drop, n_copy_e, n_copy_empty, n_copy_kind, n_e_num, n_e_text, n_e_add, n_e_mul, n_e_less, n_e_join, n_e_long, n_e_show, n_e_swap, n_e_drop, n_e_copy, n_e_empty, n_e_kind, n_empty_num, n_empty_text, n_empty_add, n_empty_mul, n_empty_less, n_empty_join, n_empty_long, n_empty_show, n_empty_swap, n_empty_drop, n_empty_copy, n_empty_e, n_empty_kind, n_kind_num, n_kind_text, n_kind_add, n_kind_mul, n_kind_less, n_kind_join, n_kind_long, n_kind_show, n_kind_swap, n_kind_drop, n_kind_copy, n_kind_e, n_kind_empty, lW_num, lW_text, lW_add, lW_mul, lW_less, lW_join, lW_long, lW_show, lW_swap, lW_drop, lW_copy, lW_if, lT_num, lT_text, lT_add, lT_mul, lT_less, lT_join, lT_long, lT_show, lT_swap, lT_drop, lT_copy, lT_if, lP_num, lP_text, lP_add, lP_mul, lP_less, lP_join, lP_long, lP_show, lP_swap, lP_drop, lP_copy, lF_added, lF_multiplied, lF_compared, lF_joined, lF_measured, lF_shown, lF_swapped, lF_dropped, lF_copied, lI_num, lI_text, lI_add, lI_mul, lI_less, lI_join, lI_long, lI_show, lI_swap, lI_drop, lI_copy, lH_Empty_Empty, lH_WrongKind_Empty, lA_Empty, lH_Empty_WrongKind, lH_WrongKind_WrongKind, lA_WrongKind, e1, k1, x3, la]
def KS (W : List D) : Prop := ∀ d ∈ W, d = .str "" ∨ d = .str "num" ∨ d = .str "text"
theorem stack_l2 (ns : List Int) (r : D) (sz c5 : Cell) (hn : ns.length ≤ 63) : ∀ (ds acc : List D) (t : Int) (c : Cell), KS ds → AllV acc → acc.length + ds.length ≤ 300 → 0 ≤ t → t + 4 * ds.length < 900000 →
    ∃ acc' t' c', AllV acc' ∧ acc'.length = acc.length + ds.length ∧ t ≤ t' ∧ t' ≤ t + 4 * ds.length ∧
    mLoop (mgName 6) B_law_stack_2 ds [fS ns, .own [.int t], .val r, sz, .own acc, c5, c] = .nx [fS ns, .own [.int t'], .val r, sz, .own acc', c5, c']
  | [], acc, t, c, hk, ha, _, _, _ => ⟨acc, t, c, ha, by simp, by omega, by simp, rfl⟩
  | d :: ds, acc, t, c, hk, ha, hl, h0, h1 => by
    simp only [List.length_cons] at hl h1
    have la : acc.length < sizeLine := Nat.lt_of_lt_of_le (show acc.length < 1000 by omega) (by decide)
    have hks : KS ds := fun x hx => hk x (List.mem_cons_of_mem _ hx)
    have go : ∀ (k : Str) (t1 : Int), t < t1 → t1 ≤ t + 2 → (k = "num" ∨ k = "text") → (∀ (x : D), F_law_value [fS ns, .own [.int t1], .val (.str k)] = .ret (.dd x) [fS ns, .own [.int (t1 + 2)], .val (.str k)] → 
        mLoop (mgName 6) B_law_stack_2 (d :: ds) [fS ns, .own [.int t], .val r, sz, .own acc, c5, c] = mLoop (mgName 6) B_law_stack_2 ds [fS ns, .own [.int (t1 + 2)], .val r, sz, .own (acc ++ [x]), c5, .val (.str k)]) →
        ∃ acc' t' c', AllV acc' ∧ acc'.length = acc.length + (d :: ds).length ∧ t ≤ t' ∧ t' ≤ t + 4 * ((d :: ds).length : Int) ∧
          mLoop (mgName 6) B_law_stack_2 (d :: ds) [fS ns, .own [.int t], .val r, sz, .own acc, c5, c] = .nx [fS ns, .own [.int t'], .val r, sz, .own acc', c5, c'] := fun k t1 ht0 ht hkk hx => by
      obtain ⟨x, x1, x2, x3⟩ := value_ok ns t1 k hkk (by omega) (by omega) hn
      obtain ⟨acc', t', c', a1, a2, a3, a4, a5⟩ := stack_l2 ns r sz c5 hn ds (acc ++ [x]) (t1 + 2) (.val (.str k)) hks (ha.app x1) (by simp; omega) (by omega) (by omega)
      exact ⟨acc', t', c', a1, by rw [a2]; simp; omega, by omega, by simp; omega, (hx x x3).trans a5⟩
    rcases hk d List.mem_cons_self with rfl | hd
    · obtain ⟨v, v0, v1, e1⟩ := draw_ok ns t 2 h0 (by omega) (by decide) hn
      obtain ⟨k, hkk, k1⟩ := pick2 v v0 v1
      refine go k (t + 1) (by omega) (by omega) hkk fun x x3 => ?_
      unfold fS at *
      refine mLoop_nx rfl ?_
      unfold B_law_stack_2
      simp only [mkF, pad, outs, mSeq, mAsg, mAsgG, mExpr, mRet, mRetV, mRetN, mIfS, mIf, mNx, mTest, tmNot, tmAnd, tmOr, mVar, mC, mB, TL.m1, TL.m2, opt, use, R.fix, frz, tak, Cell.dat, mSeqD, mArgs, vals, mSl, mPart, mgSeq, setAll, D.items, mCall, give, mPut, mApp, mPop, mIns, ownL, mFor, miSeq, miRange, mAndV, mOrV, mNotV, D.bool, D.tru, mKGet, mKIn, mCallV, mRaise, mTry, mHands, mAny, mJoin, mLc, oAdd, oSub, oMul, oDiv, oMod, oPow, oNeg, oCmp, oIx, oSl, oLen, oList, oTuple, oStr, oInt, oMax, oMin, oIn, List.getElem?_cons_zero, List.getElem?_cons_succ, List.getElem?_nil, List.set_cons_zero, List.set_cons_succ, List.length_cons, List.length_nil, List.cons_append, List.nil_append, List.append_nil, List.replicate, List.map_cons, List.map_nil, Option.map_some, Option.map_none, Option.bind_some, Option.bind_none, if_true, if_false, reduceIte, ↓reduceIte, Nat.reduceAdd, Nat.reduceSub, Nat.reduceLeDiff, Nat.reduceLT, Nat.reduceEqDiff, Int.reduceLT, Int.reduceLE, Bool.not_true, Bool.not_false, Bool.false_eq_true, sz0, sz1, sz2, sz3, sz4, sz5, sz6, sz7, sz8, sz9, sz10, sz11, sz12, sz13, sz14, sz15, oEq_str, oEq_int, oNe_str, oNe_int, decide_false, decide_true, and_self, n_num_text, n_num_add, n_num_mul, n_num_less, n_num_join, n_num_long, n_num_show, n_num_swap, n_num_drop, n_num_copy, n_num_e, n_num_empty, n_num_kind, n_text_num, n_text_add, n_text_mul, n_text_less, n_text_join, n_text_long, n_text_show, n_text_swap, n_text_drop, n_text_copy, n_text_e, n_text_empty, n_text_kind, n_add_num, n_add_text, n_add_mul, n_add_less, n_add_join, n_add_long, n_add_show, n_add_swap, n_add_drop, n_add_copy, n_add_e, n_add_empty, n_add_kind, n_mul_num, n_mul_text, n_mul_add, n_mul_less, n_mul_join, n_mul_long, n_mul_show, n_mul_swap, n_mul_drop, n_mul_copy, n_mul_e, n_mul_empty, n_mul_kind, n_less_num, n_less_text, n_less_add, n_less_mul, n_less_join, n_less_long, n_less_show, n_less_swap, n_less_drop, n_less_copy, n_less_e, n_less_empty, n_less_kind, n_join_num, n_join_text, n_join_add, n_join_mul, n_join_less, n_join_long, n_join_show, n_join_swap, n_join_drop, n_join_copy, n_join_e, n_join_empty, n_join_kind, n_long_num, n_long_text, n_long_add, n_long_mul, n_long_less, n_long_join, n_long_show, n_long_swap, n_long_drop, n_long_copy, n_long_e, n_long_empty, n_long_kind, n_show_num, n_show_text, n_show_add, n_show_mul, n_show_less, n_show_join, n_show_long, n_show_swap, n_show_drop, n_show_copy, n_show_e, n_show_empty, n_show_kind, n_swap_num, n_swap_text, n_swap_add, n_swap_mul, n_swap_less, n_swap_join, n_swap_long, n_swap_show, n_swap_drop, n_swap_copy, n_swap_e, n_swap_empty, n_swap_kind, n_drop_num, n_drop_text, n_drop_add, n_drop_mul, n_drop_less, n_drop_join, n_drop_long, n_drop_show, n_drop_swap, n_drop_copy, n_drop_e, n_drop_empty, n_drop_kind, n_copy_num, n_copy_text, n_copy_add, n_copy_mul, n_copy_less, n_copy_join, n_copy_long, n_copy_show, n_copy_swap, n_copy_drop, n_copy_e, n_copy_empty, n_copy_kind, n_e_num, n_e_text, n_e_add, n_e_mul, n_e_less, n_e_join, n_e_long, n_e_show, n_e_swap, n_e_drop, n_e_copy, n_e_empty, n_e_kind, n_empty_num, n_empty_text, n_empty_add, n_empty_mul, n_empty_less, n_empty_join, n_empty_long, n_empty_show, n_empty_swap, n_empty_drop, n_empty_copy, n_empty_e, n_empty_kind, n_kind_num, n_kind_text, n_kind_add, n_kind_mul, n_kind_less, n_kind_join, n_kind_long, n_kind_show, n_kind_swap, n_kind_drop, n_kind_copy, n_kind_e, n_kind_empty, lW_num, lW_text, lW_add, lW_mul, lW_less, lW_join, lW_long, lW_show, lW_swap, lW_drop, lW_copy, lW_if, lT_num, lT_text, lT_add, lT_mul, lT_less, lT_join, lT_long, lT_show, lT_swap, lT_drop, lT_copy, lT_if, lP_num, lP_text, lP_add, lP_mul, lP_less, lP_join, lP_long, lP_show, lP_swap, lP_drop, lP_copy, lF_added, lF_multiplied, lF_compared, lF_joined, lF_measured, lF_shown, lF_swapped, lF_dropped, lF_copied, lI_num, lI_text, lI_add, lI_mul, lI_less, lI_join, lI_long, lI_show, lI_swap, lI_drop, lI_copy, lH_Empty_Empty, lH_WrongKind_Empty, lA_Empty, lH_Empty_WrongKind, lH_WrongKind_WrongKind, lA_WrongKind, e1, k1, x3, la, mgName]
    · obtain ⟨v, v0, v1, e1⟩ := draw_ok ns t 5 h0 (by omega) (by decide) hn
      have i0 : atI [D.str (Str.ofString "num"), D.str (Str.ofString "text")] 0 = some (.str "num") := rfl
      have i1 : atI [D.str (Str.ofString "num"), D.str (Str.ofString "text")] 1 = some (.str "text") := rfl
      by_cases c0 : v = 0
      · rcases hd with rfl | rfl
        · refine go "text" (t + 1) (by omega) (by omega) (.inr rfl) fun x x3 => ?_
          unfold fS at *
          refine mLoop_nx rfl ?_
          unfold B_law_stack_2
          simp only [mkF, pad, outs, mSeq, mAsg, mAsgG, mExpr, mRet, mRetV, mRetN, mIfS, mIf, mNx, mTest, tmNot, tmAnd, tmOr, mVar, mC, mB, TL.m1, TL.m2, opt, use, R.fix, frz, tak, Cell.dat, mSeqD, mArgs, vals, mSl, mPart, mgSeq, setAll, D.items, mCall, give, mPut, mApp, mPop, mIns, ownL, mFor, miSeq, miRange, mAndV, mOrV, mNotV, D.bool, D.tru, mKGet, mKIn, mCallV, mRaise, mTry, mHands, mAny, mJoin, mLc, oAdd, oSub, oMul, oDiv, oMod, oPow, oNeg, oCmp, oIx, oSl, oLen, oList, oTuple, oStr, oInt, oMax, oMin, oIn, List.getElem?_cons_zero, List.getElem?_cons_succ, List.getElem?_nil, List.set_cons_zero, List.set_cons_succ, List.length_cons, List.length_nil, List.cons_append, List.nil_append, List.append_nil, List.replicate, List.map_cons, List.map_nil, Option.map_some, Option.map_none, Option.bind_some, Option.bind_none, if_true, if_false, reduceIte, ↓reduceIte, Nat.reduceAdd, Nat.reduceSub, Nat.reduceLeDiff, Nat.reduceLT, Nat.reduceEqDiff, Int.reduceLT, Int.reduceLE, Bool.not_true, Bool.not_false, Bool.false_eq_true, sz0, sz1, sz2, sz3, sz4, sz5, sz6, sz7, sz8, sz9, sz10, sz11, sz12, sz13, sz14, sz15, oEq_str, oEq_int, oNe_str, oNe_int, decide_false, decide_true, and_self, n_num_text, n_num_add, n_num_mul, n_num_less, n_num_join, n_num_long, n_num_show, n_num_swap, n_num_drop, n_num_copy, n_num_e, n_num_empty, n_num_kind, n_text_num, n_text_add, n_text_mul, n_text_less, n_text_join, n_text_long, n_text_show, n_text_swap, n_text_drop, n_text_copy, n_text_e, n_text_empty, n_text_kind, n_add_num, n_add_text, n_add_mul, n_add_less, n_add_join, n_add_long, n_add_show, n_add_swap, n_add_drop, n_add_copy, n_add_e, n_add_empty, n_add_kind, n_mul_num, n_mul_text, n_mul_add, n_mul_less, n_mul_join, n_mul_long, n_mul_show, n_mul_swap, n_mul_drop, n_mul_copy, n_mul_e, n_mul_empty, n_mul_kind, n_less_num, n_less_text, n_less_add, n_less_mul, n_less_join, n_less_long, n_less_show, n_less_swap, n_less_drop, n_less_copy, n_less_e, n_less_empty, n_less_kind, n_join_num, n_join_text, n_join_add, n_join_mul, n_join_less, n_join_long, n_join_show, n_join_swap, n_join_drop, n_join_copy, n_join_e, n_join_empty, n_join_kind, n_long_num, n_long_text, n_long_add, n_long_mul, n_long_less, n_long_join, n_long_show, n_long_swap, n_long_drop, n_long_copy, n_long_e, n_long_empty, n_long_kind, n_show_num, n_show_text, n_show_add, n_show_mul, n_show_less, n_show_join, n_show_long, n_show_swap, n_show_drop, n_show_copy, n_show_e, n_show_empty, n_show_kind, n_swap_num, n_swap_text, n_swap_add, n_swap_mul, n_swap_less, n_swap_join, n_swap_long, n_swap_show, n_swap_drop, n_swap_copy, n_swap_e, n_swap_empty, n_swap_kind, n_drop_num, n_drop_text, n_drop_add, n_drop_mul, n_drop_less, n_drop_join, n_drop_long, n_drop_show, n_drop_swap, n_drop_copy, n_drop_e, n_drop_empty, n_drop_kind, n_copy_num, n_copy_text, n_copy_add, n_copy_mul, n_copy_less, n_copy_join, n_copy_long, n_copy_show, n_copy_swap, n_copy_drop, n_copy_e, n_copy_empty, n_copy_kind, n_e_num, n_e_text, n_e_add, n_e_mul, n_e_less, n_e_join, n_e_long, n_e_show, n_e_swap, n_e_drop, n_e_copy, n_e_empty, n_e_kind, n_empty_num, n_empty_text, n_empty_add, n_empty_mul, n_empty_less, n_empty_join, n_empty_long, n_empty_show, n_empty_swap, n_empty_drop, n_empty_copy, n_empty_e, n_empty_kind, n_kind_num, n_kind_text, n_kind_add, n_kind_mul, n_kind_less, n_kind_join, n_kind_long, n_kind_show, n_kind_swap, n_kind_drop, n_kind_copy, n_kind_e, n_kind_empty, lW_num, lW_text, lW_add, lW_mul, lW_less, lW_join, lW_long, lW_show, lW_swap, lW_drop, lW_copy, lW_if, lT_num, lT_text, lT_add, lT_mul, lT_less, lT_join, lT_long, lT_show, lT_swap, lT_drop, lT_copy, lT_if, lP_num, lP_text, lP_add, lP_mul, lP_less, lP_join, lP_long, lP_show, lP_swap, lP_drop, lP_copy, lF_added, lF_multiplied, lF_compared, lF_joined, lF_measured, lF_shown, lF_swapped, lF_dropped, lF_copied, lI_num, lI_text, lI_add, lI_mul, lI_less, lI_join, lI_long, lI_show, lI_swap, lI_drop, lI_copy, lH_Empty_Empty, lH_WrongKind_Empty, lA_Empty, lH_Empty_WrongKind, lH_WrongKind_WrongKind, lA_WrongKind, e1, i0, i1, x3, la, mgName, c0]
        · refine go "num" (t + 1) (by omega) (by omega) (.inl rfl) fun x x3 => ?_
          unfold fS at *
          refine mLoop_nx rfl ?_
          unfold B_law_stack_2
          simp only [mkF, pad, outs, mSeq, mAsg, mAsgG, mExpr, mRet, mRetV, mRetN, mIfS, mIf, mNx, mTest, tmNot, tmAnd, tmOr, mVar, mC, mB, TL.m1, TL.m2, opt, use, R.fix, frz, tak, Cell.dat, mSeqD, mArgs, vals, mSl, mPart, mgSeq, setAll, D.items, mCall, give, mPut, mApp, mPop, mIns, ownL, mFor, miSeq, miRange, mAndV, mOrV, mNotV, D.bool, D.tru, mKGet, mKIn, mCallV, mRaise, mTry, mHands, mAny, mJoin, mLc, oAdd, oSub, oMul, oDiv, oMod, oPow, oNeg, oCmp, oIx, oSl, oLen, oList, oTuple, oStr, oInt, oMax, oMin, oIn, List.getElem?_cons_zero, List.getElem?_cons_succ, List.getElem?_nil, List.set_cons_zero, List.set_cons_succ, List.length_cons, List.length_nil, List.cons_append, List.nil_append, List.append_nil, List.replicate, List.map_cons, List.map_nil, Option.map_some, Option.map_none, Option.bind_some, Option.bind_none, if_true, if_false, reduceIte, ↓reduceIte, Nat.reduceAdd, Nat.reduceSub, Nat.reduceLeDiff, Nat.reduceLT, Nat.reduceEqDiff, Int.reduceLT, Int.reduceLE, Bool.not_true, Bool.not_false, Bool.false_eq_true, sz0, sz1, sz2, sz3, sz4, sz5, sz6, sz7, sz8, sz9, sz10, sz11, sz12, sz13, sz14, sz15, oEq_str, oEq_int, oNe_str, oNe_int, decide_false, decide_true, and_self, n_num_text, n_num_add, n_num_mul, n_num_less, n_num_join, n_num_long, n_num_show, n_num_swap, n_num_drop, n_num_copy, n_num_e, n_num_empty, n_num_kind, n_text_num, n_text_add, n_text_mul, n_text_less, n_text_join, n_text_long, n_text_show, n_text_swap, n_text_drop, n_text_copy, n_text_e, n_text_empty, n_text_kind, n_add_num, n_add_text, n_add_mul, n_add_less, n_add_join, n_add_long, n_add_show, n_add_swap, n_add_drop, n_add_copy, n_add_e, n_add_empty, n_add_kind, n_mul_num, n_mul_text, n_mul_add, n_mul_less, n_mul_join, n_mul_long, n_mul_show, n_mul_swap, n_mul_drop, n_mul_copy, n_mul_e, n_mul_empty, n_mul_kind, n_less_num, n_less_text, n_less_add, n_less_mul, n_less_join, n_less_long, n_less_show, n_less_swap, n_less_drop, n_less_copy, n_less_e, n_less_empty, n_less_kind, n_join_num, n_join_text, n_join_add, n_join_mul, n_join_less, n_join_long, n_join_show, n_join_swap, n_join_drop, n_join_copy, n_join_e, n_join_empty, n_join_kind, n_long_num, n_long_text, n_long_add, n_long_mul, n_long_less, n_long_join, n_long_show, n_long_swap, n_long_drop, n_long_copy, n_long_e, n_long_empty, n_long_kind, n_show_num, n_show_text, n_show_add, n_show_mul, n_show_less, n_show_join, n_show_long, n_show_swap, n_show_drop, n_show_copy, n_show_e, n_show_empty, n_show_kind, n_swap_num, n_swap_text, n_swap_add, n_swap_mul, n_swap_less, n_swap_join, n_swap_long, n_swap_show, n_swap_drop, n_swap_copy, n_swap_e, n_swap_empty, n_swap_kind, n_drop_num, n_drop_text, n_drop_add, n_drop_mul, n_drop_less, n_drop_join, n_drop_long, n_drop_show, n_drop_swap, n_drop_copy, n_drop_e, n_drop_empty, n_drop_kind, n_copy_num, n_copy_text, n_copy_add, n_copy_mul, n_copy_less, n_copy_join, n_copy_long, n_copy_show, n_copy_swap, n_copy_drop, n_copy_e, n_copy_empty, n_copy_kind, n_e_num, n_e_text, n_e_add, n_e_mul, n_e_less, n_e_join, n_e_long, n_e_show, n_e_swap, n_e_drop, n_e_copy, n_e_empty, n_e_kind, n_empty_num, n_empty_text, n_empty_add, n_empty_mul, n_empty_less, n_empty_join, n_empty_long, n_empty_show, n_empty_swap, n_empty_drop, n_empty_copy, n_empty_e, n_empty_kind, n_kind_num, n_kind_text, n_kind_add, n_kind_mul, n_kind_less, n_kind_join, n_kind_long, n_kind_show, n_kind_swap, n_kind_drop, n_kind_copy, n_kind_e, n_kind_empty, lW_num, lW_text, lW_add, lW_mul, lW_less, lW_join, lW_long, lW_show, lW_swap, lW_drop, lW_copy, lW_if, lT_num, lT_text, lT_add, lT_mul, lT_less, lT_join, lT_long, lT_show, lT_swap, lT_drop, lT_copy, lT_if, lP_num, lP_text, lP_add, lP_mul, lP_less, lP_join, lP_long, lP_show, lP_swap, lP_drop, lP_copy, lF_added, lF_multiplied, lF_compared, lF_joined, lF_measured, lF_shown, lF_swapped, lF_dropped, lF_copied, lI_num, lI_text, lI_add, lI_mul, lI_less, lI_join, lI_long, lI_show, lI_swap, lI_drop, lI_copy, lH_Empty_Empty, lH_WrongKind_Empty, lA_Empty, lH_Empty_WrongKind, lH_WrongKind_WrongKind, lA_WrongKind, e1, i0, i1, x3, la, mgName, c0, Bool.false_eq_true]
      · rcases hd with rfl | rfl
        · refine go "num" (t + 1) (by omega) (by omega) (.inl rfl) fun x x3 => ?_
          unfold fS at *
          refine mLoop_nx rfl ?_
          unfold B_law_stack_2
          simp only [mkF, pad, outs, mSeq, mAsg, mAsgG, mExpr, mRet, mRetV, mRetN, mIfS, mIf, mNx, mTest, tmNot, tmAnd, tmOr, mVar, mC, mB, TL.m1, TL.m2, opt, use, R.fix, frz, tak, Cell.dat, mSeqD, mArgs, vals, mSl, mPart, mgSeq, setAll, D.items, mCall, give, mPut, mApp, mPop, mIns, ownL, mFor, miSeq, miRange, mAndV, mOrV, mNotV, D.bool, D.tru, mKGet, mKIn, mCallV, mRaise, mTry, mHands, mAny, mJoin, mLc, oAdd, oSub, oMul, oDiv, oMod, oPow, oNeg, oCmp, oIx, oSl, oLen, oList, oTuple, oStr, oInt, oMax, oMin, oIn, List.getElem?_cons_zero, List.getElem?_cons_succ, List.getElem?_nil, List.set_cons_zero, List.set_cons_succ, List.length_cons, List.length_nil, List.cons_append, List.nil_append, List.append_nil, List.replicate, List.map_cons, List.map_nil, Option.map_some, Option.map_none, Option.bind_some, Option.bind_none, if_true, if_false, reduceIte, ↓reduceIte, Nat.reduceAdd, Nat.reduceSub, Nat.reduceLeDiff, Nat.reduceLT, Nat.reduceEqDiff, Int.reduceLT, Int.reduceLE, Bool.not_true, Bool.not_false, Bool.false_eq_true, sz0, sz1, sz2, sz3, sz4, sz5, sz6, sz7, sz8, sz9, sz10, sz11, sz12, sz13, sz14, sz15, oEq_str, oEq_int, oNe_str, oNe_int, decide_false, decide_true, and_self, n_num_text, n_num_add, n_num_mul, n_num_less, n_num_join, n_num_long, n_num_show, n_num_swap, n_num_drop, n_num_copy, n_num_e, n_num_empty, n_num_kind, n_text_num, n_text_add, n_text_mul, n_text_less, n_text_join, n_text_long, n_text_show, n_text_swap, n_text_drop, n_text_copy, n_text_e, n_text_empty, n_text_kind, n_add_num, n_add_text, n_add_mul, n_add_less, n_add_join, n_add_long, n_add_show, n_add_swap, n_add_drop, n_add_copy, n_add_e, n_add_empty, n_add_kind, n_mul_num, n_mul_text, n_mul_add, n_mul_less, n_mul_join, n_mul_long, n_mul_show, n_mul_swap, n_mul_drop, n_mul_copy, n_mul_e, n_mul_empty, n_mul_kind, n_less_num, n_less_text, n_less_add, n_less_mul, n_less_join, n_less_long, n_less_show, n_less_swap, n_less_drop, n_less_copy, n_less_e, n_less_empty, n_less_kind, n_join_num, n_join_text, n_join_add, n_join_mul, n_join_less, n_join_long, n_join_show, n_join_swap, n_join_drop, n_join_copy, n_join_e, n_join_empty, n_join_kind, n_long_num, n_long_text, n_long_add, n_long_mul, n_long_less, n_long_join, n_long_show, n_long_swap, n_long_drop, n_long_copy, n_long_e, n_long_empty, n_long_kind, n_show_num, n_show_text, n_show_add, n_show_mul, n_show_less, n_show_join, n_show_long, n_show_swap, n_show_drop, n_show_copy, n_show_e, n_show_empty, n_show_kind, n_swap_num, n_swap_text, n_swap_add, n_swap_mul, n_swap_less, n_swap_join, n_swap_long, n_swap_show, n_swap_drop, n_swap_copy, n_swap_e, n_swap_empty, n_swap_kind, n_drop_num, n_drop_text, n_drop_add, n_drop_mul, n_drop_less, n_drop_join, n_drop_long, n_drop_show, n_drop_swap, n_drop_copy, n_drop_e, n_drop_empty, n_drop_kind, n_copy_num, n_copy_text, n_copy_add, n_copy_mul, n_copy_less, n_copy_join, n_copy_long, n_copy_show, n_copy_swap, n_copy_drop, n_copy_e, n_copy_empty, n_copy_kind, n_e_num, n_e_text, n_e_add, n_e_mul, n_e_less, n_e_join, n_e_long, n_e_show, n_e_swap, n_e_drop, n_e_copy, n_e_empty, n_e_kind, n_empty_num, n_empty_text, n_empty_add, n_empty_mul, n_empty_less, n_empty_join, n_empty_long, n_empty_show, n_empty_swap, n_empty_drop, n_empty_copy, n_empty_e, n_empty_kind, n_kind_num, n_kind_text, n_kind_add, n_kind_mul, n_kind_less, n_kind_join, n_kind_long, n_kind_show, n_kind_swap, n_kind_drop, n_kind_copy, n_kind_e, n_kind_empty, lW_num, lW_text, lW_add, lW_mul, lW_less, lW_join, lW_long, lW_show, lW_swap, lW_drop, lW_copy, lW_if, lT_num, lT_text, lT_add, lT_mul, lT_less, lT_join, lT_long, lT_show, lT_swap, lT_drop, lT_copy, lT_if, lP_num, lP_text, lP_add, lP_mul, lP_less, lP_join, lP_long, lP_show, lP_swap, lP_drop, lP_copy, lF_added, lF_multiplied, lF_compared, lF_joined, lF_measured, lF_shown, lF_swapped, lF_dropped, lF_copied, lI_num, lI_text, lI_add, lI_mul, lI_less, lI_join, lI_long, lI_show, lI_swap, lI_drop, lI_copy, lH_Empty_Empty, lH_WrongKind_Empty, lA_Empty, lH_Empty_WrongKind, lH_WrongKind_WrongKind, lA_WrongKind, e1, i0, i1, x3, la, mgName, c0]
        · refine go "text" (t + 1) (by omega) (by omega) (.inr rfl) fun x x3 => ?_
          unfold fS at *
          refine mLoop_nx rfl ?_
          unfold B_law_stack_2
          simp only [mkF, pad, outs, mSeq, mAsg, mAsgG, mExpr, mRet, mRetV, mRetN, mIfS, mIf, mNx, mTest, tmNot, tmAnd, tmOr, mVar, mC, mB, TL.m1, TL.m2, opt, use, R.fix, frz, tak, Cell.dat, mSeqD, mArgs, vals, mSl, mPart, mgSeq, setAll, D.items, mCall, give, mPut, mApp, mPop, mIns, ownL, mFor, miSeq, miRange, mAndV, mOrV, mNotV, D.bool, D.tru, mKGet, mKIn, mCallV, mRaise, mTry, mHands, mAny, mJoin, mLc, oAdd, oSub, oMul, oDiv, oMod, oPow, oNeg, oCmp, oIx, oSl, oLen, oList, oTuple, oStr, oInt, oMax, oMin, oIn, List.getElem?_cons_zero, List.getElem?_cons_succ, List.getElem?_nil, List.set_cons_zero, List.set_cons_succ, List.length_cons, List.length_nil, List.cons_append, List.nil_append, List.append_nil, List.replicate, List.map_cons, List.map_nil, Option.map_some, Option.map_none, Option.bind_some, Option.bind_none, if_true, if_false, reduceIte, ↓reduceIte, Nat.reduceAdd, Nat.reduceSub, Nat.reduceLeDiff, Nat.reduceLT, Nat.reduceEqDiff, Int.reduceLT, Int.reduceLE, Bool.not_true, Bool.not_false, Bool.false_eq_true, sz0, sz1, sz2, sz3, sz4, sz5, sz6, sz7, sz8, sz9, sz10, sz11, sz12, sz13, sz14, sz15, oEq_str, oEq_int, oNe_str, oNe_int, decide_false, decide_true, and_self, n_num_text, n_num_add, n_num_mul, n_num_less, n_num_join, n_num_long, n_num_show, n_num_swap, n_num_drop, n_num_copy, n_num_e, n_num_empty, n_num_kind, n_text_num, n_text_add, n_text_mul, n_text_less, n_text_join, n_text_long, n_text_show, n_text_swap, n_text_drop, n_text_copy, n_text_e, n_text_empty, n_text_kind, n_add_num, n_add_text, n_add_mul, n_add_less, n_add_join, n_add_long, n_add_show, n_add_swap, n_add_drop, n_add_copy, n_add_e, n_add_empty, n_add_kind, n_mul_num, n_mul_text, n_mul_add, n_mul_less, n_mul_join, n_mul_long, n_mul_show, n_mul_swap, n_mul_drop, n_mul_copy, n_mul_e, n_mul_empty, n_mul_kind, n_less_num, n_less_text, n_less_add, n_less_mul, n_less_join, n_less_long, n_less_show, n_less_swap, n_less_drop, n_less_copy, n_less_e, n_less_empty, n_less_kind, n_join_num, n_join_text, n_join_add, n_join_mul, n_join_less, n_join_long, n_join_show, n_join_swap, n_join_drop, n_join_copy, n_join_e, n_join_empty, n_join_kind, n_long_num, n_long_text, n_long_add, n_long_mul, n_long_less, n_long_join, n_long_show, n_long_swap, n_long_drop, n_long_copy, n_long_e, n_long_empty, n_long_kind, n_show_num, n_show_text, n_show_add, n_show_mul, n_show_less, n_show_join, n_show_long, n_show_swap, n_show_drop, n_show_copy, n_show_e, n_show_empty, n_show_kind, n_swap_num, n_swap_text, n_swap_add, n_swap_mul, n_swap_less, n_swap_join, n_swap_long, n_swap_show, n_swap_drop, n_swap_copy, n_swap_e, n_swap_empty, n_swap_kind, n_drop_num, n_drop_text, n_drop_add, n_drop_mul, n_drop_less, n_drop_join, n_drop_long, n_drop_show, n_drop_swap, n_drop_copy, n_drop_e, n_drop_empty, n_drop_kind, n_copy_num, n_copy_text, n_copy_add, n_copy_mul, n_copy_less, n_copy_join, n_copy_long, n_copy_show, n_copy_swap, n_copy_drop, n_copy_e, n_copy_empty, n_copy_kind, n_e_num, n_e_text, n_e_add, n_e_mul, n_e_less, n_e_join, n_e_long, n_e_show, n_e_swap, n_e_drop, n_e_copy, n_e_empty, n_e_kind, n_empty_num, n_empty_text, n_empty_add, n_empty_mul, n_empty_less, n_empty_join, n_empty_long, n_empty_show, n_empty_swap, n_empty_drop, n_empty_copy, n_empty_e, n_empty_kind, n_kind_num, n_kind_text, n_kind_add, n_kind_mul, n_kind_less, n_kind_join, n_kind_long, n_kind_show, n_kind_swap, n_kind_drop, n_kind_copy, n_kind_e, n_kind_empty, lW_num, lW_text, lW_add, lW_mul, lW_less, lW_join, lW_long, lW_show, lW_swap, lW_drop, lW_copy, lW_if, lT_num, lT_text, lT_add, lT_mul, lT_less, lT_join, lT_long, lT_show, lT_swap, lT_drop, lT_copy, lT_if, lP_num, lP_text, lP_add, lP_mul, lP_less, lP_join, lP_long, lP_show, lP_swap, lP_drop, lP_copy, lF_added, lF_multiplied, lF_compared, lF_joined, lF_measured, lF_shown, lF_swapped, lF_dropped, lF_copied, lI_num, lI_text, lI_add, lI_mul, lI_less, lI_join, lI_long, lI_show, lI_swap, lI_drop, lI_copy, lH_Empty_Empty, lH_WrongKind_Empty, lA_Empty, lH_Empty_WrongKind, lH_WrongKind_WrongKind, lA_WrongKind, e1, i0, i1, x3, la, mgName, c0]
theorem Row.ks {r : D} {W : List D} (h : Row r W) : KS W ∧ W.length ≤ 61 := by
  cases h with
  | copy n h0 h1 => exact ⟨fun d hd => .inl (List.eq_of_mem_replicate hd), by rw [List.length_replicate]; omega⟩
  | _ => exact ⟨by intro d hd; simp at hd <;> (subst hd; simp), by decide⟩
theorem AllV.set {xs : List D} {d : D} (h : AllV xs) (k : IsVal d) (i : Nat) : AllV (xs.set i d) := fun x hx => by
  rcases List.mem_or_eq_of_mem_set hx with hx | rfl
  · exact h x hx
  · exact k
theorem cut_from {α : Type} (xs : List α) (p : Int) (h0 : 0 ≤ p) (h1 : p ≤ xs.length) : cut xs (some p) none = xs.drop p.toNat := by
  unfold cut HT.sIx
  simp only [if_neg (show ¬ p < 0 by omega)]
  have : min p.toNat xs.length = p.toNat := by omega
  simp only [this]
  rw [List.take_of_length_le (by simp)]
theorem cut_to {α : Type} (xs : List α) (p : Int) (h0 : 0 ≤ p) : cut xs none (some p) = xs.take p.toNat := by
  unfold cut HT.sIx
  simp only [if_neg (show ¬ p < 0 by omega), List.drop_zero, Nat.sub_zero]
  rcases Nat.le_total p.toNat xs.length with h | h
  · rw [Nat.min_eq_left h]
  · rw [Nat.min_eq_right h, List.take_length, List.take_of_length_le h]
theorem AllV.drop {xs : List D} (h : AllV xs) (n : Nat) : AllV (xs.drop n) := fun x hx => h x (List.mem_of_mem_drop hx)
theorem stack_ok (ns : List Int) (r : D) (W : List D) (hr : Row r W) (t : Int) (h0 : 0 ≤ t) (h1 : t < 10000) (hn : ns.length ≤ 63) :
    ∃ xs t', AllV xs ∧ xs.length ≤ 200 ∧ F_law_stack [fS ns, .own [.int t], .val r] = .ret (.ow (.own xs)) [fS ns, .own [.int t'], .val r] := by
  obtain ⟨a, a0, a1, e1⟩ := draw_ok ns t 5 h0 (by omega) (by decide) hn
  obtain ⟨b, b0, b1, e2⟩ := draw_ok ns (t + 1) 4 (by omega) (by omega) (by decide) hn
  obtain ⟨ks, kl⟩ := hr.ks
  have hW := lawW_ok hr
  have key : ∀ sz : Int, 0 ≤ sz → sz ≤ 61 → ((b = 1 ∧ sz = a + 57) ∨ (b ≠ 1 ∧ sz = a)) → ∃ xs t', AllV xs ∧ xs.length ≤ 200 ∧ F_law_stack [fS ns, .own [.int t], .val r] = .ret (.ow (.own xs)) [fS ns, .own [.int t'], .val r] := fun sz s0 s1 hb => by
    obtain ⟨x1, t1, c1, A1, l1, b1, b2, L1⟩ := stack_l1 ns r (.val (.int sz)) hn ((List.range sz.toNat).map fun (k : Nat) => .int k) [] (t + 1 + 1) .no (fun _ h => by cases h) (by simp; omega) (by omega) (by simp; omega)
    simp only [List.length_map, List.length_range, List.length_nil, Nat.zero_add] at l1 b2
    obtain ⟨x2, t2, c2, A2, l2, b3, b4, L2⟩ := stack_l2 ns r (.val (.int sz)) c1 hn W x1 t1 .no ks A1 (by omega) (by omega) (by omega)
    have r1 : sz.natAbs < 2 ^ 62 := by omega
    have tail : ∀ (x3 : List D) (t3 : Int), AllV x3 → x3.length ≤ 200 → t2 ≤ t3 → t3 ≤ t2 + 1 →
        (∀ w x4 t4, F_law_draw [fS ns, .own [.int t3], .val (.int 5)] = .ret (.dd (.int w)) [fS ns, .own [.int (t3 + 1)], .val (.int 5)] →
          ((w = 0 ∧ ∃ p : Int, 0 ≤ p ∧ p ≤ x3.length ∧ x4 = cut x3 (some p) none ∧ F_law_draw [fS ns, .own [.int (t3 + 1)], .val (.int (x3.length + 1))] = .ret (.dd (.int p)) [fS ns, .own [.int t4], .val (.int (x3.length + 1))]) ∨ (w ≠ 0 ∧ x4 = x3 ∧ t4 = t3 + 1)) →
          F_law_stack [fS ns, .own [.int t], .val r] = .ret (.ow (.own x4)) [fS ns, .own [.int t4], .val r]) →
        ∃ xs t', AllV xs ∧ xs.length ≤ 200 ∧ F_law_stack [fS ns, .own [.int t], .val r] = .ret (.ow (.own xs)) [fS ns, .own [.int t'], .val r] := fun x3 t3 A3 l3 k1 k2 q => by
      obtain ⟨w, w0, w1, e4⟩ := draw_ok ns t3 5 (by omega) (by omega) (by decide) hn
      by_cases hw : w = 0
      · obtain ⟨p, p0, p1, e5⟩ := draw_ok ns (t3 + 1) (x3.length + 1) (by omega) (by omega) (by omega) hn
        refine ⟨_, _, ?_, ?_, q w _ _ e4 (.inl ⟨hw, p, p0, by omega, rfl, e5⟩)⟩
        · rw [cut_from _ _ p0 (by omega)]; exact A3.drop _
        · rw [cut_from _ _ p0 (by omega), List.length_drop]; omega
      · exact ⟨_, _, A3, l3, q w _ _ e4 (.inr ⟨hw, rfl, rfl⟩)⟩
    by_cases hl : (1 : Int) < x2.length
    · obtain ⟨u, u0, u1, e3⟩ := draw_ok ns t2 4 (by omega) (by omega) (by decide) hn
      obtain ⟨d2, m2, i2⟩ := atI_lt x2 ((x2.length : Int) - 2) (by omega) (by omega)
      have i3 : ixN x2.length ((x2.length : Int) - 1) = some (x2.length - 1) := by
        unfold ixN; rw [if_pos (by omega), if_pos (by omega)]; congr 1; omega
      by_cases hu : u = 0
      · refine tail (x2.set (x2.length - 1) d2) (t2 + 1) (A2.set (A2 _ m2) _) (by rw [List.length_set]; omega) (by omega) (by omega) fun w x4 t4 e4 hw => ?_
        rw [List.length_set] at hw
        unfold fS at *
        rcases hb with ⟨hb, rfl⟩ | ⟨hb, rfl⟩ <;> rcases hw with ⟨hw, p, p0, p1, rfl, e5⟩ | ⟨hw, rfl, e5⟩ <;> unfold F_law_stack M_law_stack <;> simp only [mkF, pad, outs, mSeq, mAsg, mAsgG, mExpr, mRet, mRetV, mRetN, mIfS, mIf, mNx, mTest, tmNot, tmAnd, tmOr, mVar, mC, mB, TL.m1, TL.m2, opt, use, R.fix, frz, tak, Cell.dat, mSeqD, mArgs, vals, mSl, mPart, mgSeq, setAll, D.items, mCall, give, mPut, mApp, mPop, mIns, ownL, mFor, miSeq, miRange, mAndV, mOrV, mNotV, D.bool, D.tru, mKGet, mKIn, mCallV, mRaise, mTry, mHands, mAny, mJoin, mLc, oAdd, oSub, oMul, oDiv, oMod, oPow, oNeg, oCmp, oIx, oSl, oLen, oList, oTuple, oStr, oInt, oMax, oMin, oIn, List.getElem?_cons_zero, List.getElem?_cons_succ, List.getElem?_nil, List.set_cons_zero, List.set_cons_succ, List.length_cons, List.length_nil, List.cons_append, List.nil_append, List.append_nil, List.replicate, List.map_cons, List.map_nil, Option.map_some, Option.map_none, Option.bind_some, Option.bind_none, if_true, if_false, reduceIte, ↓reduceIte, Nat.reduceAdd, Nat.reduceSub, Nat.reduceLeDiff, Nat.reduceLT, Nat.reduceEqDiff, Int.reduceLT, Int.reduceLE, Bool.not_true, Bool.not_false, Bool.false_eq_true, sz0, sz1, sz2, sz3, sz4, sz5, sz6, sz7, sz8, sz9, sz10, sz11, sz12, sz13, sz14, sz15, oEq_str, oEq_int, oNe_str, oNe_int, decide_false, decide_true, and_self, n_num_text, n_num_add, n_num_mul, n_num_less, n_num_join, n_num_long, n_num_show, n_num_swap, n_num_drop, n_num_copy, n_num_e, n_num_empty, n_num_kind, n_text_num, n_text_add, n_text_mul, n_text_less, n_text_join, n_text_long, n_text_show, n_text_swap, n_text_drop, n_text_copy, n_text_e, n_text_empty, n_text_kind, n_add_num, n_add_text, n_add_mul, n_add_less, n_add_join, n_add_long, n_add_show, n_add_swap, n_add_drop, n_add_copy, n_add_e, n_add_empty, n_add_kind, n_mul_num, n_mul_text, n_mul_add, n_mul_less, n_mul_join, n_mul_long, n_mul_show, n_mul_swap, n_mul_drop, n_mul_copy, n_mul_e, n_mul_empty, n_mul_kind, n_less_num, n_less_text, n_less_add, n_less_mul, n_less_join, n_less_long, n_less_show, n_less_swap, n_less_drop, n_less_copy, n_less_e, n_less_empty, n_less_kind, n_join_num, n_join_text, n_join_add, n_join_mul, n_join_less, n_join_long, n_join_show, n_join_swap, n_join_drop, n_join_copy, n_join_e, n_join_empty, n_join_kind, n_long_num, n_long_text, n_long_add, n_long_mul, n_long_less, n_long_join, n_long_show, n_long_swap, n_long_drop, n_long_copy, n_long_e, n_long_empty, n_long_kind, n_show_num, n_show_text, n_show_add, n_show_mul, n_show_less, n_show_join, n_show_long, n_show_swap, n_show_drop, n_show_copy, n_show_e, n_show_empty, n_show_kind, n_swap_num, n_swap_text, n_swap_add, n_swap_mul, n_swap_less, n_swap_join, n_swap_long, n_swap_show, n_swap_drop, n_swap_copy, n_swap_e, n_swap_empty, n_swap_kind, n_drop_num, n_drop_text, n_drop_add, n_drop_mul, n_drop_less, n_drop_join, n_drop_long, n_drop_show, n_drop_swap, n_drop_copy, n_drop_e, n_drop_empty, n_drop_kind, n_copy_num, n_copy_text, n_copy_add, n_copy_mul, n_copy_less, n_copy_join, n_copy_long, n_copy_show, n_copy_swap, n_copy_drop, n_copy_e, n_copy_empty, n_copy_kind, n_e_num, n_e_text, n_e_add, n_e_mul, n_e_less, n_e_join, n_e_long, n_e_show, n_e_swap, n_e_drop, n_e_copy, n_e_empty, n_e_kind, n_empty_num, n_empty_text, n_empty_add, n_empty_mul, n_empty_less, n_empty_join, n_empty_long, n_empty_show, n_empty_swap, n_empty_drop, n_empty_copy, n_empty_e, n_empty_kind, n_kind_num, n_kind_text, n_kind_add, n_kind_mul, n_kind_less, n_kind_join, n_kind_long, n_kind_show, n_kind_swap, n_kind_drop, n_kind_copy, n_kind_e, n_kind_empty, lW_num, lW_text, lW_add, lW_mul, lW_less, lW_join, lW_long, lW_show, lW_swap, lW_drop, lW_copy, lW_if, lT_num, lT_text, lT_add, lT_mul, lT_less, lT_join, lT_long, lT_show, lT_swap, lT_drop, lT_copy, lT_if, lP_num, lP_text, lP_add, lP_mul, lP_less, lP_join, lP_long, lP_show, lP_swap, lP_drop, lP_copy, lF_added, lF_multiplied, lF_compared, lF_joined, lF_measured, lF_shown, lF_swapped, lF_dropped, lF_copied, lI_num, lI_text, lI_add, lI_mul, lI_less, lI_join, lI_long, lI_show, lI_swap, lI_drop, lI_copy, lH_Empty_Empty, lH_WrongKind_Empty, lA_Empty, lH_Empty_WrongKind, lH_WrongKind_WrongKind, lA_WrongKind, e1, e2, hb, r1, L1, L2, hW, hl, e3, hu, i2, i3, e4, hw, e5, List.length_set]
      · refine tail x2 (t2 + 1) A2 (by omega) (by omega) (by omega) fun w x4 t4 e4 hw => ?_
        unfold fS at *
        rcases hb with ⟨hb, rfl⟩ | ⟨hb, rfl⟩ <;> rcases hw with ⟨hw, p, p0, p1, rfl, e5⟩ | ⟨hw, rfl, e5⟩ <;> unfold F_law_stack M_law_stack <;> simp only [mkF, pad, outs, mSeq, mAsg, mAsgG, mExpr, mRet, mRetV, mRetN, mIfS, mIf, mNx, mTest, tmNot, tmAnd, tmOr, mVar, mC, mB, TL.m1, TL.m2, opt, use, R.fix, frz, tak, Cell.dat, mSeqD, mArgs, vals, mSl, mPart, mgSeq, setAll, D.items, mCall, give, mPut, mApp, mPop, mIns, ownL, mFor, miSeq, miRange, mAndV, mOrV, mNotV, D.bool, D.tru, mKGet, mKIn, mCallV, mRaise, mTry, mHands, mAny, mJoin, mLc, oAdd, oSub, oMul, oDiv, oMod, oPow, oNeg, oCmp, oIx, oSl, oLen, oList, oTuple, oStr, oInt, oMax, oMin, oIn, List.getElem?_cons_zero, List.getElem?_cons_succ, List.getElem?_nil, List.set_cons_zero, List.set_cons_succ, List.length_cons, List.length_nil, List.cons_append, List.nil_append, List.append_nil, List.replicate, List.map_cons, List.map_nil, Option.map_some, Option.map_none, Option.bind_some, Option.bind_none, if_true, if_false, reduceIte, ↓reduceIte, Nat.reduceAdd, Nat.reduceSub, Nat.reduceLeDiff, Nat.reduceLT, Nat.reduceEqDiff, Int.reduceLT, Int.reduceLE, Bool.not_true, Bool.not_false, Bool.false_eq_true, sz0, sz1, sz2, sz3, sz4, sz5, sz6, sz7, sz8, sz9, sz10, sz11, sz12, sz13, sz14, sz15, oEq_str, oEq_int, oNe_str, oNe_int, decide_false, decide_true, and_self, n_num_text, n_num_add, n_num_mul, n_num_less, n_num_join, n_num_long, n_num_show, n_num_swap, n_num_drop, n_num_copy, n_num_e, n_num_empty, n_num_kind, n_text_num, n_text_add, n_text_mul, n_text_less, n_text_join, n_text_long, n_text_show, n_text_swap, n_text_drop, n_text_copy, n_text_e, n_text_empty, n_text_kind, n_add_num, n_add_text, n_add_mul, n_add_less, n_add_join, n_add_long, n_add_show, n_add_swap, n_add_drop, n_add_copy, n_add_e, n_add_empty, n_add_kind, n_mul_num, n_mul_text, n_mul_add, n_mul_less, n_mul_join, n_mul_long, n_mul_show, n_mul_swap, n_mul_drop, n_mul_copy, n_mul_e, n_mul_empty, n_mul_kind, n_less_num, n_less_text, n_less_add, n_less_mul, n_less_join, n_less_long, n_less_show, n_less_swap, n_less_drop, n_less_copy, n_less_e, n_less_empty, n_less_kind, n_join_num, n_join_text, n_join_add, n_join_mul, n_join_less, n_join_long, n_join_show, n_join_swap, n_join_drop, n_join_copy, n_join_e, n_join_empty, n_join_kind, n_long_num, n_long_text, n_long_add, n_long_mul, n_long_less, n_long_join, n_long_show, n_long_swap, n_long_drop, n_long_copy, n_long_e, n_long_empty, n_long_kind, n_show_num, n_show_text, n_show_add, n_show_mul, n_show_less, n_show_join, n_show_long, n_show_swap, n_show_drop, n_show_copy, n_show_e, n_show_empty, n_show_kind, n_swap_num, n_swap_text, n_swap_add, n_swap_mul, n_swap_less, n_swap_join, n_swap_long, n_swap_show, n_swap_drop, n_swap_copy, n_swap_e, n_swap_empty, n_swap_kind, n_drop_num, n_drop_text, n_drop_add, n_drop_mul, n_drop_less, n_drop_join, n_drop_long, n_drop_show, n_drop_swap, n_drop_copy, n_drop_e, n_drop_empty, n_drop_kind, n_copy_num, n_copy_text, n_copy_add, n_copy_mul, n_copy_less, n_copy_join, n_copy_long, n_copy_show, n_copy_swap, n_copy_drop, n_copy_e, n_copy_empty, n_copy_kind, n_e_num, n_e_text, n_e_add, n_e_mul, n_e_less, n_e_join, n_e_long, n_e_show, n_e_swap, n_e_drop, n_e_copy, n_e_empty, n_e_kind, n_empty_num, n_empty_text, n_empty_add, n_empty_mul, n_empty_less, n_empty_join, n_empty_long, n_empty_show, n_empty_swap, n_empty_drop, n_empty_copy, n_empty_e, n_empty_kind, n_kind_num, n_kind_text, n_kind_add, n_kind_mul, n_kind_less, n_kind_join, n_kind_long, n_kind_show, n_kind_swap, n_kind_drop, n_kind_copy, n_kind_e, n_kind_empty, lW_num, lW_text, lW_add, lW_mul, lW_less, lW_join, lW_long, lW_show, lW_swap, lW_drop, lW_copy, lW_if, lT_num, lT_text, lT_add, lT_mul, lT_less, lT_join, lT_long, lT_show, lT_swap, lT_drop, lT_copy, lT_if, lP_num, lP_text, lP_add, lP_mul, lP_less, lP_join, lP_long, lP_show, lP_swap, lP_drop, lP_copy, lF_added, lF_multiplied, lF_compared, lF_joined, lF_measured, lF_shown, lF_swapped, lF_dropped, lF_copied, lI_num, lI_text, lI_add, lI_mul, lI_less, lI_join, lI_long, lI_show, lI_swap, lI_drop, lI_copy, lH_Empty_Empty, lH_WrongKind_Empty, lA_Empty, lH_Empty_WrongKind, lH_WrongKind_WrongKind, lA_WrongKind, e1, e2, hb, r1, L1, L2, hW, hl, e3, hu, i2, i3, e4, hw, e5]
    · refine tail x2 t2 A2 (by omega) (by omega) (by omega) fun w x4 t4 e4 hw => ?_
      unfold fS at *
      rcases hb with ⟨hb, rfl⟩ | ⟨hb, rfl⟩ <;> rcases hw with ⟨hw, p, p0, p1, rfl, e5⟩ | ⟨hw, rfl, e5⟩ <;> unfold F_law_stack M_law_stack <;> simp only [mkF, pad, outs, mSeq, mAsg, mAsgG, mExpr, mRet, mRetV, mRetN, mIfS, mIf, mNx, mTest, tmNot, tmAnd, tmOr, mVar, mC, mB, TL.m1, TL.m2, opt, use, R.fix, frz, tak, Cell.dat, mSeqD, mArgs, vals, mSl, mPart, mgSeq, setAll, D.items, mCall, give, mPut, mApp, mPop, mIns, ownL, mFor, miSeq, miRange, mAndV, mOrV, mNotV, D.bool, D.tru, mKGet, mKIn, mCallV, mRaise, mTry, mHands, mAny, mJoin, mLc, oAdd, oSub, oMul, oDiv, oMod, oPow, oNeg, oCmp, oIx, oSl, oLen, oList, oTuple, oStr, oInt, oMax, oMin, oIn, List.getElem?_cons_zero, List.getElem?_cons_succ, List.getElem?_nil, List.set_cons_zero, List.set_cons_succ, List.length_cons, List.length_nil, List.cons_append, List.nil_append, List.append_nil, List.replicate, List.map_cons, List.map_nil, Option.map_some, Option.map_none, Option.bind_some, Option.bind_none, if_true, if_false, reduceIte, ↓reduceIte, Nat.reduceAdd, Nat.reduceSub, Nat.reduceLeDiff, Nat.reduceLT, Nat.reduceEqDiff, Int.reduceLT, Int.reduceLE, Bool.not_true, Bool.not_false, Bool.false_eq_true, sz0, sz1, sz2, sz3, sz4, sz5, sz6, sz7, sz8, sz9, sz10, sz11, sz12, sz13, sz14, sz15, oEq_str, oEq_int, oNe_str, oNe_int, decide_false, decide_true, and_self, n_num_text, n_num_add, n_num_mul, n_num_less, n_num_join, n_num_long, n_num_show, n_num_swap, n_num_drop, n_num_copy, n_num_e, n_num_empty, n_num_kind, n_text_num, n_text_add, n_text_mul, n_text_less, n_text_join, n_text_long, n_text_show, n_text_swap, n_text_drop, n_text_copy, n_text_e, n_text_empty, n_text_kind, n_add_num, n_add_text, n_add_mul, n_add_less, n_add_join, n_add_long, n_add_show, n_add_swap, n_add_drop, n_add_copy, n_add_e, n_add_empty, n_add_kind, n_mul_num, n_mul_text, n_mul_add, n_mul_less, n_mul_join, n_mul_long, n_mul_show, n_mul_swap, n_mul_drop, n_mul_copy, n_mul_e, n_mul_empty, n_mul_kind, n_less_num, n_less_text, n_less_add, n_less_mul, n_less_join, n_less_long, n_less_show, n_less_swap, n_less_drop, n_less_copy, n_less_e, n_less_empty, n_less_kind, n_join_num, n_join_text, n_join_add, n_join_mul, n_join_less, n_join_long, n_join_show, n_join_swap, n_join_drop, n_join_copy, n_join_e, n_join_empty, n_join_kind, n_long_num, n_long_text, n_long_add, n_long_mul, n_long_less, n_long_join, n_long_show, n_long_swap, n_long_drop, n_long_copy, n_long_e, n_long_empty, n_long_kind, n_show_num, n_show_text, n_show_add, n_show_mul, n_show_less, n_show_join, n_show_long, n_show_swap, n_show_drop, n_show_copy, n_show_e, n_show_empty, n_show_kind, n_swap_num, n_swap_text, n_swap_add, n_swap_mul, n_swap_less, n_swap_join, n_swap_long, n_swap_show, n_swap_drop, n_swap_copy, n_swap_e, n_swap_empty, n_swap_kind, n_drop_num, n_drop_text, n_drop_add, n_drop_mul, n_drop_less, n_drop_join, n_drop_long, n_drop_show, n_drop_swap, n_drop_copy, n_drop_e, n_drop_empty, n_drop_kind, n_copy_num, n_copy_text, n_copy_add, n_copy_mul, n_copy_less, n_copy_join, n_copy_long, n_copy_show, n_copy_swap, n_copy_drop, n_copy_e, n_copy_empty, n_copy_kind, n_e_num, n_e_text, n_e_add, n_e_mul, n_e_less, n_e_join, n_e_long, n_e_show, n_e_swap, n_e_drop, n_e_copy, n_e_empty, n_e_kind, n_empty_num, n_empty_text, n_empty_add, n_empty_mul, n_empty_less, n_empty_join, n_empty_long, n_empty_show, n_empty_swap, n_empty_drop, n_empty_copy, n_empty_e, n_empty_kind, n_kind_num, n_kind_text, n_kind_add, n_kind_mul, n_kind_less, n_kind_join, n_kind_long, n_kind_show, n_kind_swap, n_kind_drop, n_kind_copy, n_kind_e, n_kind_empty, lW_num, lW_text, lW_add, lW_mul, lW_less, lW_join, lW_long, lW_show, lW_swap, lW_drop, lW_copy, lW_if, lT_num, lT_text, lT_add, lT_mul, lT_less, lT_join, lT_long, lT_show, lT_swap, lT_drop, lT_copy, lT_if, lP_num, lP_text, lP_add, lP_mul, lP_less, lP_join, lP_long, lP_show, lP_swap, lP_drop, lP_copy, lF_added, lF_multiplied, lF_compared, lF_joined, lF_measured, lF_shown, lF_swapped, lF_dropped, lF_copied, lI_num, lI_text, lI_add, lI_mul, lI_less, lI_join, lI_long, lI_show, lI_swap, lI_drop, lI_copy, lH_Empty_Empty, lH_WrongKind_Empty, lA_Empty, lH_Empty_WrongKind, lH_WrongKind_WrongKind, lA_WrongKind, e1, e2, hb, r1, L1, L2, hW, hl, e4, hw, e5]
  by_cases hb : b = 1
  · exact key (a + 57) (by omega) (by omega) (.inl ⟨hb, rfl⟩)
  · exact key a a0 (by omega) (.inr ⟨hb, rfl⟩)
end LW

namespace LW
open PySem L2 TL
theorem mLc_map {vsl : List Nat} {f : MG} {me : ME} (g : D → D) (ρ : TL.Env) : ∀ (ds acc : List D), (∀ d ∈ ds, ∃ ρ1 ρ4, f d ρ = some ρ1 ∧ me ρ1 = .ok (.dd (g d)) ρ4 ∧ wipeE ρ4 vsl = ρ) → acc.length + ds.length ≤ 1000 → mLcLoop vsl f mYes me ds acc ρ = .ok (acc ++ ds.map g) ρ
  | [], acc, _, _ => by simp [mLcLoop]
  | d :: ds, acc, h, hl => by
    simp only [List.length_cons] at hl
    obtain ⟨ρ1, ρ4, h1, h2, h3⟩ := h d List.mem_cons_self
    have ih := mLc_map g ρ ds (acc ++ [g d]) (fun x hx => h x (List.mem_cons_of_mem _ hx)) (by simp; omega)
    have la : acc.length < sizeLine := Nat.lt_of_lt_of_le (show acc.length < 2000 by omega) (by decide)
    rw [mLcLoop]
    simp only [h1, mYes, h2, frz, if_pos la, h3]
    rw [ih]; simp
theorem atI_zero {α : Type} (x : α) (xs : List α) : atI (x :: xs) 0 = some x := by
  rw [atI_nat _ _ (by decide) (by simp)]; rfl
def kD (d : D) : D := .str (kOf d)
theorem kind_of_ok {d : D} (h : IsVal d) : F_kind_of [.val d] = .ret (.dd (kD d)) [.val d] := by
  cases h <;> kernel_rfl
theorem kinds_of_ok (xs : List D) (h : AllV xs) (hl : xs.length ≤ 1000) : F_kinds_of [.own xs] = .ret (.dd (.tup (xs.map kD))) [.val (.lst xs)] := by
  have e := mLc_map (vsl := [1]) (f := mgName 1) (me := E_kinds_of_1) kD [.val (.lst xs), .no] xs [] (fun d hd => by
    have hk := kind_of_ok (h d hd)
    refine ⟨_, [.val (.lst xs), .val d], rfl, ?_, rfl⟩
    unfold E_kinds_of_1
    simp only [mkF, pad, outs, mSeq, mAsg, mAsgG, mExpr, mRet, mRetV, mRetN, mIfS, mIf, mNx, mTest, tmNot, tmAnd, tmOr, mVar, mC, mB, TL.m1, TL.m2, opt, use, R.fix, frz, tak, Cell.dat, mSeqD, mArgs, vals, mSl, mPart, mgSeq, setAll, D.items, mCall, give, mPut, mApp, mPop, mIns, ownL, mFor, miSeq, miRange, mAndV, mOrV, mNotV, D.bool, D.tru, mKGet, mKIn, mCallV, mRaise, mTry, mHands, mAny, mJoin, mLc, oAdd, oSub, oMul, oDiv, oMod, oPow, oNeg, oCmp, oIx, oSl, oLen, oList, oTuple, oStr, oInt, oMax, oMin, oIn, List.getElem?_cons_zero, List.getElem?_cons_succ, List.getElem?_nil, List.set_cons_zero, List.set_cons_succ, List.length_cons, List.length_nil, List.cons_append, List.nil_append, List.append_nil, List.replicate, List.map_cons, List.map_nil, Option.map_some, Option.map_none, Option.bind_some, Option.bind_none, if_true, if_false, reduceIte, ↓reduceIte, Nat.reduceAdd, Nat.reduceSub, Nat.reduceLeDiff, Nat.reduceLT, Nat.reduceEqDiff, Int.reduceLT, Int.reduceLE, Bool.not_true, Bool.not_false, Bool.false_eq_true, sz0, sz1, sz2, sz3, sz4, sz5, sz6, sz7, sz8, sz9, sz10, sz11, sz12, sz13, sz14, sz15, mgName, hk]) (by simpa using hl)
  rw [List.nil_append] at e
  unfold F_kinds_of M_kinds_of
  simp only [mkF, pad, outs, mSeq, mAsg, mAsgG, mExpr, mRet, mRetV, mRetN, mIfS, mIf, mNx, mTest, tmNot, tmAnd, tmOr, mVar, mC, mB, TL.m1, TL.m2, opt, use, R.fix, frz, tak, Cell.dat, mSeqD, mArgs, vals, mSl, mPart, mgSeq, setAll, D.items, mCall, give, mPut, mApp, mPop, mIns, ownL, mFor, miSeq, miRange, mAndV, mOrV, mNotV, D.bool, D.tru, mKGet, mKIn, mCallV, mRaise, mTry, mHands, mAny, mJoin, mLc, oAdd, oSub, oMul, oDiv, oMod, oPow, oNeg, oCmp, oIx, oSl, oLen, oList, oTuple, oStr, oInt, oMax, oMin, oIn, List.getElem?_cons_zero, List.getElem?_cons_succ, List.getElem?_nil, List.set_cons_zero, List.set_cons_succ, List.length_cons, List.length_nil, List.cons_append, List.nil_append, List.append_nil, List.replicate, List.map_cons, List.map_nil, Option.map_some, Option.map_none, Option.bind_some, Option.bind_none, if_true, if_false, reduceIte, ↓reduceIte, Nat.reduceAdd, Nat.reduceSub, Nat.reduceLeDiff, Nat.reduceLT, Nat.reduceEqDiff, Int.reduceLT, Int.reduceLE, Bool.not_true, Bool.not_false, Bool.false_eq_true, sz0, sz1, sz2, sz3, sz4, sz5, sz6, sz7, sz8, sz9, sz10, sz11, sz12, sz13, sz14, sz15, noneOwn, List.all_cons, List.all_nil, isOwn, Bool.and_true, wipeE, e, backE]
theorem num_small : ∀ i : Fin 400, (Str.ofString (toString (i.val : Int))).length ≤ 100 := by decide +kernel
theorem num_len (i : Int) (h0 : 0 ≤ i) (h1 : i < 400) : (Str.ofString (toString i)).length ≤ 1000 := by
  have := num_small ⟨i.toNat, by omega⟩
  simp only [Int.toNat_of_nonneg h0] at this
  omega
theorem num_log (i : Int) (h0 : 0 ≤ i) (h1 : i < 2 ^ 64) : i.natAbs.log2 < 1920 := by
  by_cases hz : i.natAbs = 0
  · rw [hz]; decide
  · have h2 : i.natAbs < 2 ^ 1920 := Nat.lt_of_lt_of_le (show i.natAbs < 2 ^ 64 by omega) (Nat.pow_le_pow_right (by decide) (by decide))
    exact (Nat.log2_lt hz).mpr h2
theorem fmt_int (i : Int) (h0 : 0 ≤ i) (h1 : i < 400) : ∃ y : Str, y.length ≤ 1000 ∧ D.fmt (.int i) = some (.dd (.str y)) := by
  refine ⟨_, num_len i h0 h1, ?_⟩
  unfold D.fmt
  exact if_pos (num_log i h0 (by omega))
/-- the row's word -/
theorem Row.word {r : D} {W : List D} (h : Row r W) : ∃ (w : Str) (rest : List D), r = .tup (.str w :: rest) ∧ w.length ≤ 10 := by
  cases h <;> exact ⟨_, _, rfl, by decide +kernel⟩
theorem wanted_ok {r : D} {W : List D} (h : Row r W) : F_wanted [.val r] = .ret (.dd (.int W.length)) [.val r] := by
  cases h with
  | copy n h0 h1 =>
    have e0 : atI [D.str (Str.ofString "copy"), D.int n] 0 = some (.str "copy") := rfl
    have e1 : atI [D.str (Str.ofString "copy"), D.int n] 1 = some (.int n) := rfl
    have e2 : ((n + 1).toNat : Int) = n + 1 := by omega
    unfold F_wanted M_wanted
    simp only [mkF, pad, outs, mSeq, mAsg, mAsgG, mExpr, mRet, mRetV, mRetN, mIfS, mIf, mNx, mTest, tmNot, tmAnd, tmOr, mVar, mC, mB, TL.m1, TL.m2, opt, use, R.fix, frz, tak, Cell.dat, mSeqD, mArgs, vals, mSl, mPart, mgSeq, setAll, D.items, mCall, give, mPut, mApp, mPop, mIns, ownL, mFor, miSeq, miRange, mAndV, mOrV, mNotV, D.bool, D.tru, mKGet, mKIn, mCallV, mRaise, mTry, mHands, mAny, mJoin, mLc, oAdd, oSub, oMul, oDiv, oMod, oPow, oNeg, oCmp, oIx, oSl, oLen, oList, oTuple, oStr, oInt, oMax, oMin, oIn, List.getElem?_cons_zero, List.getElem?_cons_succ, List.getElem?_nil, List.set_cons_zero, List.set_cons_succ, List.length_cons, List.length_nil, List.cons_append, List.nil_append, List.append_nil, List.replicate, List.map_cons, List.map_nil, Option.map_some, Option.map_none, Option.bind_some, Option.bind_none, if_true, if_false, reduceIte, ↓reduceIte, Nat.reduceAdd, Nat.reduceSub, Nat.reduceLeDiff, Nat.reduceLT, Nat.reduceEqDiff, Int.reduceLT, Int.reduceLE, Bool.not_true, Bool.not_false, Bool.false_eq_true, sz0, sz1, sz2, sz3, sz4, sz5, sz6, sz7, sz8, sz9, sz10, sz11, sz12, sz13, sz14, sz15, oEq_str, oEq_int, oNe_str, oNe_int, decide_false, decide_true, and_self, n_num_text, n_num_add, n_num_mul, n_num_less, n_num_join, n_num_long, n_num_show, n_num_swap, n_num_drop, n_num_copy, n_num_e, n_num_empty, n_num_kind, n_text_num, n_text_add, n_text_mul, n_text_less, n_text_join, n_text_long, n_text_show, n_text_swap, n_text_drop, n_text_copy, n_text_e, n_text_empty, n_text_kind, n_add_num, n_add_text, n_add_mul, n_add_less, n_add_join, n_add_long, n_add_show, n_add_swap, n_add_drop, n_add_copy, n_add_e, n_add_empty, n_add_kind, n_mul_num, n_mul_text, n_mul_add, n_mul_less, n_mul_join, n_mul_long, n_mul_show, n_mul_swap, n_mul_drop, n_mul_copy, n_mul_e, n_mul_empty, n_mul_kind, n_less_num, n_less_text, n_less_add, n_less_mul, n_less_join, n_less_long, n_less_show, n_less_swap, n_less_drop, n_less_copy, n_less_e, n_less_empty, n_less_kind, n_join_num, n_join_text, n_join_add, n_join_mul, n_join_less, n_join_long, n_join_show, n_join_swap, n_join_drop, n_join_copy, n_join_e, n_join_empty, n_join_kind, n_long_num, n_long_text, n_long_add, n_long_mul, n_long_less, n_long_join, n_long_show, n_long_swap, n_long_drop, n_long_copy, n_long_e, n_long_empty, n_long_kind, n_show_num, n_show_text, n_show_add, n_show_mul, n_show_less, n_show_join, n_show_long, n_show_swap, n_show_drop, n_show_copy, n_show_e, n_show_empty, n_show_kind, n_swap_num, n_swap_text, n_swap_add, n_swap_mul, n_swap_less, n_swap_join, n_swap_long, n_swap_show, n_swap_drop, n_swap_copy, n_swap_e, n_swap_empty, n_swap_kind, n_drop_num, n_drop_text, n_drop_add, n_drop_mul, n_drop_less, n_drop_join, n_drop_long, n_drop_show, n_drop_swap, n_drop_copy, n_drop_e, n_drop_empty, n_drop_kind, n_copy_num, n_copy_text, n_copy_add, n_copy_mul, n_copy_less, n_copy_join, n_copy_long, n_copy_show, n_copy_swap, n_copy_drop, n_copy_e, n_copy_empty, n_copy_kind, n_e_num, n_e_text, n_e_add, n_e_mul, n_e_less, n_e_join, n_e_long, n_e_show, n_e_swap, n_e_drop, n_e_copy, n_e_empty, n_e_kind, n_empty_num, n_empty_text, n_empty_add, n_empty_mul, n_empty_less, n_empty_join, n_empty_long, n_empty_show, n_empty_swap, n_empty_drop, n_empty_copy, n_empty_e, n_empty_kind, n_kind_num, n_kind_text, n_kind_add, n_kind_mul, n_kind_less, n_kind_join, n_kind_long, n_kind_show, n_kind_swap, n_kind_drop, n_kind_copy, n_kind_e, n_kind_empty, lW_num, lW_text, lW_add, lW_mul, lW_less, lW_join, lW_long, lW_show, lW_swap, lW_drop, lW_copy, lW_if, lT_num, lT_text, lT_add, lT_mul, lT_less, lT_join, lT_long, lT_show, lT_swap, lT_drop, lT_copy, lT_if, lP_num, lP_text, lP_add, lP_mul, lP_less, lP_join, lP_long, lP_show, lP_swap, lP_drop, lP_copy, lF_added, lF_multiplied, lF_compared, lF_joined, lF_measured, lF_shown, lF_swapped, lF_dropped, lF_copied, lI_num, lI_text, lI_add, lI_mul, lI_less, lI_join, lI_long, lI_show, lI_swap, lI_drop, lI_copy, lH_Empty_Empty, lH_WrongKind_Empty, lA_Empty, lH_Empty_WrongKind, lH_WrongKind_WrongKind, lA_WrongKind, e0, e1, List.length_replicate, e2]
  | _ => kernel_rfl
theorem x1_ok {r : D} {W : List D} (h : Row r W) (ks : List D) (hk : ks.length ≤ 200) (w : Str) (hw : w.length ≤ 10) (c : Cell) : X_check_1 [.val r, .val (.tup ks), .val (.str w), c] = .exc "Empty" [.val r, .val (.tup ks), .val (.str w), c] := by
  have hW := wanted_ok h
  obtain ⟨_, hWl⟩ := h.ks
  obtain ⟨y1, l1, e1⟩ := fmt_int (W.length : Int) (by omega) (by omega)
  obtain ⟨y2, l2, e2⟩ := fmt_int (ks.length : Int) (by omega) (by omega)
  obtain ⟨s, hs⟩ := js_all [.val r, .val (.tup ks), .val (.str w), c] [m1 D.fmt (mVar 2), mC (.str " wants "), m1 D.fmt (mCall 1 F_wanted [.nm 0]), mC (.str " values and there are "), m1 D.fmt (m1 oLen (mVar 1))] Str.empty (by decide) (fun m hm => by
    simp only [List.mem_cons, List.not_mem_nil, or_false] at hm
    rcases hm with rfl | rfl | rfl | rfl | rfl
    · have e3 : D.fmt (.str w) = some (.dd (.str w)) := if_pos (le_sz (by omega))
      refine ⟨w, by omega, ?_⟩
      simp only [mkF, pad, outs, mSeq, mAsg, mAsgG, mExpr, mRet, mRetV, mRetN, mIfS, mIf, mNx, mTest, tmNot, tmAnd, tmOr, mVar, mC, mB, TL.m1, TL.m2, opt, use, R.fix, frz, tak, Cell.dat, mSeqD, mArgs, vals, mSl, mPart, mgSeq, setAll, D.items, mCall, give, mPut, mApp, mPop, mIns, ownL, mFor, miSeq, miRange, mAndV, mOrV, mNotV, D.bool, D.tru, mKGet, mKIn, mCallV, mRaise, mTry, mHands, mAny, mJoin, mLc, oAdd, oSub, oMul, oDiv, oMod, oPow, oNeg, oCmp, oIx, oSl, oLen, oList, oTuple, oStr, oInt, oMax, oMin, oIn, List.getElem?_cons_zero, List.getElem?_cons_succ, List.getElem?_nil, List.set_cons_zero, List.set_cons_succ, List.length_cons, List.length_nil, List.cons_append, List.nil_append, List.append_nil, List.replicate, List.map_cons, List.map_nil, Option.map_some, Option.map_none, Option.bind_some, Option.bind_none, if_true, if_false, reduceIte, ↓reduceIte, Nat.reduceAdd, Nat.reduceSub, Nat.reduceLeDiff, Nat.reduceLT, Nat.reduceEqDiff, Int.reduceLT, Int.reduceLE, Bool.not_true, Bool.not_false, Bool.false_eq_true, sz0, sz1, sz2, sz3, sz4, sz5, sz6, sz7, sz8, sz9, sz10, sz11, sz12, sz13, sz14, sz15, e3]
    · exact ⟨_, by decide +kernel, rfl⟩
    · refine ⟨y1, l1, ?_⟩
      simp only [mkF, pad, outs, mSeq, mAsg, mAsgG, mExpr, mRet, mRetV, mRetN, mIfS, mIf, mNx, mTest, tmNot, tmAnd, tmOr, mVar, mC, mB, TL.m1, TL.m2, opt, use, R.fix, frz, tak, Cell.dat, mSeqD, mArgs, vals, mSl, mPart, mgSeq, setAll, D.items, mCall, give, mPut, mApp, mPop, mIns, ownL, mFor, miSeq, miRange, mAndV, mOrV, mNotV, D.bool, D.tru, mKGet, mKIn, mCallV, mRaise, mTry, mHands, mAny, mJoin, mLc, oAdd, oSub, oMul, oDiv, oMod, oPow, oNeg, oCmp, oIx, oSl, oLen, oList, oTuple, oStr, oInt, oMax, oMin, oIn, List.getElem?_cons_zero, List.getElem?_cons_succ, List.getElem?_nil, List.set_cons_zero, List.set_cons_succ, List.length_cons, List.length_nil, List.cons_append, List.nil_append, List.append_nil, List.replicate, List.map_cons, List.map_nil, Option.map_some, Option.map_none, Option.bind_some, Option.bind_none, if_true, if_false, reduceIte, ↓reduceIte, Nat.reduceAdd, Nat.reduceSub, Nat.reduceLeDiff, Nat.reduceLT, Nat.reduceEqDiff, Int.reduceLT, Int.reduceLE, Bool.not_true, Bool.not_false, Bool.false_eq_true, sz0, sz1, sz2, sz3, sz4, sz5, sz6, sz7, sz8, sz9, sz10, sz11, sz12, sz13, sz14, sz15, hW, e1]
    · exact ⟨_, by decide +kernel, rfl⟩
    · refine ⟨y2, l2, ?_⟩
      simp only [mkF, pad, outs, mSeq, mAsg, mAsgG, mExpr, mRet, mRetV, mRetN, mIfS, mIf, mNx, mTest, tmNot, tmAnd, tmOr, mVar, mC, mB, TL.m1, TL.m2, opt, use, R.fix, frz, tak, Cell.dat, mSeqD, mArgs, vals, mSl, mPart, mgSeq, setAll, D.items, mCall, give, mPut, mApp, mPop, mIns, ownL, mFor, miSeq, miRange, mAndV, mOrV, mNotV, D.bool, D.tru, mKGet, mKIn, mCallV, mRaise, mTry, mHands, mAny, mJoin, mLc, oAdd, oSub, oMul, oDiv, oMod, oPow, oNeg, oCmp, oIx, oSl, oLen, oList, oTuple, oStr, oInt, oMax, oMin, oIn, List.getElem?_cons_zero, List.getElem?_cons_succ, List.getElem?_nil, List.set_cons_zero, List.set_cons_succ, List.length_cons, List.length_nil, List.cons_append, List.nil_append, List.append_nil, List.replicate, List.map_cons, List.map_nil, Option.map_some, Option.map_none, Option.bind_some, Option.bind_none, if_true, if_false, reduceIte, ↓reduceIte, Nat.reduceAdd, Nat.reduceSub, Nat.reduceLeDiff, Nat.reduceLT, Nat.reduceEqDiff, Int.reduceLT, Int.reduceLE, Bool.not_true, Bool.not_false, Bool.false_eq_true, sz0, sz1, sz2, sz3, sz4, sz5, sz6, sz7, sz8, sz9, sz10, sz11, sz12, sz13, sz14, sz15, e2])
  unfold X_check_1 mRaise
  simp only [hs]
theorem x2_ok (r ks : Cell) (w t : Str) (hw : w.length ≤ 10) (ht : t.length ≤ 10) (hl : tbl_TOLD.lookup w = some (some (.str t))) (c : Cell) : X_check_2 [r, ks, .val (.str w), c] = .exc "WrongKind" [r, ks, .val (.str w), c] := by
  obtain ⟨s, hs⟩ := js_all [r, ks, .val (.str w), c] [m1 D.fmt (mVar 2), mC (.str " takes values of the kind "), m1 D.fmt (mKGet tbl_TOLD (mVar 2)), mC (.str " alone")] Str.empty (by decide) (fun m hm => by
    simp only [List.mem_cons, List.not_mem_nil, or_false] at hm
    rcases hm with rfl | rfl | rfl | rfl
    · have e3 : D.fmt (.str w) = some (.dd (.str w)) := if_pos (le_sz (by omega))
      refine ⟨w, by omega, ?_⟩
      simp only [mkF, pad, outs, mSeq, mAsg, mAsgG, mExpr, mRet, mRetV, mRetN, mIfS, mIf, mNx, mTest, tmNot, tmAnd, tmOr, mVar, mC, mB, TL.m1, TL.m2, opt, use, R.fix, frz, tak, Cell.dat, mSeqD, mArgs, vals, mSl, mPart, mgSeq, setAll, D.items, mCall, give, mPut, mApp, mPop, mIns, ownL, mFor, miSeq, miRange, mAndV, mOrV, mNotV, D.bool, D.tru, mKGet, mKIn, mCallV, mRaise, mTry, mHands, mAny, mJoin, mLc, oAdd, oSub, oMul, oDiv, oMod, oPow, oNeg, oCmp, oIx, oSl, oLen, oList, oTuple, oStr, oInt, oMax, oMin, oIn, List.getElem?_cons_zero, List.getElem?_cons_succ, List.getElem?_nil, List.set_cons_zero, List.set_cons_succ, List.length_cons, List.length_nil, List.cons_append, List.nil_append, List.append_nil, List.replicate, List.map_cons, List.map_nil, Option.map_some, Option.map_none, Option.bind_some, Option.bind_none, if_true, if_false, reduceIte, ↓reduceIte, Nat.reduceAdd, Nat.reduceSub, Nat.reduceLeDiff, Nat.reduceLT, Nat.reduceEqDiff, Int.reduceLT, Int.reduceLE, Bool.not_true, Bool.not_false, Bool.false_eq_true, sz0, sz1, sz2, sz3, sz4, sz5, sz6, sz7, sz8, sz9, sz10, sz11, sz12, sz13, sz14, sz15, e3]
    · exact ⟨_, by decide +kernel, rfl⟩
    · have e3 : D.fmt (.str t) = some (.dd (.str t)) := if_pos (le_sz (by omega))
      refine ⟨t, by omega, ?_⟩
      simp only [mkF, pad, outs, mSeq, mAsg, mAsgG, mExpr, mRet, mRetV, mRetN, mIfS, mIf, mNx, mTest, tmNot, tmAnd, tmOr, mVar, mC, mB, TL.m1, TL.m2, opt, use, R.fix, frz, tak, Cell.dat, mSeqD, mArgs, vals, mSl, mPart, mgSeq, setAll, D.items, mCall, give, mPut, mApp, mPop, mIns, ownL, mFor, miSeq, miRange, mAndV, mOrV, mNotV, D.bool, D.tru, mKGet, mKIn, mCallV, mRaise, mTry, mHands, mAny, mJoin, mLc, oAdd, oSub, oMul, oDiv, oMod, oPow, oNeg, oCmp, oIx, oSl, oLen, oList, oTuple, oStr, oInt, oMax, oMin, oIn, List.getElem?_cons_zero, List.getElem?_cons_succ, List.getElem?_nil, List.set_cons_zero, List.set_cons_succ, List.length_cons, List.length_nil, List.cons_append, List.nil_append, List.append_nil, List.replicate, List.map_cons, List.map_nil, Option.map_some, Option.map_none, Option.bind_some, Option.bind_none, if_true, if_false, reduceIte, ↓reduceIte, Nat.reduceAdd, Nat.reduceSub, Nat.reduceLeDiff, Nat.reduceLT, Nat.reduceEqDiff, Int.reduceLT, Int.reduceLE, Bool.not_true, Bool.not_false, Bool.false_eq_true, sz0, sz1, sz2, sz3, sz4, sz5, sz6, sz7, sz8, sz9, sz10, sz11, sz12, sz13, sz14, sz15, hl, e3]
    · exact ⟨_, by decide +kernel, rfl⟩)
  unfold X_check_2 mRaise
  simp only [hs]
/-- too few -/
theorem check_few {r : D} {W : List D} (h : Row r W) (ks : List D) (hk : ks.length < W.length) : F_check [.val r, .val (.tup ks)] = .exc "Empty" [.val r, .val (.tup ks)] := by
  have hW := wanted_ok h
  obtain ⟨w, rest, rfl, hw⟩ := h.word
  have hx := x1_ok h ks (by have := h.ks.2; omega) w hw .no
  have e0 : atI (D.str w :: rest) 0 = some (.str w) := atI_zero _ _
  have hc : (ks.length : Int) < W.length := by omega
  unfold F_check M_check
  simp only [mkF, pad, outs, mSeq, mAsg, mAsgG, mExpr, mRet, mRetV, mRetN, mIfS, mIf, mNx, mTest, tmNot, tmAnd, tmOr, mVar, mC, mB, TL.m1, TL.m2, opt, use, R.fix, frz, tak, Cell.dat, mSeqD, mArgs, vals, mSl, mPart, mgSeq, setAll, D.items, mCall, give, mPut, mApp, mPop, mIns, ownL, mFor, miSeq, miRange, mAndV, mOrV, mNotV, D.bool, D.tru, mKGet, mKIn, mCallV, mRaise, mTry, mHands, mAny, mJoin, mLc, oAdd, oSub, oMul, oDiv, oMod, oPow, oNeg, oCmp, oIx, oSl, oLen, oList, oTuple, oStr, oInt, oMax, oMin, oIn, List.getElem?_cons_zero, List.getElem?_cons_succ, List.getElem?_nil, List.set_cons_zero, List.set_cons_succ, List.length_cons, List.length_nil, List.cons_append, List.nil_append, List.append_nil, List.replicate, List.map_cons, List.map_nil, Option.map_some, Option.map_none, Option.bind_some, Option.bind_none, if_true, if_false, reduceIte, ↓reduceIte, Nat.reduceAdd, Nat.reduceSub, Nat.reduceLeDiff, Nat.reduceLT, Nat.reduceEqDiff, Int.reduceLT, Int.reduceLE, Bool.not_true, Bool.not_false, Bool.false_eq_true, sz0, sz1, sz2, sz3, sz4, sz5, sz6, sz7, sz8, sz9, sz10, sz11, sz12, sz13, sz14, sz15, oEq_str, oEq_int, oNe_str, oNe_int, decide_false, decide_true, and_self, n_num_text, n_num_add, n_num_mul, n_num_less, n_num_join, n_num_long, n_num_show, n_num_swap, n_num_drop, n_num_copy, n_num_e, n_num_empty, n_num_kind, n_text_num, n_text_add, n_text_mul, n_text_less, n_text_join, n_text_long, n_text_show, n_text_swap, n_text_drop, n_text_copy, n_text_e, n_text_empty, n_text_kind, n_add_num, n_add_text, n_add_mul, n_add_less, n_add_join, n_add_long, n_add_show, n_add_swap, n_add_drop, n_add_copy, n_add_e, n_add_empty, n_add_kind, n_mul_num, n_mul_text, n_mul_add, n_mul_less, n_mul_join, n_mul_long, n_mul_show, n_mul_swap, n_mul_drop, n_mul_copy, n_mul_e, n_mul_empty, n_mul_kind, n_less_num, n_less_text, n_less_add, n_less_mul, n_less_join, n_less_long, n_less_show, n_less_swap, n_less_drop, n_less_copy, n_less_e, n_less_empty, n_less_kind, n_join_num, n_join_text, n_join_add, n_join_mul, n_join_less, n_join_long, n_join_show, n_join_swap, n_join_drop, n_join_copy, n_join_e, n_join_empty, n_join_kind, n_long_num, n_long_text, n_long_add, n_long_mul, n_long_less, n_long_join, n_long_show, n_long_swap, n_long_drop, n_long_copy, n_long_e, n_long_empty, n_long_kind, n_show_num, n_show_text, n_show_add, n_show_mul, n_show_less, n_show_join, n_show_long, n_show_swap, n_show_drop, n_show_copy, n_show_e, n_show_empty, n_show_kind, n_swap_num, n_swap_text, n_swap_add, n_swap_mul, n_swap_less, n_swap_join, n_swap_long, n_swap_show, n_swap_drop, n_swap_copy, n_swap_e, n_swap_empty, n_swap_kind, n_drop_num, n_drop_text, n_drop_add, n_drop_mul, n_drop_less, n_drop_join, n_drop_long, n_drop_show, n_drop_swap, n_drop_copy, n_drop_e, n_drop_empty, n_drop_kind, n_copy_num, n_copy_text, n_copy_add, n_copy_mul, n_copy_less, n_copy_join, n_copy_long, n_copy_show, n_copy_swap, n_copy_drop, n_copy_e, n_copy_empty, n_copy_kind, n_e_num, n_e_text, n_e_add, n_e_mul, n_e_less, n_e_join, n_e_long, n_e_show, n_e_swap, n_e_drop, n_e_copy, n_e_empty, n_e_kind, n_empty_num, n_empty_text, n_empty_add, n_empty_mul, n_empty_less, n_empty_join, n_empty_long, n_empty_show, n_empty_swap, n_empty_drop, n_empty_copy, n_empty_e, n_empty_kind, n_kind_num, n_kind_text, n_kind_add, n_kind_mul, n_kind_less, n_kind_join, n_kind_long, n_kind_show, n_kind_swap, n_kind_drop, n_kind_copy, n_kind_e, n_kind_empty, lW_num, lW_text, lW_add, lW_mul, lW_less, lW_join, lW_long, lW_show, lW_swap, lW_drop, lW_copy, lW_if, lT_num, lT_text, lT_add, lT_mul, lT_less, lT_join, lT_long, lT_show, lT_swap, lT_drop, lT_copy, lT_if, lP_num, lP_text, lP_add, lP_mul, lP_less, lP_join, lP_long, lP_show, lP_swap, lP_drop, lP_copy, lF_added, lF_multiplied, lF_compared, lF_joined, lF_measured, lF_shown, lF_swapped, lF_dropped, lF_copied, lI_num, lI_text, lI_add, lI_mul, lI_less, lI_join, lI_long, lI_show, lI_swap, lI_drop, lI_copy, lH_Empty_Empty, lH_WrongKind_Empty, lA_Empty, lH_Empty_WrongKind, lH_WrongKind_WrongKind, lA_WrongKind, e0, hW, hc, hx]
/-- no kind is told -/
theorem check_free {r : D} {W : List D} (h : Row r W) (ks : List D) (hk : ks.length = W.length) (hf : ∀ w rest, r = .tup (.str w :: rest) → tbl_TOLD.lookup w = some none) : F_check [.val r, .val (.tup ks)] = .ret (.dd .non) [.val r, .val (.tup ks)] := by
  have hW := wanted_ok h
  obtain ⟨w, rest, rfl, hw⟩ := h.word
  have hl := hf w rest rfl
  have e0 : atI (D.str w :: rest) 0 = some (.str w) := atI_zero _ _
  have hc : ¬ (ks.length : Int) < W.length := by omega
  unfold F_check M_check
  simp only [mkF, pad, outs, mSeq, mAsg, mAsgG, mExpr, mRet, mRetV, mRetN, mIfS, mIf, mNx, mTest, tmNot, tmAnd, tmOr, mVar, mC, mB, TL.m1, TL.m2, opt, use, R.fix, frz, tak, Cell.dat, mSeqD, mArgs, vals, mSl, mPart, mgSeq, setAll, D.items, mCall, give, mPut, mApp, mPop, mIns, ownL, mFor, miSeq, miRange, mAndV, mOrV, mNotV, D.bool, D.tru, mKGet, mKIn, mCallV, mRaise, mTry, mHands, mAny, mJoin, mLc, oAdd, oSub, oMul, oDiv, oMod, oPow, oNeg, oCmp, oIx, oSl, oLen, oList, oTuple, oStr, oInt, oMax, oMin, oIn, List.getElem?_cons_zero, List.getElem?_cons_succ, List.getElem?_nil, List.set_cons_zero, List.set_cons_succ, List.length_cons, List.length_nil, List.cons_append, List.nil_append, List.append_nil, List.replicate, List.map_cons, List.map_nil, Option.map_some, Option.map_none, Option.bind_some, Option.bind_none, if_true, if_false, reduceIte, ↓reduceIte, Nat.reduceAdd, Nat.reduceSub, Nat.reduceLeDiff, Nat.reduceLT, Nat.reduceEqDiff, Int.reduceLT, Int.reduceLE, Bool.not_true, Bool.not_false, Bool.false_eq_true, sz0, sz1, sz2, sz3, sz4, sz5, sz6, sz7, sz8, sz9, sz10, sz11, sz12, sz13, sz14, sz15, oEq_str, oEq_int, oNe_str, oNe_int, decide_false, decide_true, and_self, n_num_text, n_num_add, n_num_mul, n_num_less, n_num_join, n_num_long, n_num_show, n_num_swap, n_num_drop, n_num_copy, n_num_e, n_num_empty, n_num_kind, n_text_num, n_text_add, n_text_mul, n_text_less, n_text_join, n_text_long, n_text_show, n_text_swap, n_text_drop, n_text_copy, n_text_e, n_text_empty, n_text_kind, n_add_num, n_add_text, n_add_mul, n_add_less, n_add_join, n_add_long, n_add_show, n_add_swap, n_add_drop, n_add_copy, n_add_e, n_add_empty, n_add_kind, n_mul_num, n_mul_text, n_mul_add, n_mul_less, n_mul_join, n_mul_long, n_mul_show, n_mul_swap, n_mul_drop, n_mul_copy, n_mul_e, n_mul_empty, n_mul_kind, n_less_num, n_less_text, n_less_add, n_less_mul, n_less_join, n_less_long, n_less_show, n_less_swap, n_less_drop, n_less_copy, n_less_e, n_less_empty, n_less_kind, n_join_num, n_join_text, n_join_add, n_join_mul, n_join_less, n_join_long, n_join_show, n_join_swap, n_join_drop, n_join_copy, n_join_e, n_join_empty, n_join_kind, n_long_num, n_long_text, n_long_add, n_long_mul, n_long_less, n_long_join, n_long_show, n_long_swap, n_long_drop, n_long_copy, n_long_e, n_long_empty, n_long_kind, n_show_num, n_show_text, n_show_add, n_show_mul, n_show_less, n_show_join, n_show_long, n_show_swap, n_show_drop, n_show_copy, n_show_e, n_show_empty, n_show_kind, n_swap_num, n_swap_text, n_swap_add, n_swap_mul, n_swap_less, n_swap_join, n_swap_long, n_swap_show, n_swap_drop, n_swap_copy, n_swap_e, n_swap_empty, n_swap_kind, n_drop_num, n_drop_text, n_drop_add, n_drop_mul, n_drop_less, n_drop_join, n_drop_long, n_drop_show, n_drop_swap, n_drop_copy, n_drop_e, n_drop_empty, n_drop_kind, n_copy_num, n_copy_text, n_copy_add, n_copy_mul, n_copy_less, n_copy_join, n_copy_long, n_copy_show, n_copy_swap, n_copy_drop, n_copy_e, n_copy_empty, n_copy_kind, n_e_num, n_e_text, n_e_add, n_e_mul, n_e_less, n_e_join, n_e_long, n_e_show, n_e_swap, n_e_drop, n_e_copy, n_e_empty, n_e_kind, n_empty_num, n_empty_text, n_empty_add, n_empty_mul, n_empty_less, n_empty_join, n_empty_long, n_empty_show, n_empty_swap, n_empty_drop, n_empty_copy, n_empty_e, n_empty_kind, n_kind_num, n_kind_text, n_kind_add, n_kind_mul, n_kind_less, n_kind_join, n_kind_long, n_kind_show, n_kind_swap, n_kind_drop, n_kind_copy, n_kind_e, n_kind_empty, lW_num, lW_text, lW_add, lW_mul, lW_less, lW_join, lW_long, lW_show, lW_swap, lW_drop, lW_copy, lW_if, lT_num, lT_text, lT_add, lT_mul, lT_less, lT_join, lT_long, lT_show, lT_swap, lT_drop, lT_copy, lT_if, lP_num, lP_text, lP_add, lP_mul, lP_less, lP_join, lP_long, lP_show, lP_swap, lP_drop, lP_copy, lF_added, lF_multiplied, lF_compared, lF_joined, lF_measured, lF_shown, lF_swapped, lF_dropped, lF_copied, lI_num, lI_text, lI_add, lI_mul, lI_less, lI_join, lI_long, lI_show, lI_swap, lI_drop, lI_copy, lH_Empty_Empty, lH_WrongKind_Empty, lA_Empty, lH_Empty_WrongKind, lH_WrongKind_WrongKind, lA_WrongKind, e0, hW, hc, hl, Option.isSome_none]
theorem check_told {r : D} {W : List D} (h : Row r W) (ks : List Str) (hk : ks.length = W.length) (w : Str) (rest : List D) (hr : r = .tup (.str w :: rest)) (t : Str) (ht : t.length ≤ 10) (hl : tbl_TOLD.lookup w = some (some (.str t))) :
    F_check [.val r, .val (.tup (ks.map D.str))] = if (∀ k ∈ ks, k = t) then .ret (.dd .non) [.val r, .val (.tup (ks.map D.str))] else .exc "WrongKind" [.val r, .val (.tup (ks.map D.str))] := by
  have hW := wanted_ok h
  obtain ⟨w', rest', hr', hw⟩ := h.word
  rw [hr] at hr'; cases hr'
  subst hr
  have e0 : atI (D.str w :: rest) 0 = some (.str w) := atI_zero _ _
  have hc : ¬ ((ks.map D.str).length : Int) < W.length := by rw [List.length_map]; omega
  have loop : ∀ (js : List Str) (c : Cell), ∃ c', mLoop (mgName 3) B_check_3 (js.map D.str) [.val (.tup (.str w :: rest)), .val (.tup (ks.map D.str)), .val (.str w), c] =
      if (∀ k ∈ js, k = t) then .nx [.val (.tup (.str w :: rest)), .val (.tup (ks.map D.str)), .val (.str w), c'] else .exc "WrongKind" [.val (.tup (.str w :: rest)), .val (.tup (ks.map D.str)), .val (.str w), c'] := by
    intro js
    induction js with
    | nil => intro c; exact ⟨c, by simp [mLoop]⟩
    | cons k js ih =>
      intro c
      by_cases hkt : k = t
      · obtain ⟨c', e⟩ := ih (.val (.str k))
        refine ⟨c', ?_⟩
        rw [List.map_cons, mLoop_nx (ρ2 := [.val (.tup (.str w :: rest)), .val (.tup (ks.map D.str)), .val (.str w), .val (.str k)]) rfl, e]
        · subst hkt; simp
        · unfold B_check_3
          simp only [mkF, pad, outs, mSeq, mAsg, mAsgG, mExpr, mRet, mRetV, mRetN, mIfS, mIf, mNx, mTest, tmNot, tmAnd, tmOr, mVar, mC, mB, TL.m1, TL.m2, opt, use, R.fix, frz, tak, Cell.dat, mSeqD, mArgs, vals, mSl, mPart, mgSeq, setAll, D.items, mCall, give, mPut, mApp, mPop, mIns, ownL, mFor, miSeq, miRange, mAndV, mOrV, mNotV, D.bool, D.tru, mKGet, mKIn, mCallV, mRaise, mTry, mHands, mAny, mJoin, mLc, oAdd, oSub, oMul, oDiv, oMod, oPow, oNeg, oCmp, oIx, oSl, oLen, oList, oTuple, oStr, oInt, oMax, oMin, oIn, List.getElem?_cons_zero, List.getElem?_cons_succ, List.getElem?_nil, List.set_cons_zero, List.set_cons_succ, List.length_cons, List.length_nil, List.cons_append, List.nil_append, List.append_nil, List.replicate, List.map_cons, List.map_nil, Option.map_some, Option.map_none, Option.bind_some, Option.bind_none, if_true, if_false, reduceIte, ↓reduceIte, Nat.reduceAdd, Nat.reduceSub, Nat.reduceLeDiff, Nat.reduceLT, Nat.reduceEqDiff, Int.reduceLT, Int.reduceLE, Bool.not_true, Bool.not_false, Bool.false_eq_true, sz0, sz1, sz2, sz3, sz4, sz5, sz6, sz7, sz8, sz9, sz10, sz11, sz12, sz13, sz14, sz15, oEq_str, oEq_int, oNe_str, oNe_int, decide_false, decide_true, and_self, n_num_text, n_num_add, n_num_mul, n_num_less, n_num_join, n_num_long, n_num_show, n_num_swap, n_num_drop, n_num_copy, n_num_e, n_num_empty, n_num_kind, n_text_num, n_text_add, n_text_mul, n_text_less, n_text_join, n_text_long, n_text_show, n_text_swap, n_text_drop, n_text_copy, n_text_e, n_text_empty, n_text_kind, n_add_num, n_add_text, n_add_mul, n_add_less, n_add_join, n_add_long, n_add_show, n_add_swap, n_add_drop, n_add_copy, n_add_e, n_add_empty, n_add_kind, n_mul_num, n_mul_text, n_mul_add, n_mul_less, n_mul_join, n_mul_long, n_mul_show, n_mul_swap, n_mul_drop, n_mul_copy, n_mul_e, n_mul_empty, n_mul_kind, n_less_num, n_less_text, n_less_add, n_less_mul, n_less_join, n_less_long, n_less_show, n_less_swap, n_less_drop, n_less_copy, n_less_e, n_less_empty, n_less_kind, n_join_num, n_join_text, n_join_add, n_join_mul, n_join_less, n_join_long, n_join_show, n_join_swap, n_join_drop, n_join_copy, n_join_e, n_join_empty, n_join_kind, n_long_num, n_long_text, n_long_add, n_long_mul, n_long_less, n_long_join, n_long_show, n_long_swap, n_long_drop, n_long_copy, n_long_e, n_long_empty, n_long_kind, n_show_num, n_show_text, n_show_add, n_show_mul, n_show_less, n_show_join, n_show_long, n_show_swap, n_show_drop, n_show_copy, n_show_e, n_show_empty, n_show_kind, n_swap_num, n_swap_text, n_swap_add, n_swap_mul, n_swap_less, n_swap_join, n_swap_long, n_swap_show, n_swap_drop, n_swap_copy, n_swap_e, n_swap_empty, n_swap_kind, n_drop_num, n_drop_text, n_drop_add, n_drop_mul, n_drop_less, n_drop_join, n_drop_long, n_drop_show, n_drop_swap, n_drop_copy, n_drop_e, n_drop_empty, n_drop_kind, n_copy_num, n_copy_text, n_copy_add, n_copy_mul, n_copy_less, n_copy_join, n_copy_long, n_copy_show, n_copy_swap, n_copy_drop, n_copy_e, n_copy_empty, n_copy_kind, n_e_num, n_e_text, n_e_add, n_e_mul, n_e_less, n_e_join, n_e_long, n_e_show, n_e_swap, n_e_drop, n_e_copy, n_e_empty, n_e_kind, n_empty_num, n_empty_text, n_empty_add, n_empty_mul, n_empty_less, n_empty_join, n_empty_long, n_empty_show, n_empty_swap, n_empty_drop, n_empty_copy, n_empty_e, n_empty_kind, n_kind_num, n_kind_text, n_kind_add, n_kind_mul, n_kind_less, n_kind_join, n_kind_long, n_kind_show, n_kind_swap, n_kind_drop, n_kind_copy, n_kind_e, n_kind_empty, lW_num, lW_text, lW_add, lW_mul, lW_less, lW_join, lW_long, lW_show, lW_swap, lW_drop, lW_copy, lW_if, lT_num, lT_text, lT_add, lT_mul, lT_less, lT_join, lT_long, lT_show, lT_swap, lT_drop, lT_copy, lT_if, lP_num, lP_text, lP_add, lP_mul, lP_less, lP_join, lP_long, lP_show, lP_swap, lP_drop, lP_copy, lF_added, lF_multiplied, lF_compared, lF_joined, lF_measured, lF_shown, lF_swapped, lF_dropped, lF_copied, lI_num, lI_text, lI_add, lI_mul, lI_less, lI_join, lI_long, lI_show, lI_swap, lI_drop, lI_copy, lH_Empty_Empty, lH_WrongKind_Empty, lA_Empty, lH_Empty_WrongKind, lH_WrongKind_WrongKind, lA_WrongKind, hl, hkt]
      · refine ⟨.val (.str k), ?_⟩
        rw [if_neg (fun z => hkt (z k List.mem_cons_self)), List.map_cons]
        refine mLoop_exc rfl ?_
        have hx := x2_ok (.val (.tup (.str w :: rest))) (.val (.tup (ks.map D.str))) w t hw ht hl (.val (.str k))
        unfold B_check_3
        simp only [mkF, pad, outs, mSeq, mAsg, mAsgG, mExpr, mRet, mRetV, mRetN, mIfS, mIf, mNx, mTest, tmNot, tmAnd, tmOr, mVar, mC, mB, TL.m1, TL.m2, opt, use, R.fix, frz, tak, Cell.dat, mSeqD, mArgs, vals, mSl, mPart, mgSeq, setAll, D.items, mCall, give, mPut, mApp, mPop, mIns, ownL, mFor, miSeq, miRange, mAndV, mOrV, mNotV, D.bool, D.tru, mKGet, mKIn, mCallV, mRaise, mTry, mHands, mAny, mJoin, mLc, oAdd, oSub, oMul, oDiv, oMod, oPow, oNeg, oCmp, oIx, oSl, oLen, oList, oTuple, oStr, oInt, oMax, oMin, oIn, List.getElem?_cons_zero, List.getElem?_cons_succ, List.getElem?_nil, List.set_cons_zero, List.set_cons_succ, List.length_cons, List.length_nil, List.cons_append, List.nil_append, List.append_nil, List.replicate, List.map_cons, List.map_nil, Option.map_some, Option.map_none, Option.bind_some, Option.bind_none, if_true, if_false, reduceIte, ↓reduceIte, Nat.reduceAdd, Nat.reduceSub, Nat.reduceLeDiff, Nat.reduceLT, Nat.reduceEqDiff, Int.reduceLT, Int.reduceLE, Bool.not_true, Bool.not_false, Bool.false_eq_true, sz0, sz1, sz2, sz3, sz4, sz5, sz6, sz7, sz8, sz9, sz10, sz11, sz12, sz13, sz14, sz15, oEq_str, oEq_int, oNe_str, oNe_int, decide_false, decide_true, and_self, n_num_text, n_num_add, n_num_mul, n_num_less, n_num_join, n_num_long, n_num_show, n_num_swap, n_num_drop, n_num_copy, n_num_e, n_num_empty, n_num_kind, n_text_num, n_text_add, n_text_mul, n_text_less, n_text_join, n_text_long, n_text_show, n_text_swap, n_text_drop, n_text_copy, n_text_e, n_text_empty, n_text_kind, n_add_num, n_add_text, n_add_mul, n_add_less, n_add_join, n_add_long, n_add_show, n_add_swap, n_add_drop, n_add_copy, n_add_e, n_add_empty, n_add_kind, n_mul_num, n_mul_text, n_mul_add, n_mul_less, n_mul_join, n_mul_long, n_mul_show, n_mul_swap, n_mul_drop, n_mul_copy, n_mul_e, n_mul_empty, n_mul_kind, n_less_num, n_less_text, n_less_add, n_less_mul, n_less_join, n_less_long, n_less_show, n_less_swap, n_less_drop, n_less_copy, n_less_e, n_less_empty, n_less_kind, n_join_num, n_join_text, n_join_add, n_join_mul, n_join_less, n_join_long, n_join_show, n_join_swap, n_join_drop, n_join_copy, n_join_e, n_join_empty, n_join_kind, n_long_num, n_long_text, n_long_add, n_long_mul, n_long_less, n_long_join, n_long_show, n_long_swap, n_long_drop, n_long_copy, n_long_e, n_long_empty, n_long_kind, n_show_num, n_show_text, n_show_add, n_show_mul, n_show_less, n_show_join, n_show_long, n_show_swap, n_show_drop, n_show_copy, n_show_e, n_show_empty, n_show_kind, n_swap_num, n_swap_text, n_swap_add, n_swap_mul, n_swap_less, n_swap_join, n_swap_long, n_swap_show, n_swap_drop, n_swap_copy, n_swap_e, n_swap_empty, n_swap_kind, n_drop_num, n_drop_text, n_drop_add, n_drop_mul, n_drop_less, n_drop_join, n_drop_long, n_drop_show, n_drop_swap, n_drop_copy, n_drop_e, n_drop_empty, n_drop_kind, n_copy_num, n_copy_text, n_copy_add, n_copy_mul, n_copy_less, n_copy_join, n_copy_long, n_copy_show, n_copy_swap, n_copy_drop, n_copy_e, n_copy_empty, n_copy_kind, n_e_num, n_e_text, n_e_add, n_e_mul, n_e_less, n_e_join, n_e_long, n_e_show, n_e_swap, n_e_drop, n_e_copy, n_e_empty, n_e_kind, n_empty_num, n_empty_text, n_empty_add, n_empty_mul, n_empty_less, n_empty_join, n_empty_long, n_empty_show, n_empty_swap, n_empty_drop, n_empty_copy, n_empty_e, n_empty_kind, n_kind_num, n_kind_text, n_kind_add, n_kind_mul, n_kind_less, n_kind_join, n_kind_long, n_kind_show, n_kind_swap, n_kind_drop, n_kind_copy, n_kind_e, n_kind_empty, lW_num, lW_text, lW_add, lW_mul, lW_less, lW_join, lW_long, lW_show, lW_swap, lW_drop, lW_copy, lW_if, lT_num, lT_text, lT_add, lT_mul, lT_less, lT_join, lT_long, lT_show, lT_swap, lT_drop, lT_copy, lT_if, lP_num, lP_text, lP_add, lP_mul, lP_less, lP_join, lP_long, lP_show, lP_swap, lP_drop, lP_copy, lF_added, lF_multiplied, lF_compared, lF_joined, lF_measured, lF_shown, lF_swapped, lF_dropped, lF_copied, lI_num, lI_text, lI_add, lI_mul, lI_less, lI_join, lI_long, lI_show, lI_swap, lI_drop, lI_copy, lH_Empty_Empty, lH_WrongKind_Empty, lA_Empty, lH_Empty_WrongKind, lH_WrongKind_WrongKind, lA_WrongKind, hl, hkt, hx]
  obtain ⟨c', e⟩ := loop ks .no
  by_cases hall : ∀ k ∈ ks, k = t
  · rw [if_pos hall] at e ⊢
    unfold F_check M_check
    simp only [mkF, pad, outs, mSeq, mAsg, mAsgG, mExpr, mRet, mRetV, mRetN, mIfS, mIf, mNx, mTest, tmNot, tmAnd, tmOr, mVar, mC, mB, TL.m1, TL.m2, opt, use, R.fix, frz, tak, Cell.dat, mSeqD, mArgs, vals, mSl, mPart, mgSeq, setAll, D.items, mCall, give, mPut, mApp, mPop, mIns, ownL, mFor, miSeq, miRange, mAndV, mOrV, mNotV, D.bool, D.tru, mKGet, mKIn, mCallV, mRaise, mTry, mHands, mAny, mJoin, mLc, oAdd, oSub, oMul, oDiv, oMod, oPow, oNeg, oCmp, oIx, oSl, oLen, oList, oTuple, oStr, oInt, oMax, oMin, oIn, List.getElem?_cons_zero, List.getElem?_cons_succ, List.getElem?_nil, List.set_cons_zero, List.set_cons_succ, List.length_cons, List.length_nil, List.cons_append, List.nil_append, List.append_nil, List.replicate, List.map_cons, List.map_nil, Option.map_some, Option.map_none, Option.bind_some, Option.bind_none, if_true, if_false, reduceIte, ↓reduceIte, Nat.reduceAdd, Nat.reduceSub, Nat.reduceLeDiff, Nat.reduceLT, Nat.reduceEqDiff, Int.reduceLT, Int.reduceLE, Bool.not_true, Bool.not_false, Bool.false_eq_true, sz0, sz1, sz2, sz3, sz4, sz5, sz6, sz7, sz8, sz9, sz10, sz11, sz12, sz13, sz14, sz15, oEq_str, oEq_int, oNe_str, oNe_int, decide_false, decide_true, and_self, n_num_text, n_num_add, n_num_mul, n_num_less, n_num_join, n_num_long, n_num_show, n_num_swap, n_num_drop, n_num_copy, n_num_e, n_num_empty, n_num_kind, n_text_num, n_text_add, n_text_mul, n_text_less, n_text_join, n_text_long, n_text_show, n_text_swap, n_text_drop, n_text_copy, n_text_e, n_text_empty, n_text_kind, n_add_num, n_add_text, n_add_mul, n_add_less, n_add_join, n_add_long, n_add_show, n_add_swap, n_add_drop, n_add_copy, n_add_e, n_add_empty, n_add_kind, n_mul_num, n_mul_text, n_mul_add, n_mul_less, n_mul_join, n_mul_long, n_mul_show, n_mul_swap, n_mul_drop, n_mul_copy, n_mul_e, n_mul_empty, n_mul_kind, n_less_num, n_less_text, n_less_add, n_less_mul, n_less_join, n_less_long, n_less_show, n_less_swap, n_less_drop, n_less_copy, n_less_e, n_less_empty, n_less_kind, n_join_num, n_join_text, n_join_add, n_join_mul, n_join_less, n_join_long, n_join_show, n_join_swap, n_join_drop, n_join_copy, n_join_e, n_join_empty, n_join_kind, n_long_num, n_long_text, n_long_add, n_long_mul, n_long_less, n_long_join, n_long_show, n_long_swap, n_long_drop, n_long_copy, n_long_e, n_long_empty, n_long_kind, n_show_num, n_show_text, n_show_add, n_show_mul, n_show_less, n_show_join, n_show_long, n_show_swap, n_show_drop, n_show_copy, n_show_e, n_show_empty, n_show_kind, n_swap_num, n_swap_text, n_swap_add, n_swap_mul, n_swap_less, n_swap_join, n_swap_long, n_swap_show, n_swap_drop, n_swap_copy, n_swap_e, n_swap_empty, n_swap_kind, n_drop_num, n_drop_text, n_drop_add, n_drop_mul, n_drop_less, n_drop_join, n_drop_long, n_drop_show, n_drop_swap, n_drop_copy, n_drop_e, n_drop_empty, n_drop_kind, n_copy_num, n_copy_text, n_copy_add, n_copy_mul, n_copy_less, n_copy_join, n_copy_long, n_copy_show, n_copy_swap, n_copy_drop, n_copy_e, n_copy_empty, n_copy_kind, n_e_num, n_e_text, n_e_add, n_e_mul, n_e_less, n_e_join, n_e_long, n_e_show, n_e_swap, n_e_drop, n_e_copy, n_e_empty, n_e_kind, n_empty_num, n_empty_text, n_empty_add, n_empty_mul, n_empty_less, n_empty_join, n_empty_long, n_empty_show, n_empty_swap, n_empty_drop, n_empty_copy, n_empty_e, n_empty_kind, n_kind_num, n_kind_text, n_kind_add, n_kind_mul, n_kind_less, n_kind_join, n_kind_long, n_kind_show, n_kind_swap, n_kind_drop, n_kind_copy, n_kind_e, n_kind_empty, lW_num, lW_text, lW_add, lW_mul, lW_less, lW_join, lW_long, lW_show, lW_swap, lW_drop, lW_copy, lW_if, lT_num, lT_text, lT_add, lT_mul, lT_less, lT_join, lT_long, lT_show, lT_swap, lT_drop, lT_copy, lT_if, lP_num, lP_text, lP_add, lP_mul, lP_less, lP_join, lP_long, lP_show, lP_swap, lP_drop, lP_copy, lF_added, lF_multiplied, lF_compared, lF_joined, lF_measured, lF_shown, lF_swapped, lF_dropped, lF_copied, lI_num, lI_text, lI_add, lI_mul, lI_less, lI_join, lI_long, lI_show, lI_swap, lI_drop, lI_copy, lH_Empty_Empty, lH_WrongKind_Empty, lA_Empty, lH_Empty_WrongKind, lH_WrongKind_WrongKind, lA_WrongKind, e0, hW, hc, hl, Option.isSome_some, e]
  · rw [if_neg hall] at e ⊢
    unfold F_check M_check
    simp only [mkF, pad, outs, mSeq, mAsg, mAsgG, mExpr, mRet, mRetV, mRetN, mIfS, mIf, mNx, mTest, tmNot, tmAnd, tmOr, mVar, mC, mB, TL.m1, TL.m2, opt, use, R.fix, frz, tak, Cell.dat, mSeqD, mArgs, vals, mSl, mPart, mgSeq, setAll, D.items, mCall, give, mPut, mApp, mPop, mIns, ownL, mFor, miSeq, miRange, mAndV, mOrV, mNotV, D.bool, D.tru, mKGet, mKIn, mCallV, mRaise, mTry, mHands, mAny, mJoin, mLc, oAdd, oSub, oMul, oDiv, oMod, oPow, oNeg, oCmp, oIx, oSl, oLen, oList, oTuple, oStr, oInt, oMax, oMin, oIn, List.getElem?_cons_zero, List.getElem?_cons_succ, List.getElem?_nil, List.set_cons_zero, List.set_cons_succ, List.length_cons, List.length_nil, List.cons_append, List.nil_append, List.append_nil, List.replicate, List.map_cons, List.map_nil, Option.map_some, Option.map_none, Option.bind_some, Option.bind_none, if_true, if_false, reduceIte, ↓reduceIte, Nat.reduceAdd, Nat.reduceSub, Nat.reduceLeDiff, Nat.reduceLT, Nat.reduceEqDiff, Int.reduceLT, Int.reduceLE, Bool.not_true, Bool.not_false, Bool.false_eq_true, sz0, sz1, sz2, sz3, sz4, sz5, sz6, sz7, sz8, sz9, sz10, sz11, sz12, sz13, sz14, sz15, oEq_str, oEq_int, oNe_str, oNe_int, decide_false, decide_true, and_self, n_num_text, n_num_add, n_num_mul, n_num_less, n_num_join, n_num_long, n_num_show, n_num_swap, n_num_drop, n_num_copy, n_num_e, n_num_empty, n_num_kind, n_text_num, n_text_add, n_text_mul, n_text_less, n_text_join, n_text_long, n_text_show, n_text_swap, n_text_drop, n_text_copy, n_text_e, n_text_empty, n_text_kind, n_add_num, n_add_text, n_add_mul, n_add_less, n_add_join, n_add_long, n_add_show, n_add_swap, n_add_drop, n_add_copy, n_add_e, n_add_empty, n_add_kind, n_mul_num, n_mul_text, n_mul_add, n_mul_less, n_mul_join, n_mul_long, n_mul_show, n_mul_swap, n_mul_drop, n_mul_copy, n_mul_e, n_mul_empty, n_mul_kind, n_less_num, n_less_text, n_less_add, n_less_mul, n_less_join, n_less_long, n_less_show, n_less_swap, n_less_drop, n_less_copy, n_less_e, n_less_empty, n_less_kind, n_join_num, n_join_text, n_join_add, n_join_mul, n_join_less, n_join_long, n_join_show, n_join_swap, n_join_drop, n_join_copy, n_join_e, n_join_empty, n_join_kind, n_long_num, n_long_text, n_long_add, n_long_mul, n_long_less, n_long_join, n_long_show, n_long_swap, n_long_drop, n_long_copy, n_long_e, n_long_empty, n_long_kind, n_show_num, n_show_text, n_show_add, n_show_mul, n_show_less, n_show_join, n_show_long, n_show_swap, n_show_drop, n_show_copy, n_show_e, n_show_empty, n_show_kind, n_swap_num, n_swap_text, n_swap_add, n_swap_mul, n_swap_less, n_swap_join, n_swap_long, n_swap_show, n_swap_drop, n_swap_copy, n_swap_e, n_swap_empty, n_swap_kind, n_drop_num, n_drop_text, n_drop_add, n_drop_mul, n_drop_less, n_drop_join, n_drop_long, n_drop_show, n_drop_swap, n_drop_copy, n_drop_e, n_drop_empty, n_drop_kind, n_copy_num, n_copy_text, n_copy_add, n_copy_mul, n_copy_less, n_copy_join, n_copy_long, n_copy_show, n_copy_swap, n_copy_drop, n_copy_e, n_copy_empty, n_copy_kind, n_e_num, n_e_text, n_e_add, n_e_mul, n_e_less, n_e_join, n_e_long, n_e_show, n_e_swap, n_e_drop, n_e_copy, n_e_empty, n_e_kind, n_empty_num, n_empty_text, n_empty_add, n_empty_mul, n_empty_less, n_empty_join, n_empty_long, n_empty_show, n_empty_swap, n_empty_drop, n_empty_copy, n_empty_e, n_empty_kind, n_kind_num, n_kind_text, n_kind_add, n_kind_mul, n_kind_less, n_kind_join, n_kind_long, n_kind_show, n_kind_swap, n_kind_drop, n_kind_copy, n_kind_e, n_kind_empty, lW_num, lW_text, lW_add, lW_mul, lW_less, lW_join, lW_long, lW_show, lW_swap, lW_drop, lW_copy, lW_if, lT_num, lT_text, lT_add, lT_mul, lT_less, lT_join, lT_long, lT_show, lT_swap, lT_drop, lT_copy, lT_if, lP_num, lP_text, lP_add, lP_mul, lP_less, lP_join, lP_long, lP_show, lP_swap, lP_drop, lP_copy, lF_added, lF_multiplied, lF_compared, lF_joined, lF_measured, lF_shown, lF_swapped, lF_dropped, lF_copied, lI_num, lI_text, lI_add, lI_mul, lI_less, lI_join, lI_long, lI_show, lI_swap, lI_drop, lI_copy, lH_Empty_Empty, lH_WrongKind_Empty, lA_Empty, lH_Empty_WrongKind, lH_WrongKind_WrongKind, lA_WrongKind, e0, hW, hc, hl, Option.isSome_some, e]
end LW

namespace LW
open PySem L2 TL
/-- what a row puts for what it takes -/
inductive Put : D → List D → List D → Prop where
  | num (i : Int) : Put (.tup [.str "num", .int i]) [] [.int i]
  | text (s : Str) : Put (.tup [.str "text", .str s]) [] [.str s]
  | copy (n : Int) (x : D) (xs : List D) (h : (x :: xs).length ≤ 100) : Put (.tup [.str "copy", .int n]) (x :: xs) (x :: xs ++ [x])
  | add (a b : Int) : Put (.tup [.str "add"]) [.int a, .int b] [.int ((a + b) % 1000000000)]
  | mul (a b : Int) (h : CMul a b) : Put (.tup [.str "mul"]) [.int a, .int b] [.int (a * b % 1000000000)]
  | less (a b : Int) : Put (.tup [.str "less"]) [.int a, .int b] [.int (if a < b then 1 else 0)]
  | join (a b : Str) (ha : a.length ≤ 60) (hb : b.length ≤ 60) : Put (.tup [.str "join"]) [.str a, .str b] [.str (cutS (a ++ b) none (some 60))]
  | swap (a b : D) : Put (.tup [.str "swap"]) [a, b] [b, a]
  | long (a : Str) (ha : a.length ≤ 60) : Put (.tup [.str "long"]) [.str a] [.int a.length]
  | shw (a : Int) (h0 : 0 ≤ a) (h1 : a < 1000000000) : Put (.tup [.str "show"]) [.int a] [.str (Str.ofString (toString a))]
  | drop (a : D) : Put (.tup [.str "drop"]) [a] []
theorem put_ok {r : D} {tk out : List D} (h : Put r tk out) : F_put_by [.val r, .val (.lst tk)] = .ret (.ow (.own out)) [.val r, .val (.lst tk)] := by
  cases h with
  | num i => kernel_rfl
  | text i => kernel_rfl
  | copy n x xs h =>
    have e0 : atI [D.str (Str.ofString "copy"), D.int n] 0 = some (.str "copy") := rfl
    have e1 : cut (x :: xs) none (some 1) = [x] := by rw [cut_to _ _ (by decide)]; simp
    have hl : (xs.length + 1) + 1 ≤ sizeLine := le_sz (by simp at h; omega)
    unfold F_put_by M_put_by
    simp only [mkF, pad, outs, mSeq, mAsg, mAsgG, mExpr, mRet, mRetV, mRetN, mIfS, mIf, mNx, mTest, tmNot, tmAnd, tmOr, mVar, mC, mB, TL.m1, TL.m2, opt, use, R.fix, frz, tak, Cell.dat, mSeqD, mArgs, vals, mSl, mPart, mgSeq, setAll, D.items, mCall, give, mPut, mApp, mPop, mIns, ownL, mFor, miSeq, miRange, mAndV, mOrV, mNotV, D.bool, D.tru, mKGet, mKIn, mCallV, mRaise, mTry, mHands, mAny, mJoin, mLc, oAdd, oSub, oMul, oDiv, oMod, oPow, oNeg, oCmp, oIx, oSl, oLen, oList, oTuple, oStr, oInt, oMax, oMin, oIn, List.getElem?_cons_zero, List.getElem?_cons_succ, List.getElem?_nil, List.set_cons_zero, List.set_cons_succ, List.length_cons, List.length_nil, List.cons_append, List.nil_append, List.append_nil, List.replicate, List.map_cons, List.map_nil, Option.map_some, Option.map_none, Option.bind_some, Option.bind_none, if_true, if_false, reduceIte, ↓reduceIte, Nat.reduceAdd, Nat.reduceSub, Nat.reduceLeDiff, Nat.reduceLT, Nat.reduceEqDiff, Int.reduceLT, Int.reduceLE, Bool.not_true, Bool.not_false, Bool.false_eq_true, sz0, sz1, sz2, sz3, sz4, sz5, sz6, sz7, sz8, sz9, sz10, sz11, sz12, sz13, sz14, sz15, oEq_str, oEq_int, oNe_str, oNe_int, decide_false, decide_true, and_self, n_num_text, n_num_add, n_num_mul, n_num_less, n_num_join, n_num_long, n_num_show, n_num_swap, n_num_drop, n_num_copy, n_num_e, n_num_empty, n_num_kind, n_text_num, n_text_add, n_text_mul, n_text_less, n_text_join, n_text_long, n_text_show, n_text_swap, n_text_drop, n_text_copy, n_text_e, n_text_empty, n_text_kind, n_add_num, n_add_text, n_add_mul, n_add_less, n_add_join, n_add_long, n_add_show, n_add_swap, n_add_drop, n_add_copy, n_add_e, n_add_empty, n_add_kind, n_mul_num, n_mul_text, n_mul_add, n_mul_less, n_mul_join, n_mul_long, n_mul_show, n_mul_swap, n_mul_drop, n_mul_copy, n_mul_e, n_mul_empty, n_mul_kind, n_less_num, n_less_text, n_less_add, n_less_mul, n_less_join, n_less_long, n_less_show, n_less_swap, n_less_drop, n_less_copy, n_less_e, n_less_empty, n_less_kind, n_join_num, n_join_text, n_join_add, n_join_mul, n_join_less, n_join_long, n_join_show, n_join_swap, n_join_drop, n_join_copy, n_join_e, n_join_empty, n_join_kind, n_long_num, n_long_text, n_long_add, n_long_mul, n_long_less, n_long_join, n_long_show, n_long_swap, n_long_drop, n_long_copy, n_long_e, n_long_empty, n_long_kind, n_show_num, n_show_text, n_show_add, n_show_mul, n_show_less, n_show_join, n_show_long, n_show_swap, n_show_drop, n_show_copy, n_show_e, n_show_empty, n_show_kind, n_swap_num, n_swap_text, n_swap_add, n_swap_mul, n_swap_less, n_swap_join, n_swap_long, n_swap_show, n_swap_drop, n_swap_copy, n_swap_e, n_swap_empty, n_swap_kind, n_drop_num, n_drop_text, n_drop_add, n_drop_mul, n_drop_less, n_drop_join, n_drop_long, n_drop_show, n_drop_swap, n_drop_copy, n_drop_e, n_drop_empty, n_drop_kind, n_copy_num, n_copy_text, n_copy_add, n_copy_mul, n_copy_less, n_copy_join, n_copy_long, n_copy_show, n_copy_swap, n_copy_drop, n_copy_e, n_copy_empty, n_copy_kind, n_e_num, n_e_text, n_e_add, n_e_mul, n_e_less, n_e_join, n_e_long, n_e_show, n_e_swap, n_e_drop, n_e_copy, n_e_empty, n_e_kind, n_empty_num, n_empty_text, n_empty_add, n_empty_mul, n_empty_less, n_empty_join, n_empty_long, n_empty_show, n_empty_swap, n_empty_drop, n_empty_copy, n_empty_e, n_empty_kind, n_kind_num, n_kind_text, n_kind_add, n_kind_mul, n_kind_less, n_kind_join, n_kind_long, n_kind_show, n_kind_swap, n_kind_drop, n_kind_copy, n_kind_e, n_kind_empty, lW_num, lW_text, lW_add, lW_mul, lW_less, lW_join, lW_long, lW_show, lW_swap, lW_drop, lW_copy, lW_if, lT_num, lT_text, lT_add, lT_mul, lT_less, lT_join, lT_long, lT_show, lT_swap, lT_drop, lT_copy, lT_if, lP_num, lP_text, lP_add, lP_mul, lP_less, lP_join, lP_long, lP_show, lP_swap, lP_drop, lP_copy, lF_added, lF_multiplied, lF_compared, lF_joined, lF_measured, lF_shown, lF_swapped, lF_dropped, lF_copied, lI_num, lI_text, lI_add, lI_mul, lI_less, lI_join, lI_long, lI_show, lI_swap, lI_drop, lI_copy, lH_Empty_Empty, lH_WrongKind_Empty, lA_Empty, lH_Empty_WrongKind, lH_WrongKind_WrongKind, lA_WrongKind, e0]
    unfold F_copied M_copied
    simp only [mkF, pad, outs, mSeq, mAsg, mAsgG, mExpr, mRet, mRetV, mRetN, mIfS, mIf, mNx, mTest, tmNot, tmAnd, tmOr, mVar, mC, mB, TL.m1, TL.m2, opt, use, R.fix, frz, tak, Cell.dat, mSeqD, mArgs, vals, mSl, mPart, mgSeq, setAll, D.items, mCall, give, mPut, mApp, mPop, mIns, ownL, mFor, miSeq, miRange, mAndV, mOrV, mNotV, D.bool, D.tru, mKGet, mKIn, mCallV, mRaise, mTry, mHands, mAny, mJoin, mLc, oAdd, oSub, oMul, oDiv, oMod, oPow, oNeg, oCmp, oIx, oSl, oLen, oList, oTuple, oStr, oInt, oMax, oMin, oIn, List.getElem?_cons_zero, List.getElem?_cons_succ, List.getElem?_nil, List.set_cons_zero, List.set_cons_succ, List.length_cons, List.length_nil, List.cons_append, List.nil_append, List.append_nil, List.replicate, List.map_cons, List.map_nil, Option.map_some, Option.map_none, Option.bind_some, Option.bind_none, if_true, if_false, reduceIte, ↓reduceIte, Nat.reduceAdd, Nat.reduceSub, Nat.reduceLeDiff, Nat.reduceLT, Nat.reduceEqDiff, Int.reduceLT, Int.reduceLE, Bool.not_true, Bool.not_false, Bool.false_eq_true, sz0, sz1, sz2, sz3, sz4, sz5, sz6, sz7, sz8, sz9, sz10, sz11, sz12, sz13, sz14, sz15, oEq_str, oEq_int, oNe_str, oNe_int, decide_false, decide_true, and_self, n_num_text, n_num_add, n_num_mul, n_num_less, n_num_join, n_num_long, n_num_show, n_num_swap, n_num_drop, n_num_copy, n_num_e, n_num_empty, n_num_kind, n_text_num, n_text_add, n_text_mul, n_text_less, n_text_join, n_text_long, n_text_show, n_text_swap, n_text_drop, n_text_copy, n_text_e, n_text_empty, n_text_kind, n_add_num, n_add_text, n_add_mul, n_add_less, n_add_join, n_add_long, n_add_show, n_add_swap, n_add_drop, n_add_copy, n_add_e, n_add_empty, n_add_kind, n_mul_num, n_mul_text, n_mul_add, n_mul_less, n_mul_join, n_mul_long, n_mul_show, n_mul_swap, n_mul_drop, n_mul_copy, n_mul_e, n_mul_empty, n_mul_kind, n_less_num, n_less_text, n_less_add, n_less_mul, n_less_join, n_less_long, n_less_show, n_less_swap, n_less_drop, n_less_copy, n_less_e, n_less_empty, n_less_kind, n_join_num, n_join_text, n_join_add, n_join_mul, n_join_less, n_join_long, n_join_show, n_join_swap, n_join_drop, n_join_copy, n_join_e, n_join_empty, n_join_kind, n_long_num, n_long_text, n_long_add, n_long_mul, n_long_less, n_long_join, n_long_show, n_long_swap, n_long_drop, n_long_copy, n_long_e, n_long_empty, n_long_kind, n_show_num, n_show_text, n_show_add, n_show_mul, n_show_less, n_show_join, n_show_long, n_show_swap, n_show_drop, n_show_copy, n_show_e, n_show_empty, n_show_kind, n_swap_num, n_swap_text, n_swap_add, n_swap_mul, n_swap_less, n_swap_join, n_swap_long, n_swap_show, n_swap_drop, n_swap_copy, n_swap_e, n_swap_empty, n_swap_kind, n_drop_num, n_drop_text, n_drop_add, n_drop_mul, n_drop_less, n_drop_join, n_drop_long, n_drop_show, n_drop_swap, n_drop_copy, n_drop_e, n_drop_empty, n_drop_kind, n_copy_num, n_copy_text, n_copy_add, n_copy_mul, n_copy_less, n_copy_join, n_copy_long, n_copy_show, n_copy_swap, n_copy_drop, n_copy_e, n_copy_empty, n_copy_kind, n_e_num, n_e_text, n_e_add, n_e_mul, n_e_less, n_e_join, n_e_long, n_e_show, n_e_swap, n_e_drop, n_e_copy, n_e_empty, n_e_kind, n_empty_num, n_empty_text, n_empty_add, n_empty_mul, n_empty_less, n_empty_join, n_empty_long, n_empty_show, n_empty_swap, n_empty_drop, n_empty_copy, n_empty_e, n_empty_kind, n_kind_num, n_kind_text, n_kind_add, n_kind_mul, n_kind_less, n_kind_join, n_kind_long, n_kind_show, n_kind_swap, n_kind_drop, n_kind_copy, n_kind_e, n_kind_empty, lW_num, lW_text, lW_add, lW_mul, lW_less, lW_join, lW_long, lW_show, lW_swap, lW_drop, lW_copy, lW_if, lT_num, lT_text, lT_add, lT_mul, lT_less, lT_join, lT_long, lT_show, lT_swap, lT_drop, lT_copy, lT_if, lP_num, lP_text, lP_add, lP_mul, lP_less, lP_join, lP_long, lP_show, lP_swap, lP_drop, lP_copy, lF_added, lF_multiplied, lF_compared, lF_joined, lF_measured, lF_shown, lF_swapped, lF_dropped, lF_copied, lI_num, lI_text, lI_add, lI_mul, lI_less, lI_join, lI_long, lI_show, lI_swap, lI_drop, lI_copy, lH_Empty_Empty, lH_WrongKind_Empty, lA_Empty, lH_Empty_WrongKind, lH_WrongKind_WrongKind, lA_WrongKind, e1, hl]
  | add a b => kernel_rfl
  | mul a b h =>
    have e0 : atI [D.str (Str.ofString "mul")] 0 = some (.str "mul") := rfl
    have z : (0 : Int) < 1000000000 := by decide
    unfold F_put_by M_put_by
    simp only [mkF, pad, outs, mSeq, mAsg, mAsgG, mExpr, mRet, mRetV, mRetN, mIfS, mIf, mNx, mTest, tmNot, tmAnd, tmOr, mVar, mC, mB, TL.m1, TL.m2, opt, use, R.fix, frz, tak, Cell.dat, mSeqD, mArgs, vals, mSl, mPart, mgSeq, setAll, D.items, mCall, give, mPut, mApp, mPop, mIns, ownL, mFor, miSeq, miRange, mAndV, mOrV, mNotV, D.bool, D.tru, mKGet, mKIn, mCallV, mRaise, mTry, mHands, mAny, mJoin, mLc, oAdd, oSub, oMul, oDiv, oMod, oPow, oNeg, oCmp, oIx, oSl, oLen, oList, oTuple, oStr, oInt, oMax, oMin, oIn, List.getElem?_cons_zero, List.getElem?_cons_succ, List.getElem?_nil, List.set_cons_zero, List.set_cons_succ, List.length_cons, List.length_nil, List.cons_append, List.nil_append, List.append_nil, List.replicate, List.map_cons, List.map_nil, Option.map_some, Option.map_none, Option.bind_some, Option.bind_none, if_true, if_false, reduceIte, ↓reduceIte, Nat.reduceAdd, Nat.reduceSub, Nat.reduceLeDiff, Nat.reduceLT, Nat.reduceEqDiff, Int.reduceLT, Int.reduceLE, Bool.not_true, Bool.not_false, Bool.false_eq_true, sz0, sz1, sz2, sz3, sz4, sz5, sz6, sz7, sz8, sz9, sz10, sz11, sz12, sz13, sz14, sz15, oEq_str, oEq_int, oNe_str, oNe_int, decide_false, decide_true, and_self, n_num_text, n_num_add, n_num_mul, n_num_less, n_num_join, n_num_long, n_num_show, n_num_swap, n_num_drop, n_num_copy, n_num_e, n_num_empty, n_num_kind, n_text_num, n_text_add, n_text_mul, n_text_less, n_text_join, n_text_long, n_text_show, n_text_swap, n_text_drop, n_text_copy, n_text_e, n_text_empty, n_text_kind, n_add_num, n_add_text, n_add_mul, n_add_less, n_add_join, n_add_long, n_add_show, n_add_swap, n_add_drop, n_add_copy, n_add_e, n_add_empty, n_add_kind, n_mul_num, n_mul_text, n_mul_add, n_mul_less, n_mul_join, n_mul_long, n_mul_show, n_mul_swap, n_mul_drop, n_mul_copy, n_mul_e, n_mul_empty, n_mul_kind, n_less_num, n_less_text, n_less_add, n_less_mul, n_less_join, n_less_long, n_less_show, n_less_swap, n_less_drop, n_less_copy, n_less_e, n_less_empty, n_less_kind, n_join_num, n_join_text, n_join_add, n_join_mul, n_join_less, n_join_long, n_join_show, n_join_swap, n_join_drop, n_join_copy, n_join_e, n_join_empty, n_join_kind, n_long_num, n_long_text, n_long_add, n_long_mul, n_long_less, n_long_join, n_long_show, n_long_swap, n_long_drop, n_long_copy, n_long_e, n_long_empty, n_long_kind, n_show_num, n_show_text, n_show_add, n_show_mul, n_show_less, n_show_join, n_show_long, n_show_swap, n_show_drop, n_show_copy, n_show_e, n_show_empty, n_show_kind, n_swap_num, n_swap_text, n_swap_add, n_swap_mul, n_swap_less, n_swap_join, n_swap_long, n_swap_show, n_swap_drop, n_swap_copy, n_swap_e, n_swap_empty, n_swap_kind, n_drop_num, n_drop_text, n_drop_add, n_drop_mul, n_drop_less, n_drop_join, n_drop_long, n_drop_show, n_drop_swap, n_drop_copy, n_drop_e, n_drop_empty, n_drop_kind, n_copy_num, n_copy_text, n_copy_add, n_copy_mul, n_copy_less, n_copy_join, n_copy_long, n_copy_show, n_copy_swap, n_copy_drop, n_copy_e, n_copy_empty, n_copy_kind, n_e_num, n_e_text, n_e_add, n_e_mul, n_e_less, n_e_join, n_e_long, n_e_show, n_e_swap, n_e_drop, n_e_copy, n_e_empty, n_e_kind, n_empty_num, n_empty_text, n_empty_add, n_empty_mul, n_empty_less, n_empty_join, n_empty_long, n_empty_show, n_empty_swap, n_empty_drop, n_empty_copy, n_empty_e, n_empty_kind, n_kind_num, n_kind_text, n_kind_add, n_kind_mul, n_kind_less, n_kind_join, n_kind_long, n_kind_show, n_kind_swap, n_kind_drop, n_kind_copy, n_kind_e, n_kind_empty, lW_num, lW_text, lW_add, lW_mul, lW_less, lW_join, lW_long, lW_show, lW_swap, lW_drop, lW_copy, lW_if, lT_num, lT_text, lT_add, lT_mul, lT_less, lT_join, lT_long, lT_show, lT_swap, lT_drop, lT_copy, lT_if, lP_num, lP_text, lP_add, lP_mul, lP_less, lP_join, lP_long, lP_show, lP_swap, lP_drop, lP_copy, lF_added, lF_multiplied, lF_compared, lF_joined, lF_measured, lF_shown, lF_swapped, lF_dropped, lF_copied, lI_num, lI_text, lI_add, lI_mul, lI_less, lI_join, lI_long, lI_show, lI_swap, lI_drop, lI_copy, lH_Empty_Empty, lH_WrongKind_Empty, lA_Empty, lH_Empty_WrongKind, lH_WrongKind_WrongKind, lA_WrongKind, e0]
    unfold F_multiplied M_multiplied
    simp only [mkF, pad, outs, mSeq, mAsg, mAsgG, mExpr, mRet, mRetV, mRetN, mIfS, mIf, mNx, mTest, tmNot, tmAnd, tmOr, mVar, mC, mB, TL.m1, TL.m2, opt, use, R.fix, frz, tak, Cell.dat, mSeqD, mArgs, vals, mSl, mPart, mgSeq, setAll, D.items, mCall, give, mPut, mApp, mPop, mIns, ownL, mFor, miSeq, miRange, mAndV, mOrV, mNotV, D.bool, D.tru, mKGet, mKIn, mCallV, mRaise, mTry, mHands, mAny, mJoin, mLc, oAdd, oSub, oMul, oDiv, oMod, oPow, oNeg, oCmp, oIx, oSl, oLen, oList, oTuple, oStr, oInt, oMax, oMin, oIn, List.getElem?_cons_zero, List.getElem?_cons_succ, List.getElem?_nil, List.set_cons_zero, List.set_cons_succ, List.length_cons, List.length_nil, List.cons_append, List.nil_append, List.append_nil, List.replicate, List.map_cons, List.map_nil, Option.map_some, Option.map_none, Option.bind_some, Option.bind_none, if_true, if_false, reduceIte, ↓reduceIte, Nat.reduceAdd, Nat.reduceSub, Nat.reduceLeDiff, Nat.reduceLT, Nat.reduceEqDiff, Int.reduceLT, Int.reduceLE, Bool.not_true, Bool.not_false, Bool.false_eq_true, sz0, sz1, sz2, sz3, sz4, sz5, sz6, sz7, sz8, sz9, sz10, sz11, sz12, sz13, sz14, sz15, oEq_str, oEq_int, oNe_str, oNe_int, decide_false, decide_true, and_self, n_num_text, n_num_add, n_num_mul, n_num_less, n_num_join, n_num_long, n_num_show, n_num_swap, n_num_drop, n_num_copy, n_num_e, n_num_empty, n_num_kind, n_text_num, n_text_add, n_text_mul, n_text_less, n_text_join, n_text_long, n_text_show, n_text_swap, n_text_drop, n_text_copy, n_text_e, n_text_empty, n_text_kind, n_add_num, n_add_text, n_add_mul, n_add_less, n_add_join, n_add_long, n_add_show, n_add_swap, n_add_drop, n_add_copy, n_add_e, n_add_empty, n_add_kind, n_mul_num, n_mul_text, n_mul_add, n_mul_less, n_mul_join, n_mul_long, n_mul_show, n_mul_swap, n_mul_drop, n_mul_copy, n_mul_e, n_mul_empty, n_mul_kind, n_less_num, n_less_text, n_less_add, n_less_mul, n_less_join, n_less_long, n_less_show, n_less_swap, n_less_drop, n_less_copy, n_less_e, n_less_empty, n_less_kind, n_join_num, n_join_text, n_join_add, n_join_mul, n_join_less, n_join_long, n_join_show, n_join_swap, n_join_drop, n_join_copy, n_join_e, n_join_empty, n_join_kind, n_long_num, n_long_text, n_long_add, n_long_mul, n_long_less, n_long_join, n_long_show, n_long_swap, n_long_drop, n_long_copy, n_long_e, n_long_empty, n_long_kind, n_show_num, n_show_text, n_show_add, n_show_mul, n_show_less, n_show_join, n_show_long, n_show_swap, n_show_drop, n_show_copy, n_show_e, n_show_empty, n_show_kind, n_swap_num, n_swap_text, n_swap_add, n_swap_mul, n_swap_less, n_swap_join, n_swap_long, n_swap_show, n_swap_drop, n_swap_copy, n_swap_e, n_swap_empty, n_swap_kind, n_drop_num, n_drop_text, n_drop_add, n_drop_mul, n_drop_less, n_drop_join, n_drop_long, n_drop_show, n_drop_swap, n_drop_copy, n_drop_e, n_drop_empty, n_drop_kind, n_copy_num, n_copy_text, n_copy_add, n_copy_mul, n_copy_less, n_copy_join, n_copy_long, n_copy_show, n_copy_swap, n_copy_drop, n_copy_e, n_copy_empty, n_copy_kind, n_e_num, n_e_text, n_e_add, n_e_mul, n_e_less, n_e_join, n_e_long, n_e_show, n_e_swap, n_e_drop, n_e_copy, n_e_empty, n_e_kind, n_empty_num, n_empty_text, n_empty_add, n_empty_mul, n_empty_less, n_empty_join, n_empty_long, n_empty_show, n_empty_swap, n_empty_drop, n_empty_copy, n_empty_e, n_empty_kind, n_kind_num, n_kind_text, n_kind_add, n_kind_mul, n_kind_less, n_kind_join, n_kind_long, n_kind_show, n_kind_swap, n_kind_drop, n_kind_copy, n_kind_e, n_kind_empty, lW_num, lW_text, lW_add, lW_mul, lW_less, lW_join, lW_long, lW_show, lW_swap, lW_drop, lW_copy, lW_if, lT_num, lT_text, lT_add, lT_mul, lT_less, lT_join, lT_long, lT_show, lT_swap, lT_drop, lT_copy, lT_if, lP_num, lP_text, lP_add, lP_mul, lP_less, lP_join, lP_long, lP_show, lP_swap, lP_drop, lP_copy, lF_added, lF_multiplied, lF_compared, lF_joined, lF_measured, lF_shown, lF_swapped, lF_dropped, lF_copied, lI_num, lI_text, lI_add, lI_mul, lI_less, lI_join, lI_long, lI_show, lI_swap, lI_drop, lI_copy, lH_Empty_Empty, lH_WrongKind_Empty, lA_Empty, lH_Empty_WrongKind, lH_WrongKind_WrongKind, lA_WrongKind, h, z]
  | less a b =>
    have e0 : atI [D.str (Str.ofString "less")] 0 = some (.str "less") := rfl
    by_cases hc : a < b
    all_goals
      unfold F_put_by M_put_by
      simp only [mkF, pad, outs, mSeq, mAsg, mAsgG, mExpr, mRet, mRetV, mRetN, mIfS, mIf, mNx, mTest, tmNot, tmAnd, tmOr, mVar, mC, mB, TL.m1, TL.m2, opt, use, R.fix, frz, tak, Cell.dat, mSeqD, mArgs, vals, mSl, mPart, mgSeq, setAll, D.items, mCall, give, mPut, mApp, mPop, mIns, ownL, mFor, miSeq, miRange, mAndV, mOrV, mNotV, D.bool, D.tru, mKGet, mKIn, mCallV, mRaise, mTry, mHands, mAny, mJoin, mLc, oAdd, oSub, oMul, oDiv, oMod, oPow, oNeg, oCmp, oIx, oSl, oLen, oList, oTuple, oStr, oInt, oMax, oMin, oIn, List.getElem?_cons_zero, List.getElem?_cons_succ, List.getElem?_nil, List.set_cons_zero, List.set_cons_succ, List.length_cons, List.length_nil, List.cons_append, List.nil_append, List.append_nil, List.replicate, List.map_cons, List.map_nil, Option.map_some, Option.map_none, Option.bind_some, Option.bind_none, if_true, if_false, reduceIte, ↓reduceIte, Nat.reduceAdd, Nat.reduceSub, Nat.reduceLeDiff, Nat.reduceLT, Nat.reduceEqDiff, Int.reduceLT, Int.reduceLE, Bool.not_true, Bool.not_false, Bool.false_eq_true, sz0, sz1, sz2, sz3, sz4, sz5, sz6, sz7, sz8, sz9, sz10, sz11, sz12, sz13, sz14, sz15, oEq_str, oEq_int, oNe_str, oNe_int, decide_false, decide_true, and_self, n_num_text, n_num_add, n_num_mul, n_num_less, n_num_join, n_num_long, n_num_show, n_num_swap, n_num_drop, n_num_copy, n_num_e, n_num_empty, n_num_kind, n_text_num, n_text_add, n_text_mul, n_text_less, n_text_join, n_text_long, n_text_show, n_text_swap, n_text_drop, n_text_copy, n_text_e, n_text_empty, n_text_kind, n_add_num, n_add_text, n_add_mul, n_add_less, n_add_join, n_add_long, n_add_show, n_add_swap, n_add_drop, n_add_copy, n_add_e, n_add_empty, n_add_kind, n_mul_num, n_mul_text, n_mul_add, n_mul_less, n_mul_join, n_mul_long, n_mul_show, n_mul_swap, n_mul_drop, n_mul_copy, n_mul_e, n_mul_empty, n_mul_kind, n_less_num, n_less_text, n_less_add, n_less_mul, n_less_join, n_less_long, n_less_show, n_less_swap, n_less_drop, n_less_copy, n_less_e, n_less_empty, n_less_kind, n_join_num, n_join_text, n_join_add, n_join_mul, n_join_less, n_join_long, n_join_show, n_join_swap, n_join_drop, n_join_copy, n_join_e, n_join_empty, n_join_kind, n_long_num, n_long_text, n_long_add, n_long_mul, n_long_less, n_long_join, n_long_show, n_long_swap, n_long_drop, n_long_copy, n_long_e, n_long_empty, n_long_kind, n_show_num, n_show_text, n_show_add, n_show_mul, n_show_less, n_show_join, n_show_long, n_show_swap, n_show_drop, n_show_copy, n_show_e, n_show_empty, n_show_kind, n_swap_num, n_swap_text, n_swap_add, n_swap_mul, n_swap_less, n_swap_join, n_swap_long, n_swap_show, n_swap_drop, n_swap_copy, n_swap_e, n_swap_empty, n_swap_kind, n_drop_num, n_drop_text, n_drop_add, n_drop_mul, n_drop_less, n_drop_join, n_drop_long, n_drop_show, n_drop_swap, n_drop_copy, n_drop_e, n_drop_empty, n_drop_kind, n_copy_num, n_copy_text, n_copy_add, n_copy_mul, n_copy_less, n_copy_join, n_copy_long, n_copy_show, n_copy_swap, n_copy_drop, n_copy_e, n_copy_empty, n_copy_kind, n_e_num, n_e_text, n_e_add, n_e_mul, n_e_less, n_e_join, n_e_long, n_e_show, n_e_swap, n_e_drop, n_e_copy, n_e_empty, n_e_kind, n_empty_num, n_empty_text, n_empty_add, n_empty_mul, n_empty_less, n_empty_join, n_empty_long, n_empty_show, n_empty_swap, n_empty_drop, n_empty_copy, n_empty_e, n_empty_kind, n_kind_num, n_kind_text, n_kind_add, n_kind_mul, n_kind_less, n_kind_join, n_kind_long, n_kind_show, n_kind_swap, n_kind_drop, n_kind_copy, n_kind_e, n_kind_empty, lW_num, lW_text, lW_add, lW_mul, lW_less, lW_join, lW_long, lW_show, lW_swap, lW_drop, lW_copy, lW_if, lT_num, lT_text, lT_add, lT_mul, lT_less, lT_join, lT_long, lT_show, lT_swap, lT_drop, lT_copy, lT_if, lP_num, lP_text, lP_add, lP_mul, lP_less, lP_join, lP_long, lP_show, lP_swap, lP_drop, lP_copy, lF_added, lF_multiplied, lF_compared, lF_joined, lF_measured, lF_shown, lF_swapped, lF_dropped, lF_copied, lI_num, lI_text, lI_add, lI_mul, lI_less, lI_join, lI_long, lI_show, lI_swap, lI_drop, lI_copy, lH_Empty_Empty, lH_WrongKind_Empty, lA_Empty, lH_Empty_WrongKind, lH_WrongKind_WrongKind, lA_WrongKind, e0]
      unfold F_compared M_compared
      simp only [mkF, pad, outs, mSeq, mAsg, mAsgG, mExpr, mRet, mRetV, mRetN, mIfS, mIf, mNx, mTest, tmNot, tmAnd, tmOr, mVar, mC, mB, TL.m1, TL.m2, opt, use, R.fix, frz, tak, Cell.dat, mSeqD, mArgs, vals, mSl, mPart, mgSeq, setAll, D.items, mCall, give, mPut, mApp, mPop, mIns, ownL, mFor, miSeq, miRange, mAndV, mOrV, mNotV, D.bool, D.tru, mKGet, mKIn, mCallV, mRaise, mTry, mHands, mAny, mJoin, mLc, oAdd, oSub, oMul, oDiv, oMod, oPow, oNeg, oCmp, oIx, oSl, oLen, oList, oTuple, oStr, oInt, oMax, oMin, oIn, List.getElem?_cons_zero, List.getElem?_cons_succ, List.getElem?_nil, List.set_cons_zero, List.set_cons_succ, List.length_cons, List.length_nil, List.cons_append, List.nil_append, List.append_nil, List.replicate, List.map_cons, List.map_nil, Option.map_some, Option.map_none, Option.bind_some, Option.bind_none, if_true, if_false, reduceIte, ↓reduceIte, Nat.reduceAdd, Nat.reduceSub, Nat.reduceLeDiff, Nat.reduceLT, Nat.reduceEqDiff, Int.reduceLT, Int.reduceLE, Bool.not_true, Bool.not_false, Bool.false_eq_true, sz0, sz1, sz2, sz3, sz4, sz5, sz6, sz7, sz8, sz9, sz10, sz11, sz12, sz13, sz14, sz15, oEq_str, oEq_int, oNe_str, oNe_int, decide_false, decide_true, and_self, n_num_text, n_num_add, n_num_mul, n_num_less, n_num_join, n_num_long, n_num_show, n_num_swap, n_num_drop, n_num_copy, n_num_e, n_num_empty, n_num_kind, n_text_num, n_text_add, n_text_mul, n_text_less, n_text_join, n_text_long, n_text_show, n_text_swap, n_text_drop, n_text_copy, n_text_e, n_text_empty, n_text_kind, n_add_num, n_add_text, n_add_mul, n_add_less, n_add_join, n_add_long, n_add_show, n_add_swap, n_add_drop, n_add_copy, n_add_e, n_add_empty, n_add_kind, n_mul_num, n_mul_text, n_mul_add, n_mul_less, n_mul_join, n_mul_long, n_mul_show, n_mul_swap, n_mul_drop, n_mul_copy, n_mul_e, n_mul_empty, n_mul_kind, n_less_num, n_less_text, n_less_add, n_less_mul, n_less_join, n_less_long, n_less_show, n_less_swap, n_less_drop, n_less_copy, n_less_e, n_less_empty, n_less_kind, n_join_num, n_join_text, n_join_add, n_join_mul, n_join_less, n_join_long, n_join_show, n_join_swap, n_join_drop, n_join_copy, n_join_e, n_join_empty, n_join_kind, n_long_num, n_long_text, n_long_add, n_long_mul, n_long_less, n_long_join, n_long_show, n_long_swap, n_long_drop, n_long_copy, n_long_e, n_long_empty, n_long_kind, n_show_num, n_show_text, n_show_add, n_show_mul, n_show_less, n_show_join, n_show_long, n_show_swap, n_show_drop, n_show_copy, n_show_e, n_show_empty, n_show_kind, n_swap_num, n_swap_text, n_swap_add, n_swap_mul, n_swap_less, n_swap_join, n_swap_long, n_swap_show, n_swap_drop, n_swap_copy, n_swap_e, n_swap_empty, n_swap_kind, n_drop_num, n_drop_text, n_drop_add, n_drop_mul, n_drop_less, n_drop_join, n_drop_long, n_drop_show, n_drop_swap, n_drop_copy, n_drop_e, n_drop_empty, n_drop_kind, n_copy_num, n_copy_text, n_copy_add, n_copy_mul, n_copy_less, n_copy_join, n_copy_long, n_copy_show, n_copy_swap, n_copy_drop, n_copy_e, n_copy_empty, n_copy_kind, n_e_num, n_e_text, n_e_add, n_e_mul, n_e_less, n_e_join, n_e_long, n_e_show, n_e_swap, n_e_drop, n_e_copy, n_e_empty, n_e_kind, n_empty_num, n_empty_text, n_empty_add, n_empty_mul, n_empty_less, n_empty_join, n_empty_long, n_empty_show, n_empty_swap, n_empty_drop, n_empty_copy, n_empty_e, n_empty_kind, n_kind_num, n_kind_text, n_kind_add, n_kind_mul, n_kind_less, n_kind_join, n_kind_long, n_kind_show, n_kind_swap, n_kind_drop, n_kind_copy, n_kind_e, n_kind_empty, lW_num, lW_text, lW_add, lW_mul, lW_less, lW_join, lW_long, lW_show, lW_swap, lW_drop, lW_copy, lW_if, lT_num, lT_text, lT_add, lT_mul, lT_less, lT_join, lT_long, lT_show, lT_swap, lT_drop, lT_copy, lT_if, lP_num, lP_text, lP_add, lP_mul, lP_less, lP_join, lP_long, lP_show, lP_swap, lP_drop, lP_copy, lF_added, lF_multiplied, lF_compared, lF_joined, lF_measured, lF_shown, lF_swapped, lF_dropped, lF_copied, lI_num, lI_text, lI_add, lI_mul, lI_less, lI_join, lI_long, lI_show, lI_swap, lI_drop, lI_copy, lH_Empty_Empty, lH_WrongKind_Empty, lA_Empty, lH_Empty_WrongKind, lH_WrongKind_WrongKind, lA_WrongKind, hc]
  | join a b ha hb =>
    have e0 : atI [D.str (Str.ofString "join")] 0 = some (.str "join") := rfl
    have h1 : a.length + b.length ≤ sizeLine := le_sz (by omega)
    have h2 : (a ++ b).length ≤ sizeLine := by rw [Str.length_append]; exact h1
    unfold F_put_by M_put_by
    simp only [mkF, pad, outs, mSeq, mAsg, mAsgG, mExpr, mRet, mRetV, mRetN, mIfS, mIf, mNx, mTest, tmNot, tmAnd, tmOr, mVar, mC, mB, TL.m1, TL.m2, opt, use, R.fix, frz, tak, Cell.dat, mSeqD, mArgs, vals, mSl, mPart, mgSeq, setAll, D.items, mCall, give, mPut, mApp, mPop, mIns, ownL, mFor, miSeq, miRange, mAndV, mOrV, mNotV, D.bool, D.tru, mKGet, mKIn, mCallV, mRaise, mTry, mHands, mAny, mJoin, mLc, oAdd, oSub, oMul, oDiv, oMod, oPow, oNeg, oCmp, oIx, oSl, oLen, oList, oTuple, oStr, oInt, oMax, oMin, oIn, List.getElem?_cons_zero, List.getElem?_cons_succ, List.getElem?_nil, List.set_cons_zero, List.set_cons_succ, List.length_cons, List.length_nil, List.cons_append, List.nil_append, List.append_nil, List.replicate, List.map_cons, List.map_nil, Option.map_some, Option.map_none, Option.bind_some, Option.bind_none, if_true, if_false, reduceIte, ↓reduceIte, Nat.reduceAdd, Nat.reduceSub, Nat.reduceLeDiff, Nat.reduceLT, Nat.reduceEqDiff, Int.reduceLT, Int.reduceLE, Bool.not_true, Bool.not_false, Bool.false_eq_true, sz0, sz1, sz2, sz3, sz4, sz5, sz6, sz7, sz8, sz9, sz10, sz11, sz12, sz13, sz14, sz15, oEq_str, oEq_int, oNe_str, oNe_int, decide_false, decide_true, and_self, n_num_text, n_num_add, n_num_mul, n_num_less, n_num_join, n_num_long, n_num_show, n_num_swap, n_num_drop, n_num_copy, n_num_e, n_num_empty, n_num_kind, n_text_num, n_text_add, n_text_mul, n_text_less, n_text_join, n_text_long, n_text_show, n_text_swap, n_text_drop, n_text_copy, n_text_e, n_text_empty, n_text_kind, n_add_num, n_add_text, n_add_mul, n_add_less, n_add_join, n_add_long, n_add_show, n_add_swap, n_add_drop, n_add_copy, n_add_e, n_add_empty, n_add_kind, n_mul_num, n_mul_text, n_mul_add, n_mul_less, n_mul_join, n_mul_long, n_mul_show, n_mul_swap, n_mul_drop, n_mul_copy, n_mul_e, n_mul_empty, n_mul_kind, n_less_num, n_less_text, n_less_add, n_less_mul, n_less_join, n_less_long, n_less_show, n_less_swap, n_less_drop, n_less_copy, n_less_e, n_less_empty, n_less_kind, n_join_num, n_join_text, n_join_add, n_join_mul, n_join_less, n_join_long, n_join_show, n_join_swap, n_join_drop, n_join_copy, n_join_e, n_join_empty, n_join_kind, n_long_num, n_long_text, n_long_add, n_long_mul, n_long_less, n_long_join, n_long_show, n_long_swap, n_long_drop, n_long_copy, n_long_e, n_long_empty, n_long_kind, n_show_num, n_show_text, n_show_add, n_show_mul, n_show_less, n_show_join, n_show_long, n_show_swap, n_show_drop, n_show_copy, n_show_e, n_show_empty, n_show_kind, n_swap_num, n_swap_text, n_swap_add, n_swap_mul, n_swap_less, n_swap_join, n_swap_long, n_swap_show, n_swap_drop, n_swap_copy, n_swap_e, n_swap_empty, n_swap_kind, n_drop_num, n_drop_text, n_drop_add, n_drop_mul, n_drop_less, n_drop_join, n_drop_long, n_drop_show, n_drop_swap, n_drop_copy, n_drop_e, n_drop_empty, n_drop_kind, n_copy_num, n_copy_text, n_copy_add, n_copy_mul, n_copy_less, n_copy_join, n_copy_long, n_copy_show, n_copy_swap, n_copy_drop, n_copy_e, n_copy_empty, n_copy_kind, n_e_num, n_e_text, n_e_add, n_e_mul, n_e_less, n_e_join, n_e_long, n_e_show, n_e_swap, n_e_drop, n_e_copy, n_e_empty, n_e_kind, n_empty_num, n_empty_text, n_empty_add, n_empty_mul, n_empty_less, n_empty_join, n_empty_long, n_empty_show, n_empty_swap, n_empty_drop, n_empty_copy, n_empty_e, n_empty_kind, n_kind_num, n_kind_text, n_kind_add, n_kind_mul, n_kind_less, n_kind_join, n_kind_long, n_kind_show, n_kind_swap, n_kind_drop, n_kind_copy, n_kind_e, n_kind_empty, lW_num, lW_text, lW_add, lW_mul, lW_less, lW_join, lW_long, lW_show, lW_swap, lW_drop, lW_copy, lW_if, lT_num, lT_text, lT_add, lT_mul, lT_less, lT_join, lT_long, lT_show, lT_swap, lT_drop, lT_copy, lT_if, lP_num, lP_text, lP_add, lP_mul, lP_less, lP_join, lP_long, lP_show, lP_swap, lP_drop, lP_copy, lF_added, lF_multiplied, lF_compared, lF_joined, lF_measured, lF_shown, lF_swapped, lF_dropped, lF_copied, lI_num, lI_text, lI_add, lI_mul, lI_less, lI_join, lI_long, lI_show, lI_swap, lI_drop, lI_copy, lH_Empty_Empty, lH_WrongKind_Empty, lA_Empty, lH_Empty_WrongKind, lH_WrongKind_WrongKind, lA_WrongKind, e0]
    unfold F_joined M_joined
    simp only [mkF, pad, outs, mSeq, mAsg, mAsgG, mExpr, mRet, mRetV, mRetN, mIfS, mIf, mNx, mTest, tmNot, tmAnd, tmOr, mVar, mC, mB, TL.m1, TL.m2, opt, use, R.fix, frz, tak, Cell.dat, mSeqD, mArgs, vals, mSl, mPart, mgSeq, setAll, D.items, mCall, give, mPut, mApp, mPop, mIns, ownL, mFor, miSeq, miRange, mAndV, mOrV, mNotV, D.bool, D.tru, mKGet, mKIn, mCallV, mRaise, mTry, mHands, mAny, mJoin, mLc, oAdd, oSub, oMul, oDiv, oMod, oPow, oNeg, oCmp, oIx, oSl, oLen, oList, oTuple, oStr, oInt, oMax, oMin, oIn, List.getElem?_cons_zero, List.getElem?_cons_succ, List.getElem?_nil, List.set_cons_zero, List.set_cons_succ, List.length_cons, List.length_nil, List.cons_append, List.nil_append, List.append_nil, List.replicate, List.map_cons, List.map_nil, Option.map_some, Option.map_none, Option.bind_some, Option.bind_none, if_true, if_false, reduceIte, ↓reduceIte, Nat.reduceAdd, Nat.reduceSub, Nat.reduceLeDiff, Nat.reduceLT, Nat.reduceEqDiff, Int.reduceLT, Int.reduceLE, Bool.not_true, Bool.not_false, Bool.false_eq_true, sz0, sz1, sz2, sz3, sz4, sz5, sz6, sz7, sz8, sz9, sz10, sz11, sz12, sz13, sz14, sz15, oEq_str, oEq_int, oNe_str, oNe_int, decide_false, decide_true, and_self, n_num_text, n_num_add, n_num_mul, n_num_less, n_num_join, n_num_long, n_num_show, n_num_swap, n_num_drop, n_num_copy, n_num_e, n_num_empty, n_num_kind, n_text_num, n_text_add, n_text_mul, n_text_less, n_text_join, n_text_long, n_text_show, n_text_swap, n_text_drop, n_text_copy, n_text_e, n_text_empty, n_text_kind, n_add_num, n_add_text, n_add_mul, n_add_less, n_add_join, n_add_long, n_add_show, n_add_swap, n_add_drop, n_add_copy, n_add_e, n_add_empty, n_add_kind, n_mul_num, n_mul_text, n_mul_add, n_mul_less, n_mul_join, n_mul_long, n_mul_show, n_mul_swap, n_mul_drop, n_mul_copy, n_mul_e, n_mul_empty, n_mul_kind, n_less_num, n_less_text, n_less_add, n_less_mul, n_less_join, n_less_long, n_less_show, n_less_swap, n_less_drop, n_less_copy, n_less_e, n_less_empty, n_less_kind, n_join_num, n_join_text, n_join_add, n_join_mul, n_join_less, n_join_long, n_join_show, n_join_swap, n_join_drop, n_join_copy, n_join_e, n_join_empty, n_join_kind, n_long_num, n_long_text, n_long_add, n_long_mul, n_long_less, n_long_join, n_long_show, n_long_swap, n_long_drop, n_long_copy, n_long_e, n_long_empty, n_long_kind, n_show_num, n_show_text, n_show_add, n_show_mul, n_show_less, n_show_join, n_show_long, n_show_swap, n_show_drop, n_show_copy, n_show_e, n_show_empty, n_show_kind, n_swap_num, n_swap_text, n_swap_add, n_swap_mul, n_swap_less, n_swap_join, n_swap_long, n_swap_show, n_swap_drop, n_swap_copy, n_swap_e, n_swap_empty, n_swap_kind, n_drop_num, n_drop_text, n_drop_add, n_drop_mul, n_drop_less, n_drop_join, n_drop_long, n_drop_show, n_drop_swap, n_drop_copy, n_drop_e, n_drop_empty, n_drop_kind, n_copy_num, n_copy_text, n_copy_add, n_copy_mul, n_copy_less, n_copy_join, n_copy_long, n_copy_show, n_copy_swap, n_copy_drop, n_copy_e, n_copy_empty, n_copy_kind, n_e_num, n_e_text, n_e_add, n_e_mul, n_e_less, n_e_join, n_e_long, n_e_show, n_e_swap, n_e_drop, n_e_copy, n_e_empty, n_e_kind, n_empty_num, n_empty_text, n_empty_add, n_empty_mul, n_empty_less, n_empty_join, n_empty_long, n_empty_show, n_empty_swap, n_empty_drop, n_empty_copy, n_empty_e, n_empty_kind, n_kind_num, n_kind_text, n_kind_add, n_kind_mul, n_kind_less, n_kind_join, n_kind_long, n_kind_show, n_kind_swap, n_kind_drop, n_kind_copy, n_kind_e, n_kind_empty, lW_num, lW_text, lW_add, lW_mul, lW_less, lW_join, lW_long, lW_show, lW_swap, lW_drop, lW_copy, lW_if, lT_num, lT_text, lT_add, lT_mul, lT_less, lT_join, lT_long, lT_show, lT_swap, lT_drop, lT_copy, lT_if, lP_num, lP_text, lP_add, lP_mul, lP_less, lP_join, lP_long, lP_show, lP_swap, lP_drop, lP_copy, lF_added, lF_multiplied, lF_compared, lF_joined, lF_measured, lF_shown, lF_swapped, lF_dropped, lF_copied, lI_num, lI_text, lI_add, lI_mul, lI_less, lI_join, lI_long, lI_show, lI_swap, lI_drop, lI_copy, lH_Empty_Empty, lH_WrongKind_Empty, lA_Empty, lH_Empty_WrongKind, lH_WrongKind_WrongKind, lA_WrongKind, h1, h2]
  | swap a b => kernel_rfl
  | long a ha =>
    have e0 : atI [D.str (Str.ofString "long")] 0 = some (.str "long") := rfl
    have e1 : atI [D.str a] 0 = some (.str a) := rfl
    have h1 : a.length ≤ sizeLine := le_sz (by omega)
    unfold F_put_by M_put_by
    simp only [mkF, pad, outs, mSeq, mAsg, mAsgG, mExpr, mRet, mRetV, mRetN, mIfS, mIf, mNx, mTest, tmNot, tmAnd, tmOr, mVar, mC, mB, TL.m1, TL.m2, opt, use, R.fix, frz, tak, Cell.dat, mSeqD, mArgs, vals, mSl, mPart, mgSeq, setAll, D.items, mCall, give, mPut, mApp, mPop, mIns, ownL, mFor, miSeq, miRange, mAndV, mOrV, mNotV, D.bool, D.tru, mKGet, mKIn, mCallV, mRaise, mTry, mHands, mAny, mJoin, mLc, oAdd, oSub, oMul, oDiv, oMod, oPow, oNeg, oCmp, oIx, oSl, oLen, oList, oTuple, oStr, oInt, oMax, oMin, oIn, List.getElem?_cons_zero, List.getElem?_cons_succ, List.getElem?_nil, List.set_cons_zero, List.set_cons_succ, List.length_cons, List.length_nil, List.cons_append, List.nil_append, List.append_nil, List.replicate, List.map_cons, List.map_nil, Option.map_some, Option.map_none, Option.bind_some, Option.bind_none, if_true, if_false, reduceIte, ↓reduceIte, Nat.reduceAdd, Nat.reduceSub, Nat.reduceLeDiff, Nat.reduceLT, Nat.reduceEqDiff, Int.reduceLT, Int.reduceLE, Bool.not_true, Bool.not_false, Bool.false_eq_true, sz0, sz1, sz2, sz3, sz4, sz5, sz6, sz7, sz8, sz9, sz10, sz11, sz12, sz13, sz14, sz15, oEq_str, oEq_int, oNe_str, oNe_int, decide_false, decide_true, and_self, n_num_text, n_num_add, n_num_mul, n_num_less, n_num_join, n_num_long, n_num_show, n_num_swap, n_num_drop, n_num_copy, n_num_e, n_num_empty, n_num_kind, n_text_num, n_text_add, n_text_mul, n_text_less, n_text_join, n_text_long, n_text_show, n_text_swap, n_text_drop, n_text_copy, n_text_e, n_text_empty, n_text_kind, n_add_num, n_add_text, n_add_mul, n_add_less, n_add_join, n_add_long, n_add_show, n_add_swap, n_add_drop, n_add_copy, n_add_e, n_add_empty, n_add_kind, n_mul_num, n_mul_text, n_mul_add, n_mul_less, n_mul_join, n_mul_long, n_mul_show, n_mul_swap, n_mul_drop, n_mul_copy, n_mul_e, n_mul_empty, n_mul_kind, n_less_num, n_less_text, n_less_add, n_less_mul, n_less_join, n_less_long, n_less_show, n_less_swap, n_less_drop, n_less_copy, n_less_e, n_less_empty, n_less_kind, n_join_num, n_join_text, n_join_add, n_join_mul, n_join_less, n_join_long, n_join_show, n_join_swap, n_join_drop, n_join_copy, n_join_e, n_join_empty, n_join_kind, n_long_num, n_long_text, n_long_add, n_long_mul, n_long_less, n_long_join, n_long_show, n_long_swap, n_long_drop, n_long_copy, n_long_e, n_long_empty, n_long_kind, n_show_num, n_show_text, n_show_add, n_show_mul, n_show_less, n_show_join, n_show_long, n_show_swap, n_show_drop, n_show_copy, n_show_e, n_show_empty, n_show_kind, n_swap_num, n_swap_text, n_swap_add, n_swap_mul, n_swap_less, n_swap_join, n_swap_long, n_swap_show, n_swap_drop, n_swap_copy, n_swap_e, n_swap_empty, n_swap_kind, n_drop_num, n_drop_text, n_drop_add, n_drop_mul, n_drop_less, n_drop_join, n_drop_long, n_drop_show, n_drop_swap, n_drop_copy, n_drop_e, n_drop_empty, n_drop_kind, n_copy_num, n_copy_text, n_copy_add, n_copy_mul, n_copy_less, n_copy_join, n_copy_long, n_copy_show, n_copy_swap, n_copy_drop, n_copy_e, n_copy_empty, n_copy_kind, n_e_num, n_e_text, n_e_add, n_e_mul, n_e_less, n_e_join, n_e_long, n_e_show, n_e_swap, n_e_drop, n_e_copy, n_e_empty, n_e_kind, n_empty_num, n_empty_text, n_empty_add, n_empty_mul, n_empty_less, n_empty_join, n_empty_long, n_empty_show, n_empty_swap, n_empty_drop, n_empty_copy, n_empty_e, n_empty_kind, n_kind_num, n_kind_text, n_kind_add, n_kind_mul, n_kind_less, n_kind_join, n_kind_long, n_kind_show, n_kind_swap, n_kind_drop, n_kind_copy, n_kind_e, n_kind_empty, lW_num, lW_text, lW_add, lW_mul, lW_less, lW_join, lW_long, lW_show, lW_swap, lW_drop, lW_copy, lW_if, lT_num, lT_text, lT_add, lT_mul, lT_less, lT_join, lT_long, lT_show, lT_swap, lT_drop, lT_copy, lT_if, lP_num, lP_text, lP_add, lP_mul, lP_less, lP_join, lP_long, lP_show, lP_swap, lP_drop, lP_copy, lF_added, lF_multiplied, lF_compared, lF_joined, lF_measured, lF_shown, lF_swapped, lF_dropped, lF_copied, lI_num, lI_text, lI_add, lI_mul, lI_less, lI_join, lI_long, lI_show, lI_swap, lI_drop, lI_copy, lH_Empty_Empty, lH_WrongKind_Empty, lA_Empty, lH_Empty_WrongKind, lH_WrongKind_WrongKind, lA_WrongKind, e0]
    unfold F_measured M_measured
    simp only [mkF, pad, outs, mSeq, mAsg, mAsgG, mExpr, mRet, mRetV, mRetN, mIfS, mIf, mNx, mTest, tmNot, tmAnd, tmOr, mVar, mC, mB, TL.m1, TL.m2, opt, use, R.fix, frz, tak, Cell.dat, mSeqD, mArgs, vals, mSl, mPart, mgSeq, setAll, D.items, mCall, give, mPut, mApp, mPop, mIns, ownL, mFor, miSeq, miRange, mAndV, mOrV, mNotV, D.bool, D.tru, mKGet, mKIn, mCallV, mRaise, mTry, mHands, mAny, mJoin, mLc, oAdd, oSub, oMul, oDiv, oMod, oPow, oNeg, oCmp, oIx, oSl, oLen, oList, oTuple, oStr, oInt, oMax, oMin, oIn, List.getElem?_cons_zero, List.getElem?_cons_succ, List.getElem?_nil, List.set_cons_zero, List.set_cons_succ, List.length_cons, List.length_nil, List.cons_append, List.nil_append, List.append_nil, List.replicate, List.map_cons, List.map_nil, Option.map_some, Option.map_none, Option.bind_some, Option.bind_none, if_true, if_false, reduceIte, ↓reduceIte, Nat.reduceAdd, Nat.reduceSub, Nat.reduceLeDiff, Nat.reduceLT, Nat.reduceEqDiff, Int.reduceLT, Int.reduceLE, Bool.not_true, Bool.not_false, Bool.false_eq_true, sz0, sz1, sz2, sz3, sz4, sz5, sz6, sz7, sz8, sz9, sz10, sz11, sz12, sz13, sz14, sz15, oEq_str, oEq_int, oNe_str, oNe_int, decide_false, decide_true, and_self, n_num_text, n_num_add, n_num_mul, n_num_less, n_num_join, n_num_long, n_num_show, n_num_swap, n_num_drop, n_num_copy, n_num_e, n_num_empty, n_num_kind, n_text_num, n_text_add, n_text_mul, n_text_less, n_text_join, n_text_long, n_text_show, n_text_swap, n_text_drop, n_text_copy, n_text_e, n_text_empty, n_text_kind, n_add_num, n_add_text, n_add_mul, n_add_less, n_add_join, n_add_long, n_add_show, n_add_swap, n_add_drop, n_add_copy, n_add_e, n_add_empty, n_add_kind, n_mul_num, n_mul_text, n_mul_add, n_mul_less, n_mul_join, n_mul_long, n_mul_show, n_mul_swap, n_mul_drop, n_mul_copy, n_mul_e, n_mul_empty, n_mul_kind, n_less_num, n_less_text, n_less_add, n_less_mul, n_less_join, n_less_long, n_less_show, n_less_swap, n_less_drop, n_less_copy, n_less_e, n_less_empty, n_less_kind, n_join_num, n_join_text, n_join_add, n_join_mul, n_join_less, n_join_long, n_join_show, n_join_swap, n_join_drop, n_join_copy, n_join_e, n_join_empty, n_join_kind, n_long_num, n_long_text, n_long_add, n_long_mul, n_long_less, n_long_join, n_long_show, n_long_swap, n_long_drop, n_long_copy, n_long_e, n_long_empty, n_long_kind, n_show_num, n_show_text, n_show_add, n_show_mul, n_show_less, n_show_join, n_show_long, n_show_swap, n_show_drop, n_show_copy, n_show_e, n_show_empty, n_show_kind, n_swap_num, n_swap_text, n_swap_add, n_swap_mul, n_swap_less, n_swap_join, n_swap_long, n_swap_show, n_swap_drop, n_swap_copy, n_swap_e, n_swap_empty, n_swap_kind, n_drop_num, n_drop_text, n_drop_add, n_drop_mul, n_drop_less, n_drop_join, n_drop_long, n_drop_show, n_drop_swap, n_drop_copy, n_drop_e, n_drop_empty, n_drop_kind, n_copy_num, n_copy_text, n_copy_add, n_copy_mul, n_copy_less, n_copy_join, n_copy_long, n_copy_show, n_copy_swap, n_copy_drop, n_copy_e, n_copy_empty, n_copy_kind, n_e_num, n_e_text, n_e_add, n_e_mul, n_e_less, n_e_join, n_e_long, n_e_show, n_e_swap, n_e_drop, n_e_copy, n_e_empty, n_e_kind, n_empty_num, n_empty_text, n_empty_add, n_empty_mul, n_empty_less, n_empty_join, n_empty_long, n_empty_show, n_empty_swap, n_empty_drop, n_empty_copy, n_empty_e, n_empty_kind, n_kind_num, n_kind_text, n_kind_add, n_kind_mul, n_kind_less, n_kind_join, n_kind_long, n_kind_show, n_kind_swap, n_kind_drop, n_kind_copy, n_kind_e, n_kind_empty, lW_num, lW_text, lW_add, lW_mul, lW_less, lW_join, lW_long, lW_show, lW_swap, lW_drop, lW_copy, lW_if, lT_num, lT_text, lT_add, lT_mul, lT_less, lT_join, lT_long, lT_show, lT_swap, lT_drop, lT_copy, lT_if, lP_num, lP_text, lP_add, lP_mul, lP_less, lP_join, lP_long, lP_show, lP_swap, lP_drop, lP_copy, lF_added, lF_multiplied, lF_compared, lF_joined, lF_measured, lF_shown, lF_swapped, lF_dropped, lF_copied, lI_num, lI_text, lI_add, lI_mul, lI_less, lI_join, lI_long, lI_show, lI_swap, lI_drop, lI_copy, lH_Empty_Empty, lH_WrongKind_Empty, lA_Empty, lH_Empty_WrongKind, lH_WrongKind_WrongKind, lA_WrongKind, e1, h1]
  | shw a h0 h1 =>
    have e0 : atI [D.str (Str.ofString "show")] 0 = some (.str "show") := rfl
    have e1 : atI [D.int a] 0 = some (.int a) := rfl
    have h1 := num_log a h0 (by omega)
    unfold F_put_by M_put_by
    simp only [mkF, pad, outs, mSeq, mAsg, mAsgG, mExpr, mRet, mRetV, mRetN, mIfS, mIf, mNx, mTest, tmNot, tmAnd, tmOr, mVar, mC, mB, TL.m1, TL.m2, opt, use, R.fix, frz, tak, Cell.dat, mSeqD, mArgs, vals, mSl, mPart, mgSeq, setAll, D.items, mCall, give, mPut, mApp, mPop, mIns, ownL, mFor, miSeq, miRange, mAndV, mOrV, mNotV, D.bool, D.tru, mKGet, mKIn, mCallV, mRaise, mTry, mHands, mAny, mJoin, mLc, oAdd, oSub, oMul, oDiv, oMod, oPow, oNeg, oCmp, oIx, oSl, oLen, oList, oTuple, oStr, oInt, oMax, oMin, oIn, List.getElem?_cons_zero, List.getElem?_cons_succ, List.getElem?_nil, List.set_cons_zero, List.set_cons_succ, List.length_cons, List.length_nil, List.cons_append, List.nil_append, List.append_nil, List.replicate, List.map_cons, List.map_nil, Option.map_some, Option.map_none, Option.bind_some, Option.bind_none, if_true, if_false, reduceIte, ↓reduceIte, Nat.reduceAdd, Nat.reduceSub, Nat.reduceLeDiff, Nat.reduceLT, Nat.reduceEqDiff, Int.reduceLT, Int.reduceLE, Bool.not_true, Bool.not_false, Bool.false_eq_true, sz0, sz1, sz2, sz3, sz4, sz5, sz6, sz7, sz8, sz9, sz10, sz11, sz12, sz13, sz14, sz15, oEq_str, oEq_int, oNe_str, oNe_int, decide_false, decide_true, and_self, n_num_text, n_num_add, n_num_mul, n_num_less, n_num_join, n_num_long, n_num_show, n_num_swap, n_num_drop, n_num_copy, n_num_e, n_num_empty, n_num_kind, n_text_num, n_text_add, n_text_mul, n_text_less, n_text_join, n_text_long, n_text_show, n_text_swap, n_text_drop, n_text_copy, n_text_e, n_text_empty, n_text_kind, n_add_num, n_add_text, n_add_mul, n_add_less, n_add_join, n_add_long, n_add_show, n_add_swap, n_add_drop, n_add_copy, n_add_e, n_add_empty, n_add_kind, n_mul_num, n_mul_text, n_mul_add, n_mul_less, n_mul_join, n_mul_long, n_mul_show, n_mul_swap, n_mul_drop, n_mul_copy, n_mul_e, n_mul_empty, n_mul_kind, n_less_num, n_less_text, n_less_add, n_less_mul, n_less_join, n_less_long, n_less_show, n_less_swap, n_less_drop, n_less_copy, n_less_e, n_less_empty, n_less_kind, n_join_num, n_join_text, n_join_add, n_join_mul, n_join_less, n_join_long, n_join_show, n_join_swap, n_join_drop, n_join_copy, n_join_e, n_join_empty, n_join_kind, n_long_num, n_long_text, n_long_add, n_long_mul, n_long_less, n_long_join, n_long_show, n_long_swap, n_long_drop, n_long_copy, n_long_e, n_long_empty, n_long_kind, n_show_num, n_show_text, n_show_add, n_show_mul, n_show_less, n_show_join, n_show_long, n_show_swap, n_show_drop, n_show_copy, n_show_e, n_show_empty, n_show_kind, n_swap_num, n_swap_text, n_swap_add, n_swap_mul, n_swap_less, n_swap_join, n_swap_long, n_swap_show, n_swap_drop, n_swap_copy, n_swap_e, n_swap_empty, n_swap_kind, n_drop_num, n_drop_text, n_drop_add, n_drop_mul, n_drop_less, n_drop_join, n_drop_long, n_drop_show, n_drop_swap, n_drop_copy, n_drop_e, n_drop_empty, n_drop_kind, n_copy_num, n_copy_text, n_copy_add, n_copy_mul, n_copy_less, n_copy_join, n_copy_long, n_copy_show, n_copy_swap, n_copy_drop, n_copy_e, n_copy_empty, n_copy_kind, n_e_num, n_e_text, n_e_add, n_e_mul, n_e_less, n_e_join, n_e_long, n_e_show, n_e_swap, n_e_drop, n_e_copy, n_e_empty, n_e_kind, n_empty_num, n_empty_text, n_empty_add, n_empty_mul, n_empty_less, n_empty_join, n_empty_long, n_empty_show, n_empty_swap, n_empty_drop, n_empty_copy, n_empty_e, n_empty_kind, n_kind_num, n_kind_text, n_kind_add, n_kind_mul, n_kind_less, n_kind_join, n_kind_long, n_kind_show, n_kind_swap, n_kind_drop, n_kind_copy, n_kind_e, n_kind_empty, lW_num, lW_text, lW_add, lW_mul, lW_less, lW_join, lW_long, lW_show, lW_swap, lW_drop, lW_copy, lW_if, lT_num, lT_text, lT_add, lT_mul, lT_less, lT_join, lT_long, lT_show, lT_swap, lT_drop, lT_copy, lT_if, lP_num, lP_text, lP_add, lP_mul, lP_less, lP_join, lP_long, lP_show, lP_swap, lP_drop, lP_copy, lF_added, lF_multiplied, lF_compared, lF_joined, lF_measured, lF_shown, lF_swapped, lF_dropped, lF_copied, lI_num, lI_text, lI_add, lI_mul, lI_less, lI_join, lI_long, lI_show, lI_swap, lI_drop, lI_copy, lH_Empty_Empty, lH_WrongKind_Empty, lA_Empty, lH_Empty_WrongKind, lH_WrongKind_WrongKind, lA_WrongKind, e0]
    unfold F_shown M_shown
    simp only [mkF, pad, outs, mSeq, mAsg, mAsgG, mExpr, mRet, mRetV, mRetN, mIfS, mIf, mNx, mTest, tmNot, tmAnd, tmOr, mVar, mC, mB, TL.m1, TL.m2, opt, use, R.fix, frz, tak, Cell.dat, mSeqD, mArgs, vals, mSl, mPart, mgSeq, setAll, D.items, mCall, give, mPut, mApp, mPop, mIns, ownL, mFor, miSeq, miRange, mAndV, mOrV, mNotV, D.bool, D.tru, mKGet, mKIn, mCallV, mRaise, mTry, mHands, mAny, mJoin, mLc, oAdd, oSub, oMul, oDiv, oMod, oPow, oNeg, oCmp, oIx, oSl, oLen, oList, oTuple, oStr, oInt, oMax, oMin, oIn, List.getElem?_cons_zero, List.getElem?_cons_succ, List.getElem?_nil, List.set_cons_zero, List.set_cons_succ, List.length_cons, List.length_nil, List.cons_append, List.nil_append, List.append_nil, List.replicate, List.map_cons, List.map_nil, Option.map_some, Option.map_none, Option.bind_some, Option.bind_none, if_true, if_false, reduceIte, ↓reduceIte, Nat.reduceAdd, Nat.reduceSub, Nat.reduceLeDiff, Nat.reduceLT, Nat.reduceEqDiff, Int.reduceLT, Int.reduceLE, Bool.not_true, Bool.not_false, Bool.false_eq_true, sz0, sz1, sz2, sz3, sz4, sz5, sz6, sz7, sz8, sz9, sz10, sz11, sz12, sz13, sz14, sz15, oEq_str, oEq_int, oNe_str, oNe_int, decide_false, decide_true, and_self, n_num_text, n_num_add, n_num_mul, n_num_less, n_num_join, n_num_long, n_num_show, n_num_swap, n_num_drop, n_num_copy, n_num_e, n_num_empty, n_num_kind, n_text_num, n_text_add, n_text_mul, n_text_less, n_text_join, n_text_long, n_text_show, n_text_swap, n_text_drop, n_text_copy, n_text_e, n_text_empty, n_text_kind, n_add_num, n_add_text, n_add_mul, n_add_less, n_add_join, n_add_long, n_add_show, n_add_swap, n_add_drop, n_add_copy, n_add_e, n_add_empty, n_add_kind, n_mul_num, n_mul_text, n_mul_add, n_mul_less, n_mul_join, n_mul_long, n_mul_show, n_mul_swap, n_mul_drop, n_mul_copy, n_mul_e, n_mul_empty, n_mul_kind, n_less_num, n_less_text, n_less_add, n_less_mul, n_less_join, n_less_long, n_less_show, n_less_swap, n_less_drop, n_less_copy, n_less_e, n_less_empty, n_less_kind, n_join_num, n_join_text, n_join_add, n_join_mul, n_join_less, n_join_long, n_join_show, n_join_swap, n_join_drop, n_join_copy, n_join_e, n_join_empty, n_join_kind, n_long_num, n_long_text, n_long_add, n_long_mul, n_long_less, n_long_join, n_long_show, n_long_swap, n_long_drop, n_long_copy, n_long_e, n_long_empty, n_long_kind, n_show_num, n_show_text, n_show_add, n_show_mul, n_show_less, n_show_join, n_show_long, n_show_swap, n_show_drop, n_show_copy, n_show_e, n_show_empty, n_show_kind, n_swap_num, n_swap_text, n_swap_add, n_swap_mul, n_swap_less, n_swap_join, n_swap_long, n_swap_show, n_swap_drop, n_swap_copy, n_swap_e, n_swap_empty, n_swap_kind, n_drop_num, n_drop_text, n_drop_add, n_drop_mul, n_drop_less, n_drop_join, n_drop_long, n_drop_show, n_drop_swap, n_drop_copy, n_drop_e, n_drop_empty, n_drop_kind, n_copy_num, n_copy_text, n_copy_add, n_copy_mul, n_copy_less, n_copy_join, n_copy_long, n_copy_show, n_copy_swap, n_copy_drop, n_copy_e, n_copy_empty, n_copy_kind, n_e_num, n_e_text, n_e_add, n_e_mul, n_e_less, n_e_join, n_e_long, n_e_show, n_e_swap, n_e_drop, n_e_copy, n_e_empty, n_e_kind, n_empty_num, n_empty_text, n_empty_add, n_empty_mul, n_empty_less, n_empty_join, n_empty_long, n_empty_show, n_empty_swap, n_empty_drop, n_empty_copy, n_empty_e, n_empty_kind, n_kind_num, n_kind_text, n_kind_add, n_kind_mul, n_kind_less, n_kind_join, n_kind_long, n_kind_show, n_kind_swap, n_kind_drop, n_kind_copy, n_kind_e, n_kind_empty, lW_num, lW_text, lW_add, lW_mul, lW_less, lW_join, lW_long, lW_show, lW_swap, lW_drop, lW_copy, lW_if, lT_num, lT_text, lT_add, lT_mul, lT_less, lT_join, lT_long, lT_show, lT_swap, lT_drop, lT_copy, lT_if, lP_num, lP_text, lP_add, lP_mul, lP_less, lP_join, lP_long, lP_show, lP_swap, lP_drop, lP_copy, lF_added, lF_multiplied, lF_compared, lF_joined, lF_measured, lF_shown, lF_swapped, lF_dropped, lF_copied, lI_num, lI_text, lI_add, lI_mul, lI_less, lI_join, lI_long, lI_show, lI_swap, lI_drop, lI_copy, lH_Empty_Empty, lH_WrongKind_Empty, lA_Empty, lH_Empty_WrongKind, lH_WrongKind_WrongKind, lA_WrongKind, e1, h1]
  | drop a => kernel_rfl
/-- do, by the check's answer -/
theorem do_exc {r : D} {W : List D} (h : Row r W) (xs : List D) (hx : AllV xs) (hl : xs.length ≤ 200) (x : Str) (hc : F_check [.val r, .val (.tup ((xs.drop (xs.length - W.length)).map kD))] = .exc x [.val r, .val (.tup ((xs.drop (xs.length - W.length)).map kD))]) :
    F_do [.own xs, .val r] = .exc x [.own xs, .val r] := by
  have hW := wanted_ok h
  have hk := kinds_of_ok (xs.drop (xs.length - W.length)) (hx.drop _) (by rw [List.length_drop]; omega)
  have hp : (if ((xs.length : Int) - W.length) > 0 then ((xs.length : Int) - W.length) else 0) = ((xs.length - W.length : Nat) : Int) := by
    split <;> omega
  have e1 : cut xs (some ((xs.length - W.length : Nat) : Int)) none = xs.drop (xs.length - W.length) := by
    rw [cut_from _ _ (by omega) (by omega), Int.toNat_natCast]
  unfold F_do M_do
  simp only [mkF, pad, outs, mSeq, mAsg, mAsgG, mExpr, mRet, mRetV, mRetN, mIfS, mIf, mNx, mTest, tmNot, tmAnd, tmOr, mVar, mC, mB, TL.m1, TL.m2, opt, use, R.fix, frz, tak, Cell.dat, mSeqD, mArgs, vals, mSl, mPart, mgSeq, setAll, D.items, mCall, give, mPut, mApp, mPop, mIns, ownL, mFor, miSeq, miRange, mAndV, mOrV, mNotV, D.bool, D.tru, mKGet, mKIn, mCallV, mRaise, mTry, mHands, mAny, mJoin, mLc, oAdd, oSub, oMul, oDiv, oMod, oPow, oNeg, oCmp, oIx, oSl, oLen, oList, oTuple, oStr, oInt, oMax, oMin, oIn, List.getElem?_cons_zero, List.getElem?_cons_succ, List.getElem?_nil, List.set_cons_zero, List.set_cons_succ, List.length_cons, List.length_nil, List.cons_append, List.nil_append, List.append_nil, List.replicate, List.map_cons, List.map_nil, Option.map_some, Option.map_none, Option.bind_some, Option.bind_none, if_true, if_false, reduceIte, ↓reduceIte, Nat.reduceAdd, Nat.reduceSub, Nat.reduceLeDiff, Nat.reduceLT, Nat.reduceEqDiff, Int.reduceLT, Int.reduceLE, Bool.not_true, Bool.not_false, Bool.false_eq_true, sz0, sz1, sz2, sz3, sz4, sz5, sz6, sz7, sz8, sz9, sz10, sz11, sz12, sz13, sz14, sz15, oEq_str, oEq_int, oNe_str, oNe_int, decide_false, decide_true, and_self, n_num_text, n_num_add, n_num_mul, n_num_less, n_num_join, n_num_long, n_num_show, n_num_swap, n_num_drop, n_num_copy, n_num_e, n_num_empty, n_num_kind, n_text_num, n_text_add, n_text_mul, n_text_less, n_text_join, n_text_long, n_text_show, n_text_swap, n_text_drop, n_text_copy, n_text_e, n_text_empty, n_text_kind, n_add_num, n_add_text, n_add_mul, n_add_less, n_add_join, n_add_long, n_add_show, n_add_swap, n_add_drop, n_add_copy, n_add_e, n_add_empty, n_add_kind, n_mul_num, n_mul_text, n_mul_add, n_mul_less, n_mul_join, n_mul_long, n_mul_show, n_mul_swap, n_mul_drop, n_mul_copy, n_mul_e, n_mul_empty, n_mul_kind, n_less_num, n_less_text, n_less_add, n_less_mul, n_less_join, n_less_long, n_less_show, n_less_swap, n_less_drop, n_less_copy, n_less_e, n_less_empty, n_less_kind, n_join_num, n_join_text, n_join_add, n_join_mul, n_join_less, n_join_long, n_join_show, n_join_swap, n_join_drop, n_join_copy, n_join_e, n_join_empty, n_join_kind, n_long_num, n_long_text, n_long_add, n_long_mul, n_long_less, n_long_join, n_long_show, n_long_swap, n_long_drop, n_long_copy, n_long_e, n_long_empty, n_long_kind, n_show_num, n_show_text, n_show_add, n_show_mul, n_show_less, n_show_join, n_show_long, n_show_swap, n_show_drop, n_show_copy, n_show_e, n_show_empty, n_show_kind, n_swap_num, n_swap_text, n_swap_add, n_swap_mul, n_swap_less, n_swap_join, n_swap_long, n_swap_show, n_swap_drop, n_swap_copy, n_swap_e, n_swap_empty, n_swap_kind, n_drop_num, n_drop_text, n_drop_add, n_drop_mul, n_drop_less, n_drop_join, n_drop_long, n_drop_show, n_drop_swap, n_drop_copy, n_drop_e, n_drop_empty, n_drop_kind, n_copy_num, n_copy_text, n_copy_add, n_copy_mul, n_copy_less, n_copy_join, n_copy_long, n_copy_show, n_copy_swap, n_copy_drop, n_copy_e, n_copy_empty, n_copy_kind, n_e_num, n_e_text, n_e_add, n_e_mul, n_e_less, n_e_join, n_e_long, n_e_show, n_e_swap, n_e_drop, n_e_copy, n_e_empty, n_e_kind, n_empty_num, n_empty_text, n_empty_add, n_empty_mul, n_empty_less, n_empty_join, n_empty_long, n_empty_show, n_empty_swap, n_empty_drop, n_empty_copy, n_empty_e, n_empty_kind, n_kind_num, n_kind_text, n_kind_add, n_kind_mul, n_kind_less, n_kind_join, n_kind_long, n_kind_show, n_kind_swap, n_kind_drop, n_kind_copy, n_kind_e, n_kind_empty, lW_num, lW_text, lW_add, lW_mul, lW_less, lW_join, lW_long, lW_show, lW_swap, lW_drop, lW_copy, lW_if, lT_num, lT_text, lT_add, lT_mul, lT_less, lT_join, lT_long, lT_show, lT_swap, lT_drop, lT_copy, lT_if, lP_num, lP_text, lP_add, lP_mul, lP_less, lP_join, lP_long, lP_show, lP_swap, lP_drop, lP_copy, lF_added, lF_multiplied, lF_compared, lF_joined, lF_measured, lF_shown, lF_swapped, lF_dropped, lF_copied, lI_num, lI_text, lI_add, lI_mul, lI_less, lI_join, lI_long, lI_show, lI_swap, lI_drop, lI_copy, lH_Empty_Empty, lH_WrongKind_Empty, lA_Empty, lH_Empty_WrongKind, lH_WrongKind_WrongKind, lA_WrongKind, hW, hp, e1, hk, hc]
theorem do_ok {r : D} {W : List D} (h : Row r W) (xs : List D) (hx : AllV xs) (hl : xs.length ≤ 200) (out : List D) (ho : out.length ≤ 1000)
    (hc : F_check [.val r, .val (.tup ((xs.drop (xs.length - W.length)).map kD))] = .ret (.dd .non) [.val r, .val (.tup ((xs.drop (xs.length - W.length)).map kD))])
    (hq : F_put_by [.val r, .val (.lst (xs.drop (xs.length - W.length)))] = .ret (.ow (.own out)) [.val r, .val (.lst (xs.drop (xs.length - W.length)))]) :
    F_do [.own xs, .val r] = .ret (.dd .non) [.own (xs.take (xs.length - W.length) ++ out), .val r] := by
  have hW := wanted_ok h
  have hk := kinds_of_ok (xs.drop (xs.length - W.length)) (hx.drop _) (by rw [List.length_drop]; omega)
  have hp : (if ((xs.length : Int) - W.length) > 0 then ((xs.length : Int) - W.length) else 0) = ((xs.length - W.length : Nat) : Int) := by
    split <;> omega
  have e1 : cut xs (some ((xs.length - W.length : Nat) : Int)) none = xs.drop (xs.length - W.length) := by
    rw [cut_from _ _ (by omega) (by omega), Int.toNat_natCast]
  have c1 : (0 : Int) ≤ ((xs.length - W.length : Nat) : Int) := by omega
  have c2 : (((xs.length - W.length : Nat) : Int)).natAbs = xs.length - W.length := by omega
  have c3 : xs.length - W.length ≤ xs.length := by omega
  have c4 : xs.length + out.length ≤ sizeLine := le_sz (by omega)
  unfold F_do M_do
  simp only [mkF, pad, outs, mSeq, mAsg, mAsgG, mExpr, mRet, mRetV, mRetN, mIfS, mIf, mNx, mTest, tmNot, tmAnd, tmOr, mVar, mC, mB, TL.m1, TL.m2, opt, use, R.fix, frz, tak, Cell.dat, mSeqD, mArgs, vals, mSl, mPart, mgSeq, setAll, D.items, mCall, give, mPut, mApp, mPop, mIns, ownL, mFor, miSeq, miRange, mAndV, mOrV, mNotV, D.bool, D.tru, mKGet, mKIn, mCallV, mRaise, mTry, mHands, mAny, mJoin, mLc, oAdd, oSub, oMul, oDiv, oMod, oPow, oNeg, oCmp, oIx, oSl, oLen, oList, oTuple, oStr, oInt, oMax, oMin, oIn, List.getElem?_cons_zero, List.getElem?_cons_succ, List.getElem?_nil, List.set_cons_zero, List.set_cons_succ, List.length_cons, List.length_nil, List.cons_append, List.nil_append, List.append_nil, List.replicate, List.map_cons, List.map_nil, Option.map_some, Option.map_none, Option.bind_some, Option.bind_none, if_true, if_false, reduceIte, ↓reduceIte, Nat.reduceAdd, Nat.reduceSub, Nat.reduceLeDiff, Nat.reduceLT, Nat.reduceEqDiff, Int.reduceLT, Int.reduceLE, Bool.not_true, Bool.not_false, Bool.false_eq_true, sz0, sz1, sz2, sz3, sz4, sz5, sz6, sz7, sz8, sz9, sz10, sz11, sz12, sz13, sz14, sz15, oEq_str, oEq_int, oNe_str, oNe_int, decide_false, decide_true, and_self, n_num_text, n_num_add, n_num_mul, n_num_less, n_num_join, n_num_long, n_num_show, n_num_swap, n_num_drop, n_num_copy, n_num_e, n_num_empty, n_num_kind, n_text_num, n_text_add, n_text_mul, n_text_less, n_text_join, n_text_long, n_text_show, n_text_swap, n_text_drop, n_text_copy, n_text_e, n_text_empty, n_text_kind, n_add_num, n_add_text, n_add_mul, n_add_less, n_add_join, n_add_long, n_add_show, n_add_swap, n_add_drop, n_add_copy, n_add_e, n_add_empty, n_add_kind, n_mul_num, n_mul_text, n_mul_add, n_mul_less, n_mul_join, n_mul_long, n_mul_show, n_mul_swap, n_mul_drop, n_mul_copy, n_mul_e, n_mul_empty, n_mul_kind, n_less_num, n_less_text, n_less_add, n_less_mul, n_less_join, n_less_long, n_less_show, n_less_swap, n_less_drop, n_less_copy, n_less_e, n_less_empty, n_less_kind, n_join_num, n_join_text, n_join_add, n_join_mul, n_join_less, n_join_long, n_join_show, n_join_swap, n_join_drop, n_join_copy, n_join_e, n_join_empty, n_join_kind, n_long_num, n_long_text, n_long_add, n_long_mul, n_long_less, n_long_join, n_long_show, n_long_swap, n_long_drop, n_long_copy, n_long_e, n_long_empty, n_long_kind, n_show_num, n_show_text, n_show_add, n_show_mul, n_show_less, n_show_join, n_show_long, n_show_swap, n_show_drop, n_show_copy, n_show_e, n_show_empty, n_show_kind, n_swap_num, n_swap_text, n_swap_add, n_swap_mul, n_swap_less, n_swap_join, n_swap_long, n_swap_show, n_swap_drop, n_swap_copy, n_swap_e, n_swap_empty, n_swap_kind, n_drop_num, n_drop_text, n_drop_add, n_drop_mul, n_drop_less, n_drop_join, n_drop_long, n_drop_show, n_drop_swap, n_drop_copy, n_drop_e, n_drop_empty, n_drop_kind, n_copy_num, n_copy_text, n_copy_add, n_copy_mul, n_copy_less, n_copy_join, n_copy_long, n_copy_show, n_copy_swap, n_copy_drop, n_copy_e, n_copy_empty, n_copy_kind, n_e_num, n_e_text, n_e_add, n_e_mul, n_e_less, n_e_join, n_e_long, n_e_show, n_e_swap, n_e_drop, n_e_copy, n_e_empty, n_e_kind, n_empty_num, n_empty_text, n_empty_add, n_empty_mul, n_empty_less, n_empty_join, n_empty_long, n_empty_show, n_empty_swap, n_empty_drop, n_empty_copy, n_empty_e, n_empty_kind, n_kind_num, n_kind_text, n_kind_add, n_kind_mul, n_kind_less, n_kind_join, n_kind_long, n_kind_show, n_kind_swap, n_kind_drop, n_kind_copy, n_kind_e, n_kind_empty, lW_num, lW_text, lW_add, lW_mul, lW_less, lW_join, lW_long, lW_show, lW_swap, lW_drop, lW_copy, lW_if, lT_num, lT_text, lT_add, lT_mul, lT_less, lT_join, lT_long, lT_show, lT_swap, lT_drop, lT_copy, lT_if, lP_num, lP_text, lP_add, lP_mul, lP_less, lP_join, lP_long, lP_show, lP_swap, lP_drop, lP_copy, lF_added, lF_multiplied, lF_compared, lF_joined, lF_measured, lF_shown, lF_swapped, lF_dropped, lF_copied, lI_num, lI_text, lI_add, lI_mul, lI_less, lI_join, lI_long, lI_show, lI_swap, lI_drop, lI_copy, lH_Empty_Empty, lH_WrongKind_Empty, lA_Empty, lH_Empty_WrongKind, lH_WrongKind_WrongKind, lA_WrongKind, hW, hp, e1, hk, hc, hq, mPutSl, c1, c2, c3, c4, and_self]
theorem done_exc {r : D} {W : List D} (h : Row r W) (xs : List D) (hx : AllV xs) (hl : xs.length ≤ 200) (x : Str) (hc : F_check [.val r, .val (.tup ((xs.drop (xs.length - W.length)).map kD))] = .exc x [.val r, .val (.tup ((xs.drop (xs.length - W.length)).map kD))]) :
    F_done [.own xs, .val r] = .exc x [.own xs, .val r] := by
  have hd := do_exc h xs hx hl x hc
  unfold F_done M_done
  simp only [mkF, pad, outs, mSeq, mAsg, mAsgG, mExpr, mRet, mRetV, mRetN, mIfS, mIf, mNx, mTest, tmNot, tmAnd, tmOr, mVar, mC, mB, TL.m1, TL.m2, opt, use, R.fix, frz, tak, Cell.dat, mSeqD, mArgs, vals, mSl, mPart, mgSeq, setAll, D.items, mCall, give, mPut, mApp, mPop, mIns, ownL, mFor, miSeq, miRange, mAndV, mOrV, mNotV, D.bool, D.tru, mKGet, mKIn, mCallV, mRaise, mTry, mHands, mAny, mJoin, mLc, oAdd, oSub, oMul, oDiv, oMod, oPow, oNeg, oCmp, oIx, oSl, oLen, oList, oTuple, oStr, oInt, oMax, oMin, oIn, List.getElem?_cons_zero, List.getElem?_cons_succ, List.getElem?_nil, List.set_cons_zero, List.set_cons_succ, List.length_cons, List.length_nil, List.cons_append, List.nil_append, List.append_nil, List.replicate, List.map_cons, List.map_nil, Option.map_some, Option.map_none, Option.bind_some, Option.bind_none, if_true, if_false, reduceIte, ↓reduceIte, Nat.reduceAdd, Nat.reduceSub, Nat.reduceLeDiff, Nat.reduceLT, Nat.reduceEqDiff, Int.reduceLT, Int.reduceLE, Bool.not_true, Bool.not_false, Bool.false_eq_true, sz0, sz1, sz2, sz3, sz4, sz5, sz6, sz7, sz8, sz9, sz10, sz11, sz12, sz13, sz14, sz15, oEq_str, oEq_int, oNe_str, oNe_int, decide_false, decide_true, and_self, n_num_text, n_num_add, n_num_mul, n_num_less, n_num_join, n_num_long, n_num_show, n_num_swap, n_num_drop, n_num_copy, n_num_e, n_num_empty, n_num_kind, n_text_num, n_text_add, n_text_mul, n_text_less, n_text_join, n_text_long, n_text_show, n_text_swap, n_text_drop, n_text_copy, n_text_e, n_text_empty, n_text_kind, n_add_num, n_add_text, n_add_mul, n_add_less, n_add_join, n_add_long, n_add_show, n_add_swap, n_add_drop, n_add_copy, n_add_e, n_add_empty, n_add_kind, n_mul_num, n_mul_text, n_mul_add, n_mul_less, n_mul_join, n_mul_long, n_mul_show, n_mul_swap, n_mul_drop, n_mul_copy, n_mul_e, n_mul_empty, n_mul_kind, n_less_num, n_less_text, n_less_add, n_less_mul, n_less_join, n_less_long, n_less_show, n_less_swap, n_less_drop, n_less_copy, n_less_e, n_less_empty, n_less_kind, n_join_num, n_join_text, n_join_add, n_join_mul, n_join_less, n_join_long, n_join_show, n_join_swap, n_join_drop, n_join_copy, n_join_e, n_join_empty, n_join_kind, n_long_num, n_long_text, n_long_add, n_long_mul, n_long_less, n_long_join, n_long_show, n_long_swap, n_long_drop, n_long_copy, n_long_e, n_long_empty, n_long_kind, n_show_num, n_show_text, n_show_add, n_show_mul, n_show_less, n_show_join, n_show_long, n_show_swap, n_show_drop, n_show_copy, n_show_e, n_show_empty, n_show_kind, n_swap_num, n_swap_text, n_swap_add, n_swap_mul, n_swap_less, n_swap_join, n_swap_long, n_swap_show, n_swap_drop, n_swap_copy, n_swap_e, n_swap_empty, n_swap_kind, n_drop_num, n_drop_text, n_drop_add, n_drop_mul, n_drop_less, n_drop_join, n_drop_long, n_drop_show, n_drop_swap, n_drop_copy, n_drop_e, n_drop_empty, n_drop_kind, n_copy_num, n_copy_text, n_copy_add, n_copy_mul, n_copy_less, n_copy_join, n_copy_long, n_copy_show, n_copy_swap, n_copy_drop, n_copy_e, n_copy_empty, n_copy_kind, n_e_num, n_e_text, n_e_add, n_e_mul, n_e_less, n_e_join, n_e_long, n_e_show, n_e_swap, n_e_drop, n_e_copy, n_e_empty, n_e_kind, n_empty_num, n_empty_text, n_empty_add, n_empty_mul, n_empty_less, n_empty_join, n_empty_long, n_empty_show, n_empty_swap, n_empty_drop, n_empty_copy, n_empty_e, n_empty_kind, n_kind_num, n_kind_text, n_kind_add, n_kind_mul, n_kind_less, n_kind_join, n_kind_long, n_kind_show, n_kind_swap, n_kind_drop, n_kind_copy, n_kind_e, n_kind_empty, lW_num, lW_text, lW_add, lW_mul, lW_less, lW_join, lW_long, lW_show, lW_swap, lW_drop, lW_copy, lW_if, lT_num, lT_text, lT_add, lT_mul, lT_less, lT_join, lT_long, lT_show, lT_swap, lT_drop, lT_copy, lT_if, lP_num, lP_text, lP_add, lP_mul, lP_less, lP_join, lP_long, lP_show, lP_swap, lP_drop, lP_copy, lF_added, lF_multiplied, lF_compared, lF_joined, lF_measured, lF_shown, lF_swapped, lF_dropped, lF_copied, lI_num, lI_text, lI_add, lI_mul, lI_less, lI_join, lI_long, lI_show, lI_swap, lI_drop, lI_copy, lH_Empty_Empty, lH_WrongKind_Empty, lA_Empty, lH_Empty_WrongKind, lH_WrongKind_WrongKind, lA_WrongKind, hd]
theorem done_ok {r : D} {W : List D} (h : Row r W) (xs : List D) (hx : AllV xs) (hl : xs.length ≤ 200) (out : List D) (ho : out.length ≤ 1000)
    (hc : F_check [.val r, .val (.tup ((xs.drop (xs.length - W.length)).map kD))] = .ret (.dd .non) [.val r, .val (.tup ((xs.drop (xs.length - W.length)).map kD))])
    (hq : F_put_by [.val r, .val (.lst (xs.drop (xs.length - W.length)))] = .ret (.ow (.own out)) [.val r, .val (.lst (xs.drop (xs.length - W.length)))]) :
    F_done [.own xs, .val r] = .ret (.ow (.own (xs.take (xs.length - W.length) ++ out))) [.own xs, .val r] := by
  have hd := do_ok h xs hx hl out ho hc hq
  unfold F_done M_done
  simp only [mkF, pad, outs, mSeq, mAsg, mAsgG, mExpr, mRet, mRetV, mRetN, mIfS, mIf, mNx, mTest, tmNot, tmAnd, tmOr, mVar, mC, mB, TL.m1, TL.m2, opt, use, R.fix, frz, tak, Cell.dat, mSeqD, mArgs, vals, mSl, mPart, mgSeq, setAll, D.items, mCall, give, mPut, mApp, mPop, mIns, ownL, mFor, miSeq, miRange, mAndV, mOrV, mNotV, D.bool, D.tru, mKGet, mKIn, mCallV, mRaise, mTry, mHands, mAny, mJoin, mLc, oAdd, oSub, oMul, oDiv, oMod, oPow, oNeg, oCmp, oIx, oSl, oLen, oList, oTuple, oStr, oInt, oMax, oMin, oIn, List.getElem?_cons_zero, List.getElem?_cons_succ, List.getElem?_nil, List.set_cons_zero, List.set_cons_succ, List.length_cons, List.length_nil, List.cons_append, List.nil_append, List.append_nil, List.replicate, List.map_cons, List.map_nil, Option.map_some, Option.map_none, Option.bind_some, Option.bind_none, if_true, if_false, reduceIte, ↓reduceIte, Nat.reduceAdd, Nat.reduceSub, Nat.reduceLeDiff, Nat.reduceLT, Nat.reduceEqDiff, Int.reduceLT, Int.reduceLE, Bool.not_true, Bool.not_false, Bool.false_eq_true, sz0, sz1, sz2, sz3, sz4, sz5, sz6, sz7, sz8, sz9, sz10, sz11, sz12, sz13, sz14, sz15, oEq_str, oEq_int, oNe_str, oNe_int, decide_false, decide_true, and_self, n_num_text, n_num_add, n_num_mul, n_num_less, n_num_join, n_num_long, n_num_show, n_num_swap, n_num_drop, n_num_copy, n_num_e, n_num_empty, n_num_kind, n_text_num, n_text_add, n_text_mul, n_text_less, n_text_join, n_text_long, n_text_show, n_text_swap, n_text_drop, n_text_copy, n_text_e, n_text_empty, n_text_kind, n_add_num, n_add_text, n_add_mul, n_add_less, n_add_join, n_add_long, n_add_show, n_add_swap, n_add_drop, n_add_copy, n_add_e, n_add_empty, n_add_kind, n_mul_num, n_mul_text, n_mul_add, n_mul_less, n_mul_join, n_mul_long, n_mul_show, n_mul_swap, n_mul_drop, n_mul_copy, n_mul_e, n_mul_empty, n_mul_kind, n_less_num, n_less_text, n_less_add, n_less_mul, n_less_join, n_less_long, n_less_show, n_less_swap, n_less_drop, n_less_copy, n_less_e, n_less_empty, n_less_kind, n_join_num, n_join_text, n_join_add, n_join_mul, n_join_less, n_join_long, n_join_show, n_join_swap, n_join_drop, n_join_copy, n_join_e, n_join_empty, n_join_kind, n_long_num, n_long_text, n_long_add, n_long_mul, n_long_less, n_long_join, n_long_show, n_long_swap, n_long_drop, n_long_copy, n_long_e, n_long_empty, n_long_kind, n_show_num, n_show_text, n_show_add, n_show_mul, n_show_less, n_show_join, n_show_long, n_show_swap, n_show_drop, n_show_copy, n_show_e, n_show_empty, n_show_kind, n_swap_num, n_swap_text, n_swap_add, n_swap_mul, n_swap_less, n_swap_join, n_swap_long, n_swap_show, n_swap_drop, n_swap_copy, n_swap_e, n_swap_empty, n_swap_kind, n_drop_num, n_drop_text, n_drop_add, n_drop_mul, n_drop_less, n_drop_join, n_drop_long, n_drop_show, n_drop_swap, n_drop_copy, n_drop_e, n_drop_empty, n_drop_kind, n_copy_num, n_copy_text, n_copy_add, n_copy_mul, n_copy_less, n_copy_join, n_copy_long, n_copy_show, n_copy_swap, n_copy_drop, n_copy_e, n_copy_empty, n_copy_kind, n_e_num, n_e_text, n_e_add, n_e_mul, n_e_less, n_e_join, n_e_long, n_e_show, n_e_swap, n_e_drop, n_e_copy, n_e_empty, n_e_kind, n_empty_num, n_empty_text, n_empty_add, n_empty_mul, n_empty_less, n_empty_join, n_empty_long, n_empty_show, n_empty_swap, n_empty_drop, n_empty_copy, n_empty_e, n_empty_kind, n_kind_num, n_kind_text, n_kind_add, n_kind_mul, n_kind_less, n_kind_join, n_kind_long, n_kind_show, n_kind_swap, n_kind_drop, n_kind_copy, n_kind_e, n_kind_empty, lW_num, lW_text, lW_add, lW_mul, lW_less, lW_join, lW_long, lW_show, lW_swap, lW_drop, lW_copy, lW_if, lT_num, lT_text, lT_add, lT_mul, lT_less, lT_join, lT_long, lT_show, lT_swap, lT_drop, lT_copy, lT_if, lP_num, lP_text, lP_add, lP_mul, lP_less, lP_join, lP_long, lP_show, lP_swap, lP_drop, lP_copy, lF_added, lF_multiplied, lF_compared, lF_joined, lF_measured, lF_shown, lF_swapped, lF_dropped, lF_copied, lI_num, lI_text, lI_add, lI_mul, lI_less, lI_join, lI_long, lI_show, lI_swap, lI_drop, lI_copy, lH_Empty_Empty, lH_WrongKind_Empty, lA_Empty, lH_Empty_WrongKind, lH_WrongKind_WrongKind, lA_WrongKind, hd]
end LW

namespace LW
open PySem L2 TL
theorem told_ret {xs zs : List D} {r : D} (h : F_done [.own xs, .val r] = .ret (.ow (.own zs)) [.own xs, .val r]) : F_law_told [.own xs, .val r] = .ret (.ow (.own zs)) [.own xs, .val r] := by
  unfold F_law_told M_law_told
  simp only [mkF, pad, outs, mSeq, mAsg, mAsgG, mExpr, mRet, mRetV, mRetN, mIfS, mIf, mNx, mTest, tmNot, tmAnd, tmOr, mVar, mC, mB, TL.m1, TL.m2, opt, use, R.fix, frz, tak, Cell.dat, mSeqD, mArgs, vals, mSl, mPart, mgSeq, setAll, D.items, mCall, give, mPut, mApp, mPop, mIns, ownL, mFor, miSeq, miRange, mAndV, mOrV, mNotV, D.bool, D.tru, mKGet, mKIn, mCallV, mRaise, mTry, mHands, mAny, mJoin, mLc, oAdd, oSub, oMul, oDiv, oMod, oPow, oNeg, oCmp, oIx, oSl, oLen, oList, oTuple, oStr, oInt, oMax, oMin, oIn, List.getElem?_cons_zero, List.getElem?_cons_succ, List.getElem?_nil, List.set_cons_zero, List.set_cons_succ, List.length_cons, List.length_nil, List.cons_append, List.nil_append, List.append_nil, List.replicate, List.map_cons, List.map_nil, Option.map_some, Option.map_none, Option.bind_some, Option.bind_none, if_true, if_false, reduceIte, ↓reduceIte, Nat.reduceAdd, Nat.reduceSub, Nat.reduceLeDiff, Nat.reduceLT, Nat.reduceEqDiff, Int.reduceLT, Int.reduceLE, Bool.not_true, Bool.not_false, Bool.false_eq_true, sz0, sz1, sz2, sz3, sz4, sz5, sz6, sz7, sz8, sz9, sz10, sz11, sz12, sz13, sz14, sz15, oEq_str, oEq_int, oNe_str, oNe_int, decide_false, decide_true, and_self, n_num_text, n_num_add, n_num_mul, n_num_less, n_num_join, n_num_long, n_num_show, n_num_swap, n_num_drop, n_num_copy, n_num_e, n_num_empty, n_num_kind, n_text_num, n_text_add, n_text_mul, n_text_less, n_text_join, n_text_long, n_text_show, n_text_swap, n_text_drop, n_text_copy, n_text_e, n_text_empty, n_text_kind, n_add_num, n_add_text, n_add_mul, n_add_less, n_add_join, n_add_long, n_add_show, n_add_swap, n_add_drop, n_add_copy, n_add_e, n_add_empty, n_add_kind, n_mul_num, n_mul_text, n_mul_add, n_mul_less, n_mul_join, n_mul_long, n_mul_show, n_mul_swap, n_mul_drop, n_mul_copy, n_mul_e, n_mul_empty, n_mul_kind, n_less_num, n_less_text, n_less_add, n_less_mul, n_less_join, n_less_long, n_less_show, n_less_swap, n_less_drop, n_less_copy, n_less_e, n_less_empty, n_less_kind, n_join_num, n_join_text, n_join_add, n_join_mul, n_join_less, n_join_long, n_join_show, n_join_swap, n_join_drop, n_join_copy, n_join_e, n_join_empty, n_join_kind, n_long_num, n_long_text, n_long_add, n_long_mul, n_long_less, n_long_join, n_long_show, n_long_swap, n_long_drop, n_long_copy, n_long_e, n_long_empty, n_long_kind, n_show_num, n_show_text, n_show_add, n_show_mul, n_show_less, n_show_join, n_show_long, n_show_swap, n_show_drop, n_show_copy, n_show_e, n_show_empty, n_show_kind, n_swap_num, n_swap_text, n_swap_add, n_swap_mul, n_swap_less, n_swap_join, n_swap_long, n_swap_show, n_swap_drop, n_swap_copy, n_swap_e, n_swap_empty, n_swap_kind, n_drop_num, n_drop_text, n_drop_add, n_drop_mul, n_drop_less, n_drop_join, n_drop_long, n_drop_show, n_drop_swap, n_drop_copy, n_drop_e, n_drop_empty, n_drop_kind, n_copy_num, n_copy_text, n_copy_add, n_copy_mul, n_copy_less, n_copy_join, n_copy_long, n_copy_show, n_copy_swap, n_copy_drop, n_copy_e, n_copy_empty, n_copy_kind, n_e_num, n_e_text, n_e_add, n_e_mul, n_e_less, n_e_join, n_e_long, n_e_show, n_e_swap, n_e_drop, n_e_copy, n_e_empty, n_e_kind, n_empty_num, n_empty_text, n_empty_add, n_empty_mul, n_empty_less, n_empty_join, n_empty_long, n_empty_show, n_empty_swap, n_empty_drop, n_empty_copy, n_empty_e, n_empty_kind, n_kind_num, n_kind_text, n_kind_add, n_kind_mul, n_kind_less, n_kind_join, n_kind_long, n_kind_show, n_kind_swap, n_kind_drop, n_kind_copy, n_kind_e, n_kind_empty, lW_num, lW_text, lW_add, lW_mul, lW_less, lW_join, lW_long, lW_show, lW_swap, lW_drop, lW_copy, lW_if, lT_num, lT_text, lT_add, lT_mul, lT_less, lT_join, lT_long, lT_show, lT_swap, lT_drop, lT_copy, lT_if, lP_num, lP_text, lP_add, lP_mul, lP_less, lP_join, lP_long, lP_show, lP_swap, lP_drop, lP_copy, lF_added, lF_multiplied, lF_compared, lF_joined, lF_measured, lF_shown, lF_swapped, lF_dropped, lF_copied, lI_num, lI_text, lI_add, lI_mul, lI_less, lI_join, lI_long, lI_show, lI_swap, lI_drop, lI_copy, lH_Empty_Empty, lH_WrongKind_Empty, lA_Empty, lH_Empty_WrongKind, lH_WrongKind_WrongKind, lA_WrongKind, h]
theorem told_empty {xs : List D} {r : D} (h : F_done [.own xs, .val r] = .exc "Empty" [.own xs, .val r]) : F_law_told [.own xs, .val r] = .ret (.dd (.str "empty")) [.own xs, .val r] := by
  unfold F_law_told M_law_told
  simp only [mkF, pad, outs, mSeq, mAsg, mAsgG, mExpr, mRet, mRetV, mRetN, mIfS, mIf, mNx, mTest, tmNot, tmAnd, tmOr, mVar, mC, mB, TL.m1, TL.m2, opt, use, R.fix, frz, tak, Cell.dat, mSeqD, mArgs, vals, mSl, mPart, mgSeq, setAll, D.items, mCall, give, mPut, mApp, mPop, mIns, ownL, mFor, miSeq, miRange, mAndV, mOrV, mNotV, D.bool, D.tru, mKGet, mKIn, mCallV, mRaise, mTry, mHands, mAny, mJoin, mLc, oAdd, oSub, oMul, oDiv, oMod, oPow, oNeg, oCmp, oIx, oSl, oLen, oList, oTuple, oStr, oInt, oMax, oMin, oIn, List.getElem?_cons_zero, List.getElem?_cons_succ, List.getElem?_nil, List.set_cons_zero, List.set_cons_succ, List.length_cons, List.length_nil, List.cons_append, List.nil_append, List.append_nil, List.replicate, List.map_cons, List.map_nil, Option.map_some, Option.map_none, Option.bind_some, Option.bind_none, if_true, if_false, reduceIte, ↓reduceIte, Nat.reduceAdd, Nat.reduceSub, Nat.reduceLeDiff, Nat.reduceLT, Nat.reduceEqDiff, Int.reduceLT, Int.reduceLE, Bool.not_true, Bool.not_false, Bool.false_eq_true, sz0, sz1, sz2, sz3, sz4, sz5, sz6, sz7, sz8, sz9, sz10, sz11, sz12, sz13, sz14, sz15, oEq_str, oEq_int, oNe_str, oNe_int, decide_false, decide_true, and_self, n_num_text, n_num_add, n_num_mul, n_num_less, n_num_join, n_num_long, n_num_show, n_num_swap, n_num_drop, n_num_copy, n_num_e, n_num_empty, n_num_kind, n_text_num, n_text_add, n_text_mul, n_text_less, n_text_join, n_text_long, n_text_show, n_text_swap, n_text_drop, n_text_copy, n_text_e, n_text_empty, n_text_kind, n_add_num, n_add_text, n_add_mul, n_add_less, n_add_join, n_add_long, n_add_show, n_add_swap, n_add_drop, n_add_copy, n_add_e, n_add_empty, n_add_kind, n_mul_num, n_mul_text, n_mul_add, n_mul_less, n_mul_join, n_mul_long, n_mul_show, n_mul_swap, n_mul_drop, n_mul_copy, n_mul_e, n_mul_empty, n_mul_kind, n_less_num, n_less_text, n_less_add, n_less_mul, n_less_join, n_less_long, n_less_show, n_less_swap, n_less_drop, n_less_copy, n_less_e, n_less_empty, n_less_kind, n_join_num, n_join_text, n_join_add, n_join_mul, n_join_less, n_join_long, n_join_show, n_join_swap, n_join_drop, n_join_copy, n_join_e, n_join_empty, n_join_kind, n_long_num, n_long_text, n_long_add, n_long_mul, n_long_less, n_long_join, n_long_show, n_long_swap, n_long_drop, n_long_copy, n_long_e, n_long_empty, n_long_kind, n_show_num, n_show_text, n_show_add, n_show_mul, n_show_less, n_show_join, n_show_long, n_show_swap, n_show_drop, n_show_copy, n_show_e, n_show_empty, n_show_kind, n_swap_num, n_swap_text, n_swap_add, n_swap_mul, n_swap_less, n_swap_join, n_swap_long, n_swap_show, n_swap_drop, n_swap_copy, n_swap_e, n_swap_empty, n_swap_kind, n_drop_num, n_drop_text, n_drop_add, n_drop_mul, n_drop_less, n_drop_join, n_drop_long, n_drop_show, n_drop_swap, n_drop_copy, n_drop_e, n_drop_empty, n_drop_kind, n_copy_num, n_copy_text, n_copy_add, n_copy_mul, n_copy_less, n_copy_join, n_copy_long, n_copy_show, n_copy_swap, n_copy_drop, n_copy_e, n_copy_empty, n_copy_kind, n_e_num, n_e_text, n_e_add, n_e_mul, n_e_less, n_e_join, n_e_long, n_e_show, n_e_swap, n_e_drop, n_e_copy, n_e_empty, n_e_kind, n_empty_num, n_empty_text, n_empty_add, n_empty_mul, n_empty_less, n_empty_join, n_empty_long, n_empty_show, n_empty_swap, n_empty_drop, n_empty_copy, n_empty_e, n_empty_kind, n_kind_num, n_kind_text, n_kind_add, n_kind_mul, n_kind_less, n_kind_join, n_kind_long, n_kind_show, n_kind_swap, n_kind_drop, n_kind_copy, n_kind_e, n_kind_empty, lW_num, lW_text, lW_add, lW_mul, lW_less, lW_join, lW_long, lW_show, lW_swap, lW_drop, lW_copy, lW_if, lT_num, lT_text, lT_add, lT_mul, lT_less, lT_join, lT_long, lT_show, lT_swap, lT_drop, lT_copy, lT_if, lP_num, lP_text, lP_add, lP_mul, lP_less, lP_join, lP_long, lP_show, lP_swap, lP_drop, lP_copy, lF_added, lF_multiplied, lF_compared, lF_joined, lF_measured, lF_shown, lF_swapped, lF_dropped, lF_copied, lI_num, lI_text, lI_add, lI_mul, lI_less, lI_join, lI_long, lI_show, lI_swap, lI_drop, lI_copy, lH_Empty_Empty, lH_WrongKind_Empty, lA_Empty, lH_Empty_WrongKind, lH_WrongKind_WrongKind, lA_WrongKind, h]
theorem told_kind {xs : List D} {r : D} (h : F_done [.own xs, .val r] = .exc "WrongKind" [.own xs, .val r]) : F_law_told [.own xs, .val r] = .ret (.dd (.str "kind")) [.own xs, .val r] := by
  unfold F_law_told M_law_told
  simp only [mkF, pad, outs, mSeq, mAsg, mAsgG, mExpr, mRet, mRetV, mRetN, mIfS, mIf, mNx, mTest, tmNot, tmAnd, tmOr, mVar, mC, mB, TL.m1, TL.m2, opt, use, R.fix, frz, tak, Cell.dat, mSeqD, mArgs, vals, mSl, mPart, mgSeq, setAll, D.items, mCall, give, mPut, mApp, mPop, mIns, ownL, mFor, miSeq, miRange, mAndV, mOrV, mNotV, D.bool, D.tru, mKGet, mKIn, mCallV, mRaise, mTry, mHands, mAny, mJoin, mLc, oAdd, oSub, oMul, oDiv, oMod, oPow, oNeg, oCmp, oIx, oSl, oLen, oList, oTuple, oStr, oInt, oMax, oMin, oIn, List.getElem?_cons_zero, List.getElem?_cons_succ, List.getElem?_nil, List.set_cons_zero, List.set_cons_succ, List.length_cons, List.length_nil, List.cons_append, List.nil_append, List.append_nil, List.replicate, List.map_cons, List.map_nil, Option.map_some, Option.map_none, Option.bind_some, Option.bind_none, if_true, if_false, reduceIte, ↓reduceIte, Nat.reduceAdd, Nat.reduceSub, Nat.reduceLeDiff, Nat.reduceLT, Nat.reduceEqDiff, Int.reduceLT, Int.reduceLE, Bool.not_true, Bool.not_false, Bool.false_eq_true, sz0, sz1, sz2, sz3, sz4, sz5, sz6, sz7, sz8, sz9, sz10, sz11, sz12, sz13, sz14, sz15, oEq_str, oEq_int, oNe_str, oNe_int, decide_false, decide_true, and_self, n_num_text, n_num_add, n_num_mul, n_num_less, n_num_join, n_num_long, n_num_show, n_num_swap, n_num_drop, n_num_copy, n_num_e, n_num_empty, n_num_kind, n_text_num, n_text_add, n_text_mul, n_text_less, n_text_join, n_text_long, n_text_show, n_text_swap, n_text_drop, n_text_copy, n_text_e, n_text_empty, n_text_kind, n_add_num, n_add_text, n_add_mul, n_add_less, n_add_join, n_add_long, n_add_show, n_add_swap, n_add_drop, n_add_copy, n_add_e, n_add_empty, n_add_kind, n_mul_num, n_mul_text, n_mul_add, n_mul_less, n_mul_join, n_mul_long, n_mul_show, n_mul_swap, n_mul_drop, n_mul_copy, n_mul_e, n_mul_empty, n_mul_kind, n_less_num, n_less_text, n_less_add, n_less_mul, n_less_join, n_less_long, n_less_show, n_less_swap, n_less_drop, n_less_copy, n_less_e, n_less_empty, n_less_kind, n_join_num, n_join_text, n_join_add, n_join_mul, n_join_less, n_join_long, n_join_show, n_join_swap, n_join_drop, n_join_copy, n_join_e, n_join_empty, n_join_kind, n_long_num, n_long_text, n_long_add, n_long_mul, n_long_less, n_long_join, n_long_show, n_long_swap, n_long_drop, n_long_copy, n_long_e, n_long_empty, n_long_kind, n_show_num, n_show_text, n_show_add, n_show_mul, n_show_less, n_show_join, n_show_long, n_show_swap, n_show_drop, n_show_copy, n_show_e, n_show_empty, n_show_kind, n_swap_num, n_swap_text, n_swap_add, n_swap_mul, n_swap_less, n_swap_join, n_swap_long, n_swap_show, n_swap_drop, n_swap_copy, n_swap_e, n_swap_empty, n_swap_kind, n_drop_num, n_drop_text, n_drop_add, n_drop_mul, n_drop_less, n_drop_join, n_drop_long, n_drop_show, n_drop_swap, n_drop_copy, n_drop_e, n_drop_empty, n_drop_kind, n_copy_num, n_copy_text, n_copy_add, n_copy_mul, n_copy_less, n_copy_join, n_copy_long, n_copy_show, n_copy_swap, n_copy_drop, n_copy_e, n_copy_empty, n_copy_kind, n_e_num, n_e_text, n_e_add, n_e_mul, n_e_less, n_e_join, n_e_long, n_e_show, n_e_swap, n_e_drop, n_e_copy, n_e_empty, n_e_kind, n_empty_num, n_empty_text, n_empty_add, n_empty_mul, n_empty_less, n_empty_join, n_empty_long, n_empty_show, n_empty_swap, n_empty_drop, n_empty_copy, n_empty_e, n_empty_kind, n_kind_num, n_kind_text, n_kind_add, n_kind_mul, n_kind_less, n_kind_join, n_kind_long, n_kind_show, n_kind_swap, n_kind_drop, n_kind_copy, n_kind_e, n_kind_empty, lW_num, lW_text, lW_add, lW_mul, lW_less, lW_join, lW_long, lW_show, lW_swap, lW_drop, lW_copy, lW_if, lT_num, lT_text, lT_add, lT_mul, lT_less, lT_join, lT_long, lT_show, lT_swap, lT_drop, lT_copy, lT_if, lP_num, lP_text, lP_add, lP_mul, lP_less, lP_join, lP_long, lP_show, lP_swap, lP_drop, lP_copy, lF_added, lF_multiplied, lF_compared, lF_joined, lF_measured, lF_shown, lF_swapped, lF_dropped, lF_copied, lI_num, lI_text, lI_add, lI_mul, lI_less, lI_join, lI_long, lI_show, lI_swap, lI_drop, lI_copy, lH_Empty_Empty, lH_WrongKind_Empty, lA_Empty, lH_Empty_WrongKind, lH_WrongKind_WrongKind, lA_WrongKind, h]
theorem any_ok {xs : List D} {r : D} {x : Str} (hx : x = "Empty" ∨ x = "WrongKind") (h : F_done [.own xs, .val r] = .exc x [.own xs, .val r]) : F_law_any [.own xs, .val r] = .ret (.dd (.bl true)) [.own xs, .val r] := by
  rcases hx with rfl | rfl
  all_goals
    unfold F_law_any M_law_any
    simp only [mkF, pad, outs, mSeq, mAsg, mAsgG, mExpr, mRet, mRetV, mRetN, mIfS, mIf, mNx, mTest, tmNot, tmAnd, tmOr, mVar, mC, mB, TL.m1, TL.m2, opt, use, R.fix, frz, tak, Cell.dat, mSeqD, mArgs, vals, mSl, mPart, mgSeq, setAll, D.items, mCall, give, mPut, mApp, mPop, mIns, ownL, mFor, miSeq, miRange, mAndV, mOrV, mNotV, D.bool, D.tru, mKGet, mKIn, mCallV, mRaise, mTry, mHands, mAny, mJoin, mLc, oAdd, oSub, oMul, oDiv, oMod, oPow, oNeg, oCmp, oIx, oSl, oLen, oList, oTuple, oStr, oInt, oMax, oMin, oIn, List.getElem?_cons_zero, List.getElem?_cons_succ, List.getElem?_nil, List.set_cons_zero, List.set_cons_succ, List.length_cons, List.length_nil, List.cons_append, List.nil_append, List.append_nil, List.replicate, List.map_cons, List.map_nil, Option.map_some, Option.map_none, Option.bind_some, Option.bind_none, if_true, if_false, reduceIte, ↓reduceIte, Nat.reduceAdd, Nat.reduceSub, Nat.reduceLeDiff, Nat.reduceLT, Nat.reduceEqDiff, Int.reduceLT, Int.reduceLE, Bool.not_true, Bool.not_false, Bool.false_eq_true, sz0, sz1, sz2, sz3, sz4, sz5, sz6, sz7, sz8, sz9, sz10, sz11, sz12, sz13, sz14, sz15, oEq_str, oEq_int, oNe_str, oNe_int, decide_false, decide_true, and_self, n_num_text, n_num_add, n_num_mul, n_num_less, n_num_join, n_num_long, n_num_show, n_num_swap, n_num_drop, n_num_copy, n_num_e, n_num_empty, n_num_kind, n_text_num, n_text_add, n_text_mul, n_text_less, n_text_join, n_text_long, n_text_show, n_text_swap, n_text_drop, n_text_copy, n_text_e, n_text_empty, n_text_kind, n_add_num, n_add_text, n_add_mul, n_add_less, n_add_join, n_add_long, n_add_show, n_add_swap, n_add_drop, n_add_copy, n_add_e, n_add_empty, n_add_kind, n_mul_num, n_mul_text, n_mul_add, n_mul_less, n_mul_join, n_mul_long, n_mul_show, n_mul_swap, n_mul_drop, n_mul_copy, n_mul_e, n_mul_empty, n_mul_kind, n_less_num, n_less_text, n_less_add, n_less_mul, n_less_join, n_less_long, n_less_show, n_less_swap, n_less_drop, n_less_copy, n_less_e, n_less_empty, n_less_kind, n_join_num, n_join_text, n_join_add, n_join_mul, n_join_less, n_join_long, n_join_show, n_join_swap, n_join_drop, n_join_copy, n_join_e, n_join_empty, n_join_kind, n_long_num, n_long_text, n_long_add, n_long_mul, n_long_less, n_long_join, n_long_show, n_long_swap, n_long_drop, n_long_copy, n_long_e, n_long_empty, n_long_kind, n_show_num, n_show_text, n_show_add, n_show_mul, n_show_less, n_show_join, n_show_long, n_show_swap, n_show_drop, n_show_copy, n_show_e, n_show_empty, n_show_kind, n_swap_num, n_swap_text, n_swap_add, n_swap_mul, n_swap_less, n_swap_join, n_swap_long, n_swap_show, n_swap_drop, n_swap_copy, n_swap_e, n_swap_empty, n_swap_kind, n_drop_num, n_drop_text, n_drop_add, n_drop_mul, n_drop_less, n_drop_join, n_drop_long, n_drop_show, n_drop_swap, n_drop_copy, n_drop_e, n_drop_empty, n_drop_kind, n_copy_num, n_copy_text, n_copy_add, n_copy_mul, n_copy_less, n_copy_join, n_copy_long, n_copy_show, n_copy_swap, n_copy_drop, n_copy_e, n_copy_empty, n_copy_kind, n_e_num, n_e_text, n_e_add, n_e_mul, n_e_less, n_e_join, n_e_long, n_e_show, n_e_swap, n_e_drop, n_e_copy, n_e_empty, n_e_kind, n_empty_num, n_empty_text, n_empty_add, n_empty_mul, n_empty_less, n_empty_join, n_empty_long, n_empty_show, n_empty_swap, n_empty_drop, n_empty_copy, n_empty_e, n_empty_kind, n_kind_num, n_kind_text, n_kind_add, n_kind_mul, n_kind_less, n_kind_join, n_kind_long, n_kind_show, n_kind_swap, n_kind_drop, n_kind_copy, n_kind_e, n_kind_empty, lW_num, lW_text, lW_add, lW_mul, lW_less, lW_join, lW_long, lW_show, lW_swap, lW_drop, lW_copy, lW_if, lT_num, lT_text, lT_add, lT_mul, lT_less, lT_join, lT_long, lT_show, lT_swap, lT_drop, lT_copy, lT_if, lP_num, lP_text, lP_add, lP_mul, lP_less, lP_join, lP_long, lP_show, lP_swap, lP_drop, lP_copy, lF_added, lF_multiplied, lF_compared, lF_joined, lF_measured, lF_shown, lF_swapped, lF_dropped, lF_copied, lI_num, lI_text, lI_add, lI_mul, lI_less, lI_join, lI_long, lI_show, lI_swap, lI_drop, lI_copy, lH_Empty_Empty, lH_WrongKind_Empty, lA_Empty, lH_Empty_WrongKind, lH_WrongKind_WrongKind, lA_WrongKind, h, Nat.reduceLT]
inductive OkD : D → Prop where
  | int (i : Int) : OkD (.int i)
  | str (s : Str) (h : PyData.strOk s = true) : OkD (.str s)
def AllOk (xs : List D) : Prop := ∀ d ∈ xs, OkD d
theorem IsVal.ok {d : D} (h : IsVal d) : OkD d := by
  cases h with
  | int i _ _ => exact .int i
  | str s h => exact .str s h.2
theorem pyL_ok : ∀ {xs : List D}, AllOk xs → ∃ ps, pyL xs = some ps ∧ PyData.canLayAll0 ps = true ∧ PyData.depthAll ps = 0 ∧ PyData.eqvAll ps ps = true
  | [], _ => ⟨[], rfl, rfl, rfl, rfl⟩
  | d :: ds, h => by
    obtain ⟨ps, h1, h2, h3, h4⟩ := pyL_ok (xs := ds) fun x hx => h x (List.mem_cons_of_mem _ hx)
    cases h d List.mem_cons_self with
    | int i => exact ⟨.int i :: ps, by unfold pyL; rw [h1]; rfl, by simp [PyData.canLayAll0, PyData.canLay0, h2], by simp [PyData.depthAll, PyData.depth, h3], by simp [PyData.eqvAll, PyData.eqv, h4]⟩
    | str s hs => exact ⟨.str s :: ps, by unfold pyL; rw [h1]; rfl, by simp [PyData.canLayAll0, PyData.canLay0, h2, hs], by simp [PyData.depthAll, PyData.depth, h3], by simp [PyData.eqvAll, PyData.eqv, h4]⟩
theorem oEq_same {xs : List D} (h : AllOk xs) : oEq (.lst xs) (.lst xs) = some (.dd (.bl true)) := by
  obtain ⟨ps, h1, h2, h3, h4⟩ := pyL_ok h
  have e : D.py (.lst xs) = some (.list ps) := by unfold D.py; rw [h1]; rfl
  have s : SeqAt.shaped (.list ps) = true := by simp [SeqAt.shaped, PyData.canLay0, h2, PyData.depth, h3]
  have q : PyData.eqv (.list ps) (.list ps) = true := by simp [PyData.eqv, h4]
  unfold oEq oEqB
  simp only [D.scal, e, s, and_self, if_true, q, Option.map_some]
theorem atI_mem (xs : List D) (k : Nat) (h : k < xs.length) : ∃ d ∈ xs, atI xs (k : Int) = some d := by
  obtain ⟨d, h1, h2⟩ := atI_lt xs (k : Int) (by omega) (by omega)
  exact ⟨d, h1, h2⟩
theorem alike_loop (xs : List D) (h : AllOk xs) (a b : Cell) : ∀ (js : List Nat) (c : Cell), (∀ j ∈ js, j < xs.length) → ∃ c', mLoop (mgName 2) B_law_alike_1 (js.map fun (k : Nat) => D.int k) [.own xs, .val (.lst xs), c] = .nx [.own xs, .val (.lst xs), c']
  | [], c, _ => ⟨c, rfl⟩
  | j :: js, c, hj => by
    obtain ⟨c', ih⟩ := alike_loop xs h a b js (.val (.int j)) fun x hx => hj x (List.mem_cons_of_mem _ hx)
    obtain ⟨d, h1, h2⟩ := atI_mem xs j (hj j List.mem_cons_self)
    refine ⟨c', ?_⟩
    rw [List.map_cons, mLoop_nx (ρ2 := [.own xs, .val (.lst xs), .val (.int j)]) rfl, ih]
    have c1 : ["bool", "int", "str", "list", "tuple", "dict"].contains "str" = true := by decide
    have c2 : ["bool", "int", "str", "list", "tuple", "dict"].contains "bool" = true := by decide
    have c3 : ["bool", "int", "str", "list", "tuple", "dict"].contains "int" = true := by decide
    cases h d h1 with
    | int i =>
      have t1 : oIsi (.int i) (.ty "str") = some (.dd (.bl false)) := rfl
      have t2 : oIsi (.int i) (.ty "bool") = some (.dd (.bl false)) := rfl
      have t3 : oIsi (.int i) (.ty "int") = some (.dd (.bl true)) := rfl
      unfold B_law_alike_1
      simp only [mkF, pad, outs, mSeq, mAsg, mAsgG, mExpr, mRet, mRetV, mRetN, mIfS, mIf, mNx, mTest, tmNot, tmAnd, tmOr, mVar, mC, mB, TL.m1, TL.m2, opt, use, R.fix, frz, tak, Cell.dat, mSeqD, mArgs, vals, mSl, mPart, mgSeq, setAll, D.items, mCall, give, mPut, mApp, mPop, mIns, ownL, mFor, miSeq, miRange, mAndV, mOrV, mNotV, D.bool, D.tru, mKGet, mKIn, mCallV, mRaise, mTry, mHands, mAny, mJoin, mLc, oAdd, oSub, oMul, oDiv, oMod, oPow, oNeg, oCmp, oIx, oSl, oLen, oList, oTuple, oStr, oInt, oMax, oMin, oIn, List.getElem?_cons_zero, List.getElem?_cons_succ, List.getElem?_nil, List.set_cons_zero, List.set_cons_succ, List.length_cons, List.length_nil, List.cons_append, List.nil_append, List.append_nil, List.replicate, List.map_cons, List.map_nil, Option.map_some, Option.map_none, Option.bind_some, Option.bind_none, if_true, if_false, reduceIte, ↓reduceIte, Nat.reduceAdd, Nat.reduceSub, Nat.reduceLeDiff, Nat.reduceLT, Nat.reduceEqDiff, Int.reduceLT, Int.reduceLE, Bool.not_true, Bool.not_false, Bool.false_eq_true, sz0, sz1, sz2, sz3, sz4, sz5, sz6, sz7, sz8, sz9, sz10, sz11, sz12, sz13, sz14, sz15, mgName, h2, t1, t2, t3, oNe_bl, decide_true]
    | str s hs =>
      have t1 : oIsi (.str s) (.ty "str") = some (.dd (.bl true)) := rfl
      unfold B_law_alike_1
      simp only [mkF, pad, outs, mSeq, mAsg, mAsgG, mExpr, mRet, mRetV, mRetN, mIfS, mIf, mNx, mTest, tmNot, tmAnd, tmOr, mVar, mC, mB, TL.m1, TL.m2, opt, use, R.fix, frz, tak, Cell.dat, mSeqD, mArgs, vals, mSl, mPart, mgSeq, setAll, D.items, mCall, give, mPut, mApp, mPop, mIns, ownL, mFor, miSeq, miRange, mAndV, mOrV, mNotV, D.bool, D.tru, mKGet, mKIn, mCallV, mRaise, mTry, mHands, mAny, mJoin, mLc, oAdd, oSub, oMul, oDiv, oMod, oPow, oNeg, oCmp, oIx, oSl, oLen, oList, oTuple, oStr, oInt, oMax, oMin, oIn, List.getElem?_cons_zero, List.getElem?_cons_succ, List.getElem?_nil, List.set_cons_zero, List.set_cons_succ, List.length_cons, List.length_nil, List.cons_append, List.nil_append, List.append_nil, List.replicate, List.map_cons, List.map_nil, Option.map_some, Option.map_none, Option.bind_some, Option.bind_none, if_true, if_false, reduceIte, ↓reduceIte, Nat.reduceAdd, Nat.reduceSub, Nat.reduceLeDiff, Nat.reduceLT, Nat.reduceEqDiff, Int.reduceLT, Int.reduceLE, Bool.not_true, Bool.not_false, Bool.false_eq_true, sz0, sz1, sz2, sz3, sz4, sz5, sz6, sz7, sz8, sz9, sz10, sz11, sz12, sz13, sz14, sz15, mgName, h2, t1, oNe_bl, decide_true]
theorem mSeq_nx {m k : MS} {ρ ρ1 : TL.Env} (h : m ρ = .nx ρ1) : mSeq m k ρ = k ρ1 := by unfold mSeq; rw [h]
theorem mFor_ok {mi : MI} {f : MG} {mb : MS} {ds : List D} {ρ ρ1 : TL.Env} (h : mi ρ = .ok ds ρ1) : mFor mi f mb ρ = mLoop f mb ds ρ1 := by unfold mFor; rw [h]
theorem rng_len (i : Nat) (xs : List D) (ρ : TL.Env) (hi : (ρ[i]?).bind Cell.dat = some (.lst xs)) (hl : xs.length < 1000000) : miRange (m1 oLen (mVar i)) ρ = .ok ((List.range xs.length).map fun (k : Nat) => .int k) ρ := by
  have hv : mVar i ρ = .ok (.at i) ρ := by
    unfold mVar
    cases hc : ρ[i]? with
    | none => rw [hc] at hi; cases hi
    | some c => rw [hc] at hi; cases c <;> first | rfl | cases hi
  have hm : m1 oLen (mVar i) ρ = .ok (.dd (.int xs.length)) ρ := by
    unfold m1 mB
    simp only [hv, R.fix, use, hi, oLen, opt]
  unfold miRange
  simp only [hm, R.fix, use]
  rw [if_pos (by omega), Int.toNat_natCast]
theorem alike_ok (xs : List D) (h : AllOk xs) (hl : xs.length ≤ 1000) : F_law_alike [.own xs, .val (.lst xs)] = .ret (.dd (.bl true)) [.own xs, .val (.lst xs)] := by
  obtain ⟨c', e⟩ := alike_loop xs h .no .no (List.range xs.length) .no fun j hj => List.mem_range.mp hj
  have t1 : oIsi (.lst xs) (.ty "list") = some (.dd (.bl true)) := rfl
  have hq := oEq_same h
  have hM : M_law_alike [.own xs, .val (.lst xs), .no] = .ret (.dd (.bl true)) [.own xs, .val (.lst xs), c'] := by
    unfold M_law_alike
    rw [mSeq_nx (ρ1 := [.own xs, .val (.lst xs), .no]) (by simp only [mkF, pad, outs, mSeq, mAsg, mAsgG, mExpr, mRet, mRetV, mRetN, mIfS, mIf, mNx, mTest, tmNot, tmAnd, tmOr, mVar, mC, mB, TL.m1, TL.m2, opt, use, R.fix, frz, tak, Cell.dat, mSeqD, mArgs, vals, mSl, mPart, mgSeq, setAll, D.items, mCall, give, mPut, mApp, mPop, mIns, ownL, mFor, miSeq, miRange, mAndV, mOrV, mNotV, D.bool, D.tru, mKGet, mKIn, mCallV, mRaise, mTry, mHands, mAny, mJoin, mLc, oAdd, oSub, oMul, oDiv, oMod, oPow, oNeg, oCmp, oIx, oSl, oLen, oList, oTuple, oStr, oInt, oMax, oMin, oIn, List.getElem?_cons_zero, List.getElem?_cons_succ, List.getElem?_nil, List.set_cons_zero, List.set_cons_succ, List.length_cons, List.length_nil, List.cons_append, List.nil_append, List.append_nil, List.replicate, List.map_cons, List.map_nil, Option.map_some, Option.map_none, Option.bind_some, Option.bind_none, if_true, if_false, reduceIte, ↓reduceIte, Nat.reduceAdd, Nat.reduceSub, Nat.reduceLeDiff, Nat.reduceLT, Nat.reduceEqDiff, Int.reduceLT, Int.reduceLE, Bool.not_true, Bool.not_false, Bool.false_eq_true, sz0, sz1, sz2, sz3, sz4, sz5, sz6, sz7, sz8, sz9, sz10, sz11, sz12, sz13, sz14, sz15, t1, oNe_int, decide_true]), mSeq_nx ((mFor_ok (rng_len 1 xs _ rfl (by omega))).trans e)]
    simp only [mkF, pad, outs, mSeq, mAsg, mAsgG, mExpr, mRet, mRetV, mRetN, mIfS, mIf, mNx, mTest, tmNot, tmAnd, tmOr, mVar, mC, mB, TL.m1, TL.m2, opt, use, R.fix, frz, tak, Cell.dat, mSeqD, mArgs, vals, mSl, mPart, mgSeq, setAll, D.items, mCall, give, mPut, mApp, mPop, mIns, ownL, mFor, miSeq, miRange, mAndV, mOrV, mNotV, D.bool, D.tru, mKGet, mKIn, mCallV, mRaise, mTry, mHands, mAny, mJoin, mLc, oAdd, oSub, oMul, oDiv, oMod, oPow, oNeg, oCmp, oIx, oSl, oLen, oList, oTuple, oStr, oInt, oMax, oMin, oIn, List.getElem?_cons_zero, List.getElem?_cons_succ, List.getElem?_nil, List.set_cons_zero, List.set_cons_succ, List.length_cons, List.length_nil, List.cons_append, List.nil_append, List.append_nil, List.replicate, List.map_cons, List.map_nil, Option.map_some, Option.map_none, Option.bind_some, Option.bind_none, if_true, if_false, reduceIte, ↓reduceIte, Nat.reduceAdd, Nat.reduceSub, Nat.reduceLeDiff, Nat.reduceLT, Nat.reduceEqDiff, Int.reduceLT, Int.reduceLE, Bool.not_true, Bool.not_false, Bool.false_eq_true, sz0, sz1, sz2, sz3, sz4, sz5, sz6, sz7, sz8, sz9, sz10, sz11, sz12, sz13, sz14, sz15, hq]
  unfold F_law_alike
  show (match M_law_alike [.own xs, .val (.lst xs), .no] with
    | .nx ρ => FR.ret (.dd .non) (outs [true, true] ρ)
    | .ret (.at _) _ => .bad
    | .ret r ρ => .ret r (outs [true, true] ρ)
    | .exc x ρ => .exc x (outs [true, true] ρ)
    | _ => .bad) = _
  rw [hM]
  rfl
/-! lack -/
theorem lack_few (ks : List D) (W : List D) (h : ks.length < W.length) : F_law_lack [.own ks, .val (.lst W)] = .ret (.dd (.str "empty")) [.own ks, .val (.lst W)] := by
  have hc : (ks.length : Int) < W.length := by omega
  unfold F_law_lack M_law_lack
  simp only [mkF, pad, outs, mSeq, mAsg, mAsgG, mExpr, mRet, mRetV, mRetN, mIfS, mIf, mNx, mTest, tmNot, tmAnd, tmOr, mVar, mC, mB, TL.m1, TL.m2, opt, use, R.fix, frz, tak, Cell.dat, mSeqD, mArgs, vals, mSl, mPart, mgSeq, setAll, D.items, mCall, give, mPut, mApp, mPop, mIns, ownL, mFor, miSeq, miRange, mAndV, mOrV, mNotV, D.bool, D.tru, mKGet, mKIn, mCallV, mRaise, mTry, mHands, mAny, mJoin, mLc, oAdd, oSub, oMul, oDiv, oMod, oPow, oNeg, oCmp, oIx, oSl, oLen, oList, oTuple, oStr, oInt, oMax, oMin, oIn, List.getElem?_cons_zero, List.getElem?_cons_succ, List.getElem?_nil, List.set_cons_zero, List.set_cons_succ, List.length_cons, List.length_nil, List.cons_append, List.nil_append, List.append_nil, List.replicate, List.map_cons, List.map_nil, Option.map_some, Option.map_none, Option.bind_some, Option.bind_none, if_true, if_false, reduceIte, ↓reduceIte, Nat.reduceAdd, Nat.reduceSub, Nat.reduceLeDiff, Nat.reduceLT, Nat.reduceEqDiff, Int.reduceLT, Int.reduceLE, Bool.not_true, Bool.not_false, Bool.false_eq_true, sz0, sz1, sz2, sz3, sz4, sz5, sz6, sz7, sz8, sz9, sz10, sz11, sz12, sz13, sz14, sz15, oEq_str, oEq_int, oNe_str, oNe_int, decide_false, decide_true, and_self, n_num_text, n_num_add, n_num_mul, n_num_less, n_num_join, n_num_long, n_num_show, n_num_swap, n_num_drop, n_num_copy, n_num_e, n_num_empty, n_num_kind, n_text_num, n_text_add, n_text_mul, n_text_less, n_text_join, n_text_long, n_text_show, n_text_swap, n_text_drop, n_text_copy, n_text_e, n_text_empty, n_text_kind, n_add_num, n_add_text, n_add_mul, n_add_less, n_add_join, n_add_long, n_add_show, n_add_swap, n_add_drop, n_add_copy, n_add_e, n_add_empty, n_add_kind, n_mul_num, n_mul_text, n_mul_add, n_mul_less, n_mul_join, n_mul_long, n_mul_show, n_mul_swap, n_mul_drop, n_mul_copy, n_mul_e, n_mul_empty, n_mul_kind, n_less_num, n_less_text, n_less_add, n_less_mul, n_less_join, n_less_long, n_less_show, n_less_swap, n_less_drop, n_less_copy, n_less_e, n_less_empty, n_less_kind, n_join_num, n_join_text, n_join_add, n_join_mul, n_join_less, n_join_long, n_join_show, n_join_swap, n_join_drop, n_join_copy, n_join_e, n_join_empty, n_join_kind, n_long_num, n_long_text, n_long_add, n_long_mul, n_long_less, n_long_join, n_long_show, n_long_swap, n_long_drop, n_long_copy, n_long_e, n_long_empty, n_long_kind, n_show_num, n_show_text, n_show_add, n_show_mul, n_show_less, n_show_join, n_show_long, n_show_swap, n_show_drop, n_show_copy, n_show_e, n_show_empty, n_show_kind, n_swap_num, n_swap_text, n_swap_add, n_swap_mul, n_swap_less, n_swap_join, n_swap_long, n_swap_show, n_swap_drop, n_swap_copy, n_swap_e, n_swap_empty, n_swap_kind, n_drop_num, n_drop_text, n_drop_add, n_drop_mul, n_drop_less, n_drop_join, n_drop_long, n_drop_show, n_drop_swap, n_drop_copy, n_drop_e, n_drop_empty, n_drop_kind, n_copy_num, n_copy_text, n_copy_add, n_copy_mul, n_copy_less, n_copy_join, n_copy_long, n_copy_show, n_copy_swap, n_copy_drop, n_copy_e, n_copy_empty, n_copy_kind, n_e_num, n_e_text, n_e_add, n_e_mul, n_e_less, n_e_join, n_e_long, n_e_show, n_e_swap, n_e_drop, n_e_copy, n_e_empty, n_e_kind, n_empty_num, n_empty_text, n_empty_add, n_empty_mul, n_empty_less, n_empty_join, n_empty_long, n_empty_show, n_empty_swap, n_empty_drop, n_empty_copy, n_empty_e, n_empty_kind, n_kind_num, n_kind_text, n_kind_add, n_kind_mul, n_kind_less, n_kind_join, n_kind_long, n_kind_show, n_kind_swap, n_kind_drop, n_kind_copy, n_kind_e, n_kind_empty, lW_num, lW_text, lW_add, lW_mul, lW_less, lW_join, lW_long, lW_show, lW_swap, lW_drop, lW_copy, lW_if, lT_num, lT_text, lT_add, lT_mul, lT_less, lT_join, lT_long, lT_show, lT_swap, lT_drop, lT_copy, lT_if, lP_num, lP_text, lP_add, lP_mul, lP_less, lP_join, lP_long, lP_show, lP_swap, lP_drop, lP_copy, lF_added, lF_multiplied, lF_compared, lF_joined, lF_measured, lF_shown, lF_swapped, lF_dropped, lF_copied, lI_num, lI_text, lI_add, lI_mul, lI_less, lI_join, lI_long, lI_show, lI_swap, lI_drop, lI_copy, lH_Empty_Empty, lH_WrongKind_Empty, lA_Empty, lH_Empty_WrongKind, lH_WrongKind_WrongKind, lA_WrongKind, hc]
theorem lack_loop (ks Ws : List Str) (lo : Nat) : ∀ (js : List Nat) (c : Cell), (∀ j ∈ js, j < Ws.length ∧ lo + j < ks.length) → ∃ c',
    mLoop (mgName 3) B_law_lack_1 (js.map fun (k : Nat) => D.int k) [.own (ks.map D.str), .val (.lst (Ws.map D.str)), .val (.int lo), c] =
      if ∀ j ∈ js, Ws[j]? = some (Str.ofString "") ∨ Ws[j]? = ks[lo + j]? then .nx [.own (ks.map D.str), .val (.lst (Ws.map D.str)), .val (.int lo), c']
      else .ret (.dd (.str "kind")) [.own (ks.map D.str), .val (.lst (Ws.map D.str)), .val (.int lo), c']
  | [], c, _ => ⟨c, by simp [mLoop]⟩
  | j :: js, c, hj => by
    obtain ⟨c', ih⟩ := lack_loop ks Ws lo js (.val (.int j)) fun x hx => hj x (List.mem_cons_of_mem _ hx)
    obtain ⟨j1, j2⟩ := hj j List.mem_cons_self
    have e1 : atI (Ws.map D.str) (j : Int) = some (.str Ws[j]) := by
      rw [atI_nat _ _ (by omega) (by simp; omega), Int.toNat_natCast]; simp [j1]
    have e2 : atI (ks.map D.str) ((lo : Int) + j) = some (.str ks[lo + j]) := by
      rw [atI_nat _ _ (by omega) (by simp; omega), show ((lo : Int) + j).toNat = lo + j by omega]; simp [j2]
    have g1 : Ws[j]? = some Ws[j] := List.getElem?_eq_getElem j1
    have g2 : ks[lo + j]? = some ks[lo + j] := List.getElem?_eq_getElem j2
    by_cases hp : Ws[j]? = some (Str.ofString "") ∨ Ws[j]? = ks[lo + j]?
    · refine ⟨c', ?_⟩
      rw [List.map_cons, mLoop_nx (ρ2 := [.own (ks.map D.str), .val (.lst (Ws.map D.str)), .val (.int lo), .val (.int j)]) rfl, ih]
      · congr 1
        simp only [List.forall_mem_cons, hp, true_and]
      · rw [g1, g2] at hp
        simp only [Option.some.injEq] at hp
        unfold B_law_lack_1
        by_cases hz : Ws[j] = Str.ofString ""
        · simp only [mkF, pad, outs, mSeq, mAsg, mAsgG, mExpr, mRet, mRetV, mRetN, mIfS, mIf, mNx, mTest, tmNot, tmAnd, tmOr, mVar, mC, mB, TL.m1, TL.m2, opt, use, R.fix, frz, tak, Cell.dat, mSeqD, mArgs, vals, mSl, mPart, mgSeq, setAll, D.items, mCall, give, mPut, mApp, mPop, mIns, ownL, mFor, miSeq, miRange, mAndV, mOrV, mNotV, D.bool, D.tru, mKGet, mKIn, mCallV, mRaise, mTry, mHands, mAny, mJoin, mLc, oAdd, oSub, oMul, oDiv, oMod, oPow, oNeg, oCmp, oIx, oSl, oLen, oList, oTuple, oStr, oInt, oMax, oMin, oIn, List.getElem?_cons_zero, List.getElem?_cons_succ, List.getElem?_nil, List.set_cons_zero, List.set_cons_succ, List.length_cons, List.length_nil, List.cons_append, List.nil_append, List.append_nil, List.replicate, List.map_cons, List.map_nil, Option.map_some, Option.map_none, Option.bind_some, Option.bind_none, if_true, if_false, reduceIte, ↓reduceIte, Nat.reduceAdd, Nat.reduceSub, Nat.reduceLeDiff, Nat.reduceLT, Nat.reduceEqDiff, Int.reduceLT, Int.reduceLE, Bool.not_true, Bool.not_false, Bool.false_eq_true, sz0, sz1, sz2, sz3, sz4, sz5, sz6, sz7, sz8, sz9, sz10, sz11, sz12, sz13, sz14, sz15, oEq_str, oEq_int, oNe_str, oNe_int, decide_false, decide_true, and_self, n_num_text, n_num_add, n_num_mul, n_num_less, n_num_join, n_num_long, n_num_show, n_num_swap, n_num_drop, n_num_copy, n_num_e, n_num_empty, n_num_kind, n_text_num, n_text_add, n_text_mul, n_text_less, n_text_join, n_text_long, n_text_show, n_text_swap, n_text_drop, n_text_copy, n_text_e, n_text_empty, n_text_kind, n_add_num, n_add_text, n_add_mul, n_add_less, n_add_join, n_add_long, n_add_show, n_add_swap, n_add_drop, n_add_copy, n_add_e, n_add_empty, n_add_kind, n_mul_num, n_mul_text, n_mul_add, n_mul_less, n_mul_join, n_mul_long, n_mul_show, n_mul_swap, n_mul_drop, n_mul_copy, n_mul_e, n_mul_empty, n_mul_kind, n_less_num, n_less_text, n_less_add, n_less_mul, n_less_join, n_less_long, n_less_show, n_less_swap, n_less_drop, n_less_copy, n_less_e, n_less_empty, n_less_kind, n_join_num, n_join_text, n_join_add, n_join_mul, n_join_less, n_join_long, n_join_show, n_join_swap, n_join_drop, n_join_copy, n_join_e, n_join_empty, n_join_kind, n_long_num, n_long_text, n_long_add, n_long_mul, n_long_less, n_long_join, n_long_show, n_long_swap, n_long_drop, n_long_copy, n_long_e, n_long_empty, n_long_kind, n_show_num, n_show_text, n_show_add, n_show_mul, n_show_less, n_show_join, n_show_long, n_show_swap, n_show_drop, n_show_copy, n_show_e, n_show_empty, n_show_kind, n_swap_num, n_swap_text, n_swap_add, n_swap_mul, n_swap_less, n_swap_join, n_swap_long, n_swap_show, n_swap_drop, n_swap_copy, n_swap_e, n_swap_empty, n_swap_kind, n_drop_num, n_drop_text, n_drop_add, n_drop_mul, n_drop_less, n_drop_join, n_drop_long, n_drop_show, n_drop_swap, n_drop_copy, n_drop_e, n_drop_empty, n_drop_kind, n_copy_num, n_copy_text, n_copy_add, n_copy_mul, n_copy_less, n_copy_join, n_copy_long, n_copy_show, n_copy_swap, n_copy_drop, n_copy_e, n_copy_empty, n_copy_kind, n_e_num, n_e_text, n_e_add, n_e_mul, n_e_less, n_e_join, n_e_long, n_e_show, n_e_swap, n_e_drop, n_e_copy, n_e_empty, n_e_kind, n_empty_num, n_empty_text, n_empty_add, n_empty_mul, n_empty_less, n_empty_join, n_empty_long, n_empty_show, n_empty_swap, n_empty_drop, n_empty_copy, n_empty_e, n_empty_kind, n_kind_num, n_kind_text, n_kind_add, n_kind_mul, n_kind_less, n_kind_join, n_kind_long, n_kind_show, n_kind_swap, n_kind_drop, n_kind_copy, n_kind_e, n_kind_empty, lW_num, lW_text, lW_add, lW_mul, lW_less, lW_join, lW_long, lW_show, lW_swap, lW_drop, lW_copy, lW_if, lT_num, lT_text, lT_add, lT_mul, lT_less, lT_join, lT_long, lT_show, lT_swap, lT_drop, lT_copy, lT_if, lP_num, lP_text, lP_add, lP_mul, lP_less, lP_join, lP_long, lP_show, lP_swap, lP_drop, lP_copy, lF_added, lF_multiplied, lF_compared, lF_joined, lF_measured, lF_shown, lF_swapped, lF_dropped, lF_copied, lI_num, lI_text, lI_add, lI_mul, lI_less, lI_join, lI_long, lI_show, lI_swap, lI_drop, lI_copy, lH_Empty_Empty, lH_WrongKind_Empty, lA_Empty, lH_Empty_WrongKind, lH_WrongKind_WrongKind, lA_WrongKind, e1, e2, hz, mgName]
        · have hz2 : Ws[j] = ks[lo + j] := hp.resolve_left hz
          have hz3 : ¬ ks[lo + j] = Str.ofString "" := by rw [← hz2]; exact hz
          simp only [mkF, pad, outs, mSeq, mAsg, mAsgG, mExpr, mRet, mRetV, mRetN, mIfS, mIf, mNx, mTest, tmNot, tmAnd, tmOr, mVar, mC, mB, TL.m1, TL.m2, opt, use, R.fix, frz, tak, Cell.dat, mSeqD, mArgs, vals, mSl, mPart, mgSeq, setAll, D.items, mCall, give, mPut, mApp, mPop, mIns, ownL, mFor, miSeq, miRange, mAndV, mOrV, mNotV, D.bool, D.tru, mKGet, mKIn, mCallV, mRaise, mTry, mHands, mAny, mJoin, mLc, oAdd, oSub, oMul, oDiv, oMod, oPow, oNeg, oCmp, oIx, oSl, oLen, oList, oTuple, oStr, oInt, oMax, oMin, oIn, List.getElem?_cons_zero, List.getElem?_cons_succ, List.getElem?_nil, List.set_cons_zero, List.set_cons_succ, List.length_cons, List.length_nil, List.cons_append, List.nil_append, List.append_nil, List.replicate, List.map_cons, List.map_nil, Option.map_some, Option.map_none, Option.bind_some, Option.bind_none, if_true, if_false, reduceIte, ↓reduceIte, Nat.reduceAdd, Nat.reduceSub, Nat.reduceLeDiff, Nat.reduceLT, Nat.reduceEqDiff, Int.reduceLT, Int.reduceLE, Bool.not_true, Bool.not_false, Bool.false_eq_true, sz0, sz1, sz2, sz3, sz4, sz5, sz6, sz7, sz8, sz9, sz10, sz11, sz12, sz13, sz14, sz15, oEq_str, oEq_int, oNe_str, oNe_int, decide_false, decide_true, and_self, n_num_text, n_num_add, n_num_mul, n_num_less, n_num_join, n_num_long, n_num_show, n_num_swap, n_num_drop, n_num_copy, n_num_e, n_num_empty, n_num_kind, n_text_num, n_text_add, n_text_mul, n_text_less, n_text_join, n_text_long, n_text_show, n_text_swap, n_text_drop, n_text_copy, n_text_e, n_text_empty, n_text_kind, n_add_num, n_add_text, n_add_mul, n_add_less, n_add_join, n_add_long, n_add_show, n_add_swap, n_add_drop, n_add_copy, n_add_e, n_add_empty, n_add_kind, n_mul_num, n_mul_text, n_mul_add, n_mul_less, n_mul_join, n_mul_long, n_mul_show, n_mul_swap, n_mul_drop, n_mul_copy, n_mul_e, n_mul_empty, n_mul_kind, n_less_num, n_less_text, n_less_add, n_less_mul, n_less_join, n_less_long, n_less_show, n_less_swap, n_less_drop, n_less_copy, n_less_e, n_less_empty, n_less_kind, n_join_num, n_join_text, n_join_add, n_join_mul, n_join_less, n_join_long, n_join_show, n_join_swap, n_join_drop, n_join_copy, n_join_e, n_join_empty, n_join_kind, n_long_num, n_long_text, n_long_add, n_long_mul, n_long_less, n_long_join, n_long_show, n_long_swap, n_long_drop, n_long_copy, n_long_e, n_long_empty, n_long_kind, n_show_num, n_show_text, n_show_add, n_show_mul, n_show_less, n_show_join, n_show_long, n_show_swap, n_show_drop, n_show_copy, n_show_e, n_show_empty, n_show_kind, n_swap_num, n_swap_text, n_swap_add, n_swap_mul, n_swap_less, n_swap_join, n_swap_long, n_swap_show, n_swap_drop, n_swap_copy, n_swap_e, n_swap_empty, n_swap_kind, n_drop_num, n_drop_text, n_drop_add, n_drop_mul, n_drop_less, n_drop_join, n_drop_long, n_drop_show, n_drop_swap, n_drop_copy, n_drop_e, n_drop_empty, n_drop_kind, n_copy_num, n_copy_text, n_copy_add, n_copy_mul, n_copy_less, n_copy_join, n_copy_long, n_copy_show, n_copy_swap, n_copy_drop, n_copy_e, n_copy_empty, n_copy_kind, n_e_num, n_e_text, n_e_add, n_e_mul, n_e_less, n_e_join, n_e_long, n_e_show, n_e_swap, n_e_drop, n_e_copy, n_e_empty, n_e_kind, n_empty_num, n_empty_text, n_empty_add, n_empty_mul, n_empty_less, n_empty_join, n_empty_long, n_empty_show, n_empty_swap, n_empty_drop, n_empty_copy, n_empty_e, n_empty_kind, n_kind_num, n_kind_text, n_kind_add, n_kind_mul, n_kind_less, n_kind_join, n_kind_long, n_kind_show, n_kind_swap, n_kind_drop, n_kind_copy, n_kind_e, n_kind_empty, lW_num, lW_text, lW_add, lW_mul, lW_less, lW_join, lW_long, lW_show, lW_swap, lW_drop, lW_copy, lW_if, lT_num, lT_text, lT_add, lT_mul, lT_less, lT_join, lT_long, lT_show, lT_swap, lT_drop, lT_copy, lT_if, lP_num, lP_text, lP_add, lP_mul, lP_less, lP_join, lP_long, lP_show, lP_swap, lP_drop, lP_copy, lF_added, lF_multiplied, lF_compared, lF_joined, lF_measured, lF_shown, lF_swapped, lF_dropped, lF_copied, lI_num, lI_text, lI_add, lI_mul, lI_less, lI_join, lI_long, lI_show, lI_swap, lI_drop, lI_copy, lH_Empty_Empty, lH_WrongKind_Empty, lA_Empty, lH_Empty_WrongKind, lH_WrongKind_WrongKind, lA_WrongKind, e1, e2, hz2, hz3, mgName]
    · refine ⟨.val (.int j), ?_⟩
      rw [if_neg (fun z => hp (z j List.mem_cons_self)), List.map_cons]
      refine mLoop_ret rfl ?_
      rw [g1, g2] at hp
      simp only [Option.some.injEq, not_or] at hp
      unfold B_law_lack_1
      simp only [mkF, pad, outs, mSeq, mAsg, mAsgG, mExpr, mRet, mRetV, mRetN, mIfS, mIf, mNx, mTest, tmNot, tmAnd, tmOr, mVar, mC, mB, TL.m1, TL.m2, opt, use, R.fix, frz, tak, Cell.dat, mSeqD, mArgs, vals, mSl, mPart, mgSeq, setAll, D.items, mCall, give, mPut, mApp, mPop, mIns, ownL, mFor, miSeq, miRange, mAndV, mOrV, mNotV, D.bool, D.tru, mKGet, mKIn, mCallV, mRaise, mTry, mHands, mAny, mJoin, mLc, oAdd, oSub, oMul, oDiv, oMod, oPow, oNeg, oCmp, oIx, oSl, oLen, oList, oTuple, oStr, oInt, oMax, oMin, oIn, List.getElem?_cons_zero, List.getElem?_cons_succ, List.getElem?_nil, List.set_cons_zero, List.set_cons_succ, List.length_cons, List.length_nil, List.cons_append, List.nil_append, List.append_nil, List.replicate, List.map_cons, List.map_nil, Option.map_some, Option.map_none, Option.bind_some, Option.bind_none, if_true, if_false, reduceIte, ↓reduceIte, Nat.reduceAdd, Nat.reduceSub, Nat.reduceLeDiff, Nat.reduceLT, Nat.reduceEqDiff, Int.reduceLT, Int.reduceLE, Bool.not_true, Bool.not_false, Bool.false_eq_true, sz0, sz1, sz2, sz3, sz4, sz5, sz6, sz7, sz8, sz9, sz10, sz11, sz12, sz13, sz14, sz15, oEq_str, oEq_int, oNe_str, oNe_int, decide_false, decide_true, and_self, n_num_text, n_num_add, n_num_mul, n_num_less, n_num_join, n_num_long, n_num_show, n_num_swap, n_num_drop, n_num_copy, n_num_e, n_num_empty, n_num_kind, n_text_num, n_text_add, n_text_mul, n_text_less, n_text_join, n_text_long, n_text_show, n_text_swap, n_text_drop, n_text_copy, n_text_e, n_text_empty, n_text_kind, n_add_num, n_add_text, n_add_mul, n_add_less, n_add_join, n_add_long, n_add_show, n_add_swap, n_add_drop, n_add_copy, n_add_e, n_add_empty, n_add_kind, n_mul_num, n_mul_text, n_mul_add, n_mul_less, n_mul_join, n_mul_long, n_mul_show, n_mul_swap, n_mul_drop, n_mul_copy, n_mul_e, n_mul_empty, n_mul_kind, n_less_num, n_less_text, n_less_add, n_less_mul, n_less_join, n_less_long, n_less_show, n_less_swap, n_less_drop, n_less_copy, n_less_e, n_less_empty, n_less_kind, n_join_num, n_join_text, n_join_add, n_join_mul, n_join_less, n_join_long, n_join_show, n_join_swap, n_join_drop, n_join_copy, n_join_e, n_join_empty, n_join_kind, n_long_num, n_long_text, n_long_add, n_long_mul, n_long_less, n_long_join, n_long_show, n_long_swap, n_long_drop, n_long_copy, n_long_e, n_long_empty, n_long_kind, n_show_num, n_show_text, n_show_add, n_show_mul, n_show_less, n_show_join, n_show_long, n_show_swap, n_show_drop, n_show_copy, n_show_e, n_show_empty, n_show_kind, n_swap_num, n_swap_text, n_swap_add, n_swap_mul, n_swap_less, n_swap_join, n_swap_long, n_swap_show, n_swap_drop, n_swap_copy, n_swap_e, n_swap_empty, n_swap_kind, n_drop_num, n_drop_text, n_drop_add, n_drop_mul, n_drop_less, n_drop_join, n_drop_long, n_drop_show, n_drop_swap, n_drop_copy, n_drop_e, n_drop_empty, n_drop_kind, n_copy_num, n_copy_text, n_copy_add, n_copy_mul, n_copy_less, n_copy_join, n_copy_long, n_copy_show, n_copy_swap, n_copy_drop, n_copy_e, n_copy_empty, n_copy_kind, n_e_num, n_e_text, n_e_add, n_e_mul, n_e_less, n_e_join, n_e_long, n_e_show, n_e_swap, n_e_drop, n_e_copy, n_e_empty, n_e_kind, n_empty_num, n_empty_text, n_empty_add, n_empty_mul, n_empty_less, n_empty_join, n_empty_long, n_empty_show, n_empty_swap, n_empty_drop, n_empty_copy, n_empty_e, n_empty_kind, n_kind_num, n_kind_text, n_kind_add, n_kind_mul, n_kind_less, n_kind_join, n_kind_long, n_kind_show, n_kind_swap, n_kind_drop, n_kind_copy, n_kind_e, n_kind_empty, lW_num, lW_text, lW_add, lW_mul, lW_less, lW_join, lW_long, lW_show, lW_swap, lW_drop, lW_copy, lW_if, lT_num, lT_text, lT_add, lT_mul, lT_less, lT_join, lT_long, lT_show, lT_swap, lT_drop, lT_copy, lT_if, lP_num, lP_text, lP_add, lP_mul, lP_less, lP_join, lP_long, lP_show, lP_swap, lP_drop, lP_copy, lF_added, lF_multiplied, lF_compared, lF_joined, lF_measured, lF_shown, lF_swapped, lF_dropped, lF_copied, lI_num, lI_text, lI_add, lI_mul, lI_less, lI_join, lI_long, lI_show, lI_swap, lI_drop, lI_copy, lH_Empty_Empty, lH_WrongKind_Empty, lA_Empty, lH_Empty_WrongKind, lH_WrongKind_WrongKind, lA_WrongKind, e1, e2, hp.1, hp.2, mgName]
theorem lack_fin (ks Ws : List Str) (c' : Cell) (w : Str) (h : M_law_lack [.own (ks.map D.str), .val (.lst (Ws.map D.str)), .no, .no] = .ret (.dd (.str w)) [.own (ks.map D.str), .val (.lst (Ws.map D.str)), .val (.int ((ks.length - Ws.length : Nat) : Int)), c']) : F_law_lack [.own (ks.map D.str), .val (.lst (Ws.map D.str))] = .ret (.dd (.str w)) [.own (ks.map D.str), .val (.lst (Ws.map D.str))] := by
  unfold F_law_lack
  show (match M_law_lack [.own (ks.map D.str), .val (.lst (Ws.map D.str)), .no, .no] with
    | .nx ρ => FR.ret (.dd .non) (outs [true, true] ρ)
    | .ret (.at _) _ => .bad
    | .ret r ρ => .ret r (outs [true, true] ρ)
    | .exc x ρ => .exc x (outs [true, true] ρ)
    | _ => .bad) = _
  rw [h]
  rfl
theorem lack_s1 (ks Ws : List Str) (hc : ¬ ((ks.length : Int) < Ws.length)) : (mIfS (mTest D.bool (m2 oLt (m1 oLen (mVar 0)) (m1 oLen (mVar 1)))) (mRet (mC (.str "empty"))) (mNx)) [.own (ks.map D.str), .val (.lst (Ws.map D.str)), .no, .no] = .nx [.own (ks.map D.str), .val (.lst (Ws.map D.str)), .no, .no] := by
    simp only [mkF, pad, outs, mSeq, mAsg, mAsgG, mExpr, mRet, mRetV, mRetN, mIfS, mIf, mNx, mTest, tmNot, tmAnd, tmOr, mVar, mC, mB, TL.m1, TL.m2, opt, use, R.fix, frz, tak, Cell.dat, mSeqD, mArgs, vals, mSl, mPart, mgSeq, setAll, D.items, mCall, give, mPut, mApp, mPop, mIns, ownL, mFor, miSeq, miRange, mAndV, mOrV, mNotV, D.bool, D.tru, mKGet, mKIn, mCallV, mRaise, mTry, mHands, mAny, mJoin, mLc, oAdd, oSub, oMul, oDiv, oMod, oPow, oNeg, oCmp, oIx, oSl, oLen, oList, oTuple, oStr, oInt, oMax, oMin, oIn, List.getElem?_cons_zero, List.getElem?_cons_succ, List.getElem?_nil, List.set_cons_zero, List.set_cons_succ, List.length_cons, List.length_nil, List.cons_append, List.nil_append, List.append_nil, List.replicate, List.map_cons, List.map_nil, Option.map_some, Option.map_none, Option.bind_some, Option.bind_none, if_true, if_false, reduceIte, ↓reduceIte, Nat.reduceAdd, Nat.reduceSub, Nat.reduceLeDiff, Nat.reduceLT, Nat.reduceEqDiff, Int.reduceLT, Int.reduceLE, Bool.not_true, Bool.not_false, Bool.false_eq_true, sz0, sz1, sz2, sz3, sz4, sz5, sz6, sz7, sz8, sz9, sz10, sz11, sz12, sz13, sz14, sz15, hc, List.length_map, decide_false]
theorem lack_s2 (ks Ws : List Str) (el : ((ks.length : Int) - Ws.length) = ((ks.length - Ws.length : Nat) : Int)) : (mAsg 2 (m2 oSub (m1 oLen (mVar 0)) (m1 oLen (mVar 1)))) [.own (ks.map D.str), .val (.lst (Ws.map D.str)), .no, .no] = .nx [.own (ks.map D.str), .val (.lst (Ws.map D.str)), .val (.int ((ks.length - Ws.length : Nat) : Int)), .no] := by
    simp only [mkF, pad, outs, mSeq, mAsg, mAsgG, mExpr, mRet, mRetV, mRetN, mIfS, mIf, mNx, mTest, tmNot, tmAnd, tmOr, mVar, mC, mB, TL.m1, TL.m2, opt, use, R.fix, frz, tak, Cell.dat, mSeqD, mArgs, vals, mSl, mPart, mgSeq, setAll, D.items, mCall, give, mPut, mApp, mPop, mIns, ownL, mFor, miSeq, miRange, mAndV, mOrV, mNotV, D.bool, D.tru, mKGet, mKIn, mCallV, mRaise, mTry, mHands, mAny, mJoin, mLc, oAdd, oSub, oMul, oDiv, oMod, oPow, oNeg, oCmp, oIx, oSl, oLen, oList, oTuple, oStr, oInt, oMax, oMin, oIn, List.getElem?_cons_zero, List.getElem?_cons_succ, List.getElem?_nil, List.set_cons_zero, List.set_cons_succ, List.length_cons, List.length_nil, List.cons_append, List.nil_append, List.append_nil, List.replicate, List.map_cons, List.map_nil, Option.map_some, Option.map_none, Option.bind_some, Option.bind_none, if_true, if_false, reduceIte, ↓reduceIte, Nat.reduceAdd, Nat.reduceSub, Nat.reduceLeDiff, Nat.reduceLT, Nat.reduceEqDiff, Int.reduceLT, Int.reduceLE, Bool.not_true, Bool.not_false, Bool.false_eq_true, sz0, sz1, sz2, sz3, sz4, sz5, sz6, sz7, sz8, sz9, sz10, sz11, sz12, sz13, sz14, sz15, List.length_map, el]
theorem lack_M (ks Ws : List Str) (h : Ws.length ≤ ks.length) (hl : ks.length ≤ 1000) (r : SR) (e : mLoop (mgName 3) B_law_lack_1 ((List.range Ws.length).map fun (k : Nat) => D.int k) [.own (ks.map D.str), .val (.lst (Ws.map D.str)), .val (.int ((ks.length - Ws.length : Nat) : Int)), .no] = r) :
    M_law_lack [.own (ks.map D.str), .val (.lst (Ws.map D.str)), .no, .no] = (match r with
      | .nx ρ => mRet (mC (.str "")) ρ
      | r => r) := by
  have s3 := mFor_ok (f := mgName 3) (mb := B_law_lack_1) (rng_len 1 (Ws.map D.str) [.own (ks.map D.str), .val (.lst (Ws.map D.str)), .val (.int ((ks.length - Ws.length : Nat) : Int)), .no] rfl (by rw [List.length_map]; omega))
  rw [List.length_map, e] at s3
  unfold M_law_lack
  rw [mSeq_nx (lack_s1 ks Ws (by omega)), mSeq_nx (lack_s2 ks Ws (by omega))]
  unfold mSeq
  rw [s3]
  cases r <;> rfl
theorem lack_good (ks Ws : List Str) (h : Ws.length ≤ ks.length) (hl : ks.length ≤ 1000) (hp : ∀ j, j < Ws.length → Ws[j]? = some (Str.ofString "") ∨ Ws[j]? = ks[ks.length - Ws.length + j]?) :
    F_law_lack [.own (ks.map D.str), .val (.lst (Ws.map D.str))] = .ret (.dd (.str "")) [.own (ks.map D.str), .val (.lst (Ws.map D.str))] := by
  obtain ⟨c', e⟩ := lack_loop ks Ws (ks.length - Ws.length) (List.range Ws.length) .no fun j hj => by have := List.mem_range.mp hj; omega
  rw [if_pos fun j hj => hp j (List.mem_range.mp hj)] at e
  exact lack_fin ks Ws c' _ ((lack_M ks Ws h hl _ e).trans rfl)
theorem lack_kind (ks Ws : List Str) (h : Ws.length ≤ ks.length) (hl : ks.length ≤ 1000) (j : Nat) (hj : j < Ws.length) (hp : ¬ (Ws[j]? = some (Str.ofString "") ∨ Ws[j]? = ks[ks.length - Ws.length + j]?)) :
    F_law_lack [.own (ks.map D.str), .val (.lst (Ws.map D.str))] = .ret (.dd (.str "kind")) [.own (ks.map D.str), .val (.lst (Ws.map D.str))] := by
  obtain ⟨c', e⟩ := lack_loop ks Ws (ks.length - Ws.length) (List.range Ws.length) .no fun j hj => by have := List.mem_range.mp hj; omega
  rw [if_neg fun z => hp (z j (List.mem_range.mpr hj))] at e
  exact lack_fin ks Ws c' _ ((lack_M ks Ws h hl _ e).trans rfl)
end LW

namespace LW
open PySem L2 TL
theorem behind_ok {r : D} {W tk out : List D} (hr : Row r W) (h : Put r tk out) (pre : List D) (hp : pre.length ≤ 200) (hl : tk.length = W.length) : F_law_behind [.val (.lst (pre ++ tk)), .val r] = .ret (.ow (.own (pre ++ out))) [.val (.lst (pre ++ tk)), .val r] := by
  have lz : ∀ l : List D, l.length ≤ 1000 → l.length < sizeLine := fun l h => Nat.lt_of_le_of_lt h (by decide)
  have p1 : ∀ a : D, (pre ++ [a]).getLast? = some a := fun a => by simp
  have p2 : ∀ a : D, (pre ++ [a]).dropLast = pre := fun a => by simp
  have p3 : ∀ a b : D, (pre ++ [a, b]).getLast? = some b := fun a b => by simp
  have p4 : ∀ a b : D, (pre ++ [a, b]).dropLast = pre ++ [a] := fun a b => by
    rw [show pre ++ [a, b] = (pre ++ [a]) ++ [b] by simp, List.dropLast_concat]
  have lp := lz pre (by omega)
  have z9 : (0 : Int) < 10 ^ (9 : Int).toNat := by decide
  have e9 : (10 : Int) ^ (9 : Int).toNat = 1000000000 := by decide
  have cp : CPow 10 9 := by unfold CPow; decide
  cases h with
  | num i =>
    have e0 : atI [D.str (Str.ofString "num"), D.int i] 0 = some (.str "num") := rfl
    have e1 : atI [D.str (Str.ofString "num"), D.int i] 1 = some (.int i) := rfl
    unfold F_law_behind M_law_behind
    simp only [mkF, pad, outs, mSeq, mAsg, mAsgG, mExpr, mRet, mRetV, mRetN, mIfS, mIf, mNx, mTest, tmNot, tmAnd, tmOr, mVar, mC, mB, TL.m1, TL.m2, opt, use, R.fix, frz, tak, Cell.dat, mSeqD, mArgs, vals, mSl, mPart, mgSeq, setAll, D.items, mCall, give, mPut, mApp, mPop, mIns, ownL, mFor, miSeq, miRange, mAndV, mOrV, mNotV, D.bool, D.tru, mKGet, mKIn, mCallV, mRaise, mTry, mHands, mAny, mJoin, mLc, oAdd, oSub, oMul, oDiv, oMod, oPow, oNeg, oCmp, oIx, oSl, oLen, oList, oTuple, oStr, oInt, oMax, oMin, oIn, List.getElem?_cons_zero, List.getElem?_cons_succ, List.getElem?_nil, List.set_cons_zero, List.set_cons_succ, List.length_cons, List.length_nil, List.cons_append, List.nil_append, List.append_nil, List.replicate, List.map_cons, List.map_nil, Option.map_some, Option.map_none, Option.bind_some, Option.bind_none, if_true, if_false, reduceIte, ↓reduceIte, Nat.reduceAdd, Nat.reduceSub, Nat.reduceLeDiff, Nat.reduceLT, Nat.reduceEqDiff, Int.reduceLT, Int.reduceLE, Bool.not_true, Bool.not_false, Bool.false_eq_true, sz0, sz1, sz2, sz3, sz4, sz5, sz6, sz7, sz8, sz9, sz10, sz11, sz12, sz13, sz14, sz15, oEq_str, oEq_int, oNe_str, oNe_int, decide_false, decide_true, and_self, n_num_text, n_num_add, n_num_mul, n_num_less, n_num_join, n_num_long, n_num_show, n_num_swap, n_num_drop, n_num_copy, n_num_e, n_num_empty, n_num_kind, n_text_num, n_text_add, n_text_mul, n_text_less, n_text_join, n_text_long, n_text_show, n_text_swap, n_text_drop, n_text_copy, n_text_e, n_text_empty, n_text_kind, n_add_num, n_add_text, n_add_mul, n_add_less, n_add_join, n_add_long, n_add_show, n_add_swap, n_add_drop, n_add_copy, n_add_e, n_add_empty, n_add_kind, n_mul_num, n_mul_text, n_mul_add, n_mul_less, n_mul_join, n_mul_long, n_mul_show, n_mul_swap, n_mul_drop, n_mul_copy, n_mul_e, n_mul_empty, n_mul_kind, n_less_num, n_less_text, n_less_add, n_less_mul, n_less_join, n_less_long, n_less_show, n_less_swap, n_less_drop, n_less_copy, n_less_e, n_less_empty, n_less_kind, n_join_num, n_join_text, n_join_add, n_join_mul, n_join_less, n_join_long, n_join_show, n_join_swap, n_join_drop, n_join_copy, n_join_e, n_join_empty, n_join_kind, n_long_num, n_long_text, n_long_add, n_long_mul, n_long_less, n_long_join, n_long_show, n_long_swap, n_long_drop, n_long_copy, n_long_e, n_long_empty, n_long_kind, n_show_num, n_show_text, n_show_add, n_show_mul, n_show_less, n_show_join, n_show_long, n_show_swap, n_show_drop, n_show_copy, n_show_e, n_show_empty, n_show_kind, n_swap_num, n_swap_text, n_swap_add, n_swap_mul, n_swap_less, n_swap_join, n_swap_long, n_swap_show, n_swap_drop, n_swap_copy, n_swap_e, n_swap_empty, n_swap_kind, n_drop_num, n_drop_text, n_drop_add, n_drop_mul, n_drop_less, n_drop_join, n_drop_long, n_drop_show, n_drop_swap, n_drop_copy, n_drop_e, n_drop_empty, n_drop_kind, n_copy_num, n_copy_text, n_copy_add, n_copy_mul, n_copy_less, n_copy_join, n_copy_long, n_copy_show, n_copy_swap, n_copy_drop, n_copy_e, n_copy_empty, n_copy_kind, n_e_num, n_e_text, n_e_add, n_e_mul, n_e_less, n_e_join, n_e_long, n_e_show, n_e_swap, n_e_drop, n_e_copy, n_e_empty, n_e_kind, n_empty_num, n_empty_text, n_empty_add, n_empty_mul, n_empty_less, n_empty_join, n_empty_long, n_empty_show, n_empty_swap, n_empty_drop, n_empty_copy, n_empty_e, n_empty_kind, n_kind_num, n_kind_text, n_kind_add, n_kind_mul, n_kind_less, n_kind_join, n_kind_long, n_kind_show, n_kind_swap, n_kind_drop, n_kind_copy, n_kind_e, n_kind_empty, lW_num, lW_text, lW_add, lW_mul, lW_less, lW_join, lW_long, lW_show, lW_swap, lW_drop, lW_copy, lW_if, lT_num, lT_text, lT_add, lT_mul, lT_less, lT_join, lT_long, lT_show, lT_swap, lT_drop, lT_copy, lT_if, lP_num, lP_text, lP_add, lP_mul, lP_less, lP_join, lP_long, lP_show, lP_swap, lP_drop, lP_copy, lF_added, lF_multiplied, lF_compared, lF_joined, lF_measured, lF_shown, lF_swapped, lF_dropped, lF_copied, lI_num, lI_text, lI_add, lI_mul, lI_less, lI_join, lI_long, lI_show, lI_swap, lI_drop, lI_copy, lH_Empty_Empty, lH_WrongKind_Empty, lA_Empty, lH_Empty_WrongKind, lH_WrongKind_WrongKind, lA_WrongKind, e0, e1, lp]
  | text i =>
    have e0 : atI [D.str (Str.ofString "text"), D.str i] 0 = some (.str "text") := rfl
    have e1 : atI [D.str (Str.ofString "text"), D.str i] 1 = some (.str i) := rfl
    unfold F_law_behind M_law_behind
    simp only [mkF, pad, outs, mSeq, mAsg, mAsgG, mExpr, mRet, mRetV, mRetN, mIfS, mIf, mNx, mTest, tmNot, tmAnd, tmOr, mVar, mC, mB, TL.m1, TL.m2, opt, use, R.fix, frz, tak, Cell.dat, mSeqD, mArgs, vals, mSl, mPart, mgSeq, setAll, D.items, mCall, give, mPut, mApp, mPop, mIns, ownL, mFor, miSeq, miRange, mAndV, mOrV, mNotV, D.bool, D.tru, mKGet, mKIn, mCallV, mRaise, mTry, mHands, mAny, mJoin, mLc, oAdd, oSub, oMul, oDiv, oMod, oPow, oNeg, oCmp, oIx, oSl, oLen, oList, oTuple, oStr, oInt, oMax, oMin, oIn, List.getElem?_cons_zero, List.getElem?_cons_succ, List.getElem?_nil, List.set_cons_zero, List.set_cons_succ, List.length_cons, List.length_nil, List.cons_append, List.nil_append, List.append_nil, List.replicate, List.map_cons, List.map_nil, Option.map_some, Option.map_none, Option.bind_some, Option.bind_none, if_true, if_false, reduceIte, ↓reduceIte, Nat.reduceAdd, Nat.reduceSub, Nat.reduceLeDiff, Nat.reduceLT, Nat.reduceEqDiff, Int.reduceLT, Int.reduceLE, Bool.not_true, Bool.not_false, Bool.false_eq_true, sz0, sz1, sz2, sz3, sz4, sz5, sz6, sz7, sz8, sz9, sz10, sz11, sz12, sz13, sz14, sz15, oEq_str, oEq_int, oNe_str, oNe_int, decide_false, decide_true, and_self, n_num_text, n_num_add, n_num_mul, n_num_less, n_num_join, n_num_long, n_num_show, n_num_swap, n_num_drop, n_num_copy, n_num_e, n_num_empty, n_num_kind, n_text_num, n_text_add, n_text_mul, n_text_less, n_text_join, n_text_long, n_text_show, n_text_swap, n_text_drop, n_text_copy, n_text_e, n_text_empty, n_text_kind, n_add_num, n_add_text, n_add_mul, n_add_less, n_add_join, n_add_long, n_add_show, n_add_swap, n_add_drop, n_add_copy, n_add_e, n_add_empty, n_add_kind, n_mul_num, n_mul_text, n_mul_add, n_mul_less, n_mul_join, n_mul_long, n_mul_show, n_mul_swap, n_mul_drop, n_mul_copy, n_mul_e, n_mul_empty, n_mul_kind, n_less_num, n_less_text, n_less_add, n_less_mul, n_less_join, n_less_long, n_less_show, n_less_swap, n_less_drop, n_less_copy, n_less_e, n_less_empty, n_less_kind, n_join_num, n_join_text, n_join_add, n_join_mul, n_join_less, n_join_long, n_join_show, n_join_swap, n_join_drop, n_join_copy, n_join_e, n_join_empty, n_join_kind, n_long_num, n_long_text, n_long_add, n_long_mul, n_long_less, n_long_join, n_long_show, n_long_swap, n_long_drop, n_long_copy, n_long_e, n_long_empty, n_long_kind, n_show_num, n_show_text, n_show_add, n_show_mul, n_show_less, n_show_join, n_show_long, n_show_swap, n_show_drop, n_show_copy, n_show_e, n_show_empty, n_show_kind, n_swap_num, n_swap_text, n_swap_add, n_swap_mul, n_swap_less, n_swap_join, n_swap_long, n_swap_show, n_swap_drop, n_swap_copy, n_swap_e, n_swap_empty, n_swap_kind, n_drop_num, n_drop_text, n_drop_add, n_drop_mul, n_drop_less, n_drop_join, n_drop_long, n_drop_show, n_drop_swap, n_drop_copy, n_drop_e, n_drop_empty, n_drop_kind, n_copy_num, n_copy_text, n_copy_add, n_copy_mul, n_copy_less, n_copy_join, n_copy_long, n_copy_show, n_copy_swap, n_copy_drop, n_copy_e, n_copy_empty, n_copy_kind, n_e_num, n_e_text, n_e_add, n_e_mul, n_e_less, n_e_join, n_e_long, n_e_show, n_e_swap, n_e_drop, n_e_copy, n_e_empty, n_e_kind, n_empty_num, n_empty_text, n_empty_add, n_empty_mul, n_empty_less, n_empty_join, n_empty_long, n_empty_show, n_empty_swap, n_empty_drop, n_empty_copy, n_empty_e, n_empty_kind, n_kind_num, n_kind_text, n_kind_add, n_kind_mul, n_kind_less, n_kind_join, n_kind_long, n_kind_show, n_kind_swap, n_kind_drop, n_kind_copy, n_kind_e, n_kind_empty, lW_num, lW_text, lW_add, lW_mul, lW_less, lW_join, lW_long, lW_show, lW_swap, lW_drop, lW_copy, lW_if, lT_num, lT_text, lT_add, lT_mul, lT_less, lT_join, lT_long, lT_show, lT_swap, lT_drop, lT_copy, lT_if, lP_num, lP_text, lP_add, lP_mul, lP_less, lP_join, lP_long, lP_show, lP_swap, lP_drop, lP_copy, lF_added, lF_multiplied, lF_compared, lF_joined, lF_measured, lF_shown, lF_swapped, lF_dropped, lF_copied, lI_num, lI_text, lI_add, lI_mul, lI_less, lI_join, lI_long, lI_show, lI_swap, lI_drop, lI_copy, lH_Empty_Empty, lH_WrongKind_Empty, lA_Empty, lH_Empty_WrongKind, lH_WrongKind_WrongKind, lA_WrongKind, e0, e1, lp]
  | copy n x ys hys =>
    have e0 : atI [D.str (Str.ofString "copy"), D.int n] 0 = some (.str "copy") := rfl
    have e1 : atI [D.str (Str.ofString "copy"), D.int n] 1 = some (.int n) := rfl
    have hn : ((ys.length : Int) + 1) = n + 1 := by
      cases hr with
      | copy n h0 h1 => rw [List.length_replicate] at hl; simp at hl; omega
    have ll := lz (pre ++ x :: ys) (by simp at hys ⊢; omega)
    have e2 : atI (pre ++ x :: ys) (((pre ++ x :: ys).length : Int) - 1 - n) = some x := by
      have : (((pre ++ x :: ys).length : Int) - 1 - n) = (pre.length : Int) := by simp; omega
      rw [this, atI_nat _ _ (by omega) (by simp; omega), Int.toNat_natCast]
      simp
    unfold F_law_behind M_law_behind
    simp only [mkF, pad, outs, mSeq, mAsg, mAsgG, mExpr, mRet, mRetV, mRetN, mIfS, mIf, mNx, mTest, tmNot, tmAnd, tmOr, mVar, mC, mB, TL.m1, TL.m2, opt, use, R.fix, frz, tak, Cell.dat, mSeqD, mArgs, vals, mSl, mPart, mgSeq, setAll, D.items, mCall, give, mPut, mApp, mPop, mIns, ownL, mFor, miSeq, miRange, mAndV, mOrV, mNotV, D.bool, D.tru, mKGet, mKIn, mCallV, mRaise, mTry, mHands, mAny, mJoin, mLc, oAdd, oSub, oMul, oDiv, oMod, oPow, oNeg, oCmp, oIx, oSl, oLen, oList, oTuple, oStr, oInt, oMax, oMin, oIn, List.getElem?_cons_zero, List.getElem?_cons_succ, List.getElem?_nil, List.set_cons_zero, List.set_cons_succ, List.length_cons, List.length_nil, List.cons_append, List.nil_append, List.append_nil, List.replicate, List.map_cons, List.map_nil, Option.map_some, Option.map_none, Option.bind_some, Option.bind_none, if_true, if_false, reduceIte, ↓reduceIte, Nat.reduceAdd, Nat.reduceSub, Nat.reduceLeDiff, Nat.reduceLT, Nat.reduceEqDiff, Int.reduceLT, Int.reduceLE, Bool.not_true, Bool.not_false, Bool.false_eq_true, sz0, sz1, sz2, sz3, sz4, sz5, sz6, sz7, sz8, sz9, sz10, sz11, sz12, sz13, sz14, sz15, oEq_str, oEq_int, oNe_str, oNe_int, decide_false, decide_true, and_self, n_num_text, n_num_add, n_num_mul, n_num_less, n_num_join, n_num_long, n_num_show, n_num_swap, n_num_drop, n_num_copy, n_num_e, n_num_empty, n_num_kind, n_text_num, n_text_add, n_text_mul, n_text_less, n_text_join, n_text_long, n_text_show, n_text_swap, n_text_drop, n_text_copy, n_text_e, n_text_empty, n_text_kind, n_add_num, n_add_text, n_add_mul, n_add_less, n_add_join, n_add_long, n_add_show, n_add_swap, n_add_drop, n_add_copy, n_add_e, n_add_empty, n_add_kind, n_mul_num, n_mul_text, n_mul_add, n_mul_less, n_mul_join, n_mul_long, n_mul_show, n_mul_swap, n_mul_drop, n_mul_copy, n_mul_e, n_mul_empty, n_mul_kind, n_less_num, n_less_text, n_less_add, n_less_mul, n_less_join, n_less_long, n_less_show, n_less_swap, n_less_drop, n_less_copy, n_less_e, n_less_empty, n_less_kind, n_join_num, n_join_text, n_join_add, n_join_mul, n_join_less, n_join_long, n_join_show, n_join_swap, n_join_drop, n_join_copy, n_join_e, n_join_empty, n_join_kind, n_long_num, n_long_text, n_long_add, n_long_mul, n_long_less, n_long_join, n_long_show, n_long_swap, n_long_drop, n_long_copy, n_long_e, n_long_empty, n_long_kind, n_show_num, n_show_text, n_show_add, n_show_mul, n_show_less, n_show_join, n_show_long, n_show_swap, n_show_drop, n_show_copy, n_show_e, n_show_empty, n_show_kind, n_swap_num, n_swap_text, n_swap_add, n_swap_mul, n_swap_less, n_swap_join, n_swap_long, n_swap_show, n_swap_drop, n_swap_copy, n_swap_e, n_swap_empty, n_swap_kind, n_drop_num, n_drop_text, n_drop_add, n_drop_mul, n_drop_less, n_drop_join, n_drop_long, n_drop_show, n_drop_swap, n_drop_copy, n_drop_e, n_drop_empty, n_drop_kind, n_copy_num, n_copy_text, n_copy_add, n_copy_mul, n_copy_less, n_copy_join, n_copy_long, n_copy_show, n_copy_swap, n_copy_drop, n_copy_e, n_copy_empty, n_copy_kind, n_e_num, n_e_text, n_e_add, n_e_mul, n_e_less, n_e_join, n_e_long, n_e_show, n_e_swap, n_e_drop, n_e_copy, n_e_empty, n_e_kind, n_empty_num, n_empty_text, n_empty_add, n_empty_mul, n_empty_less, n_empty_join, n_empty_long, n_empty_show, n_empty_swap, n_empty_drop, n_empty_copy, n_empty_e, n_empty_kind, n_kind_num, n_kind_text, n_kind_add, n_kind_mul, n_kind_less, n_kind_join, n_kind_long, n_kind_show, n_kind_swap, n_kind_drop, n_kind_copy, n_kind_e, n_kind_empty, lW_num, lW_text, lW_add, lW_mul, lW_less, lW_join, lW_long, lW_show, lW_swap, lW_drop, lW_copy, lW_if, lT_num, lT_text, lT_add, lT_mul, lT_less, lT_join, lT_long, lT_show, lT_swap, lT_drop, lT_copy, lT_if, lP_num, lP_text, lP_add, lP_mul, lP_less, lP_join, lP_long, lP_show, lP_swap, lP_drop, lP_copy, lF_added, lF_multiplied, lF_compared, lF_joined, lF_measured, lF_shown, lF_swapped, lF_dropped, lF_copied, lI_num, lI_text, lI_add, lI_mul, lI_less, lI_join, lI_long, lI_show, lI_swap, lI_drop, lI_copy, lH_Empty_Empty, lH_WrongKind_Empty, lA_Empty, lH_Empty_WrongKind, lH_WrongKind_WrongKind, lA_WrongKind, e0, e1, e2, ll, List.append_assoc]
  | add a b =>
    have e0 : atI [D.str (Str.ofString "add")] 0 = some (.str "add") := rfl
    unfold F_law_behind M_law_behind
    simp only [mkF, pad, outs, mSeq, mAsg, mAsgG, mExpr, mRet, mRetV, mRetN, mIfS, mIf, mNx, mTest, tmNot, tmAnd, tmOr, mVar, mC, mB, TL.m1, TL.m2, opt, use, R.fix, frz, tak, Cell.dat, mSeqD, mArgs, vals, mSl, mPart, mgSeq, setAll, D.items, mCall, give, mPut, mApp, mPop, mIns, ownL, mFor, miSeq, miRange, mAndV, mOrV, mNotV, D.bool, D.tru, mKGet, mKIn, mCallV, mRaise, mTry, mHands, mAny, mJoin, mLc, oAdd, oSub, oMul, oDiv, oMod, oPow, oNeg, oCmp, oIx, oSl, oLen, oList, oTuple, oStr, oInt, oMax, oMin, oIn, List.getElem?_cons_zero, List.getElem?_cons_succ, List.getElem?_nil, List.set_cons_zero, List.set_cons_succ, List.length_cons, List.length_nil, List.cons_append, List.nil_append, List.append_nil, List.replicate, List.map_cons, List.map_nil, Option.map_some, Option.map_none, Option.bind_some, Option.bind_none, if_true, if_false, reduceIte, ↓reduceIte, Nat.reduceAdd, Nat.reduceSub, Nat.reduceLeDiff, Nat.reduceLT, Nat.reduceEqDiff, Int.reduceLT, Int.reduceLE, Bool.not_true, Bool.not_false, Bool.false_eq_true, sz0, sz1, sz2, sz3, sz4, sz5, sz6, sz7, sz8, sz9, sz10, sz11, sz12, sz13, sz14, sz15, oEq_str, oEq_int, oNe_str, oNe_int, decide_false, decide_true, and_self, n_num_text, n_num_add, n_num_mul, n_num_less, n_num_join, n_num_long, n_num_show, n_num_swap, n_num_drop, n_num_copy, n_num_e, n_num_empty, n_num_kind, n_text_num, n_text_add, n_text_mul, n_text_less, n_text_join, n_text_long, n_text_show, n_text_swap, n_text_drop, n_text_copy, n_text_e, n_text_empty, n_text_kind, n_add_num, n_add_text, n_add_mul, n_add_less, n_add_join, n_add_long, n_add_show, n_add_swap, n_add_drop, n_add_copy, n_add_e, n_add_empty, n_add_kind, n_mul_num, n_mul_text, n_mul_add, n_mul_less, n_mul_join, n_mul_long, n_mul_show, n_mul_swap, n_mul_drop, n_mul_copy, n_mul_e, n_mul_empty, n_mul_kind, n_less_num, n_less_text, n_less_add, n_less_mul, n_less_join, n_less_long, n_less_show, n_less_swap, n_less_drop, n_less_copy, n_less_e, n_less_empty, n_less_kind, n_join_num, n_join_text, n_join_add, n_join_mul, n_join_less, n_join_long, n_join_show, n_join_swap, n_join_drop, n_join_copy, n_join_e, n_join_empty, n_join_kind, n_long_num, n_long_text, n_long_add, n_long_mul, n_long_less, n_long_join, n_long_show, n_long_swap, n_long_drop, n_long_copy, n_long_e, n_long_empty, n_long_kind, n_show_num, n_show_text, n_show_add, n_show_mul, n_show_less, n_show_join, n_show_long, n_show_swap, n_show_drop, n_show_copy, n_show_e, n_show_empty, n_show_kind, n_swap_num, n_swap_text, n_swap_add, n_swap_mul, n_swap_less, n_swap_join, n_swap_long, n_swap_show, n_swap_drop, n_swap_copy, n_swap_e, n_swap_empty, n_swap_kind, n_drop_num, n_drop_text, n_drop_add, n_drop_mul, n_drop_less, n_drop_join, n_drop_long, n_drop_show, n_drop_swap, n_drop_copy, n_drop_e, n_drop_empty, n_drop_kind, n_copy_num, n_copy_text, n_copy_add, n_copy_mul, n_copy_less, n_copy_join, n_copy_long, n_copy_show, n_copy_swap, n_copy_drop, n_copy_e, n_copy_empty, n_copy_kind, n_e_num, n_e_text, n_e_add, n_e_mul, n_e_less, n_e_join, n_e_long, n_e_show, n_e_swap, n_e_drop, n_e_copy, n_e_empty, n_e_kind, n_empty_num, n_empty_text, n_empty_add, n_empty_mul, n_empty_less, n_empty_join, n_empty_long, n_empty_show, n_empty_swap, n_empty_drop, n_empty_copy, n_empty_e, n_empty_kind, n_kind_num, n_kind_text, n_kind_add, n_kind_mul, n_kind_less, n_kind_join, n_kind_long, n_kind_show, n_kind_swap, n_kind_drop, n_kind_copy, n_kind_e, n_kind_empty, lW_num, lW_text, lW_add, lW_mul, lW_less, lW_join, lW_long, lW_show, lW_swap, lW_drop, lW_copy, lW_if, lT_num, lT_text, lT_add, lT_mul, lT_less, lT_join, lT_long, lT_show, lT_swap, lT_drop, lT_copy, lT_if, lP_num, lP_text, lP_add, lP_mul, lP_less, lP_join, lP_long, lP_show, lP_swap, lP_drop, lP_copy, lF_added, lF_multiplied, lF_compared, lF_joined, lF_measured, lF_shown, lF_swapped, lF_dropped, lF_copied, lI_num, lI_text, lI_add, lI_mul, lI_less, lI_join, lI_long, lI_show, lI_swap, lI_drop, lI_copy, lH_Empty_Empty, lH_WrongKind_Empty, lA_Empty, lH_Empty_WrongKind, lH_WrongKind_WrongKind, lA_WrongKind, e0, p1, p2, p3, p4]
    unfold F_law_reckoned M_law_reckoned
    simp only [mkF, pad, outs, mSeq, mAsg, mAsgG, mExpr, mRet, mRetV, mRetN, mIfS, mIf, mNx, mTest, tmNot, tmAnd, tmOr, mVar, mC, mB, TL.m1, TL.m2, opt, use, R.fix, frz, tak, Cell.dat, mSeqD, mArgs, vals, mSl, mPart, mgSeq, setAll, D.items, mCall, give, mPut, mApp, mPop, mIns, ownL, mFor, miSeq, miRange, mAndV, mOrV, mNotV, D.bool, D.tru, mKGet, mKIn, mCallV, mRaise, mTry, mHands, mAny, mJoin, mLc, oAdd, oSub, oMul, oDiv, oMod, oPow, oNeg, oCmp, oIx, oSl, oLen, oList, oTuple, oStr, oInt, oMax, oMin, oIn, List.getElem?_cons_zero, List.getElem?_cons_succ, List.getElem?_nil, List.set_cons_zero, List.set_cons_succ, List.length_cons, List.length_nil, List.cons_append, List.nil_append, List.append_nil, List.replicate, List.map_cons, List.map_nil, Option.map_some, Option.map_none, Option.bind_some, Option.bind_none, if_true, if_false, reduceIte, ↓reduceIte, Nat.reduceAdd, Nat.reduceSub, Nat.reduceLeDiff, Nat.reduceLT, Nat.reduceEqDiff, Int.reduceLT, Int.reduceLE, Bool.not_true, Bool.not_false, Bool.false_eq_true, sz0, sz1, sz2, sz3, sz4, sz5, sz6, sz7, sz8, sz9, sz10, sz11, sz12, sz13, sz14, sz15, oEq_str, oEq_int, oNe_str, oNe_int, decide_false, decide_true, and_self, n_num_text, n_num_add, n_num_mul, n_num_less, n_num_join, n_num_long, n_num_show, n_num_swap, n_num_drop, n_num_copy, n_num_e, n_num_empty, n_num_kind, n_text_num, n_text_add, n_text_mul, n_text_less, n_text_join, n_text_long, n_text_show, n_text_swap, n_text_drop, n_text_copy, n_text_e, n_text_empty, n_text_kind, n_add_num, n_add_text, n_add_mul, n_add_less, n_add_join, n_add_long, n_add_show, n_add_swap, n_add_drop, n_add_copy, n_add_e, n_add_empty, n_add_kind, n_mul_num, n_mul_text, n_mul_add, n_mul_less, n_mul_join, n_mul_long, n_mul_show, n_mul_swap, n_mul_drop, n_mul_copy, n_mul_e, n_mul_empty, n_mul_kind, n_less_num, n_less_text, n_less_add, n_less_mul, n_less_join, n_less_long, n_less_show, n_less_swap, n_less_drop, n_less_copy, n_less_e, n_less_empty, n_less_kind, n_join_num, n_join_text, n_join_add, n_join_mul, n_join_less, n_join_long, n_join_show, n_join_swap, n_join_drop, n_join_copy, n_join_e, n_join_empty, n_join_kind, n_long_num, n_long_text, n_long_add, n_long_mul, n_long_less, n_long_join, n_long_show, n_long_swap, n_long_drop, n_long_copy, n_long_e, n_long_empty, n_long_kind, n_show_num, n_show_text, n_show_add, n_show_mul, n_show_less, n_show_join, n_show_long, n_show_swap, n_show_drop, n_show_copy, n_show_e, n_show_empty, n_show_kind, n_swap_num, n_swap_text, n_swap_add, n_swap_mul, n_swap_less, n_swap_join, n_swap_long, n_swap_show, n_swap_drop, n_swap_copy, n_swap_e, n_swap_empty, n_swap_kind, n_drop_num, n_drop_text, n_drop_add, n_drop_mul, n_drop_less, n_drop_join, n_drop_long, n_drop_show, n_drop_swap, n_drop_copy, n_drop_e, n_drop_empty, n_drop_kind, n_copy_num, n_copy_text, n_copy_add, n_copy_mul, n_copy_less, n_copy_join, n_copy_long, n_copy_show, n_copy_swap, n_copy_drop, n_copy_e, n_copy_empty, n_copy_kind, n_e_num, n_e_text, n_e_add, n_e_mul, n_e_less, n_e_join, n_e_long, n_e_show, n_e_swap, n_e_drop, n_e_copy, n_e_empty, n_e_kind, n_empty_num, n_empty_text, n_empty_add, n_empty_mul, n_empty_less, n_empty_join, n_empty_long, n_empty_show, n_empty_swap, n_empty_drop, n_empty_copy, n_empty_e, n_empty_kind, n_kind_num, n_kind_text, n_kind_add, n_kind_mul, n_kind_less, n_kind_join, n_kind_long, n_kind_show, n_kind_swap, n_kind_drop, n_kind_copy, n_kind_e, n_kind_empty, lW_num, lW_text, lW_add, lW_mul, lW_less, lW_join, lW_long, lW_show, lW_swap, lW_drop, lW_copy, lW_if, lT_num, lT_text, lT_add, lT_mul, lT_less, lT_join, lT_long, lT_show, lT_swap, lT_drop, lT_copy, lT_if, lP_num, lP_text, lP_add, lP_mul, lP_less, lP_join, lP_long, lP_show, lP_swap, lP_drop, lP_copy, lF_added, lF_multiplied, lF_compared, lF_joined, lF_measured, lF_shown, lF_swapped, lF_dropped, lF_copied, lI_num, lI_text, lI_add, lI_mul, lI_less, lI_join, lI_long, lI_show, lI_swap, lI_drop, lI_copy, lH_Empty_Empty, lH_WrongKind_Empty, lA_Empty, lH_Empty_WrongKind, lH_WrongKind_WrongKind, lA_WrongKind, e0, cp, e9, lp, Int.reduceLT]
  | mul a b hc =>
    have e0 : atI [D.str (Str.ofString "mul")] 0 = some (.str "mul") := rfl
    unfold F_law_behind M_law_behind
    simp only [mkF, pad, outs, mSeq, mAsg, mAsgG, mExpr, mRet, mRetV, mRetN, mIfS, mIf, mNx, mTest, tmNot, tmAnd, tmOr, mVar, mC, mB, TL.m1, TL.m2, opt, use, R.fix, frz, tak, Cell.dat, mSeqD, mArgs, vals, mSl, mPart, mgSeq, setAll, D.items, mCall, give, mPut, mApp, mPop, mIns, ownL, mFor, miSeq, miRange, mAndV, mOrV, mNotV, D.bool, D.tru, mKGet, mKIn, mCallV, mRaise, mTry, mHands, mAny, mJoin, mLc, oAdd, oSub, oMul, oDiv, oMod, oPow, oNeg, oCmp, oIx, oSl, oLen, oList, oTuple, oStr, oInt, oMax, oMin, oIn, List.getElem?_cons_zero, List.getElem?_cons_succ, List.getElem?_nil, List.set_cons_zero, List.set_cons_succ, List.length_cons, List.length_nil, List.cons_append, List.nil_append, List.append_nil, List.replicate, List.map_cons, List.map_nil, Option.map_some, Option.map_none, Option.bind_some, Option.bind_none, if_true, if_false, reduceIte, ↓reduceIte, Nat.reduceAdd, Nat.reduceSub, Nat.reduceLeDiff, Nat.reduceLT, Nat.reduceEqDiff, Int.reduceLT, Int.reduceLE, Bool.not_true, Bool.not_false, Bool.false_eq_true, sz0, sz1, sz2, sz3, sz4, sz5, sz6, sz7, sz8, sz9, sz10, sz11, sz12, sz13, sz14, sz15, oEq_str, oEq_int, oNe_str, oNe_int, decide_false, decide_true, and_self, n_num_text, n_num_add, n_num_mul, n_num_less, n_num_join, n_num_long, n_num_show, n_num_swap, n_num_drop, n_num_copy, n_num_e, n_num_empty, n_num_kind, n_text_num, n_text_add, n_text_mul, n_text_less, n_text_join, n_text_long, n_text_show, n_text_swap, n_text_drop, n_text_copy, n_text_e, n_text_empty, n_text_kind, n_add_num, n_add_text, n_add_mul, n_add_less, n_add_join, n_add_long, n_add_show, n_add_swap, n_add_drop, n_add_copy, n_add_e, n_add_empty, n_add_kind, n_mul_num, n_mul_text, n_mul_add, n_mul_less, n_mul_join, n_mul_long, n_mul_show, n_mul_swap, n_mul_drop, n_mul_copy, n_mul_e, n_mul_empty, n_mul_kind, n_less_num, n_less_text, n_less_add, n_less_mul, n_less_join, n_less_long, n_less_show, n_less_swap, n_less_drop, n_less_copy, n_less_e, n_less_empty, n_less_kind, n_join_num, n_join_text, n_join_add, n_join_mul, n_join_less, n_join_long, n_join_show, n_join_swap, n_join_drop, n_join_copy, n_join_e, n_join_empty, n_join_kind, n_long_num, n_long_text, n_long_add, n_long_mul, n_long_less, n_long_join, n_long_show, n_long_swap, n_long_drop, n_long_copy, n_long_e, n_long_empty, n_long_kind, n_show_num, n_show_text, n_show_add, n_show_mul, n_show_less, n_show_join, n_show_long, n_show_swap, n_show_drop, n_show_copy, n_show_e, n_show_empty, n_show_kind, n_swap_num, n_swap_text, n_swap_add, n_swap_mul, n_swap_less, n_swap_join, n_swap_long, n_swap_show, n_swap_drop, n_swap_copy, n_swap_e, n_swap_empty, n_swap_kind, n_drop_num, n_drop_text, n_drop_add, n_drop_mul, n_drop_less, n_drop_join, n_drop_long, n_drop_show, n_drop_swap, n_drop_copy, n_drop_e, n_drop_empty, n_drop_kind, n_copy_num, n_copy_text, n_copy_add, n_copy_mul, n_copy_less, n_copy_join, n_copy_long, n_copy_show, n_copy_swap, n_copy_drop, n_copy_e, n_copy_empty, n_copy_kind, n_e_num, n_e_text, n_e_add, n_e_mul, n_e_less, n_e_join, n_e_long, n_e_show, n_e_swap, n_e_drop, n_e_copy, n_e_empty, n_e_kind, n_empty_num, n_empty_text, n_empty_add, n_empty_mul, n_empty_less, n_empty_join, n_empty_long, n_empty_show, n_empty_swap, n_empty_drop, n_empty_copy, n_empty_e, n_empty_kind, n_kind_num, n_kind_text, n_kind_add, n_kind_mul, n_kind_less, n_kind_join, n_kind_long, n_kind_show, n_kind_swap, n_kind_drop, n_kind_copy, n_kind_e, n_kind_empty, lW_num, lW_text, lW_add, lW_mul, lW_less, lW_join, lW_long, lW_show, lW_swap, lW_drop, lW_copy, lW_if, lT_num, lT_text, lT_add, lT_mul, lT_less, lT_join, lT_long, lT_show, lT_swap, lT_drop, lT_copy, lT_if, lP_num, lP_text, lP_add, lP_mul, lP_less, lP_join, lP_long, lP_show, lP_swap, lP_drop, lP_copy, lF_added, lF_multiplied, lF_compared, lF_joined, lF_measured, lF_shown, lF_swapped, lF_dropped, lF_copied, lI_num, lI_text, lI_add, lI_mul, lI_less, lI_join, lI_long, lI_show, lI_swap, lI_drop, lI_copy, lH_Empty_Empty, lH_WrongKind_Empty, lA_Empty, lH_Empty_WrongKind, lH_WrongKind_WrongKind, lA_WrongKind, e0, p1, p2, p3, p4]
    unfold F_law_reckoned M_law_reckoned
    simp only [mkF, pad, outs, mSeq, mAsg, mAsgG, mExpr, mRet, mRetV, mRetN, mIfS, mIf, mNx, mTest, tmNot, tmAnd, tmOr, mVar, mC, mB, TL.m1, TL.m2, opt, use, R.fix, frz, tak, Cell.dat, mSeqD, mArgs, vals, mSl, mPart, mgSeq, setAll, D.items, mCall, give, mPut, mApp, mPop, mIns, ownL, mFor, miSeq, miRange, mAndV, mOrV, mNotV, D.bool, D.tru, mKGet, mKIn, mCallV, mRaise, mTry, mHands, mAny, mJoin, mLc, oAdd, oSub, oMul, oDiv, oMod, oPow, oNeg, oCmp, oIx, oSl, oLen, oList, oTuple, oStr, oInt, oMax, oMin, oIn, List.getElem?_cons_zero, List.getElem?_cons_succ, List.getElem?_nil, List.set_cons_zero, List.set_cons_succ, List.length_cons, List.length_nil, List.cons_append, List.nil_append, List.append_nil, List.replicate, List.map_cons, List.map_nil, Option.map_some, Option.map_none, Option.bind_some, Option.bind_none, if_true, if_false, reduceIte, ↓reduceIte, Nat.reduceAdd, Nat.reduceSub, Nat.reduceLeDiff, Nat.reduceLT, Nat.reduceEqDiff, Int.reduceLT, Int.reduceLE, Bool.not_true, Bool.not_false, Bool.false_eq_true, sz0, sz1, sz2, sz3, sz4, sz5, sz6, sz7, sz8, sz9, sz10, sz11, sz12, sz13, sz14, sz15, oEq_str, oEq_int, oNe_str, oNe_int, decide_false, decide_true, and_self, n_num_text, n_num_add, n_num_mul, n_num_less, n_num_join, n_num_long, n_num_show, n_num_swap, n_num_drop, n_num_copy, n_num_e, n_num_empty, n_num_kind, n_text_num, n_text_add, n_text_mul, n_text_less, n_text_join, n_text_long, n_text_show, n_text_swap, n_text_drop, n_text_copy, n_text_e, n_text_empty, n_text_kind, n_add_num, n_add_text, n_add_mul, n_add_less, n_add_join, n_add_long, n_add_show, n_add_swap, n_add_drop, n_add_copy, n_add_e, n_add_empty, n_add_kind, n_mul_num, n_mul_text, n_mul_add, n_mul_less, n_mul_join, n_mul_long, n_mul_show, n_mul_swap, n_mul_drop, n_mul_copy, n_mul_e, n_mul_empty, n_mul_kind, n_less_num, n_less_text, n_less_add, n_less_mul, n_less_join, n_less_long, n_less_show, n_less_swap, n_less_drop, n_less_copy, n_less_e, n_less_empty, n_less_kind, n_join_num, n_join_text, n_join_add, n_join_mul, n_join_less, n_join_long, n_join_show, n_join_swap, n_join_drop, n_join_copy, n_join_e, n_join_empty, n_join_kind, n_long_num, n_long_text, n_long_add, n_long_mul, n_long_less, n_long_join, n_long_show, n_long_swap, n_long_drop, n_long_copy, n_long_e, n_long_empty, n_long_kind, n_show_num, n_show_text, n_show_add, n_show_mul, n_show_less, n_show_join, n_show_long, n_show_swap, n_show_drop, n_show_copy, n_show_e, n_show_empty, n_show_kind, n_swap_num, n_swap_text, n_swap_add, n_swap_mul, n_swap_less, n_swap_join, n_swap_long, n_swap_show, n_swap_drop, n_swap_copy, n_swap_e, n_swap_empty, n_swap_kind, n_drop_num, n_drop_text, n_drop_add, n_drop_mul, n_drop_less, n_drop_join, n_drop_long, n_drop_show, n_drop_swap, n_drop_copy, n_drop_e, n_drop_empty, n_drop_kind, n_copy_num, n_copy_text, n_copy_add, n_copy_mul, n_copy_less, n_copy_join, n_copy_long, n_copy_show, n_copy_swap, n_copy_drop, n_copy_e, n_copy_empty, n_copy_kind, n_e_num, n_e_text, n_e_add, n_e_mul, n_e_less, n_e_join, n_e_long, n_e_show, n_e_swap, n_e_drop, n_e_copy, n_e_empty, n_e_kind, n_empty_num, n_empty_text, n_empty_add, n_empty_mul, n_empty_less, n_empty_join, n_empty_long, n_empty_show, n_empty_swap, n_empty_drop, n_empty_copy, n_empty_e, n_empty_kind, n_kind_num, n_kind_text, n_kind_add, n_kind_mul, n_kind_less, n_kind_join, n_kind_long, n_kind_show, n_kind_swap, n_kind_drop, n_kind_copy, n_kind_e, n_kind_empty, lW_num, lW_text, lW_add, lW_mul, lW_less, lW_join, lW_long, lW_show, lW_swap, lW_drop, lW_copy, lW_if, lT_num, lT_text, lT_add, lT_mul, lT_less, lT_join, lT_long, lT_show, lT_swap, lT_drop, lT_copy, lT_if, lP_num, lP_text, lP_add, lP_mul, lP_less, lP_join, lP_long, lP_show, lP_swap, lP_drop, lP_copy, lF_added, lF_multiplied, lF_compared, lF_joined, lF_measured, lF_shown, lF_swapped, lF_dropped, lF_copied, lI_num, lI_text, lI_add, lI_mul, lI_less, lI_join, lI_long, lI_show, lI_swap, lI_drop, lI_copy, lH_Empty_Empty, lH_WrongKind_Empty, lA_Empty, lH_Empty_WrongKind, lH_WrongKind_WrongKind, lA_WrongKind, e0, cp, e9, lp, hc, Int.reduceLT]
  | less a b =>
    have e0 : atI [D.str (Str.ofString "less")] 0 = some (.str "less") := rfl
    by_cases hc : a < b
    all_goals
      unfold F_law_behind M_law_behind
      simp only [mkF, pad, outs, mSeq, mAsg, mAsgG, mExpr, mRet, mRetV, mRetN, mIfS, mIf, mNx, mTest, tmNot, tmAnd, tmOr, mVar, mC, mB, TL.m1, TL.m2, opt, use, R.fix, frz, tak, Cell.dat, mSeqD, mArgs, vals, mSl, mPart, mgSeq, setAll, D.items, mCall, give, mPut, mApp, mPop, mIns, ownL, mFor, miSeq, miRange, mAndV, mOrV, mNotV, D.bool, D.tru, mKGet, mKIn, mCallV, mRaise, mTry, mHands, mAny, mJoin, mLc, oAdd, oSub, oMul, oDiv, oMod, oPow, oNeg, oCmp, oIx, oSl, oLen, oList, oTuple, oStr, oInt, oMax, oMin, oIn, List.getElem?_cons_zero, List.getElem?_cons_succ, List.getElem?_nil, List.set_cons_zero, List.set_cons_succ, List.length_cons, List.length_nil, List.cons_append, List.nil_append, List.append_nil, List.replicate, List.map_cons, List.map_nil, Option.map_some, Option.map_none, Option.bind_some, Option.bind_none, if_true, if_false, reduceIte, ↓reduceIte, Nat.reduceAdd, Nat.reduceSub, Nat.reduceLeDiff, Nat.reduceLT, Nat.reduceEqDiff, Int.reduceLT, Int.reduceLE, Bool.not_true, Bool.not_false, Bool.false_eq_true, sz0, sz1, sz2, sz3, sz4, sz5, sz6, sz7, sz8, sz9, sz10, sz11, sz12, sz13, sz14, sz15, oEq_str, oEq_int, oNe_str, oNe_int, decide_false, decide_true, and_self, n_num_text, n_num_add, n_num_mul, n_num_less, n_num_join, n_num_long, n_num_show, n_num_swap, n_num_drop, n_num_copy, n_num_e, n_num_empty, n_num_kind, n_text_num, n_text_add, n_text_mul, n_text_less, n_text_join, n_text_long, n_text_show, n_text_swap, n_text_drop, n_text_copy, n_text_e, n_text_empty, n_text_kind, n_add_num, n_add_text, n_add_mul, n_add_less, n_add_join, n_add_long, n_add_show, n_add_swap, n_add_drop, n_add_copy, n_add_e, n_add_empty, n_add_kind, n_mul_num, n_mul_text, n_mul_add, n_mul_less, n_mul_join, n_mul_long, n_mul_show, n_mul_swap, n_mul_drop, n_mul_copy, n_mul_e, n_mul_empty, n_mul_kind, n_less_num, n_less_text, n_less_add, n_less_mul, n_less_join, n_less_long, n_less_show, n_less_swap, n_less_drop, n_less_copy, n_less_e, n_less_empty, n_less_kind, n_join_num, n_join_text, n_join_add, n_join_mul, n_join_less, n_join_long, n_join_show, n_join_swap, n_join_drop, n_join_copy, n_join_e, n_join_empty, n_join_kind, n_long_num, n_long_text, n_long_add, n_long_mul, n_long_less, n_long_join, n_long_show, n_long_swap, n_long_drop, n_long_copy, n_long_e, n_long_empty, n_long_kind, n_show_num, n_show_text, n_show_add, n_show_mul, n_show_less, n_show_join, n_show_long, n_show_swap, n_show_drop, n_show_copy, n_show_e, n_show_empty, n_show_kind, n_swap_num, n_swap_text, n_swap_add, n_swap_mul, n_swap_less, n_swap_join, n_swap_long, n_swap_show, n_swap_drop, n_swap_copy, n_swap_e, n_swap_empty, n_swap_kind, n_drop_num, n_drop_text, n_drop_add, n_drop_mul, n_drop_less, n_drop_join, n_drop_long, n_drop_show, n_drop_swap, n_drop_copy, n_drop_e, n_drop_empty, n_drop_kind, n_copy_num, n_copy_text, n_copy_add, n_copy_mul, n_copy_less, n_copy_join, n_copy_long, n_copy_show, n_copy_swap, n_copy_drop, n_copy_e, n_copy_empty, n_copy_kind, n_e_num, n_e_text, n_e_add, n_e_mul, n_e_less, n_e_join, n_e_long, n_e_show, n_e_swap, n_e_drop, n_e_copy, n_e_empty, n_e_kind, n_empty_num, n_empty_text, n_empty_add, n_empty_mul, n_empty_less, n_empty_join, n_empty_long, n_empty_show, n_empty_swap, n_empty_drop, n_empty_copy, n_empty_e, n_empty_kind, n_kind_num, n_kind_text, n_kind_add, n_kind_mul, n_kind_less, n_kind_join, n_kind_long, n_kind_show, n_kind_swap, n_kind_drop, n_kind_copy, n_kind_e, n_kind_empty, lW_num, lW_text, lW_add, lW_mul, lW_less, lW_join, lW_long, lW_show, lW_swap, lW_drop, lW_copy, lW_if, lT_num, lT_text, lT_add, lT_mul, lT_less, lT_join, lT_long, lT_show, lT_swap, lT_drop, lT_copy, lT_if, lP_num, lP_text, lP_add, lP_mul, lP_less, lP_join, lP_long, lP_show, lP_swap, lP_drop, lP_copy, lF_added, lF_multiplied, lF_compared, lF_joined, lF_measured, lF_shown, lF_swapped, lF_dropped, lF_copied, lI_num, lI_text, lI_add, lI_mul, lI_less, lI_join, lI_long, lI_show, lI_swap, lI_drop, lI_copy, lH_Empty_Empty, lH_WrongKind_Empty, lA_Empty, lH_Empty_WrongKind, lH_WrongKind_WrongKind, lA_WrongKind, e0, p1, p2, p3, p4]
      unfold F_law_reckoned M_law_reckoned
      simp only [mkF, pad, outs, mSeq, mAsg, mAsgG, mExpr, mRet, mRetV, mRetN, mIfS, mIf, mNx, mTest, tmNot, tmAnd, tmOr, mVar, mC, mB, TL.m1, TL.m2, opt, use, R.fix, frz, tak, Cell.dat, mSeqD, mArgs, vals, mSl, mPart, mgSeq, setAll, D.items, mCall, give, mPut, mApp, mPop, mIns, ownL, mFor, miSeq, miRange, mAndV, mOrV, mNotV, D.bool, D.tru, mKGet, mKIn, mCallV, mRaise, mTry, mHands, mAny, mJoin, mLc, oAdd, oSub, oMul, oDiv, oMod, oPow, oNeg, oCmp, oIx, oSl, oLen, oList, oTuple, oStr, oInt, oMax, oMin, oIn, List.getElem?_cons_zero, List.getElem?_cons_succ, List.getElem?_nil, List.set_cons_zero, List.set_cons_succ, List.length_cons, List.length_nil, List.cons_append, List.nil_append, List.append_nil, List.replicate, List.map_cons, List.map_nil, Option.map_some, Option.map_none, Option.bind_some, Option.bind_none, if_true, if_false, reduceIte, ↓reduceIte, Nat.reduceAdd, Nat.reduceSub, Nat.reduceLeDiff, Nat.reduceLT, Nat.reduceEqDiff, Int.reduceLT, Int.reduceLE, Bool.not_true, Bool.not_false, Bool.false_eq_true, sz0, sz1, sz2, sz3, sz4, sz5, sz6, sz7, sz8, sz9, sz10, sz11, sz12, sz13, sz14, sz15, oEq_str, oEq_int, oNe_str, oNe_int, decide_false, decide_true, and_self, n_num_text, n_num_add, n_num_mul, n_num_less, n_num_join, n_num_long, n_num_show, n_num_swap, n_num_drop, n_num_copy, n_num_e, n_num_empty, n_num_kind, n_text_num, n_text_add, n_text_mul, n_text_less, n_text_join, n_text_long, n_text_show, n_text_swap, n_text_drop, n_text_copy, n_text_e, n_text_empty, n_text_kind, n_add_num, n_add_text, n_add_mul, n_add_less, n_add_join, n_add_long, n_add_show, n_add_swap, n_add_drop, n_add_copy, n_add_e, n_add_empty, n_add_kind, n_mul_num, n_mul_text, n_mul_add, n_mul_less, n_mul_join, n_mul_long, n_mul_show, n_mul_swap, n_mul_drop, n_mul_copy, n_mul_e, n_mul_empty, n_mul_kind, n_less_num, n_less_text, n_less_add, n_less_mul, n_less_join, n_less_long, n_less_show, n_less_swap, n_less_drop, n_less_copy, n_less_e, n_less_empty, n_less_kind, n_join_num, n_join_text, n_join_add, n_join_mul, n_join_less, n_join_long, n_join_show, n_join_swap, n_join_drop, n_join_copy, n_join_e, n_join_empty, n_join_kind, n_long_num, n_long_text, n_long_add, n_long_mul, n_long_less, n_long_join, n_long_show, n_long_swap, n_long_drop, n_long_copy, n_long_e, n_long_empty, n_long_kind, n_show_num, n_show_text, n_show_add, n_show_mul, n_show_less, n_show_join, n_show_long, n_show_swap, n_show_drop, n_show_copy, n_show_e, n_show_empty, n_show_kind, n_swap_num, n_swap_text, n_swap_add, n_swap_mul, n_swap_less, n_swap_join, n_swap_long, n_swap_show, n_swap_drop, n_swap_copy, n_swap_e, n_swap_empty, n_swap_kind, n_drop_num, n_drop_text, n_drop_add, n_drop_mul, n_drop_less, n_drop_join, n_drop_long, n_drop_show, n_drop_swap, n_drop_copy, n_drop_e, n_drop_empty, n_drop_kind, n_copy_num, n_copy_text, n_copy_add, n_copy_mul, n_copy_less, n_copy_join, n_copy_long, n_copy_show, n_copy_swap, n_copy_drop, n_copy_e, n_copy_empty, n_copy_kind, n_e_num, n_e_text, n_e_add, n_e_mul, n_e_less, n_e_join, n_e_long, n_e_show, n_e_swap, n_e_drop, n_e_copy, n_e_empty, n_e_kind, n_empty_num, n_empty_text, n_empty_add, n_empty_mul, n_empty_less, n_empty_join, n_empty_long, n_empty_show, n_empty_swap, n_empty_drop, n_empty_copy, n_empty_e, n_empty_kind, n_kind_num, n_kind_text, n_kind_add, n_kind_mul, n_kind_less, n_kind_join, n_kind_long, n_kind_show, n_kind_swap, n_kind_drop, n_kind_copy, n_kind_e, n_kind_empty, lW_num, lW_text, lW_add, lW_mul, lW_less, lW_join, lW_long, lW_show, lW_swap, lW_drop, lW_copy, lW_if, lT_num, lT_text, lT_add, lT_mul, lT_less, lT_join, lT_long, lT_show, lT_swap, lT_drop, lT_copy, lT_if, lP_num, lP_text, lP_add, lP_mul, lP_less, lP_join, lP_long, lP_show, lP_swap, lP_drop, lP_copy, lF_added, lF_multiplied, lF_compared, lF_joined, lF_measured, lF_shown, lF_swapped, lF_dropped, lF_copied, lI_num, lI_text, lI_add, lI_mul, lI_less, lI_join, lI_long, lI_show, lI_swap, lI_drop, lI_copy, lH_Empty_Empty, lH_WrongKind_Empty, lA_Empty, lH_Empty_WrongKind, lH_WrongKind_WrongKind, lA_WrongKind, e0, lp, hc]
  | join a b ha hb =>
    have e0 : atI [D.str (Str.ofString "join")] 0 = some (.str "join") := rfl
    have h1 : a.length + b.length ≤ sizeLine := le_sz (by omega)
    have h2 : (a ++ b).length ≤ sizeLine := by rw [Str.length_append]; exact h1
    unfold F_law_behind M_law_behind
    simp only [mkF, pad, outs, mSeq, mAsg, mAsgG, mExpr, mRet, mRetV, mRetN, mIfS, mIf, mNx, mTest, tmNot, tmAnd, tmOr, mVar, mC, mB, TL.m1, TL.m2, opt, use, R.fix, frz, tak, Cell.dat, mSeqD, mArgs, vals, mSl, mPart, mgSeq, setAll, D.items, mCall, give, mPut, mApp, mPop, mIns, ownL, mFor, miSeq, miRange, mAndV, mOrV, mNotV, D.bool, D.tru, mKGet, mKIn, mCallV, mRaise, mTry, mHands, mAny, mJoin, mLc, oAdd, oSub, oMul, oDiv, oMod, oPow, oNeg, oCmp, oIx, oSl, oLen, oList, oTuple, oStr, oInt, oMax, oMin, oIn, List.getElem?_cons_zero, List.getElem?_cons_succ, List.getElem?_nil, List.set_cons_zero, List.set_cons_succ, List.length_cons, List.length_nil, List.cons_append, List.nil_append, List.append_nil, List.replicate, List.map_cons, List.map_nil, Option.map_some, Option.map_none, Option.bind_some, Option.bind_none, if_true, if_false, reduceIte, ↓reduceIte, Nat.reduceAdd, Nat.reduceSub, Nat.reduceLeDiff, Nat.reduceLT, Nat.reduceEqDiff, Int.reduceLT, Int.reduceLE, Bool.not_true, Bool.not_false, Bool.false_eq_true, sz0, sz1, sz2, sz3, sz4, sz5, sz6, sz7, sz8, sz9, sz10, sz11, sz12, sz13, sz14, sz15, oEq_str, oEq_int, oNe_str, oNe_int, decide_false, decide_true, and_self, n_num_text, n_num_add, n_num_mul, n_num_less, n_num_join, n_num_long, n_num_show, n_num_swap, n_num_drop, n_num_copy, n_num_e, n_num_empty, n_num_kind, n_text_num, n_text_add, n_text_mul, n_text_less, n_text_join, n_text_long, n_text_show, n_text_swap, n_text_drop, n_text_copy, n_text_e, n_text_empty, n_text_kind, n_add_num, n_add_text, n_add_mul, n_add_less, n_add_join, n_add_long, n_add_show, n_add_swap, n_add_drop, n_add_copy, n_add_e, n_add_empty, n_add_kind, n_mul_num, n_mul_text, n_mul_add, n_mul_less, n_mul_join, n_mul_long, n_mul_show, n_mul_swap, n_mul_drop, n_mul_copy, n_mul_e, n_mul_empty, n_mul_kind, n_less_num, n_less_text, n_less_add, n_less_mul, n_less_join, n_less_long, n_less_show, n_less_swap, n_less_drop, n_less_copy, n_less_e, n_less_empty, n_less_kind, n_join_num, n_join_text, n_join_add, n_join_mul, n_join_less, n_join_long, n_join_show, n_join_swap, n_join_drop, n_join_copy, n_join_e, n_join_empty, n_join_kind, n_long_num, n_long_text, n_long_add, n_long_mul, n_long_less, n_long_join, n_long_show, n_long_swap, n_long_drop, n_long_copy, n_long_e, n_long_empty, n_long_kind, n_show_num, n_show_text, n_show_add, n_show_mul, n_show_less, n_show_join, n_show_long, n_show_swap, n_show_drop, n_show_copy, n_show_e, n_show_empty, n_show_kind, n_swap_num, n_swap_text, n_swap_add, n_swap_mul, n_swap_less, n_swap_join, n_swap_long, n_swap_show, n_swap_drop, n_swap_copy, n_swap_e, n_swap_empty, n_swap_kind, n_drop_num, n_drop_text, n_drop_add, n_drop_mul, n_drop_less, n_drop_join, n_drop_long, n_drop_show, n_drop_swap, n_drop_copy, n_drop_e, n_drop_empty, n_drop_kind, n_copy_num, n_copy_text, n_copy_add, n_copy_mul, n_copy_less, n_copy_join, n_copy_long, n_copy_show, n_copy_swap, n_copy_drop, n_copy_e, n_copy_empty, n_copy_kind, n_e_num, n_e_text, n_e_add, n_e_mul, n_e_less, n_e_join, n_e_long, n_e_show, n_e_swap, n_e_drop, n_e_copy, n_e_empty, n_e_kind, n_empty_num, n_empty_text, n_empty_add, n_empty_mul, n_empty_less, n_empty_join, n_empty_long, n_empty_show, n_empty_swap, n_empty_drop, n_empty_copy, n_empty_e, n_empty_kind, n_kind_num, n_kind_text, n_kind_add, n_kind_mul, n_kind_less, n_kind_join, n_kind_long, n_kind_show, n_kind_swap, n_kind_drop, n_kind_copy, n_kind_e, n_kind_empty, lW_num, lW_text, lW_add, lW_mul, lW_less, lW_join, lW_long, lW_show, lW_swap, lW_drop, lW_copy, lW_if, lT_num, lT_text, lT_add, lT_mul, lT_less, lT_join, lT_long, lT_show, lT_swap, lT_drop, lT_copy, lT_if, lP_num, lP_text, lP_add, lP_mul, lP_less, lP_join, lP_long, lP_show, lP_swap, lP_drop, lP_copy, lF_added, lF_multiplied, lF_compared, lF_joined, lF_measured, lF_shown, lF_swapped, lF_dropped, lF_copied, lI_num, lI_text, lI_add, lI_mul, lI_less, lI_join, lI_long, lI_show, lI_swap, lI_drop, lI_copy, lH_Empty_Empty, lH_WrongKind_Empty, lA_Empty, lH_Empty_WrongKind, lH_WrongKind_WrongKind, lA_WrongKind, e0, p1, p2, p3, p4]
    unfold F_law_reckoned M_law_reckoned
    simp only [mkF, pad, outs, mSeq, mAsg, mAsgG, mExpr, mRet, mRetV, mRetN, mIfS, mIf, mNx, mTest, tmNot, tmAnd, tmOr, mVar, mC, mB, TL.m1, TL.m2, opt, use, R.fix, frz, tak, Cell.dat, mSeqD, mArgs, vals, mSl, mPart, mgSeq, setAll, D.items, mCall, give, mPut, mApp, mPop, mIns, ownL, mFor, miSeq, miRange, mAndV, mOrV, mNotV, D.bool, D.tru, mKGet, mKIn, mCallV, mRaise, mTry, mHands, mAny, mJoin, mLc, oAdd, oSub, oMul, oDiv, oMod, oPow, oNeg, oCmp, oIx, oSl, oLen, oList, oTuple, oStr, oInt, oMax, oMin, oIn, List.getElem?_cons_zero, List.getElem?_cons_succ, List.getElem?_nil, List.set_cons_zero, List.set_cons_succ, List.length_cons, List.length_nil, List.cons_append, List.nil_append, List.append_nil, List.replicate, List.map_cons, List.map_nil, Option.map_some, Option.map_none, Option.bind_some, Option.bind_none, if_true, if_false, reduceIte, ↓reduceIte, Nat.reduceAdd, Nat.reduceSub, Nat.reduceLeDiff, Nat.reduceLT, Nat.reduceEqDiff, Int.reduceLT, Int.reduceLE, Bool.not_true, Bool.not_false, Bool.false_eq_true, sz0, sz1, sz2, sz3, sz4, sz5, sz6, sz7, sz8, sz9, sz10, sz11, sz12, sz13, sz14, sz15, oEq_str, oEq_int, oNe_str, oNe_int, decide_false, decide_true, and_self, n_num_text, n_num_add, n_num_mul, n_num_less, n_num_join, n_num_long, n_num_show, n_num_swap, n_num_drop, n_num_copy, n_num_e, n_num_empty, n_num_kind, n_text_num, n_text_add, n_text_mul, n_text_less, n_text_join, n_text_long, n_text_show, n_text_swap, n_text_drop, n_text_copy, n_text_e, n_text_empty, n_text_kind, n_add_num, n_add_text, n_add_mul, n_add_less, n_add_join, n_add_long, n_add_show, n_add_swap, n_add_drop, n_add_copy, n_add_e, n_add_empty, n_add_kind, n_mul_num, n_mul_text, n_mul_add, n_mul_less, n_mul_join, n_mul_long, n_mul_show, n_mul_swap, n_mul_drop, n_mul_copy, n_mul_e, n_mul_empty, n_mul_kind, n_less_num, n_less_text, n_less_add, n_less_mul, n_less_join, n_less_long, n_less_show, n_less_swap, n_less_drop, n_less_copy, n_less_e, n_less_empty, n_less_kind, n_join_num, n_join_text, n_join_add, n_join_mul, n_join_less, n_join_long, n_join_show, n_join_swap, n_join_drop, n_join_copy, n_join_e, n_join_empty, n_join_kind, n_long_num, n_long_text, n_long_add, n_long_mul, n_long_less, n_long_join, n_long_show, n_long_swap, n_long_drop, n_long_copy, n_long_e, n_long_empty, n_long_kind, n_show_num, n_show_text, n_show_add, n_show_mul, n_show_less, n_show_join, n_show_long, n_show_swap, n_show_drop, n_show_copy, n_show_e, n_show_empty, n_show_kind, n_swap_num, n_swap_text, n_swap_add, n_swap_mul, n_swap_less, n_swap_join, n_swap_long, n_swap_show, n_swap_drop, n_swap_copy, n_swap_e, n_swap_empty, n_swap_kind, n_drop_num, n_drop_text, n_drop_add, n_drop_mul, n_drop_less, n_drop_join, n_drop_long, n_drop_show, n_drop_swap, n_drop_copy, n_drop_e, n_drop_empty, n_drop_kind, n_copy_num, n_copy_text, n_copy_add, n_copy_mul, n_copy_less, n_copy_join, n_copy_long, n_copy_show, n_copy_swap, n_copy_drop, n_copy_e, n_copy_empty, n_copy_kind, n_e_num, n_e_text, n_e_add, n_e_mul, n_e_less, n_e_join, n_e_long, n_e_show, n_e_swap, n_e_drop, n_e_copy, n_e_empty, n_e_kind, n_empty_num, n_empty_text, n_empty_add, n_empty_mul, n_empty_less, n_empty_join, n_empty_long, n_empty_show, n_empty_swap, n_empty_drop, n_empty_copy, n_empty_e, n_empty_kind, n_kind_num, n_kind_text, n_kind_add, n_kind_mul, n_kind_less, n_kind_join, n_kind_long, n_kind_show, n_kind_swap, n_kind_drop, n_kind_copy, n_kind_e, n_kind_empty, lW_num, lW_text, lW_add, lW_mul, lW_less, lW_join, lW_long, lW_show, lW_swap, lW_drop, lW_copy, lW_if, lT_num, lT_text, lT_add, lT_mul, lT_less, lT_join, lT_long, lT_show, lT_swap, lT_drop, lT_copy, lT_if, lP_num, lP_text, lP_add, lP_mul, lP_less, lP_join, lP_long, lP_show, lP_swap, lP_drop, lP_copy, lF_added, lF_multiplied, lF_compared, lF_joined, lF_measured, lF_shown, lF_swapped, lF_dropped, lF_copied, lI_num, lI_text, lI_add, lI_mul, lI_less, lI_join, lI_long, lI_show, lI_swap, lI_drop, lI_copy, lH_Empty_Empty, lH_WrongKind_Empty, lA_Empty, lH_Empty_WrongKind, lH_WrongKind_WrongKind, lA_WrongKind, e0, lp, h1, h2]
  | swap a b =>
    have e0 : atI [D.str (Str.ofString "swap")] 0 = some (.str "swap") := rfl
    have e1 : (((pre ++ [a]).length : Int) - 1) = (pre.length : Int) := by simp
    have ll := lz (pre ++ [a]) (by simp; omega)
    have c1 : (0 : Int) ≤ (pre.length : Int) := by omega
    have c2 : (pre.length : Int).natAbs < 2 ^ 63 := by omega
    have e2 : (pre ++ [a]).take pre.length = pre := by simp
    have e3 : (pre ++ [a]).drop pre.length = [a] := by simp
    unfold F_law_behind M_law_behind
    simp only [mkF, pad, outs, mSeq, mAsg, mAsgG, mExpr, mRet, mRetV, mRetN, mIfS, mIf, mNx, mTest, tmNot, tmAnd, tmOr, mVar, mC, mB, TL.m1, TL.m2, opt, use, R.fix, frz, tak, Cell.dat, mSeqD, mArgs, vals, mSl, mPart, mgSeq, setAll, D.items, mCall, give, mPut, mApp, mPop, mIns, ownL, mFor, miSeq, miRange, mAndV, mOrV, mNotV, D.bool, D.tru, mKGet, mKIn, mCallV, mRaise, mTry, mHands, mAny, mJoin, mLc, oAdd, oSub, oMul, oDiv, oMod, oPow, oNeg, oCmp, oIx, oSl, oLen, oList, oTuple, oStr, oInt, oMax, oMin, oIn, List.getElem?_cons_zero, List.getElem?_cons_succ, List.getElem?_nil, List.set_cons_zero, List.set_cons_succ, List.length_cons, List.length_nil, List.cons_append, List.nil_append, List.append_nil, List.replicate, List.map_cons, List.map_nil, Option.map_some, Option.map_none, Option.bind_some, Option.bind_none, if_true, if_false, reduceIte, ↓reduceIte, Nat.reduceAdd, Nat.reduceSub, Nat.reduceLeDiff, Nat.reduceLT, Nat.reduceEqDiff, Int.reduceLT, Int.reduceLE, Bool.not_true, Bool.not_false, Bool.false_eq_true, sz0, sz1, sz2, sz3, sz4, sz5, sz6, sz7, sz8, sz9, sz10, sz11, sz12, sz13, sz14, sz15, oEq_str, oEq_int, oNe_str, oNe_int, decide_false, decide_true, and_self, n_num_text, n_num_add, n_num_mul, n_num_less, n_num_join, n_num_long, n_num_show, n_num_swap, n_num_drop, n_num_copy, n_num_e, n_num_empty, n_num_kind, n_text_num, n_text_add, n_text_mul, n_text_less, n_text_join, n_text_long, n_text_show, n_text_swap, n_text_drop, n_text_copy, n_text_e, n_text_empty, n_text_kind, n_add_num, n_add_text, n_add_mul, n_add_less, n_add_join, n_add_long, n_add_show, n_add_swap, n_add_drop, n_add_copy, n_add_e, n_add_empty, n_add_kind, n_mul_num, n_mul_text, n_mul_add, n_mul_less, n_mul_join, n_mul_long, n_mul_show, n_mul_swap, n_mul_drop, n_mul_copy, n_mul_e, n_mul_empty, n_mul_kind, n_less_num, n_less_text, n_less_add, n_less_mul, n_less_join, n_less_long, n_less_show, n_less_swap, n_less_drop, n_less_copy, n_less_e, n_less_empty, n_less_kind, n_join_num, n_join_text, n_join_add, n_join_mul, n_join_less, n_join_long, n_join_show, n_join_swap, n_join_drop, n_join_copy, n_join_e, n_join_empty, n_join_kind, n_long_num, n_long_text, n_long_add, n_long_mul, n_long_less, n_long_join, n_long_show, n_long_swap, n_long_drop, n_long_copy, n_long_e, n_long_empty, n_long_kind, n_show_num, n_show_text, n_show_add, n_show_mul, n_show_less, n_show_join, n_show_long, n_show_swap, n_show_drop, n_show_copy, n_show_e, n_show_empty, n_show_kind, n_swap_num, n_swap_text, n_swap_add, n_swap_mul, n_swap_less, n_swap_join, n_swap_long, n_swap_show, n_swap_drop, n_swap_copy, n_swap_e, n_swap_empty, n_swap_kind, n_drop_num, n_drop_text, n_drop_add, n_drop_mul, n_drop_less, n_drop_join, n_drop_long, n_drop_show, n_drop_swap, n_drop_copy, n_drop_e, n_drop_empty, n_drop_kind, n_copy_num, n_copy_text, n_copy_add, n_copy_mul, n_copy_less, n_copy_join, n_copy_long, n_copy_show, n_copy_swap, n_copy_drop, n_copy_e, n_copy_empty, n_copy_kind, n_e_num, n_e_text, n_e_add, n_e_mul, n_e_less, n_e_join, n_e_long, n_e_show, n_e_swap, n_e_drop, n_e_copy, n_e_empty, n_e_kind, n_empty_num, n_empty_text, n_empty_add, n_empty_mul, n_empty_less, n_empty_join, n_empty_long, n_empty_show, n_empty_swap, n_empty_drop, n_empty_copy, n_empty_e, n_empty_kind, n_kind_num, n_kind_text, n_kind_add, n_kind_mul, n_kind_less, n_kind_join, n_kind_long, n_kind_show, n_kind_swap, n_kind_drop, n_kind_copy, n_kind_e, n_kind_empty, lW_num, lW_text, lW_add, lW_mul, lW_less, lW_join, lW_long, lW_show, lW_swap, lW_drop, lW_copy, lW_if, lT_num, lT_text, lT_add, lT_mul, lT_less, lT_join, lT_long, lT_show, lT_swap, lT_drop, lT_copy, lT_if, lP_num, lP_text, lP_add, lP_mul, lP_less, lP_join, lP_long, lP_show, lP_swap, lP_drop, lP_copy, lF_added, lF_multiplied, lF_compared, lF_joined, lF_measured, lF_shown, lF_swapped, lF_dropped, lF_copied, lI_num, lI_text, lI_add, lI_mul, lI_less, lI_join, lI_long, lI_show, lI_swap, lI_drop, lI_copy, lH_Empty_Empty, lH_WrongKind_Empty, lA_Empty, lH_Empty_WrongKind, lH_WrongKind_WrongKind, lA_WrongKind, e0, p1, p2, p3, p4, e1, ll, c1, c2, e2, e3, Int.toNat_natCast, List.append_assoc]
  | long a ha =>
    have e0 : atI [D.str (Str.ofString "long")] 0 = some (.str "long") := rfl
    have h1 : a.length ≤ sizeLine := le_sz (by omega)
    unfold F_law_behind M_law_behind
    simp only [mkF, pad, outs, mSeq, mAsg, mAsgG, mExpr, mRet, mRetV, mRetN, mIfS, mIf, mNx, mTest, tmNot, tmAnd, tmOr, mVar, mC, mB, TL.m1, TL.m2, opt, use, R.fix, frz, tak, Cell.dat, mSeqD, mArgs, vals, mSl, mPart, mgSeq, setAll, D.items, mCall, give, mPut, mApp, mPop, mIns, ownL, mFor, miSeq, miRange, mAndV, mOrV, mNotV, D.bool, D.tru, mKGet, mKIn, mCallV, mRaise, mTry, mHands, mAny, mJoin, mLc, oAdd, oSub, oMul, oDiv, oMod, oPow, oNeg, oCmp, oIx, oSl, oLen, oList, oTuple, oStr, oInt, oMax, oMin, oIn, List.getElem?_cons_zero, List.getElem?_cons_succ, List.getElem?_nil, List.set_cons_zero, List.set_cons_succ, List.length_cons, List.length_nil, List.cons_append, List.nil_append, List.append_nil, List.replicate, List.map_cons, List.map_nil, Option.map_some, Option.map_none, Option.bind_some, Option.bind_none, if_true, if_false, reduceIte, ↓reduceIte, Nat.reduceAdd, Nat.reduceSub, Nat.reduceLeDiff, Nat.reduceLT, Nat.reduceEqDiff, Int.reduceLT, Int.reduceLE, Bool.not_true, Bool.not_false, Bool.false_eq_true, sz0, sz1, sz2, sz3, sz4, sz5, sz6, sz7, sz8, sz9, sz10, sz11, sz12, sz13, sz14, sz15, oEq_str, oEq_int, oNe_str, oNe_int, decide_false, decide_true, and_self, n_num_text, n_num_add, n_num_mul, n_num_less, n_num_join, n_num_long, n_num_show, n_num_swap, n_num_drop, n_num_copy, n_num_e, n_num_empty, n_num_kind, n_text_num, n_text_add, n_text_mul, n_text_less, n_text_join, n_text_long, n_text_show, n_text_swap, n_text_drop, n_text_copy, n_text_e, n_text_empty, n_text_kind, n_add_num, n_add_text, n_add_mul, n_add_less, n_add_join, n_add_long, n_add_show, n_add_swap, n_add_drop, n_add_copy, n_add_e, n_add_empty, n_add_kind, n_mul_num, n_mul_text, n_mul_add, n_mul_less, n_mul_join, n_mul_long, n_mul_show, n_mul_swap, n_mul_drop, n_mul_copy, n_mul_e, n_mul_empty, n_mul_kind, n_less_num, n_less_text, n_less_add, n_less_mul, n_less_join, n_less_long, n_less_show, n_less_swap, n_less_drop, n_less_copy, n_less_e, n_less_empty, n_less_kind, n_join_num, n_join_text, n_join_add, n_join_mul, n_join_less, n_join_long, n_join_show, n_join_swap, n_join_drop, n_join_copy, n_join_e, n_join_empty, n_join_kind, n_long_num, n_long_text, n_long_add, n_long_mul, n_long_less, n_long_join, n_long_show, n_long_swap, n_long_drop, n_long_copy, n_long_e, n_long_empty, n_long_kind, n_show_num, n_show_text, n_show_add, n_show_mul, n_show_less, n_show_join, n_show_long, n_show_swap, n_show_drop, n_show_copy, n_show_e, n_show_empty, n_show_kind, n_swap_num, n_swap_text, n_swap_add, n_swap_mul, n_swap_less, n_swap_join, n_swap_long, n_swap_show, n_swap_drop, n_swap_copy, n_swap_e, n_swap_empty, n_swap_kind, n_drop_num, n_drop_text, n_drop_add, n_drop_mul, n_drop_less, n_drop_join, n_drop_long, n_drop_show, n_drop_swap, n_drop_copy, n_drop_e, n_drop_empty, n_drop_kind, n_copy_num, n_copy_text, n_copy_add, n_copy_mul, n_copy_less, n_copy_join, n_copy_long, n_copy_show, n_copy_swap, n_copy_drop, n_copy_e, n_copy_empty, n_copy_kind, n_e_num, n_e_text, n_e_add, n_e_mul, n_e_less, n_e_join, n_e_long, n_e_show, n_e_swap, n_e_drop, n_e_copy, n_e_empty, n_e_kind, n_empty_num, n_empty_text, n_empty_add, n_empty_mul, n_empty_less, n_empty_join, n_empty_long, n_empty_show, n_empty_swap, n_empty_drop, n_empty_copy, n_empty_e, n_empty_kind, n_kind_num, n_kind_text, n_kind_add, n_kind_mul, n_kind_less, n_kind_join, n_kind_long, n_kind_show, n_kind_swap, n_kind_drop, n_kind_copy, n_kind_e, n_kind_empty, lW_num, lW_text, lW_add, lW_mul, lW_less, lW_join, lW_long, lW_show, lW_swap, lW_drop, lW_copy, lW_if, lT_num, lT_text, lT_add, lT_mul, lT_less, lT_join, lT_long, lT_show, lT_swap, lT_drop, lT_copy, lT_if, lP_num, lP_text, lP_add, lP_mul, lP_less, lP_join, lP_long, lP_show, lP_swap, lP_drop, lP_copy, lF_added, lF_multiplied, lF_compared, lF_joined, lF_measured, lF_shown, lF_swapped, lF_dropped, lF_copied, lI_num, lI_text, lI_add, lI_mul, lI_less, lI_join, lI_long, lI_show, lI_swap, lI_drop, lI_copy, lH_Empty_Empty, lH_WrongKind_Empty, lA_Empty, lH_Empty_WrongKind, lH_WrongKind_WrongKind, lA_WrongKind, e0, p1, p2, h1, lp]
  | shw a h0 h1 =>
    have e0 : atI [D.str (Str.ofString "show")] 0 = some (.str "show") := rfl
    have h1 := num_log a h0 (by omega)
    unfold F_law_behind M_law_behind
    simp only [mkF, pad, outs, mSeq, mAsg, mAsgG, mExpr, mRet, mRetV, mRetN, mIfS, mIf, mNx, mTest, tmNot, tmAnd, tmOr, mVar, mC, mB, TL.m1, TL.m2, opt, use, R.fix, frz, tak, Cell.dat, mSeqD, mArgs, vals, mSl, mPart, mgSeq, setAll, D.items, mCall, give, mPut, mApp, mPop, mIns, ownL, mFor, miSeq, miRange, mAndV, mOrV, mNotV, D.bool, D.tru, mKGet, mKIn, mCallV, mRaise, mTry, mHands, mAny, mJoin, mLc, oAdd, oSub, oMul, oDiv, oMod, oPow, oNeg, oCmp, oIx, oSl, oLen, oList, oTuple, oStr, oInt, oMax, oMin, oIn, List.getElem?_cons_zero, List.getElem?_cons_succ, List.getElem?_nil, List.set_cons_zero, List.set_cons_succ, List.length_cons, List.length_nil, List.cons_append, List.nil_append, List.append_nil, List.replicate, List.map_cons, List.map_nil, Option.map_some, Option.map_none, Option.bind_some, Option.bind_none, if_true, if_false, reduceIte, ↓reduceIte, Nat.reduceAdd, Nat.reduceSub, Nat.reduceLeDiff, Nat.reduceLT, Nat.reduceEqDiff, Int.reduceLT, Int.reduceLE, Bool.not_true, Bool.not_false, Bool.false_eq_true, sz0, sz1, sz2, sz3, sz4, sz5, sz6, sz7, sz8, sz9, sz10, sz11, sz12, sz13, sz14, sz15, oEq_str, oEq_int, oNe_str, oNe_int, decide_false, decide_true, and_self, n_num_text, n_num_add, n_num_mul, n_num_less, n_num_join, n_num_long, n_num_show, n_num_swap, n_num_drop, n_num_copy, n_num_e, n_num_empty, n_num_kind, n_text_num, n_text_add, n_text_mul, n_text_less, n_text_join, n_text_long, n_text_show, n_text_swap, n_text_drop, n_text_copy, n_text_e, n_text_empty, n_text_kind, n_add_num, n_add_text, n_add_mul, n_add_less, n_add_join, n_add_long, n_add_show, n_add_swap, n_add_drop, n_add_copy, n_add_e, n_add_empty, n_add_kind, n_mul_num, n_mul_text, n_mul_add, n_mul_less, n_mul_join, n_mul_long, n_mul_show, n_mul_swap, n_mul_drop, n_mul_copy, n_mul_e, n_mul_empty, n_mul_kind, n_less_num, n_less_text, n_less_add, n_less_mul, n_less_join, n_less_long, n_less_show, n_less_swap, n_less_drop, n_less_copy, n_less_e, n_less_empty, n_less_kind, n_join_num, n_join_text, n_join_add, n_join_mul, n_join_less, n_join_long, n_join_show, n_join_swap, n_join_drop, n_join_copy, n_join_e, n_join_empty, n_join_kind, n_long_num, n_long_text, n_long_add, n_long_mul, n_long_less, n_long_join, n_long_show, n_long_swap, n_long_drop, n_long_copy, n_long_e, n_long_empty, n_long_kind, n_show_num, n_show_text, n_show_add, n_show_mul, n_show_less, n_show_join, n_show_long, n_show_swap, n_show_drop, n_show_copy, n_show_e, n_show_empty, n_show_kind, n_swap_num, n_swap_text, n_swap_add, n_swap_mul, n_swap_less, n_swap_join, n_swap_long, n_swap_show, n_swap_drop, n_swap_copy, n_swap_e, n_swap_empty, n_swap_kind, n_drop_num, n_drop_text, n_drop_add, n_drop_mul, n_drop_less, n_drop_join, n_drop_long, n_drop_show, n_drop_swap, n_drop_copy, n_drop_e, n_drop_empty, n_drop_kind, n_copy_num, n_copy_text, n_copy_add, n_copy_mul, n_copy_less, n_copy_join, n_copy_long, n_copy_show, n_copy_swap, n_copy_drop, n_copy_e, n_copy_empty, n_copy_kind, n_e_num, n_e_text, n_e_add, n_e_mul, n_e_less, n_e_join, n_e_long, n_e_show, n_e_swap, n_e_drop, n_e_copy, n_e_empty, n_e_kind, n_empty_num, n_empty_text, n_empty_add, n_empty_mul, n_empty_less, n_empty_join, n_empty_long, n_empty_show, n_empty_swap, n_empty_drop, n_empty_copy, n_empty_e, n_empty_kind, n_kind_num, n_kind_text, n_kind_add, n_kind_mul, n_kind_less, n_kind_join, n_kind_long, n_kind_show, n_kind_swap, n_kind_drop, n_kind_copy, n_kind_e, n_kind_empty, lW_num, lW_text, lW_add, lW_mul, lW_less, lW_join, lW_long, lW_show, lW_swap, lW_drop, lW_copy, lW_if, lT_num, lT_text, lT_add, lT_mul, lT_less, lT_join, lT_long, lT_show, lT_swap, lT_drop, lT_copy, lT_if, lP_num, lP_text, lP_add, lP_mul, lP_less, lP_join, lP_long, lP_show, lP_swap, lP_drop, lP_copy, lF_added, lF_multiplied, lF_compared, lF_joined, lF_measured, lF_shown, lF_swapped, lF_dropped, lF_copied, lI_num, lI_text, lI_add, lI_mul, lI_less, lI_join, lI_long, lI_show, lI_swap, lI_drop, lI_copy, lH_Empty_Empty, lH_WrongKind_Empty, lA_Empty, lH_Empty_WrongKind, lH_WrongKind_WrongKind, lA_WrongKind, e0, p1, p2, h1, lp]
  | drop a =>
    have e0 : atI [D.str (Str.ofString "drop")] 0 = some (.str "drop") := rfl
    unfold F_law_behind M_law_behind
    simp only [mkF, pad, outs, mSeq, mAsg, mAsgG, mExpr, mRet, mRetV, mRetN, mIfS, mIf, mNx, mTest, tmNot, tmAnd, tmOr, mVar, mC, mB, TL.m1, TL.m2, opt, use, R.fix, frz, tak, Cell.dat, mSeqD, mArgs, vals, mSl, mPart, mgSeq, setAll, D.items, mCall, give, mPut, mApp, mPop, mIns, ownL, mFor, miSeq, miRange, mAndV, mOrV, mNotV, D.bool, D.tru, mKGet, mKIn, mCallV, mRaise, mTry, mHands, mAny, mJoin, mLc, oAdd, oSub, oMul, oDiv, oMod, oPow, oNeg, oCmp, oIx, oSl, oLen, oList, oTuple, oStr, oInt, oMax, oMin, oIn, List.getElem?_cons_zero, List.getElem?_cons_succ, List.getElem?_nil, List.set_cons_zero, List.set_cons_succ, List.length_cons, List.length_nil, List.cons_append, List.nil_append, List.append_nil, List.replicate, List.map_cons, List.map_nil, Option.map_some, Option.map_none, Option.bind_some, Option.bind_none, if_true, if_false, reduceIte, ↓reduceIte, Nat.reduceAdd, Nat.reduceSub, Nat.reduceLeDiff, Nat.reduceLT, Nat.reduceEqDiff, Int.reduceLT, Int.reduceLE, Bool.not_true, Bool.not_false, Bool.false_eq_true, sz0, sz1, sz2, sz3, sz4, sz5, sz6, sz7, sz8, sz9, sz10, sz11, sz12, sz13, sz14, sz15, oEq_str, oEq_int, oNe_str, oNe_int, decide_false, decide_true, and_self, n_num_text, n_num_add, n_num_mul, n_num_less, n_num_join, n_num_long, n_num_show, n_num_swap, n_num_drop, n_num_copy, n_num_e, n_num_empty, n_num_kind, n_text_num, n_text_add, n_text_mul, n_text_less, n_text_join, n_text_long, n_text_show, n_text_swap, n_text_drop, n_text_copy, n_text_e, n_text_empty, n_text_kind, n_add_num, n_add_text, n_add_mul, n_add_less, n_add_join, n_add_long, n_add_show, n_add_swap, n_add_drop, n_add_copy, n_add_e, n_add_empty, n_add_kind, n_mul_num, n_mul_text, n_mul_add, n_mul_less, n_mul_join, n_mul_long, n_mul_show, n_mul_swap, n_mul_drop, n_mul_copy, n_mul_e, n_mul_empty, n_mul_kind, n_less_num, n_less_text, n_less_add, n_less_mul, n_less_join, n_less_long, n_less_show, n_less_swap, n_less_drop, n_less_copy, n_less_e, n_less_empty, n_less_kind, n_join_num, n_join_text, n_join_add, n_join_mul, n_join_less, n_join_long, n_join_show, n_join_swap, n_join_drop, n_join_copy, n_join_e, n_join_empty, n_join_kind, n_long_num, n_long_text, n_long_add, n_long_mul, n_long_less, n_long_join, n_long_show, n_long_swap, n_long_drop, n_long_copy, n_long_e, n_long_empty, n_long_kind, n_show_num, n_show_text, n_show_add, n_show_mul, n_show_less, n_show_join, n_show_long, n_show_swap, n_show_drop, n_show_copy, n_show_e, n_show_empty, n_show_kind, n_swap_num, n_swap_text, n_swap_add, n_swap_mul, n_swap_less, n_swap_join, n_swap_long, n_swap_show, n_swap_drop, n_swap_copy, n_swap_e, n_swap_empty, n_swap_kind, n_drop_num, n_drop_text, n_drop_add, n_drop_mul, n_drop_less, n_drop_join, n_drop_long, n_drop_show, n_drop_swap, n_drop_copy, n_drop_e, n_drop_empty, n_drop_kind, n_copy_num, n_copy_text, n_copy_add, n_copy_mul, n_copy_less, n_copy_join, n_copy_long, n_copy_show, n_copy_swap, n_copy_drop, n_copy_e, n_copy_empty, n_copy_kind, n_e_num, n_e_text, n_e_add, n_e_mul, n_e_less, n_e_join, n_e_long, n_e_show, n_e_swap, n_e_drop, n_e_copy, n_e_empty, n_e_kind, n_empty_num, n_empty_text, n_empty_add, n_empty_mul, n_empty_less, n_empty_join, n_empty_long, n_empty_show, n_empty_swap, n_empty_drop, n_empty_copy, n_empty_e, n_empty_kind, n_kind_num, n_kind_text, n_kind_add, n_kind_mul, n_kind_less, n_kind_join, n_kind_long, n_kind_show, n_kind_swap, n_kind_drop, n_kind_copy, n_kind_e, n_kind_empty, lW_num, lW_text, lW_add, lW_mul, lW_less, lW_join, lW_long, lW_show, lW_swap, lW_drop, lW_copy, lW_if, lT_num, lT_text, lT_add, lT_mul, lT_less, lT_join, lT_long, lT_show, lT_swap, lT_drop, lT_copy, lT_if, lP_num, lP_text, lP_add, lP_mul, lP_less, lP_join, lP_long, lP_show, lP_swap, lP_drop, lP_copy, lF_added, lF_multiplied, lF_compared, lF_joined, lF_measured, lF_shown, lF_swapped, lF_dropped, lF_copied, lI_num, lI_text, lI_add, lI_mul, lI_less, lI_join, lI_long, lI_show, lI_swap, lI_drop, lI_copy, lH_Empty_Empty, lH_WrongKind_Empty, lA_Empty, lH_Empty_WrongKind, lH_WrongKind_WrongKind, lA_WrongKind, e0, p1, p2]
end LW

namespace LW
open PySem L2 TL
theorem strOk_lit (s : String) : PyData.strOk (Str.ofString s) = true := strOk_ofString s
theorem AllV.allOk {xs : List D} (h : AllV xs) : AllOk xs := fun d hd => (h d hd).ok
theorem AllOk.app {xs ys : List D} (h : AllOk xs) (k : AllOk ys) : AllOk (xs ++ ys) := fun d hd => by
  rcases List.mem_append.mp hd with hd | hd
  · exact h d hd
  · exact k d hd
theorem Put.ok {r : D} {tk out : List D} (h : Put r tk out) (hv : AllOk tk) (ht : ∀ s : Str, r = .tup [.str "text", .str s] → PyData.strOk s = true) : AllOk out ∧ out.length ≤ tk.length + 1 := by
  cases h with
  | num i => exact ⟨fun d hd => by simp at hd; subst hd; exact .int _, by simp⟩
  | text s => exact ⟨fun d hd => by simp at hd; subst hd; exact .str _ (ht s rfl), by simp⟩
  | copy n x xs h => exact ⟨hv.app fun d hd => by simp at hd; subst hd; exact hv d List.mem_cons_self, by simp⟩
  | add a b => exact ⟨fun d hd => by simp at hd; subst hd; exact .int _, by simp⟩
  | mul a b h => exact ⟨fun d hd => by simp at hd; subst hd; exact .int _, by simp⟩
  | less a b => exact ⟨fun d hd => by simp at hd; subst hd; exact .int _, by simp⟩
  | join a b ha hb =>
    refine ⟨fun d hd => by
      simp at hd; subst hd
      have h1 : PyData.strOk a = true := by
        have := hv (.str a) (by simp)
        cases this; assumption
      have h2 : PyData.strOk b = true := by
        have := hv (.str b) (by simp)
        cases this; assumption
      exact .str _ (strOk_cut (strOk_app h1 h2) _ _), by simp⟩
  | swap a b => exact ⟨fun d hd => hv d (by simp at hd ⊢; exact hd.symm), by simp⟩
  | long a ha => exact ⟨fun d hd => by simp at hd; subst hd; exact .int _, by simp⟩
  | shw a h0 h1 => exact ⟨fun d hd => by simp at hd; subst hd; exact .str _ (strOk_ofString _), by simp⟩
  | drop a => exact ⟨fun d hd => (by cases hd), by simp⟩
/-- either the kinds fit and the row puts, or they don't -/
inductive Fit (r : D) (W tk : List D) : Prop where
  | good (out : List D) (p : Put r tk out) (c : F_check [.val r, .val (.tup (tk.map kD))] = .ret (.dd .non) [.val r, .val (.tup (tk.map kD))])
      (l : ∀ j, j < W.length → W[j]? = some (.str "") ∨ W[j]? = (tk.map kD)[j]?) : Fit r W tk
  | bad (c : F_check [.val r, .val (.tup (tk.map kD))] = .exc "WrongKind" [.val r, .val (.tup (tk.map kD))])
      (j : Nat) (hj : j < W.length) (l : ¬ (W[j]? = some (.str "") ∨ W[j]? = (tk.map kD)[j]?)) : Fit r W tk
theorem tk1 {tk : List D} (h : tk.length = 1) : ∃ a, tk = [a] := List.length_eq_one_iff.mp h
theorem tk2 {tk : List D} (h : tk.length = 2) : ∃ a b, tk = [a, b] := by
  match tk, h with
  | [a, b], _ => exact ⟨a, b, rfl⟩
theorem told2 {r : D} {W : List D} (h : Row r W) (a b : D) (hW : W.length = 2) (w : Str) (rest : List D) (hr : r = .tup (.str w :: rest)) (t : Str) (ht : t.length ≤ 10) (hl : tbl_TOLD.lookup w = some (some (.str t))) :
    F_check [.val r, .val (.tup ([a, b].map kD))] = if (kOf a = t ∧ kOf b = t) then .ret (.dd .non) [.val r, .val (.tup ([a, b].map kD))] else .exc "WrongKind" [.val r, .val (.tup ([a, b].map kD))] := by
  have := check_told h [kOf a, kOf b] (by simp [hW]) w rest hr t ht hl
  simpa [kD] using this
theorem told1 {r : D} {W : List D} (h : Row r W) (a : D) (hW : W.length = 1) (w : Str) (rest : List D) (hr : r = .tup (.str w :: rest)) (t : Str) (ht : t.length ≤ 10) (hl : tbl_TOLD.lookup w = some (some (.str t))) :
    F_check [.val r, .val (.tup ([a].map kD))] = if (kOf a = t) then .ret (.dd .non) [.val r, .val (.tup ([a].map kD))] else .exc "WrongKind" [.val r, .val (.tup ([a].map kD))] := by
  have := check_told h [kOf a] (by simp [hW]) w rest hr t ht hl
  simpa [kD] using this
theorem isInt {d : D} (h : IsVal d) (k : kOf d = Str.ofString "num") : ∃ i : Int, d = .int i ∧ 0 ≤ i ∧ i < 1000000000 := by
  cases h with
  | int i h0 h1 => exact ⟨i, rfl, h0, h1⟩
  | str s _ => exact absurd k.symm txt_ne
theorem isStr {d : D} (h : IsVal d) (k : kOf d = Str.ofString "text") : ∃ s : Str, d = .str s ∧ gS s := by
  cases h with
  | str s h => exact ⟨s, rfl, h⟩
  | int s _ => exact absurd k txt_ne
theorem ne_e1 : ¬ Str.ofString "num" = Str.ofString "" := by decide +kernel
theorem ne_e2 : ¬ Str.ofString "text" = Str.ofString "" := by decide +kernel
theorem fit2 {r : D} {a b : D} {k : Str} (hr : Row r [.str k, .str k]) (ha : IsVal a) (hb : IsVal b) (w : Str) (hw : r = .tup [.str w]) (hk : k.length ≤ 10) (hke : ¬ k = Str.ofString "") (hl : tbl_TOLD.lookup w = some (some (.str k)))
    (p : kOf a = k → kOf b = k → ∃ out, Put r [a, b] out) : Fit r [.str k, .str k] [a, b] := by
  have c := told2 hr a b rfl w [] hw k hk hl
  by_cases h1 : kOf a = k
  · by_cases h2 : kOf b = k
    · rw [if_pos ⟨h1, h2⟩] at c
      obtain ⟨out, p⟩ := p h1 h2
      refine .good out p c fun j hj => ?_
      match j, hj with
      | 0, _ => exact .inr (by simp [kD, h1])
      | 1, _ => exact .inr (by simp [kD, h2])
    · rw [if_neg fun z => h2 z.2] at c
      refine .bad c 1 (by simp) ?_
      simp [kD, hke, Ne.symm h2]
  · rw [if_neg fun z => h1 z.1] at c
    refine .bad c 0 (by simp) ?_
    simp [kD, hke, Ne.symm h1]
theorem fit1 {r : D} {a : D} {k : Str} (hr : Row r [.str k]) (ha : IsVal a) (w : Str) (hw : r = .tup [.str w]) (hk : k.length ≤ 10) (hke : ¬ k = Str.ofString "") (hl : tbl_TOLD.lookup w = some (some (.str k)))
    (p : kOf a = k → ∃ out, Put r [a] out) : Fit r [.str k] [a] := by
  have c := told1 hr a rfl w [] hw k hk hl
  by_cases h1 : kOf a = k
  · rw [if_pos h1] at c
    obtain ⟨out, p⟩ := p h1
    refine .good out p c fun j hj => ?_
    match j, hj with
    | 0, _ => exact .inr (by simp [kD, h1])
  · rw [if_neg h1] at c
    refine .bad c 0 (by simp) ?_
    simp [kD, hke, Ne.symm h1]
theorem fit {r : D} {W : List D} (hr : Row r W) (tk : List D) (hv : AllV tk) (hl : tk.length = W.length) : Fit r W tk := by
  have ln : (Str.ofString "num").length ≤ 10 := by decide +kernel
  have lt : (Str.ofString "text").length ≤ 10 := by decide +kernel
  have hr' := hr
  cases hr with
  | num i h0 h1 =>
    obtain rfl : tk = [] := List.length_eq_zero_iff.mp hl
    exact .good _ (.num i) (check_free hr' [] rfl fun w rest e => by cases e; exact lT_num) fun j hj => by cases hj
  | text s h =>
    obtain rfl : tk = [] := List.length_eq_zero_iff.mp hl
    exact .good _ (.text s) (check_free hr' [] rfl fun w rest e => by cases e; exact lT_text) fun j hj => by cases hj
  | copy n h0 h1 =>
    rw [List.length_replicate] at hl
    have c := check_free hr' (tk.map kD) (by rw [List.length_map, List.length_replicate, hl]) fun w rest e => by cases e; exact lT_copy
    match tk, hl with
    | x :: xs, hl => exact .good _ (.copy n x xs (by omega)) c fun j hj => .inl (by rw [List.length_replicate] at hj; simp [hj])
    | [], hl => simp at hl; omega
  | add =>
    obtain ⟨a, b, rfl⟩ := tk2 hl
    refine fit2 hr' (hv a (by simp)) (hv b (by simp)) _ rfl ln ne_e1 lT_add fun h1 h2 => ?_
    obtain ⟨i, rfl, _⟩ := isInt (hv a (by simp)) h1
    obtain ⟨j, rfl, _⟩ := isInt (hv b (by simp)) h2
    exact ⟨_, .add i j⟩
  | mul =>
    obtain ⟨a, b, rfl⟩ := tk2 hl
    refine fit2 hr' (hv a (by simp)) (hv b (by simp)) _ rfl ln ne_e1 lT_mul fun h1 h2 => ?_
    obtain ⟨i, rfl, i0, i1⟩ := isInt (hv a (by simp)) h1
    obtain ⟨j, rfl, _⟩ := isInt (hv b (by simp)) h2
    exact ⟨_, .mul i j (.inl ⟨by omega, by omega⟩)⟩
  | less =>
    obtain ⟨a, b, rfl⟩ := tk2 hl
    refine fit2 hr' (hv a (by simp)) (hv b (by simp)) _ rfl ln ne_e1 lT_less fun h1 h2 => ?_
    obtain ⟨i, rfl, _⟩ := isInt (hv a (by simp)) h1
    obtain ⟨j, rfl, _⟩ := isInt (hv b (by simp)) h2
    exact ⟨_, .less i j⟩
  | join =>
    obtain ⟨a, b, rfl⟩ := tk2 hl
    refine fit2 hr' (hv a (by simp)) (hv b (by simp)) _ rfl lt ne_e2 lT_join fun h1 h2 => ?_
    obtain ⟨i, rfl, i1⟩ := isStr (hv a (by simp)) h1
    obtain ⟨j, rfl, j1⟩ := isStr (hv b (by simp)) h2
    exact ⟨_, .join i j i1.1 j1.1⟩
  | swap =>
    obtain ⟨a, b, rfl⟩ := tk2 hl
    refine .good _ (.swap a b) (check_free hr' _ rfl fun w rest e => by cases e; exact lT_swap) fun j hj => ?_
    match j, hj with
    | 0, _ => exact .inl rfl
    | 1, _ => exact .inl rfl
  | long =>
    obtain ⟨a, rfl⟩ := tk1 hl
    refine fit1 hr' (hv a (by simp)) _ rfl lt ne_e2 lT_long fun h1 => ?_
    obtain ⟨i, rfl, i1⟩ := isStr (hv a (by simp)) h1
    exact ⟨_, .long i i1.1⟩
  | shw =>
    obtain ⟨a, rfl⟩ := tk1 hl
    refine fit1 hr' (hv a (by simp)) _ rfl ln ne_e1 lT_show fun h1 => ?_
    obtain ⟨i, rfl, i0, i1⟩ := isInt (hv a (by simp)) h1
    exact ⟨_, .shw i i0 i1⟩
  | drop =>
    obtain ⟨a, rfl⟩ := tk1 hl
    refine .good _ (.drop a) (check_free hr' _ rfl fun w rest e => by cases e; exact lT_drop) fun j hj => ?_
    match j, hj with
    | 0, _ => exact .inl rfl
end LW

namespace LW
open PySem L2 TL
theorem KS.strs : ∀ {W : List D}, KS W → ∃ Ws : List Str, W = Ws.map D.str
  | [], _ => ⟨[], rfl⟩
  | d :: W, h => by
    obtain ⟨Ws, rfl⟩ := KS.strs (W := W) fun x hx => h x (List.mem_cons_of_mem _ hx)
    rcases h d List.mem_cons_self with rfl | rfl | rfl
    · exact ⟨_ :: Ws, rfl⟩
    · exact ⟨_ :: Ws, rfl⟩
    · exact ⟨_ :: Ws, rfl⟩
theorem mapStr_inj {o p : Option Str} : o.map D.str = p.map D.str ↔ o = p := by
  cases o <;> cases p <;> simp
theorem kD_map (xs : List D) : xs.map kD = (xs.map kOf).map D.str := by
  rw [List.map_map]; rfl
theorem Row.txt {s : Str} {W : List D} (h : Row (.tup [.str "text", .str s]) W) : PyData.strOk s = true := by
  cases h with
  | text s hs => exact hs.2
theorem step_ok {r : D} {W : List D} (h : Row r W) (xs : List D) (hx : AllV xs) (hl : xs.length ≤ 200) :
    (∃ w : Str, (w = "empty" ∨ w = "kind") ∧ F_law_lack [.own (xs.map kD), .val (.lst W)] = .ret (.dd (.str w)) [.own (xs.map kD), .val (.lst W)] ∧ F_law_told [.own xs, .val r] = .ret (.dd (.str w)) [.own xs, .val r] ∧ F_law_any [.own xs, .val r] = .ret (.dd (.bl true)) [.own xs, .val r]) ∨
    (∃ zs, F_law_lack [.own (xs.map kD), .val (.lst W)] = .ret (.dd (.str "")) [.own (xs.map kD), .val (.lst W)] ∧ F_law_told [.own xs, .val r] = .ret (.ow (.own zs)) [.own xs, .val r] ∧ F_law_behind [.val (.lst xs), .val r] = .ret (.ow (.own zs)) [.val (.lst xs), .val r] ∧ AllOk zs ∧ zs.length ≤ 900) := by
  obtain ⟨ks, kl⟩ := h.ks
  by_cases hf : xs.length < W.length
  · have hd : xs.drop (xs.length - W.length) = xs := by rw [show xs.length - W.length = 0 by omega]; rfl
    have d := done_exc h xs hx hl "Empty" (by rw [hd]; exact check_few h _ (by rw [List.length_map]; exact hf))
    exact .inl ⟨_, .inl rfl, lack_few _ _ (by rw [List.length_map]; exact hf), told_empty d, any_ok (.inl rfl) d⟩
  · have hw : W.length ≤ xs.length := by omega
    obtain ⟨Ws, rfl⟩ := ks.strs
    rw [List.length_map] at hw kl
    have tl : (xs.drop (xs.length - Ws.length)).length = Ws.length := by rw [List.length_drop]; omega
    have conv : ∀ j, ((Ws.map D.str)[j]? = some (.str (Str.ofString "")) ∨ (Ws.map D.str)[j]? = ((xs.drop (xs.length - Ws.length)).map kD)[j]?) ↔ (Ws[j]? = some (Str.ofString "") ∨ Ws[j]? = (xs.map kOf)[(xs.map kOf).length - Ws.length + j]?) := fun j => by
      have e1 : (Ws.map D.str)[j]? = (Ws[j]?).map D.str := List.getElem?_map ..
      have e2 : ((xs.drop (xs.length - Ws.length)).map kD)[j]? = ((xs.map kOf)[(xs.map kOf).length - Ws.length + j]?).map D.str := by
        rw [kD_map, List.getElem?_map, List.map_drop, List.getElem?_drop, List.length_map]
      rw [e1, e2, mapStr_inj]
      have e3 : (some (D.str (Str.ofString ""))) = (some (Str.ofString "")).map D.str := rfl
      rw [e3, mapStr_inj]
    have ft := fit h (xs.drop (xs.length - Ws.length)) (hx.drop _) (by rw [List.length_map]; exact tl)
    rw [show xs.map kD = (xs.map kOf).map D.str from kD_map xs]
    cases ft with
    | good out p c l =>
      refine .inr ⟨xs.take (xs.length - Ws.length) ++ out, ?_⟩
      have ok := p.ok (hx.drop _).allOk fun s e => by
        subst e
        exact h.txt
      have d := done_ok h xs hx hl out (by have := ok.2; rw [tl] at this; omega) (by rw [List.length_map]; exact c) (by rw [List.length_map]; exact put_ok p)
      rw [List.length_map] at d
      refine ⟨lack_good _ _ (by rw [List.length_map]; exact hw) (by rw [List.length_map]; omega) fun j hj => (conv j).mp (l j (by rw [List.length_map]; exact hj)), told_ret d, ?_, ?_, ?_⟩
      · have b := behind_ok h p (xs.take (xs.length - Ws.length)) (by rw [List.length_take]; omega) (by rw [List.length_map]; exact tl)
        rw [List.take_append_drop] at b
        exact b
      · exact AllOk.app (fun x hm => (hx x (List.mem_of_mem_take hm)).ok) ok.1
      · rw [List.length_append, List.length_take]; have := ok.2; rw [tl] at this; omega
    | bad c j hj l =>
      have d := done_exc h xs hx hl "WrongKind" (by rw [List.length_map]; exact c)
      rw [List.length_map] at hj
      exact .inl ⟨_, .inr rfl, lack_kind _ _ (by rw [List.length_map]; exact hw) (by rw [List.length_map]; omega) j hj (fun z => l ((conv j).mpr z)), told_kind d, any_ok (.inr rfl) d⟩
theorem law_kinds (xs : List D) (hx : AllV xs) (hl : xs.length ≤ 200) (c0 c1 c2 c3 : Cell) : mLcLoop [8] (mgName 8) mYes E_law_1 xs [] [c0, c1, c2, c3, .no, .no, .no, .no, .no] = .ok (xs.map kD) [c0, c1, c2, c3, .no, .no, .no, .no, .no] := by
  have i0 : atI [D.str (Str.ofString "num"), D.str (Str.ofString "text")] 0 = some (.str "num") := rfl
  have i1 : atI [D.str (Str.ofString "num"), D.str (Str.ofString "text")] 1 = some (.str "text") := rfl
  have e := mLc_map (vsl := [8]) (f := mgName 8) (me := E_law_1) kD [c0, c1, c2, c3, .no, .no, .no, .no, .no] xs [] (fun d hd => by
    refine ⟨_, [c0, c1, c2, c3, .no, .no, .no, .no, .val d], rfl, ?_, rfl⟩
    cases hx d hd with
    | int i _ _ =>
      have t1 : oIsi (.int i) (.ty "str") = some (.dd (.bl false)) := rfl
      unfold E_law_1
      simp only [mkF, pad, outs, mSeq, mAsg, mAsgG, mExpr, mRet, mRetV, mRetN, mIfS, mIf, mNx, mTest, tmNot, tmAnd, tmOr, mVar, mC, mB, TL.m1, TL.m2, opt, use, R.fix, frz, tak, Cell.dat, mSeqD, mArgs, vals, mSl, mPart, mgSeq, setAll, D.items, mCall, give, mPut, mApp, mPop, mIns, ownL, mFor, miSeq, miRange, mAndV, mOrV, mNotV, D.bool, D.tru, mKGet, mKIn, mCallV, mRaise, mTry, mHands, mAny, mJoin, mLc, oAdd, oSub, oMul, oDiv, oMod, oPow, oNeg, oCmp, oIx, oSl, oLen, oList, oTuple, oStr, oInt, oMax, oMin, oIn, List.getElem?_cons_zero, List.getElem?_cons_succ, List.getElem?_nil, List.set_cons_zero, List.set_cons_succ, List.length_cons, List.length_nil, List.cons_append, List.nil_append, List.append_nil, List.replicate, List.map_cons, List.map_nil, Option.map_some, Option.map_none, Option.bind_some, Option.bind_none, if_true, if_false, reduceIte, ↓reduceIte, Nat.reduceAdd, Nat.reduceSub, Nat.reduceLeDiff, Nat.reduceLT, Nat.reduceEqDiff, Int.reduceLT, Int.reduceLE, Bool.not_true, Bool.not_false, Bool.false_eq_true, sz0, sz1, sz2, sz3, sz4, sz5, sz6, sz7, sz8, sz9, sz10, sz11, sz12, sz13, sz14, sz15, t1, i0, kD, kOf]
    | str s _ =>
      have t1 : oIsi (.str s) (.ty "str") = some (.dd (.bl true)) := rfl
      unfold E_law_1
      simp only [mkF, pad, outs, mSeq, mAsg, mAsgG, mExpr, mRet, mRetV, mRetN, mIfS, mIf, mNx, mTest, tmNot, tmAnd, tmOr, mVar, mC, mB, TL.m1, TL.m2, opt, use, R.fix, frz, tak, Cell.dat, mSeqD, mArgs, vals, mSl, mPart, mgSeq, setAll, D.items, mCall, give, mPut, mApp, mPop, mIns, ownL, mFor, miSeq, miRange, mAndV, mOrV, mNotV, D.bool, D.tru, mKGet, mKIn, mCallV, mRaise, mTry, mHands, mAny, mJoin, mLc, oAdd, oSub, oMul, oDiv, oMod, oPow, oNeg, oCmp, oIx, oSl, oLen, oList, oTuple, oStr, oInt, oMax, oMin, oIn, List.getElem?_cons_zero, List.getElem?_cons_succ, List.getElem?_nil, List.set_cons_zero, List.set_cons_succ, List.length_cons, List.length_nil, List.cons_append, List.nil_append, List.append_nil, List.replicate, List.map_cons, List.map_nil, Option.map_some, Option.map_none, Option.bind_some, Option.bind_none, if_true, if_false, reduceIte, ↓reduceIte, Nat.reduceAdd, Nat.reduceSub, Nat.reduceLeDiff, Nat.reduceLT, Nat.reduceEqDiff, Int.reduceLT, Int.reduceLE, Bool.not_true, Bool.not_false, Bool.false_eq_true, sz0, sz1, sz2, sz3, sz4, sz5, sz6, sz7, sz8, sz9, sz10, sz11, sz12, sz13, sz14, sz15, t1, i1, kD, kOf]) (by simp; omega)
  rw [List.nil_append] at e
  exact e
theorem law_true : ∀ ns : List Int, ns.length ≤ 63 → ∃ os, F_law [.val (.fls (ns.map D.int))] = .ret (.dd (.bl true)) os := fun ns hn => by
  obtain ⟨r, W, t1, hr, g1, g2, e1⟩ := plain_ok ns 0 (by decide) (by decide) hn
  obtain ⟨xs, t2, hx, hl, e2⟩ := stack_ok ns r W hr t1 (by omega) (by omega) hn
  have e3 := law_kinds xs hx hl (.val (.fls (ns.map D.int))) (.own [.int t2]) (.val r) (.val (.lst xs))
  have e4 := lawW_ok hr
  have e5 := alike_ok xs hx.allOk (by omega)
  have tx : ∀ w : Str, oIsi (.str w) (.ty "str") = some (.dd (.bl true)) := fun _ => rfl
  have lb : isOwn (.own (xs.map kD)) = true := rfl
  unfold fS at e1 e2
  rcases step_ok hr xs hx hl with ⟨w, hw, l, td, an⟩ | ⟨zs, l, td, bh, ok, zl⟩
  · have hw2 : ¬ w = Str.ofString "" := by
      rcases hw with rfl | rfl
      · decide +kernel
      · decide +kernel
    refine ⟨[.val (.fls (ns.map D.int))], ?_⟩
    · unfold F_law M_law
      simp only [mkF, pad, outs, mSeq, mAsg, mAsgG, mExpr, mRet, mRetV, mRetN, mIfS, mIf, mNx, mTest, tmNot, tmAnd, tmOr, mVar, mC, mB, TL.m1, TL.m2, opt, use, R.fix, frz, tak, Cell.dat, mSeqD, mArgs, vals, mSl, mPart, mgSeq, setAll, D.items, mCall, give, mPut, mApp, mPop, mIns, ownL, mFor, miSeq, miRange, mAndV, mOrV, mNotV, D.bool, D.tru, mKGet, mKIn, mCallV, mRaise, mTry, mHands, mAny, mJoin, mLc, oAdd, oSub, oMul, oDiv, oMod, oPow, oNeg, oCmp, oIx, oSl, oLen, oList, oTuple, oStr, oInt, oMax, oMin, oIn, List.getElem?_cons_zero, List.getElem?_cons_succ, List.getElem?_nil, List.set_cons_zero, List.set_cons_succ, List.length_cons, List.length_nil, List.cons_append, List.nil_append, List.append_nil, List.replicate, List.map_cons, List.map_nil, Option.map_some, Option.map_none, Option.bind_some, Option.bind_none, if_true, if_false, reduceIte, ↓reduceIte, Nat.reduceAdd, Nat.reduceSub, Nat.reduceLeDiff, Nat.reduceLT, Nat.reduceEqDiff, Int.reduceLT, Int.reduceLE, Bool.not_true, Bool.not_false, Bool.false_eq_true, sz0, sz1, sz2, sz3, sz4, sz5, sz6, sz7, sz8, sz9, sz10, sz11, sz12, sz13, sz14, sz15, oEq_str, oEq_int, oNe_str, oNe_int, decide_false, decide_true, and_self, n_num_text, n_num_add, n_num_mul, n_num_less, n_num_join, n_num_long, n_num_show, n_num_swap, n_num_drop, n_num_copy, n_num_e, n_num_empty, n_num_kind, n_text_num, n_text_add, n_text_mul, n_text_less, n_text_join, n_text_long, n_text_show, n_text_swap, n_text_drop, n_text_copy, n_text_e, n_text_empty, n_text_kind, n_add_num, n_add_text, n_add_mul, n_add_less, n_add_join, n_add_long, n_add_show, n_add_swap, n_add_drop, n_add_copy, n_add_e, n_add_empty, n_add_kind, n_mul_num, n_mul_text, n_mul_add, n_mul_less, n_mul_join, n_mul_long, n_mul_show, n_mul_swap, n_mul_drop, n_mul_copy, n_mul_e, n_mul_empty, n_mul_kind, n_less_num, n_less_text, n_less_add, n_less_mul, n_less_join, n_less_long, n_less_show, n_less_swap, n_less_drop, n_less_copy, n_less_e, n_less_empty, n_less_kind, n_join_num, n_join_text, n_join_add, n_join_mul, n_join_less, n_join_long, n_join_show, n_join_swap, n_join_drop, n_join_copy, n_join_e, n_join_empty, n_join_kind, n_long_num, n_long_text, n_long_add, n_long_mul, n_long_less, n_long_join, n_long_show, n_long_swap, n_long_drop, n_long_copy, n_long_e, n_long_empty, n_long_kind, n_show_num, n_show_text, n_show_add, n_show_mul, n_show_less, n_show_join, n_show_long, n_show_swap, n_show_drop, n_show_copy, n_show_e, n_show_empty, n_show_kind, n_swap_num, n_swap_text, n_swap_add, n_swap_mul, n_swap_less, n_swap_join, n_swap_long, n_swap_show, n_swap_drop, n_swap_copy, n_swap_e, n_swap_empty, n_swap_kind, n_drop_num, n_drop_text, n_drop_add, n_drop_mul, n_drop_less, n_drop_join, n_drop_long, n_drop_show, n_drop_swap, n_drop_copy, n_drop_e, n_drop_empty, n_drop_kind, n_copy_num, n_copy_text, n_copy_add, n_copy_mul, n_copy_less, n_copy_join, n_copy_long, n_copy_show, n_copy_swap, n_copy_drop, n_copy_e, n_copy_empty, n_copy_kind, n_e_num, n_e_text, n_e_add, n_e_mul, n_e_less, n_e_join, n_e_long, n_e_show, n_e_swap, n_e_drop, n_e_copy, n_e_empty, n_e_kind, n_empty_num, n_empty_text, n_empty_add, n_empty_mul, n_empty_less, n_empty_join, n_empty_long, n_empty_show, n_empty_swap, n_empty_drop, n_empty_copy, n_empty_e, n_empty_kind, n_kind_num, n_kind_text, n_kind_add, n_kind_mul, n_kind_less, n_kind_join, n_kind_long, n_kind_show, n_kind_swap, n_kind_drop, n_kind_copy, n_kind_e, n_kind_empty, lW_num, lW_text, lW_add, lW_mul, lW_less, lW_join, lW_long, lW_show, lW_swap, lW_drop, lW_copy, lW_if, lT_num, lT_text, lT_add, lT_mul, lT_less, lT_join, lT_long, lT_show, lT_swap, lT_drop, lT_copy, lT_if, lP_num, lP_text, lP_add, lP_mul, lP_less, lP_join, lP_long, lP_show, lP_swap, lP_drop, lP_copy, lF_added, lF_multiplied, lF_compared, lF_joined, lF_measured, lF_shown, lF_swapped, lF_dropped, lF_copied, lI_num, lI_text, lI_add, lI_mul, lI_less, lI_join, lI_long, lI_show, lI_swap, lI_drop, lI_copy, lH_Empty_Empty, lH_WrongKind_Empty, lA_Empty, lH_Empty_WrongKind, lH_WrongKind_WrongKind, lA_WrongKind, e1, e2, noneOwn, List.all_cons, List.all_nil, isOwn, Bool.and_true, wipeE, e3, backE, e4, l, td, hw2, tx, an, e5]
  · have e6 := alike_ok zs ok (by omega)
    have zz : zs.length < sizeLine := Nat.lt_of_le_of_lt zl (by decide)
    refine ⟨[.val (.fls (ns.map D.int))], ?_⟩
    · unfold F_law M_law
      simp only [mkF, pad, outs, mSeq, mAsg, mAsgG, mExpr, mRet, mRetV, mRetN, mIfS, mIf, mNx, mTest, tmNot, tmAnd, tmOr, mVar, mC, mB, TL.m1, TL.m2, opt, use, R.fix, frz, tak, Cell.dat, mSeqD, mArgs, vals, mSl, mPart, mgSeq, setAll, D.items, mCall, give, mPut, mApp, mPop, mIns, ownL, mFor, miSeq, miRange, mAndV, mOrV, mNotV, D.bool, D.tru, mKGet, mKIn, mCallV, mRaise, mTry, mHands, mAny, mJoin, mLc, oAdd, oSub, oMul, oDiv, oMod, oPow, oNeg, oCmp, oIx, oSl, oLen, oList, oTuple, oStr, oInt, oMax, oMin, oIn, List.getElem?_cons_zero, List.getElem?_cons_succ, List.getElem?_nil, List.set_cons_zero, List.set_cons_succ, List.length_cons, List.length_nil, List.cons_append, List.nil_append, List.append_nil, List.replicate, List.map_cons, List.map_nil, Option.map_some, Option.map_none, Option.bind_some, Option.bind_none, if_true, if_false, reduceIte, ↓reduceIte, Nat.reduceAdd, Nat.reduceSub, Nat.reduceLeDiff, Nat.reduceLT, Nat.reduceEqDiff, Int.reduceLT, Int.reduceLE, Bool.not_true, Bool.not_false, Bool.false_eq_true, sz0, sz1, sz2, sz3, sz4, sz5, sz6, sz7, sz8, sz9, sz10, sz11, sz12, sz13, sz14, sz15, oEq_str, oEq_int, oNe_str, oNe_int, decide_false, decide_true, and_self, n_num_text, n_num_add, n_num_mul, n_num_less, n_num_join, n_num_long, n_num_show, n_num_swap, n_num_drop, n_num_copy, n_num_e, n_num_empty, n_num_kind, n_text_num, n_text_add, n_text_mul, n_text_less, n_text_join, n_text_long, n_text_show, n_text_swap, n_text_drop, n_text_copy, n_text_e, n_text_empty, n_text_kind, n_add_num, n_add_text, n_add_mul, n_add_less, n_add_join, n_add_long, n_add_show, n_add_swap, n_add_drop, n_add_copy, n_add_e, n_add_empty, n_add_kind, n_mul_num, n_mul_text, n_mul_add, n_mul_less, n_mul_join, n_mul_long, n_mul_show, n_mul_swap, n_mul_drop, n_mul_copy, n_mul_e, n_mul_empty, n_mul_kind, n_less_num, n_less_text, n_less_add, n_less_mul, n_less_join, n_less_long, n_less_show, n_less_swap, n_less_drop, n_less_copy, n_less_e, n_less_empty, n_less_kind, n_join_num, n_join_text, n_join_add, n_join_mul, n_join_less, n_join_long, n_join_show, n_join_swap, n_join_drop, n_join_copy, n_join_e, n_join_empty, n_join_kind, n_long_num, n_long_text, n_long_add, n_long_mul, n_long_less, n_long_join, n_long_show, n_long_swap, n_long_drop, n_long_copy, n_long_e, n_long_empty, n_long_kind, n_show_num, n_show_text, n_show_add, n_show_mul, n_show_less, n_show_join, n_show_long, n_show_swap, n_show_drop, n_show_copy, n_show_e, n_show_empty, n_show_kind, n_swap_num, n_swap_text, n_swap_add, n_swap_mul, n_swap_less, n_swap_join, n_swap_long, n_swap_show, n_swap_drop, n_swap_copy, n_swap_e, n_swap_empty, n_swap_kind, n_drop_num, n_drop_text, n_drop_add, n_drop_mul, n_drop_less, n_drop_join, n_drop_long, n_drop_show, n_drop_swap, n_drop_copy, n_drop_e, n_drop_empty, n_drop_kind, n_copy_num, n_copy_text, n_copy_add, n_copy_mul, n_copy_less, n_copy_join, n_copy_long, n_copy_show, n_copy_swap, n_copy_drop, n_copy_e, n_copy_empty, n_copy_kind, n_e_num, n_e_text, n_e_add, n_e_mul, n_e_less, n_e_join, n_e_long, n_e_show, n_e_swap, n_e_drop, n_e_copy, n_e_empty, n_e_kind, n_empty_num, n_empty_text, n_empty_add, n_empty_mul, n_empty_less, n_empty_join, n_empty_long, n_empty_show, n_empty_swap, n_empty_drop, n_empty_copy, n_empty_e, n_empty_kind, n_kind_num, n_kind_text, n_kind_add, n_kind_mul, n_kind_less, n_kind_join, n_kind_long, n_kind_show, n_kind_swap, n_kind_drop, n_kind_copy, n_kind_e, n_kind_empty, lW_num, lW_text, lW_add, lW_mul, lW_less, lW_join, lW_long, lW_show, lW_swap, lW_drop, lW_copy, lW_if, lT_num, lT_text, lT_add, lT_mul, lT_less, lT_join, lT_long, lT_show, lT_swap, lT_drop, lT_copy, lT_if, lP_num, lP_text, lP_add, lP_mul, lP_less, lP_join, lP_long, lP_show, lP_swap, lP_drop, lP_copy, lF_added, lF_multiplied, lF_compared, lF_joined, lF_measured, lF_shown, lF_swapped, lF_dropped, lF_copied, lI_num, lI_text, lI_add, lI_mul, lI_less, lI_join, lI_long, lI_show, lI_swap, lI_drop, lI_copy, lH_Empty_Empty, lH_WrongKind_Empty, lA_Empty, lH_Empty_WrongKind, lH_WrongKind_WrongKind, lA_WrongKind, e1, e2, noneOwn, List.all_cons, List.all_nil, isOwn, Bool.and_true, wipeE, e3, backE, e4, l, td, bh, e6, zz, e5]
end LW

namespace LW
open PySem L2 TL
def top (i : Nat) : Stmt := PySem.Challenge.pw_stackproof_k01_a_plain_row.main.body.getD i (.Pass ⟨0, 0, 0, 0⟩)
theorem bt_bool : bootBuiltins "bool" = some (.type "bool") := by decide +kernel
theorem bt_int : bootBuiltins "int" = some (.type "int") := by decide +kernel
theorem bt_isinstance : bootBuiltins "isinstance" = some (.builtin "isinstance") := by decide +kernel
theorem bt_len : bootBuiltins "len" = some (.builtin "len") := by decide +kernel
theorem bt_list : bootBuiltins "list" = some (.type "list") := by decide +kernel
theorem bt_max : bootBuiltins "max" = some (.builtin "max") := by decide +kernel
theorem bt_range : bootBuiltins "range" = some (.type "range") := by decide +kernel
theorem bt_str : bootBuiltins "str" = some (.type "str") := by decide +kernel
theorem bt_tuple : bootBuiltins "tuple" = some (.type "tuple") := by decide +kernel
abbrev st_law_draw : Stmt := top 30
abbrev N_law_draw : List Str := ["_law_script", "_law_tape", "_law_many", "_law_seed", "_law_cell"]
theorem sc_law_draw : FnScope ["_law_script", "_law_tape", "_law_many", "_law_seed", "_law_cell"] ["_law_script", "_law_tape", "_law_many"] (defScope st_law_draw) := ⟨rfl, rfl, rfl, by decide +kernel, rfl, by decide +kernel, by decide +kernel⟩
abbrev st_law_words : Stmt := top 31
abbrev N_law_words : List Str := ["_law_cell", "_law_size", "_law_signs", "_law_k"]
theorem sc_law_words : FnScope ["_law_cell", "_law_size", "_law_signs", "_law_k"] ["_law_cell", "_law_size"] (defScope st_law_words) := ⟨rfl, rfl, rfl, by decide +kernel, rfl, by decide +kernel, by decide +kernel⟩
abbrev st_law_value : Stmt := top 32
abbrev N_law_value : List Str := ["_law_script", "_law_tape", "_law_kind", "_law_cell", "_law_way"]
theorem sc_law_value : FnScope ["_law_script", "_law_tape", "_law_kind", "_law_cell", "_law_way"] ["_law_script", "_law_tape", "_law_kind"] (defScope st_law_value) := ⟨rfl, rfl, rfl, by decide +kernel, rfl, by decide +kernel, by decide +kernel⟩
abbrev st_law_plain_row : Stmt := top 35
abbrev N_law_plain_row : List Str := ["_law_script", "_law_tape", "_law_some", "_law_word"]
theorem sc_law_plain_row : FnScope ["_law_script", "_law_tape", "_law_some", "_law_word"] ["_law_script", "_law_tape"] (defScope st_law_plain_row) := ⟨rfl, rfl, rfl, by decide +kernel, rfl, by decide +kernel, by decide +kernel⟩
abbrev st_law_wanted : Stmt := top 33
abbrev N_law_wanted : List Str := ["_law_row", "_law_two", "_law_one"]
theorem sc_law_wanted : FnScope ["_law_row", "_law_two", "_law_one"] ["_law_row"] (defScope st_law_wanted) := ⟨rfl, rfl, rfl, by decide +kernel, rfl, by decide +kernel, by decide +kernel⟩
abbrev st_law_stack : Stmt := top 41
abbrev N_law_stack : List Str := ["_law_script", "_law_tape", "_law_row", "_law_size", "_law_stack_here", "_law_k", "_law_kind"]
theorem sc_law_stack : FnScope ["_law_script", "_law_tape", "_law_row", "_law_size", "_law_stack_here", "_law_k", "_law_kind"] ["_law_script", "_law_tape", "_law_row"] (defScope st_law_stack) := ⟨rfl, rfl, rfl, by decide +kernel, rfl, by decide +kernel, by decide +kernel⟩
abbrev st_law_lack : Stmt := top 34
abbrev N_law_lack : List Str := ["_law_kinds", "_law_wanted_here", "_law_low", "_law_k"]
theorem sc_law_lack : FnScope ["_law_kinds", "_law_wanted_here", "_law_low", "_law_k"] ["_law_kinds", "_law_wanted_here"] (defScope st_law_lack) := ⟨rfl, rfl, rfl, by decide +kernel, rfl, by decide +kernel, by decide +kernel⟩
abbrev st_wanted : Stmt := top 14
abbrev N_wanted : List Str := ["row", "word"]
theorem sc_wanted : FnScope ["row", "word"] ["row"] (defScope st_wanted) := ⟨rfl, rfl, rfl, by decide +kernel, rfl, by decide +kernel, by decide +kernel⟩
abbrev st_check : Stmt := top 15
abbrev N_check : List Str := ["row", "kinds", "word", "kind"]
theorem sc_check : FnScope ["row", "kinds", "word", "kind"] ["row", "kinds"] (defScope st_check) := ⟨rfl, rfl, rfl, by decide +kernel, rfl, by decide +kernel, by decide +kernel⟩
abbrev st_kind_of : Stmt := top 12
abbrev N_kind_of : List Str := ["value"]
theorem sc_kind_of : FnScope ["value"] ["value"] (defScope st_kind_of) := ⟨rfl, rfl, rfl, by decide +kernel, rfl, by decide +kernel, by decide +kernel⟩
abbrev st_kinds_of : Stmt := top 13
abbrev N_kinds_of : List Str := ["stack", "value"]
theorem sc_kinds_of : FnScope ["stack", "value"] ["stack"] (defScope st_kinds_of) := ⟨rfl, rfl, rfl, by decide +kernel, rfl, by decide +kernel, by decide +kernel⟩
abbrev st_added : Stmt := top 16
abbrev N_added : List Str := ["taken", "low", "high"]
theorem sc_added : FnScope ["taken", "low", "high"] ["taken"] (defScope st_added) := ⟨rfl, rfl, rfl, by decide +kernel, rfl, by decide +kernel, by decide +kernel⟩
abbrev st_multiplied : Stmt := top 17
abbrev N_multiplied : List Str := ["taken", "low", "high"]
theorem sc_multiplied : FnScope ["taken", "low", "high"] ["taken"] (defScope st_multiplied) := ⟨rfl, rfl, rfl, by decide +kernel, rfl, by decide +kernel, by decide +kernel⟩
abbrev st_compared : Stmt := top 18
abbrev N_compared : List Str := ["taken", "low", "high"]
theorem sc_compared : FnScope ["taken", "low", "high"] ["taken"] (defScope st_compared) := ⟨rfl, rfl, rfl, by decide +kernel, rfl, by decide +kernel, by decide +kernel⟩
abbrev st_joined : Stmt := top 19
abbrev N_joined : List Str := ["taken", "low", "high"]
theorem sc_joined : FnScope ["taken", "low", "high"] ["taken"] (defScope st_joined) := ⟨rfl, rfl, rfl, by decide +kernel, rfl, by decide +kernel, by decide +kernel⟩
abbrev st_measured : Stmt := top 20
abbrev N_measured : List Str := ["taken"]
theorem sc_measured : FnScope ["taken"] ["taken"] (defScope st_measured) := ⟨rfl, rfl, rfl, by decide +kernel, rfl, by decide +kernel, by decide +kernel⟩
abbrev st_shown : Stmt := top 21
abbrev N_shown : List Str := ["taken"]
theorem sc_shown : FnScope ["taken"] ["taken"] (defScope st_shown) := ⟨rfl, rfl, rfl, by decide +kernel, rfl, by decide +kernel, by decide +kernel⟩
abbrev st_swapped : Stmt := top 22
abbrev N_swapped : List Str := ["taken", "low", "high"]
theorem sc_swapped : FnScope ["taken", "low", "high"] ["taken"] (defScope st_swapped) := ⟨rfl, rfl, rfl, by decide +kernel, rfl, by decide +kernel, by decide +kernel⟩
abbrev st_dropped : Stmt := top 23
abbrev N_dropped : List Str := ["taken"]
theorem sc_dropped : FnScope ["taken"] ["taken"] (defScope st_dropped) := ⟨rfl, rfl, rfl, by decide +kernel, rfl, by decide +kernel, by decide +kernel⟩
abbrev st_copied : Stmt := top 24
abbrev N_copied : List Str := ["taken"]
theorem sc_copied : FnScope ["taken"] ["taken"] (defScope st_copied) := ⟨rfl, rfl, rfl, by decide +kernel, rfl, by decide +kernel, by decide +kernel⟩
abbrev st_put_by : Stmt := top 26
abbrev N_put_by : List Str := ["row", "taken", "word", "put"]
theorem sc_put_by : FnScope ["row", "taken", "word", "put"] ["row", "taken"] (defScope st_put_by) := ⟨rfl, rfl, rfl, by decide +kernel, rfl, by decide +kernel, by decide +kernel⟩
abbrev st_do : Stmt := top 27
abbrev N_do : List Str := ["stack", "row", "place", "taken"]
theorem sc_do : FnScope ["stack", "row", "place", "taken"] ["stack", "row"] (defScope st_do) := ⟨rfl, rfl, rfl, by decide +kernel, rfl, by decide +kernel, by decide +kernel⟩
abbrev st_done : Stmt := top 28
abbrev N_done : List Str := ["stack", "row", "other"]
theorem sc_done : FnScope ["stack", "row", "other"] ["stack", "row"] (defScope st_done) := ⟨rfl, rfl, rfl, by decide +kernel, rfl, by decide +kernel, by decide +kernel⟩
abbrev st_law_told : Stmt := top 38
abbrev N_law_told : List Str := ["_law_stack_here", "_law_row"]
theorem sc_law_told : FnScope ["_law_stack_here", "_law_row"] ["_law_stack_here", "_law_row"] (defScope st_law_told) := ⟨rfl, rfl, rfl, by decide +kernel, rfl, by decide +kernel, by decide +kernel⟩
abbrev st_law_any : Stmt := top 39
abbrev N_law_any : List Str := ["_law_stack_here", "_law_row", "e", "_law_sorts"]
theorem sc_law_any : FnScope ["_law_stack_here", "_law_row", "e", "_law_sorts"] ["_law_stack_here", "_law_row"] (defScope st_law_any) := ⟨rfl, rfl, rfl, by decide +kernel, rfl, by decide +kernel, by decide +kernel⟩
abbrev st_law_alike : Stmt := top 40
abbrev N_law_alike : List Str := ["_law_found", "_law_due", "_law_k"]
theorem sc_law_alike : FnScope ["_law_found", "_law_due", "_law_k"] ["_law_found", "_law_due"] (defScope st_law_alike) := ⟨rfl, rfl, rfl, by decide +kernel, rfl, by decide +kernel, by decide +kernel⟩
abbrev st_law_reckoned : Stmt := top 36
abbrev N_law_reckoned : List Str := ["_law_row", "_law_low", "_law_top"]
theorem sc_law_reckoned : FnScope ["_law_row", "_law_low", "_law_top"] ["_law_row", "_law_low", "_law_top"] (defScope st_law_reckoned) := ⟨rfl, rfl, rfl, by decide +kernel, rfl, by decide +kernel, by decide +kernel⟩
abbrev st_law_behind : Stmt := top 37
abbrev N_law_behind : List Str := ["_law_stack_here", "_law_row", "_law_left", "_law_top"]
theorem sc_law_behind : FnScope ["_law_stack_here", "_law_row", "_law_left", "_law_top"] ["_law_stack_here", "_law_row"] (defScope st_law_behind) := ⟨rfl, rfl, rfl, by decide +kernel, rfl, by decide +kernel, by decide +kernel⟩
abbrev st_law : Stmt := top 42
abbrev N_law : List Str := ["_law_script", "_law_tape", "_law_row", "_law_stack_here", "_law_kinds", "_law_word", "_law_handed", "_law_found", "_law_value_here"]
theorem sc_law : FnScope ["_law_script", "_law_tape", "_law_row", "_law_stack_here", "_law_kinds", "_law_word", "_law_handed", "_law_found", "_law_value_here"] ["_law_script"] (defScope st_law) := ⟨rfl, rfl, rfl, by decide +kernel, rfl, by decide +kernel, by decide +kernel⟩
structure G (K : PySem.W.Frag) (w : World) (mg : Str → Option Value) : Prop where
  z_bool : mg "bool" = none
  z_int : mg "int" = none
  z_isinstance : mg "isinstance" = none
  z_len : mg "len" = none
  z_list : mg "list" = none
  z_max : mg "max" = none
  z_range : mg "range" = none
  z_str : mg "str" = none
  z_tuple : mg "tuple" = none
  c_MODULUS : ∃ t, mg "MODULUS" = some (.int 1000000000 t)
  c_MOST_SIGNS : ∃ t, mg "MOST_SIGNS" = some (.int 60 t)
  t_PUT : ∃ d, KTab K w mg "PUT" d tbl_PUT
  t_TOLD : ∃ d, KTab K w mg "TOLD" d tbl_TOLD
  t_WANTED : ∃ d, KTab K w mg "WANTED" d tbl_WANTED
  x_Empty : ExT K mg "Empty"
  x_WrongKind : ExT K mg "WrongKind"
  h_Empty : HdT K mg "Empty" hdt_Empty
  h_WrongKind : HdT K mg "WrongKind" hdt_WrongKind
  a_any : AnyT K mg "StackError" "Empty" "WrongKind" "NoBlock" "Apart" "Dry" tbl_any
  d_law_draw : Fd K mg "_law_draw" st_law_draw
  d_law_words : Fd K mg "_law_words" st_law_words
  d_law_value : Fd K mg "_law_value" st_law_value
  d_law_plain_row : Fd K mg "_law_plain_row" st_law_plain_row
  d_law_wanted : Fd K mg "_law_wanted" st_law_wanted
  d_law_stack : Fd K mg "_law_stack" st_law_stack
  d_law_lack : Fd K mg "_law_lack" st_law_lack
  d_wanted : Fd K mg "wanted" st_wanted
  d_check : Fd K mg "check" st_check
  d_kind_of : Fd K mg "kind_of" st_kind_of
  d_kinds_of : Fd K mg "kinds_of" st_kinds_of
  d_added : Fd K mg "added" st_added
  d_multiplied : Fd K mg "multiplied" st_multiplied
  d_compared : Fd K mg "compared" st_compared
  d_joined : Fd K mg "joined" st_joined
  d_measured : Fd K mg "measured" st_measured
  d_shown : Fd K mg "shown" st_shown
  d_swapped : Fd K mg "swapped" st_swapped
  d_dropped : Fd K mg "dropped" st_dropped
  d_copied : Fd K mg "copied" st_copied
  d_put_by : Fd K mg "put_by" st_put_by
  d_do : Fd K mg "do" st_do
  d_done : Fd K mg "done" st_done
  d_law_told : Fd K mg "_law_told" st_law_told
  d_law_any : Fd K mg "_law_any" st_law_any
  d_law_alike : Fd K mg "_law_alike" st_law_alike
  d_law_reckoned : Fd K mg "_law_reckoned" st_law_reckoned
  d_law_behind : Fd K mg "_law_behind" st_law_behind
  d_law : Fd K mg "law" st_law
section
variable {P : Program} {w : World} {K : PySem.W.Frag} {mg : Str → Option Value} {base : Heap}
theorem ok_law_draw (G : G K w mg)  : Fk P w K mg base 1 "_law_draw" 3 F_law_draw := by
  exact fk_of (ps := ["_law_script", "_law_tape", "_law_many"]) G.d_law_draw rfl (fun _ _ _ _ _ _ us hl => match us, hl with | [_, _, _], _ => rfl) fun f fd Fn => fn_ok Fn sc_law_draw (fx := [true, true, true]) (m := M_law_draw) rfl fun cdv A outer s H E hr => ⟨_,
   dss_cons (ds_put 1 (hu_of hr) (de_var 1) (de_int) (de_bin op_add4 os_add (de_ix (ix_all (hu_of hr)) os_ix (de_var 1) (de_int) (fun _ _ => rfl)) (de_int)))
 (dss_cons (ds_if (dt_cmp op_le os_cmp (de_ix (ix_all (hu_of hr)) os_ix (de_var 1) (de_int) (fun _ _ => rfl)) (de_b1 call_lenA cs_len (de_var 0) G.z_len bt_len) (nomark _)) (dss_one (ds_ret (de_bin op_mod os_mod (de_ix (ix_all (hu_of hr)) os_ix (de_var 0) (de_bin op_sub os_sub (de_ix (ix_all (hu_of hr)) os_ix (de_var 1) (de_int) (fun _ _ => rfl)) (de_int)) (fun _ _ => rfl)) (de_var 2)))) (dss_nil))
 (dss_cons (ds_set 3 sc_law_draw.nd (de_b1 call_lenA cs_len (de_var 0) G.z_len bt_len))
 (dss_cons (ds_for (passes_of rfl) rfl (di_seq (de_sl (de_var 0) do_none (do_some (de_int)))) (dg_name 4 sc_law_draw.nd) (dss_one (ds_set 3 sc_law_draw.nd (de_bin op_mod os_mod (de_bin op_add4 os_add (de_bin op_mul2 os_mul (de_var 3) (de_int)) (de_var 4)) (de_int)))))
 (dss_one (ds_ret (de_bin op_mod os_mod (de_bin op_mod os_mod (de_bin op_mul2 os_mul (de_bin op_add4 os_add (de_var 3) (de_int)) (de_bin op_add4 os_add (de_bin op_mul2 os_mul (de_ix (ix_all (hu_of hr)) os_ix (de_var 1) (de_int) (fun _ _ => rfl)) (de_ix (ix_all (hu_of hr)) os_ix (de_var 1) (de_int) (fun _ _ => rfl))) (de_int))) (de_int)) (de_var 2)))))))⟩
theorem ok_law_words (G : G K w mg)  : Fk P w K mg base 1 "_law_words" 2 F_law_words := by
  exact fk_of (ps := ["_law_cell", "_law_size"]) G.d_law_words rfl (fun _ _ _ _ _ _ us hl => match us, hl with | [_, _], _ => rfl) fun f fd Fn => fn_ok Fn sc_law_words (fx := [true, true]) (m := M_law_words) rfl fun cdv A outer s H E hr => ⟨_,
   dss_cons (ds_set 2 sc_law_words.nd (de_str))
 (dss_cons (ds_set 2 sc_law_words.nd (de_bin op_add4 os_add (de_var 2) (de_str)))
 (dss_one (ds_ret (de_txtjoin (de_str) (de_lcm [("_law_k", 3)] rfl sc_law_words.nd (di_range (de_var 1) G.z_range) (blkOk_by (N := N_law_words) (sc := defScope st_law_words) (own := [("_law_k", 3)]) (by decide +kernel)) (fun s1 H1 C1 cl1 fp1 => pg_name sc_law_words.nd rfl (Or.inl rfl)) (sgc_name (i := 3)) (fun s1 H1 C1 cl1 fp1 => ⟨_, dts_nil⟩) (fun s1 H1 C1 cl1 fp1 => ⟨_, de_ix (ix_all (hu_of hr)) os_ix (de_var 2) (de_bin op_mod os_mod (de_bin op_add4 os_add (de_bin op_fdiv os_div (de_var 0) (de_bin op_add4 os_add (de_var 3) (de_int))) (de_bin op_mul2 os_mul (de_int) (de_var 3))) (de_int)) (fun _ _ => rfl)⟩))))))⟩
theorem ok_law_value (G : G K w mg) (h_law_draw : Fk P w K mg base 1 "_law_draw" 3 F_law_draw) (h_law_words : Fk P w K mg base 1 "_law_words" 2 F_law_words) : Fk P w K mg base 2 "_law_value" 3 F_law_value := by
  exact fk_of (ps := ["_law_script", "_law_tape", "_law_kind"]) G.d_law_value rfl (fun _ _ _ _ _ _ us hl => match us, hl with | [_, _, _], _ => rfl) fun f fd Fn => fn_ok Fn sc_law_value (fx := [true, true, true]) (m := M_law_value) rfl fun cdv A outer s H E hr => ⟨_,
   dss_cons (ds_set 3 sc_law_value.nd (de_callK h_law_draw hr (takes_of rfl rfl rfl rfl) (da_ln 0 (de_var 0) (da_ln 1 (de_var 1) (da_ex (de_int) (da_nil))))))
 (dss_cons (ds_set 4 sc_law_value.nd (de_callK h_law_draw hr (takes_of rfl rfl rfl rfl) (da_ln 0 (de_var 0) (da_ln 1 (de_var 1) (da_ex (de_int) (da_nil))))))
 (dss_cons (ds_if (dt_cmp (op_eqA hr.units) os_eq (de_var 2) (de_str) (nomark _)) (dss_cons (ds_if (dt_cmp (op_eqA hr.units) os_eq (de_var 4) (de_int) (nomark _)) (dss_one (ds_ret (de_callK h_law_words hr (takes_of rfl rfl rfl rfl) (da_ln 3 (de_var 3) (da_ex (de_bin op_add4 os_add (de_int) (de_bin op_mod os_mod (de_var 3) (de_int))) (da_nil)))))) (dss_nil))
 (dss_one (ds_ret (de_callK h_law_words hr (takes_of rfl rfl rfl rfl) (da_ln 3 (de_var 3) (da_ex (de_bin op_mod os_mod (de_bin op_fdiv os_div (de_var 3) (de_int)) (de_int)) (da_nil))))))) (dss_nil))
 (dss_cons (ds_if (dt_cmp (op_eqA hr.units) os_eq (de_var 4) (de_int) (nomark _)) (dss_one (ds_ret (de_bin op_sub os_sub (de_int) (de_bin op_mod os_mod (de_var 3) (de_int))))) (dss_nil))
 (dss_cons (ds_if (dt_cmp op_lt os_cmp (de_var 4) (de_int) (nomark _)) (dss_one (ds_ret (de_bin op_mod os_mod (de_var 3) (de_int)))) (dss_nil))
 (dss_one (ds_retV 3 (de_var 3)))))))⟩
theorem ok_law_plain_row (G : G K w mg) (h_law_draw : Fk P w K mg base 1 "_law_draw" 3 F_law_draw) (h_law_value : Fk P w K mg base 2 "_law_value" 3 F_law_value) : Fk P w K mg base 3 "_law_plain_row" 2 F_law_plain_row := by
  exact fk_of (ps := ["_law_script", "_law_tape"]) G.d_law_plain_row rfl (fun _ _ _ _ _ _ us hl => match us, hl with | [_, _], _ => rfl) fun f fd Fn => fn_ok Fn sc_law_plain_row (fx := [true, true]) (m := M_law_plain_row) rfl fun cdv A outer s H E hr => ⟨_,
   dss_cons (ds_set 2 sc_law_plain_row.nd (de_lst (da_ex (de_str) (da_ex (de_str) (da_ex (de_str) (da_ex (de_str) (da_ex (de_str) (da_ex (de_str) (da_ex (de_str) (da_ex (de_str) (da_ex (de_str) (da_ex (de_str) (da_ex (de_str) (da_ex (de_str) (da_ex (de_str) (da_nil))))))))))))))))
 (dss_cons (ds_set 3 sc_law_plain_row.nd (de_ix (ix_all (hu_of hr)) os_ix (de_var 2) (de_callK h_law_draw hr (takes_of rfl rfl rfl rfl) (da_ln 0 (de_var 0) (da_ln 1 (de_var 1) (da_ex (de_int) (da_nil))))) (fun _ _ => rfl)))
 (dss_cons (ds_if ((dw_or (dt_cmp (op_eqA hr.units) os_eq (de_var 3) (de_str) (nomark _)) (dw_or1 (dt_cmp (op_eqA hr.units) os_eq (de_var 3) (de_str) (nomark _)))).dt) (dss_one (ds_ret (de_tup (da_ex (de_var 3) (da_ex (de_callK h_law_value hr (takes_of rfl rfl rfl rfl) (da_nm 0 (de_var 0) (da_nm 1 (de_var 1) (da_nm 3 (de_var 3) (da_nil))))) (da_nil)))))) (dss_nil))
 (dss_cons (ds_if (dt_cmp (op_eqA hr.units) os_eq (de_var 3) (de_str) (nomark _)) (dss_one (ds_ret (de_tup (da_ex (de_var 3) (da_ex (de_ix (ix_all (hu_of hr)) os_ix (de_lst (da_ex (de_int) (da_ex (de_int) (da_ex (de_int) (da_ex (de_int) (da_ex (de_int) (da_ex (de_int) (da_ex (de_callK h_law_draw hr (takes_of rfl rfl rfl rfl) (da_ln 0 (de_var 0) (da_ln 1 (de_var 1) (da_ex (de_int) (da_nil))))) (da_ex (de_int) (da_nil)))))))))) (de_callK h_law_draw hr (takes_of rfl rfl rfl rfl) (da_ln 0 (de_var 0) (da_ln 1 (de_var 1) (da_ex (de_int) (da_nil))))) (fun _ _ => rfl)) (da_nil)))))) (dss_nil))
 (dss_one (ds_ret (de_tup (da_ex (de_var 3) (da_nil))))))))⟩
theorem ok_law_wanted (G : G K w mg)  : Fk P w K mg base 1 "_law_wanted" 1 F_law_wanted := by
  exact fk_of (ps := ["_law_row"]) G.d_law_wanted rfl (fun _ _ _ _ _ _ us hl => match us, hl with | [_], _ => rfl) fun f fd Fn => fn_ok Fn sc_law_wanted (fx := [true]) (m := M_law_wanted) rfl fun cdv A outer s H E hr => ⟨_,
   dss_cons (ds_if (dt_cmp (op_eqA hr.units) os_eq (de_ix (ix_all (hu_of hr)) os_ix (de_var 0) (de_int) (fun _ _ => rfl)) (de_str) (nomark _)) (dss_one (ds_ret (de_bin op_mul2 os_mul (de_lst (da_ex (de_str) (da_nil))) (de_bin op_add4 os_add (de_ix (ix_all (hu_of hr)) os_ix (de_var 0) (de_int) (fun _ _ => rfl)) (de_int))))) (dss_nil))
 (dss_cons (ds_set 1 sc_law_wanted.nd (de_dictC [(.inr "add", D.str "num"), (.inr "mul", D.str "num"), (.inr "less", D.str "num"), (.inr "join", D.str "text"), (.inr "swap", D.str "")] (pps_cons pe_str pe_str (pps_cons pe_str pe_str (pps_cons pe_str pe_str (pps_cons pe_str pe_str (pps_cons pe_str pe_str (pps_nil)))))) rfl rfl (by simp) (by decide) (by decide) (by decide) (by decide +kernel)))
 (dss_cons (ds_set 2 sc_law_wanted.nd (de_dictC [(.inr "long", D.str "text"), (.inr "show", D.str "num"), (.inr "drop", D.str "")] (pps_cons pe_str pe_str (pps_cons pe_str pe_str (pps_cons pe_str pe_str (pps_nil)))) rfl rfl (by simp) (by decide) (by decide) (by decide) (by decide +kernel)))
 (dss_cons (ds_if (dt_cmp (op_inA (hu_of hr)) os_in (de_ix (ix_all (hu_of hr)) os_ix (de_var 0) (de_int) (fun _ _ => rfl)) (de_var 1) (by rfl)) (dss_one (ds_ret (de_lst (da_ex (de_ix (ix_all (hu_of hr)) os_ix (de_var 1) (de_ix (ix_all (hu_of hr)) os_ix (de_var 0) (de_int) (fun _ _ => rfl)) (fun _ _ => rfl)) (da_ex (de_ix (ix_all (hu_of hr)) os_ix (de_var 1) (de_ix (ix_all (hu_of hr)) os_ix (de_var 0) (de_int) (fun _ _ => rfl)) (fun _ _ => rfl)) (da_nil)))))) (dss_nil))
 (dss_cons (ds_if (dt_cmp (op_inA (hu_of hr)) os_in (de_ix (ix_all (hu_of hr)) os_ix (de_var 0) (de_int) (fun _ _ => rfl)) (de_var 2) (by rfl)) (dss_one (ds_ret (de_lst (da_ex (de_ix (ix_all (hu_of hr)) os_ix (de_var 2) (de_ix (ix_all (hu_of hr)) os_ix (de_var 0) (de_int) (fun _ _ => rfl)) (fun _ _ => rfl)) (da_nil))))) (dss_nil))
 (dss_one (ds_ret (de_lst (da_nil))))))))⟩
theorem ok_law_stack (G : G K w mg) (h_law_draw : Fk P w K mg base 1 "_law_draw" 3 F_law_draw) (h_law_value : Fk P w K mg base 2 "_law_value" 3 F_law_value) (h_law_wanted : Fk P w K mg base 1 "_law_wanted" 1 F_law_wanted) : Fk P w K mg base 3 "_law_stack" 3 F_law_stack := by
  exact fk_of (ps := ["_law_script", "_law_tape", "_law_row"]) G.d_law_stack rfl (fun _ _ _ _ _ _ us hl => match us, hl with | [_, _, _], _ => rfl) fun f fd Fn => fn_ok Fn sc_law_stack (fx := [true, true, true]) (m := M_law_stack) rfl fun cdv A outer s H E hr => ⟨_,
   dss_cons (ds_set 3 sc_law_stack.nd (de_callK h_law_draw hr (takes_of rfl rfl rfl rfl) (da_ln 0 (de_var 0) (da_ln 1 (de_var 1) (da_ex (de_int) (da_nil))))))
 (dss_cons (ds_if (dt_cmp (op_eqA hr.units) os_eq (de_callK h_law_draw hr (takes_of rfl rfl rfl rfl) (da_ln 0 (de_var 0) (da_ln 1 (de_var 1) (da_ex (de_int) (da_nil))))) (de_int) (nomark _)) (dss_one (ds_set 3 sc_law_stack.nd (de_bin op_add4 os_add (de_var 3) (de_int)))) (dss_nil))
 (dss_cons (ds_set 4 sc_law_stack.nd (de_lst (da_nil)))
 (dss_cons (ds_for (passes_of rfl) rfl (di_range (de_var 3) G.z_range) (dg_name 5 sc_law_stack.nd) (dss_one (ds_expr (de_app 4 (de_var 4) (de_callK h_law_value hr (takes_of rfl rfl rfl rfl) (da_ln 0 (de_var 0) (da_ln 1 (de_var 1) (da_ex (de_ix (ix_all (hu_of hr)) os_ix (de_lst (da_ex (de_str) (da_ex (de_str) (da_nil)))) (de_callK h_law_draw hr (takes_of rfl rfl rfl rfl) (da_ln 0 (de_var 0) (da_ln 1 (de_var 1) (da_ex (de_int) (da_nil))))) (fun _ _ => rfl)) (da_nil)))))))))
 (dss_cons (ds_for (passes_of rfl) rfl (di_seq (de_callK h_law_wanted hr (takes_of rfl rfl rfl rfl) (da_nm 2 (de_var 2) (da_nil)))) (dg_name 6 sc_law_stack.nd) (dss_cons (ds_if (dt_cmp (op_eqA hr.units) os_eq (de_var 6) (de_str) (nomark _)) (dss_one (ds_set 6 sc_law_stack.nd (de_ix (ix_all (hu_of hr)) os_ix (de_lst (da_ex (de_str) (da_ex (de_str) (da_nil)))) (de_callK h_law_draw hr (takes_of rfl rfl rfl rfl) (da_ln 0 (de_var 0) (da_ln 1 (de_var 1) (da_ex (de_int) (da_nil))))) (fun _ _ => rfl)))) (dss_one (ds_if (dt_cmp (op_eqA hr.units) os_eq (de_callK h_law_draw hr (takes_of rfl rfl rfl rfl) (da_ln 0 (de_var 0) (da_ln 1 (de_var 1) (da_ex (de_int) (da_nil))))) (de_int) (nomark _)) (dss_one (ds_set 6 sc_law_stack.nd (de_ix (ix_all (hu_of hr)) os_ix (de_lst (da_ex (de_str) (da_ex (de_str) (da_nil)))) (de_t1 call_int1 cs_int (de_cmp (op_eqA hr.units) os_eq (de_var 6) (de_str) (nomark _)) G.z_int bt_int) (fun _ _ => rfl)))) (dss_nil))))
 (dss_one (ds_expr (de_app 4 (de_var 4) (de_callK h_law_value hr (takes_of rfl rfl rfl rfl) (da_nm 0 (de_var 0) (da_nm 1 (de_var 1) (da_nm 6 (de_var 6) (da_nil))))))))))
 (dss_cons (ds_if ((dw_and (dt_cmp op_gt os_cmp (de_b1 call_lenA cs_len (de_var 4) G.z_len bt_len) (de_int) (nomark _)) (dw_and1 (dt_cmp (op_eqA hr.units) os_eq (de_callK h_law_draw hr (takes_of rfl rfl rfl rfl) (da_ln 0 (de_var 0) (da_ln 1 (de_var 1) (da_ex (de_int) (da_nil))))) (de_int) (nomark _)))).dt) (dss_one (ds_put 4 (hu_of hr) (de_var 4) (de_bin op_sub os_sub (de_b1 call_lenA cs_len (de_var 4) G.z_len bt_len) (de_int)) (de_ix (ix_all (hu_of hr)) os_ix (de_var 4) (de_bin op_sub os_sub (de_b1 call_lenA cs_len (de_var 4) G.z_len bt_len) (de_int)) (fun _ _ => rfl)))) (dss_nil))
 (dss_cons (ds_if (dt_cmp (op_eqA hr.units) os_eq (de_callK h_law_draw hr (takes_of rfl rfl rfl rfl) (da_ln 0 (de_var 0) (da_ln 1 (de_var 1) (da_ex (de_int) (da_nil))))) (de_int) (nomark _)) (dss_one (ds_set 4 sc_law_stack.nd (de_sl (de_var 4) (do_some (de_callK h_law_draw hr (takes_of rfl rfl rfl rfl) (da_ln 0 (de_var 0) (da_ln 1 (de_var 1) (da_ex (de_bin op_add4 os_add (de_b1 call_lenA cs_len (de_var 4) G.z_len bt_len) (de_int)) (da_nil)))))) do_none))) (dss_nil))
 (dss_one (ds_retV 4 (de_var 4)))))))))⟩
theorem ok_law_lack (G : G K w mg)  : Fk P w K mg base 1 "_law_lack" 2 F_law_lack := by
  exact fk_of (ps := ["_law_kinds", "_law_wanted_here"]) G.d_law_lack rfl (fun _ _ _ _ _ _ us hl => match us, hl with | [_, _], _ => rfl) fun f fd Fn => fn_ok Fn sc_law_lack (fx := [true, true]) (m := M_law_lack) rfl fun cdv A outer s H E hr => ⟨_,
   dss_cons (ds_if (dt_cmp op_lt os_cmp (de_b1 call_lenA cs_len (de_var 0) G.z_len bt_len) (de_b1 call_lenA cs_len (de_var 1) G.z_len bt_len) (nomark _)) (dss_one (ds_ret (de_str))) (dss_nil))
 (dss_cons (ds_set 2 sc_law_lack.nd (de_bin op_sub os_sub (de_b1 call_lenA cs_len (de_var 0) G.z_len bt_len) (de_b1 call_lenA cs_len (de_var 1) G.z_len bt_len)))
 (dss_cons (ds_for (passes_of rfl) rfl (di_range (de_b1 call_lenA cs_len (de_var 1) G.z_len bt_len) G.z_range) (dg_name 3 sc_law_lack.nd) (dss_one (ds_if ((dw_and (dt_cmp (op_neA hr.units) os_ne (de_ix (ix_all (hu_of hr)) os_ix (de_var 1) (de_var 3) (fun _ _ => rfl)) (de_str) (nomark _)) (dw_and1 (dt_cmp (op_neA hr.units) os_ne (de_ix (ix_all (hu_of hr)) os_ix (de_var 1) (de_var 3) (fun _ _ => rfl)) (de_ix (ix_all (hu_of hr)) os_ix (de_var 0) (de_bin op_add4 os_add (de_var 2) (de_var 3)) (fun _ _ => rfl)) (nomark _)))).dt) (dss_one (ds_ret (de_str))) (dss_nil))))
 (dss_one (ds_ret (de_str)))))⟩
theorem ok_wanted (G : G K w mg)  : Fk P w K mg base 1 "wanted" 1 F_wanted := by
  obtain ⟨dt_WANTED, t_WANTED⟩ := G.t_WANTED
  exact fk_of (ps := ["row"]) G.d_wanted rfl (fun _ _ _ _ _ _ us hl => match us, hl with | [_], _ => rfl) fun f fd Fn => fn_ok Fn sc_wanted (fx := [true]) (m := M_wanted) rfl fun cdv A outer s H E hr => ⟨_,
   dss_cons (ds_set 1 sc_wanted.nd (de_ix (ix_all (hu_of hr)) os_ix (de_var 0) (de_int) (fun _ _ => rfl)))
 (dss_cons (ds_if (dt_cmp (op_eqA hr.units) os_eq (de_var 1) (de_str) (nomark _)) (dss_one (ds_ret (de_bin op_add4 os_add (de_ix (ix_all (hu_of hr)) os_ix (de_var 0) (de_int) (fun _ _ => rfl)) (de_int)))) (dss_nil))
 (dss_one (ds_ret (de_kget t_WANTED (de_var 1) (fun _ _ => rfl)))))⟩
theorem ok_check (G : G K w mg) (h_wanted : Fk P w K mg base 1 "wanted" 1 F_wanted) : Fk P w K mg base 2 "check" 2 F_check := by
  obtain ⟨dt_TOLD, t_TOLD⟩ := G.t_TOLD
  exact fk_of (ps := ["row", "kinds"]) G.d_check rfl (fun _ _ _ _ _ _ us hl => match us, hl with | [_, _], _ => rfl) fun f fd Fn => fn_ok Fn sc_check (fx := [true, true]) (m := M_check) rfl fun cdv A outer s H E hr => ⟨_,
   dss_cons (ds_set 2 sc_check.nd (de_ix (ix_all (hu_of hr)) os_ix (de_var 0) (de_int) (fun _ _ => rfl)))
 (dss_cons (ds_if (dt_cmp op_lt os_cmp (de_b1 call_lenA cs_len (de_var 1) G.z_len bt_len) (de_callK h_wanted hr (takes_of rfl rfl rfl rfl) (da_nm 0 (de_var 0) (da_nil))) (nomark _)) (dss_one (ds_raiseT rfl (takes_of rfl rfl rfl rfl) G.x_Empty (de_join (.cons (de_fmt (de_var 2)) (.cons (de_str) (.cons (de_fmt (de_callK h_wanted hr (takes_of rfl rfl rfl rfl) (da_nm 0 (de_var 0) (da_nil)))) (.cons (de_str) (.cons (de_fmt (de_b1 call_lenA cs_len (de_var 1) G.z_len bt_len)) (.nil))))))))) (dss_nil))
 (dss_cons (ds_if (dt_knotin t_TOLD (de_var 2)) (dss_one (ds_retN)) (dss_nil))
 (dss_one (ds_for (passes_of rfl) rfl (di_seq (de_var 1)) (dg_name 3 sc_check.nd) (dss_one (ds_if (dt_cmp (op_neA hr.units) os_ne (de_var 3) (de_kget t_TOLD (de_var 2) (fun _ _ => rfl)) (nomark _)) (dss_one (ds_raiseT rfl (takes_of rfl rfl rfl rfl) G.x_WrongKind (de_join (.cons (de_fmt (de_var 2)) (.cons (de_str) (.cons (de_fmt (de_kget t_TOLD (de_var 2) (fun _ _ => rfl))) (.cons (de_str) (.nil)))))))) (dss_nil)))))))⟩
theorem ok_kind_of (G : G K w mg)  : Fk P w K mg base 1 "kind_of" 1 F_kind_of := by
  exact fk_of (ps := ["value"]) G.d_kind_of rfl (fun _ _ _ _ _ _ us hl => match us, hl with | [_], _ => rfl) fun f fd Fn => fn_ok Fn sc_kind_of (fx := [true]) (m := M_kind_of) rfl fun cdv A outer s H E hr => ⟨_,
   dss_one (ds_ret (de_if (dt_truth (de_b2 call_isi cs_isi (de_var 0) (de_ty "str" G.z_str bt_str) G.z_isinstance bt_isinstance)) (de_str) (de_str)))⟩
theorem ok_kinds_of (G : G K w mg) (h_kind_of : Fk P w K mg base 1 "kind_of" 1 F_kind_of) : Fk P w K mg base 2 "kinds_of" 1 F_kinds_of := by
  exact fk_of (ps := ["stack"]) G.d_kinds_of rfl (fun _ _ _ _ _ _ us hl => match us, hl with | [_], _ => rfl) fun f fd Fn => fn_ok Fn sc_kinds_of (fx := [true]) (m := M_kinds_of) rfl fun cdv A outer s H E hr => ⟨_,
   dss_one (ds_ret (de_t1 call_tupleA cs_tuple (de_lcm [("value", 1)] rfl sc_kinds_of.nd (di_seq (de_var 0)) (blkOk_by (N := N_kinds_of) (sc := defScope st_kinds_of) (own := [("value", 1)]) (by decide +kernel)) (fun s1 H1 C1 cl1 fp1 => pg_name sc_kinds_of.nd rfl (Or.inl rfl)) (sgc_name (i := 1)) (fun s1 H1 C1 cl1 fp1 => ⟨_, dts_nil⟩) (fun s1 H1 C1 cl1 fp1 => ⟨_, de_callK h_kind_of hr takes0 (da_nm 1 (de_var 1) (da_nil))⟩)) G.z_tuple bt_tuple))⟩
theorem ok_added (G : G K w mg)  : Fk P w K mg base 1 "added" 1 F_added := by
  exact fk_of (ps := ["taken"]) G.d_added rfl (fun _ _ _ _ _ _ us hl => match us, hl with | [_], _ => rfl) fun f fd Fn => fn_ok Fn sc_added (fx := [true]) (m := M_added) rfl fun cdv A outer s H E hr => ⟨_,
   dss_cons (ds_asgG (de_var 0) (dg_seq [1, 2] rfl (pgs_cons (pg_name sc_added.nd rfl (Or.inl rfl)) (pgs_cons (pg_name sc_added.nd rfl (Or.inl rfl)) (pgs_nil)))))
 (dss_one (ds_ret (de_lst (da_ex (de_bin op_mod os_mod (de_bin op_add4 os_add (de_var 1) (de_var 2)) (de_globI G.c_MODULUS.choose_spec)) (da_nil)))))⟩
theorem ok_multiplied (G : G K w mg)  : Fk P w K mg base 1 "multiplied" 1 F_multiplied := by
  exact fk_of (ps := ["taken"]) G.d_multiplied rfl (fun _ _ _ _ _ _ us hl => match us, hl with | [_], _ => rfl) fun f fd Fn => fn_ok Fn sc_multiplied (fx := [true]) (m := M_multiplied) rfl fun cdv A outer s H E hr => ⟨_,
   dss_cons (ds_asgG (de_var 0) (dg_seq [1, 2] rfl (pgs_cons (pg_name sc_multiplied.nd rfl (Or.inl rfl)) (pgs_cons (pg_name sc_multiplied.nd rfl (Or.inl rfl)) (pgs_nil)))))
 (dss_one (ds_ret (de_lst (da_ex (de_bin op_mod os_mod (de_bin op_mul2 os_mul (de_var 1) (de_var 2)) (de_globI G.c_MODULUS.choose_spec)) (da_nil)))))⟩
theorem ok_compared (G : G K w mg)  : Fk P w K mg base 1 "compared" 1 F_compared := by
  exact fk_of (ps := ["taken"]) G.d_compared rfl (fun _ _ _ _ _ _ us hl => match us, hl with | [_], _ => rfl) fun f fd Fn => fn_ok Fn sc_compared (fx := [true]) (m := M_compared) rfl fun cdv A outer s H E hr => ⟨_,
   dss_cons (ds_asgG (de_var 0) (dg_seq [1, 2] rfl (pgs_cons (pg_name sc_compared.nd rfl (Or.inl rfl)) (pgs_cons (pg_name sc_compared.nd rfl (Or.inl rfl)) (pgs_nil)))))
 (dss_one (ds_ret (de_lst (da_ex (de_if (dt_cmp op_lt os_cmp (de_var 1) (de_var 2) (nomark _)) (de_int) (de_int)) (da_nil)))))⟩
theorem ok_joined (G : G K w mg)  : Fk P w K mg base 1 "joined" 1 F_joined := by
  exact fk_of (ps := ["taken"]) G.d_joined rfl (fun _ _ _ _ _ _ us hl => match us, hl with | [_], _ => rfl) fun f fd Fn => fn_ok Fn sc_joined (fx := [true]) (m := M_joined) rfl fun cdv A outer s H E hr => ⟨_,
   dss_cons (ds_asgG (de_var 0) (dg_seq [1, 2] rfl (pgs_cons (pg_name sc_joined.nd rfl (Or.inl rfl)) (pgs_cons (pg_name sc_joined.nd rfl (Or.inl rfl)) (pgs_nil)))))
 (dss_one (ds_ret (de_lst (da_ex (de_sl (de_bin op_add4 os_add (de_var 1) (de_var 2)) do_none (do_some (de_globI G.c_MOST_SIGNS.choose_spec))) (da_nil)))))⟩
theorem ok_measured (G : G K w mg)  : Fk P w K mg base 1 "measured" 1 F_measured := by
  exact fk_of (ps := ["taken"]) G.d_measured rfl (fun _ _ _ _ _ _ us hl => match us, hl with | [_], _ => rfl) fun f fd Fn => fn_ok Fn sc_measured (fx := [true]) (m := M_measured) rfl fun cdv A outer s H E hr => ⟨_,
   dss_one (ds_ret (de_lst (da_ex (de_b1 call_lenA cs_len (de_ix (ix_all (hu_of hr)) os_ix (de_var 0) (de_int) (fun _ _ => rfl)) G.z_len bt_len) (da_nil))))⟩
theorem ok_shown (G : G K w mg)  : Fk P w K mg base 1 "shown" 1 F_shown := by
  exact fk_of (ps := ["taken"]) G.d_shown rfl (fun _ _ _ _ _ _ us hl => match us, hl with | [_], _ => rfl) fun f fd Fn => fn_ok Fn sc_shown (fx := [true]) (m := M_shown) rfl fun cdv A outer s H E hr => ⟨_,
   dss_one (ds_ret (de_lst (da_ex (de_t1 call_str_int cs_str (de_ix (ix_all (hu_of hr)) os_ix (de_var 0) (de_int) (fun _ _ => rfl)) G.z_str bt_str) (da_nil))))⟩
theorem ok_swapped (G : G K w mg)  : Fk P w K mg base 1 "swapped" 1 F_swapped := by
  exact fk_of (ps := ["taken"]) G.d_swapped rfl (fun _ _ _ _ _ _ us hl => match us, hl with | [_], _ => rfl) fun f fd Fn => fn_ok Fn sc_swapped (fx := [true]) (m := M_swapped) rfl fun cdv A outer s H E hr => ⟨_,
   dss_cons (ds_asgG (de_var 0) (dg_seq [1, 2] rfl (pgs_cons (pg_name sc_swapped.nd rfl (Or.inl rfl)) (pgs_cons (pg_name sc_swapped.nd rfl (Or.inl rfl)) (pgs_nil)))))
 (dss_one (ds_ret (de_lst (da_ex (de_var 2) (da_ex (de_var 1) (da_nil))))))⟩
theorem ok_dropped (G : G K w mg)  : Fk P w K mg base 1 "dropped" 1 F_dropped := by
  exact fk_of (ps := ["taken"]) G.d_dropped rfl (fun _ _ _ _ _ _ us hl => match us, hl with | [_], _ => rfl) fun f fd Fn => fn_ok Fn sc_dropped (fx := [true]) (m := M_dropped) rfl fun cdv A outer s H E hr => ⟨_,
   dss_one (ds_ret (de_lst (da_nil)))⟩
theorem ok_copied (G : G K w mg)  : Fk P w K mg base 1 "copied" 1 F_copied := by
  exact fk_of (ps := ["taken"]) G.d_copied rfl (fun _ _ _ _ _ _ us hl => match us, hl with | [_], _ => rfl) fun f fd Fn => fn_ok Fn sc_copied (fx := [true]) (m := M_copied) rfl fun cdv A outer s H E hr => ⟨_,
   dss_one (ds_ret (de_bin op_add4 os_add (de_var 0) (de_sl (de_var 0) do_none (do_some (de_int)))))⟩
theorem ok_put_by (G : G K w mg) (h_added : Fk P w K mg base 1 "added" 1 F_added) (h_multiplied : Fk P w K mg base 1 "multiplied" 1 F_multiplied) (h_compared : Fk P w K mg base 1 "compared" 1 F_compared) (h_joined : Fk P w K mg base 1 "joined" 1 F_joined) (h_measured : Fk P w K mg base 1 "measured" 1 F_measured) (h_shown : Fk P w K mg base 1 "shown" 1 F_shown) (h_swapped : Fk P w K mg base 1 "swapped" 1 F_swapped) (h_dropped : Fk P w K mg base 1 "dropped" 1 F_dropped) (h_copied : Fk P w K mg base 1 "copied" 1 F_copied) : Fk P w K mg base 2 "put_by" 2 F_put_by := by
  obtain ⟨dt_PUT, t_PUT⟩ := G.t_PUT
  have KF_put : KFns P w K mg base 1 tbv_put_by_put := kfns_of h_added.up (kfns_of h_multiplied.up (kfns_of h_compared.up (kfns_of h_joined.up (kfns_of h_measured.up (kfns_of h_shown.up (kfns_of h_swapped.up (kfns_of h_dropped.up (kfns_of h_copied.up (kfns_nil)))))))))
  exact fk_of (ps := ["row", "taken"]) G.d_put_by rfl (fun _ _ _ _ _ _ us hl => match us, hl with | [_, _], _ => rfl) fun f fd Fn => fn_ok Fn sc_put_by (fx := [true, true]) (m := M_put_by) rfl fun cdv A outer s H E hr => ⟨_,
   dss_cons (ds_set 2 sc_put_by.nd (de_ix (ix_all (hu_of hr)) os_ix (de_var 0) (de_int) (fun _ _ => rfl)))
 (dss_cons (ds_if (dt_cmp (op_inA (hu_of hr)) os_in (de_var 2) (de_tup (da_ex (de_str) (da_ex (de_str) (da_nil)))) (by rfl)) (dss_one (ds_ret (de_lst (da_ex (de_ix (ix_all (hu_of hr)) os_ix (de_var 0) (de_int) (fun _ _ => rfl)) (da_nil))))) (dss_nil))
 (dss_cons (ds_set 3 sc_put_by.nd (de_kget t_PUT (de_var 2) (fun _ _ => rfl)))
 (dss_one (ds_ret (de_callV 3 KF_put hr (takes_of rfl rfl rfl rfl) (da_nm 1 (de_var 1) (da_nil)))))))⟩
theorem ok_do (G : G K w mg) (h_wanted : Fk P w K mg base 1 "wanted" 1 F_wanted) (h_check : Fk P w K mg base 2 "check" 2 F_check) (h_kinds_of : Fk P w K mg base 2 "kinds_of" 1 F_kinds_of) (h_put_by : Fk P w K mg base 2 "put_by" 2 F_put_by) : Fk P w K mg base 3 "do" 2 F_do := by
  exact fk_of (ps := ["stack", "row"]) G.d_do rfl (fun _ _ _ _ _ _ us hl => match us, hl with | [_, _], _ => rfl) fun f fd Fn => fn_ok Fn sc_do (fx := [true, true]) (m := M_do) rfl fun cdv A outer s H E hr => ⟨_,
   dss_cons (ds_set 2 sc_do.nd (de_b2 (call_max2 rfl) cs_max (de_int) (de_bin op_sub os_sub (de_b1 call_lenA cs_len (de_var 0) G.z_len bt_len) (de_callK h_wanted hr (takes_of rfl rfl rfl rfl) (da_nm 1 (de_var 1) (da_nil)))) G.z_max bt_max))
 (dss_cons (ds_set 3 sc_do.nd (de_sl (de_var 0) (do_some (de_var 2)) do_none))
 (dss_cons (ds_expr (de_callK h_check hr (takes_of rfl rfl rfl rfl) (da_ln 1 (de_var 1) (da_ex (de_callK h_kinds_of hr (takes_of rfl rfl rfl rfl) (da_nm 3 (de_var 3) (da_nil))) (da_nil)))))
 (dss_one (ds_putSl 0 (de_var 0) (de_var 2) (de_callK h_put_by hr (takes_of rfl rfl rfl rfl) (da_nm 1 (de_var 1) (da_nm 3 (de_var 3) (da_nil))))))))⟩
theorem ok_done (G : G K w mg) (h_do : Fk P w K mg base 3 "do" 2 F_do) : Fk P w K mg base 4 "done" 2 F_done := by
  exact fk_of (ps := ["stack", "row"]) G.d_done rfl (fun _ _ _ _ _ _ us hl => match us, hl with | [_, _], _ => rfl) fun f fd Fn => fn_ok Fn sc_done (fx := [true, true]) (m := M_done) rfl fun cdv A outer s H E hr => ⟨_,
   dss_cons (ds_set 2 sc_done.nd (de_t1 (call_listA rfl) cs_list (de_var 0) G.z_list bt_list))
 (dss_cons (ds_expr (de_callK h_do hr (takes_of rfl rfl rfl rfl) (da_nm 2 (de_var 2) (da_nm 1 (de_var 1) (da_nil)))))
 (dss_one (ds_retV 2 (de_var 2))))⟩
theorem ok_law_told (G : G K w mg) (h_done : Fk P w K mg base 4 "done" 2 F_done) : Fk P w K mg base 5 "_law_told" 2 F_law_told := by
  obtain ⟨ch_Empty, gh_Empty, eh_Empty⟩ := G.h_Empty.all
  obtain ⟨ch_WrongKind, gh_WrongKind, eh_WrongKind⟩ := G.h_WrongKind.all
  exact fk_of (ps := ["_law_stack_here", "_law_row"]) G.d_law_told rfl (fun _ _ _ _ _ _ us hl => match us, hl with | [_, _], _ => rfl) fun f fd Fn => fn_ok Fn sc_law_told (fx := [true, true]) (m := M_law_told) rfl fun cdv A outer s H E hr => ⟨_,
   dss_one (ds_tryM rfl rfl (takes_of rfl rfl rfl rfl) (fun W1 pn1 xe1 tk1 => ⟨_, dss_one (ds_ret (de_callK h_done hr tk1 (da_nm 0 (de_var 0) (da_nm 1 (de_var 1) (da_nil)))))⟩) (.cons ⟨rfl, by decide, .inl gh_Empty⟩ (hd_ok eh_Empty) (fun a1 oe1 cls1 d1 pn1 z1 v1 => dss_one (ds_ret (de_str))) (.cons ⟨rfl, by decide, .inl gh_WrongKind⟩ (hd_ok eh_WrongKind) (fun a1 oe1 cls1 d1 pn1 z1 v1 => dss_one (ds_ret (de_str))) (.nil))))⟩
theorem ok_law_any (G : G K w mg) (h_done : Fk P w K mg base 4 "done" 2 F_done) : Fk P w K mg base 5 "_law_any" 2 F_law_any := by
  exact fk_of (ps := ["_law_stack_here", "_law_row"]) G.d_law_any rfl (fun _ _ _ _ _ _ us hl => match us, hl with | [_, _], _ => rfl) fun f fd Fn => fn_ok Fn sc_law_any (fx := [true, true]) (m := M_law_any) rfl fun cdv A outer s H E hr => ⟨_,
   dss_cons (ds_any 2 3 (fun W1 => tSs K mg W1 [true, true] (mExpr (mCall 2 F_done [.nm 0, .nm 1]))) G.a_any rfl rfl sc_law_any.nd (takes_of rfl rfl rfl rfl) (fun W1 pn1 xe1 tk1 => DSs.can (dss_one (ds_expr (de_callK h_done hr tk1 (da_nm 0 (de_var 0) (da_nm 1 (de_var 1) (da_nil))))))))
 (dss_one (ds_ret (de_bl)))⟩
theorem ok_law_alike (G : G K w mg)  : Fk P w K mg base 1 "_law_alike" 2 F_law_alike := by
  exact fk_of (ps := ["_law_found", "_law_due"]) G.d_law_alike rfl (fun _ _ _ _ _ _ us hl => match us, hl with | [_, _], _ => rfl) fun f fd Fn => fn_ok Fn sc_law_alike (fx := [true, true]) (m := M_law_alike) rfl fun cdv A outer s H E hr => ⟨_,
   dss_cons (ds_if ((dw_or (dt_not (dt_truth (de_b2 call_isi cs_isi (de_var 0) (de_ty "list" G.z_list bt_list) G.z_isinstance bt_isinstance))) (dw_or1 (dt_cmp (op_neA hr.units) os_ne (de_b1 call_lenA cs_len (de_var 0) G.z_len bt_len) (de_b1 call_lenA cs_len (de_var 1) G.z_len bt_len) (nomark _)))).dt) (dss_one (ds_ret (de_bl))) (dss_nil))
 (dss_cons (ds_for (passes_of rfl) rfl (di_range (de_b1 call_lenA cs_len (de_var 1) G.z_len bt_len) G.z_range) (dg_name 2 sc_law_alike.nd) (dss_cons (ds_if (dt_cmp (op_neA hr.units) os_ne (de_b2 call_isi cs_isi (de_ix (ix_all (hu_of hr)) os_ix (de_var 1) (de_var 2) (fun _ _ => rfl)) (de_ty "str" G.z_str bt_str) G.z_isinstance bt_isinstance) (de_b2 call_isi cs_isi (de_ix (ix_all (hu_of hr)) os_ix (de_var 0) (de_var 2) (fun _ _ => rfl)) (de_ty "str" G.z_str bt_str) G.z_isinstance bt_isinstance) (nomark _)) (dss_one (ds_ret (de_bl))) (dss_nil))
 (dss_one (ds_if ((dw_and (dt_not (dt_truth (de_b2 call_isi cs_isi (de_ix (ix_all (hu_of hr)) os_ix (de_var 1) (de_var 2) (fun _ _ => rfl)) (de_ty "str" G.z_str bt_str) G.z_isinstance bt_isinstance))) (dw_and1 ((dw_or (dt_truth (de_b2 call_isi cs_isi (de_ix (ix_all (hu_of hr)) os_ix (de_var 0) (de_var 2) (fun _ _ => rfl)) (de_ty "bool" G.z_bool bt_bool) G.z_isinstance bt_isinstance)) (dw_or1 (dt_not (dt_truth (de_b2 call_isi cs_isi (de_ix (ix_all (hu_of hr)) os_ix (de_var 0) (de_var 2) (fun _ _ => rfl)) (de_ty "int" G.z_int bt_int) G.z_isinstance bt_isinstance))))).dt))).dt) (dss_one (ds_ret (de_bl))) (dss_nil)))))
 (dss_one (ds_ret (de_cmp (op_eqA hr.units) os_eq (de_var 0) (de_var 1) (nomark _)))))⟩
theorem ok_law_reckoned (G : G K w mg)  : Fk P w K mg base 1 "_law_reckoned" 3 F_law_reckoned := by
  exact fk_of (ps := ["_law_row", "_law_low", "_law_top"]) G.d_law_reckoned rfl (fun _ _ _ _ _ _ us hl => match us, hl with | [_, _, _], _ => rfl) fun f fd Fn => fn_ok Fn sc_law_reckoned (fx := [true, true, true]) (m := M_law_reckoned) rfl fun cdv A outer s H E hr => ⟨_,
   dss_cons (ds_if (dt_cmp (op_eqA hr.units) os_eq (de_ix (ix_all (hu_of hr)) os_ix (de_var 0) (de_int) (fun _ _ => rfl)) (de_str) (nomark _)) (dss_cons (ds_if (dt_cmp op_lt os_cmp (de_var 1) (de_var 2) (nomark _)) (dss_one (ds_ret (de_int))) (dss_nil))
 (dss_one (ds_ret (de_int)))) (dss_nil))
 (dss_cons (ds_if (dt_cmp (op_eqA hr.units) os_eq (de_ix (ix_all (hu_of hr)) os_ix (de_var 0) (de_int) (fun _ _ => rfl)) (de_str) (nomark _)) (dss_one (ds_ret (de_sl (de_bin op_add4 os_add (de_var 1) (de_var 2)) do_none (do_some (de_int))))) (dss_nil))
 (dss_cons (ds_if (dt_cmp (op_eqA hr.units) os_eq (de_ix (ix_all (hu_of hr)) os_ix (de_var 0) (de_int) (fun _ _ => rfl)) (de_str) (nomark _)) (dss_one (ds_ret (de_bin op_mod os_mod (de_bin op_add4 os_add (de_var 1) (de_var 2)) (de_bin op_pow os_pow (de_int) (de_int))))) (dss_nil))
 (dss_one (ds_ret (de_bin op_mod os_mod (de_bin op_mul2 os_mul (de_var 1) (de_var 2)) (de_bin op_pow os_pow (de_int) (de_int)))))))⟩
theorem ok_law_behind (G : G K w mg) (h_law_reckoned : Fk P w K mg base 1 "_law_reckoned" 3 F_law_reckoned) : Fk P w K mg base 2 "_law_behind" 2 F_law_behind := by
  exact fk_of (ps := ["_law_stack_here", "_law_row"]) G.d_law_behind rfl (fun _ _ _ _ _ _ us hl => match us, hl with | [_, _], _ => rfl) fun f fd Fn => fn_ok Fn sc_law_behind (fx := [true, true]) (m := M_law_behind) rfl fun cdv A outer s H E hr => ⟨_,
   dss_cons (ds_set 2 sc_law_behind.nd (de_t1 (call_listA rfl) cs_list (de_var 0) G.z_list bt_list))
 (dss_cons (ds_if ((dw_or (dt_cmp (op_eqA hr.units) os_eq (de_ix (ix_all (hu_of hr)) os_ix (de_var 1) (de_int) (fun _ _ => rfl)) (de_str) (nomark _)) (dw_or1 (dt_cmp (op_eqA hr.units) os_eq (de_ix (ix_all (hu_of hr)) os_ix (de_var 1) (de_int) (fun _ _ => rfl)) (de_str) (nomark _)))).dt) (dss_one (ds_expr (de_app 2 (de_var 2) (de_ix (ix_all (hu_of hr)) os_ix (de_var 1) (de_int) (fun _ _ => rfl))))) (dss_one (ds_if (dt_cmp (op_eqA hr.units) os_eq (de_ix (ix_all (hu_of hr)) os_ix (de_var 1) (de_int) (fun _ _ => rfl)) (de_str) (nomark _)) (dss_one (ds_expr (de_app 2 (de_var 2) (de_ix (ix_all (hu_of hr)) os_ix (de_var 0) (de_bin op_sub os_sub (de_bin op_sub os_sub (de_b1 call_lenA cs_len (de_var 0) G.z_len bt_len) (de_int)) (de_ix (ix_all (hu_of hr)) os_ix (de_var 1) (de_int) (fun _ _ => rfl))) (fun _ _ => rfl))))) (dss_cons (ds_set 3 sc_law_behind.nd (de_pop 2 (de_var 2)))
 (dss_one (ds_if (dt_cmp (op_eqA hr.units) os_eq (de_ix (ix_all (hu_of hr)) os_ix (de_var 1) (de_int) (fun _ _ => rfl)) (de_str) (nomark _)) (dss_one (ds_expr (de_app 2 (de_var 2) (de_b1 call_lenA cs_len (de_var 3) G.z_len bt_len)))) (dss_one (ds_if (dt_cmp (op_eqA hr.units) os_eq (de_ix (ix_all (hu_of hr)) os_ix (de_var 1) (de_int) (fun _ _ => rfl)) (de_str) (nomark _)) (dss_one (ds_expr (de_app 2 (de_var 2) (de_t1 call_str_int cs_str (de_var 3) G.z_str bt_str)))) (dss_one (ds_if (dt_cmp (op_eqA hr.units) os_eq (de_ix (ix_all (hu_of hr)) os_ix (de_var 1) (de_int) (fun _ _ => rfl)) (de_str) (nomark _)) (dss_one (ds_expr (de_ins 2 (de_var 2) (de_bin op_sub os_sub (de_b1 call_lenA cs_len (de_var 2) G.z_len bt_len) (de_int)) (de_var 3)))) (dss_one (ds_if (dt_cmp (op_neA hr.units) os_ne (de_ix (ix_all (hu_of hr)) os_ix (de_var 1) (de_int) (fun _ _ => rfl)) (de_str) (nomark _)) (dss_one (ds_expr (de_app 2 (de_var 2) (de_callK h_law_reckoned hr (takes_of rfl rfl rfl rfl) (da_ln 1 (de_var 1) (da_ex (de_pop 2 (de_var 2)) (da_ln 3 (de_var 3) (da_nil)))))))) (dss_nil)))))))))))))
 (dss_one (ds_retV 2 (de_var 2))))⟩
theorem ok_law (G : G K w mg) (h_law_plain_row : Fk P w K mg base 3 "_law_plain_row" 2 F_law_plain_row) (h_law_stack : Fk P w K mg base 3 "_law_stack" 3 F_law_stack) (h_law_lack : Fk P w K mg base 1 "_law_lack" 2 F_law_lack) (h_law_wanted : Fk P w K mg base 1 "_law_wanted" 1 F_law_wanted) (h_law_told : Fk P w K mg base 5 "_law_told" 2 F_law_told) (h_law_any : Fk P w K mg base 5 "_law_any" 2 F_law_any) (h_law_alike : Fk P w K mg base 1 "_law_alike" 2 F_law_alike) (h_law_behind : Fk P w K mg base 2 "_law_behind" 2 F_law_behind) : ∀ f fd, L2.Fun K "law" "law" st_law f fd → FnOk P w K mg base (L2.CX P w) 6 f fd ["_law_script"] (spT K mg 1 F_law) := by
  exact fun f fd Fn => fn_ok Fn sc_law (fx := [true]) (m := M_law) rfl fun cdv A outer s H E hr => ⟨_,
   dss_cons (ds_set 1 sc_law.nd (de_lst (da_ex (de_int) (da_nil))))
 (dss_cons (ds_set 2 sc_law.nd (de_callK h_law_plain_row hr (takes_of rfl rfl rfl rfl) (da_nm 0 (de_var 0) (da_nm 1 (de_var 1) (da_nil)))))
 (dss_cons (ds_set 3 sc_law.nd (de_callK h_law_stack hr (takes_of rfl rfl rfl rfl) (da_nm 0 (de_var 0) (da_nm 1 (de_var 1) (da_nm 2 (de_var 2) (da_nil))))))
 (dss_cons (ds_setLcm 4 [("_law_value_here", 8)] rfl sc_law.nd (di_seq (de_var 3)) (blkOk_by (N := N_law) (sc := defScope st_law) (own := [("_law_value_here", 8)]) (by decide +kernel)) (fun s1 H1 C1 cl1 fp1 => pg_name sc_law.nd rfl (Or.inl rfl)) (sgc_name (i := 8)) (fun s1 H1 C1 cl1 fp1 => ⟨_, dts_nil⟩) (fun s1 H1 C1 cl1 fp1 => ⟨_, de_ix (ix_all (hu_of hr)) os_ix (de_lst (da_ex (de_str) (da_ex (de_str) (da_nil)))) (de_t1 call_int1 cs_int (de_b2 call_isi cs_isi (de_var 8) (de_ty "str" G.z_str bt_str) G.z_isinstance bt_isinstance) G.z_int bt_int) (fun _ _ => rfl)⟩) (sw_true rfl rfl rfl (by decide +kernel)))
 (dss_cons (ds_set 5 sc_law.nd (de_callK h_law_lack hr (takes_of rfl rfl rfl rfl) (da_ln 4 (de_var 4) (da_ex (de_callK h_law_wanted hr (takes_of rfl rfl rfl rfl) (da_nm 2 (de_var 2) (da_nil))) (da_nil)))))
 (dss_cons (ds_set 6 sc_law.nd (de_t1 (call_listA rfl) cs_list (de_var 3) G.z_list bt_list))
 (dss_cons (ds_set 7 sc_law.nd (de_callK h_law_told hr (takes_of rfl rfl rfl rfl) (da_nm 6 (de_var 6) (da_nm 2 (de_var 2) (da_nil)))))
 (dss_cons (ds_if (dt_cmp (op_neA hr.units) os_ne (de_var 5) (de_str) (nomark _)) (dss_one (ds_ret (de_and (de_b2 call_isi cs_isi (de_var 7) (de_ty "str" G.z_str bt_str) G.z_isinstance bt_isinstance) (de_and (de_cmp (op_eqA hr.units) os_eq (de_var 7) (de_var 5) (nomark _)) (de_and (de_callK h_law_any hr (takes_of rfl rfl rfl rfl) (da_nm 6 (de_var 6) (da_nm 2 (de_var 2) (da_nil)))) (de_one (de_callK h_law_alike hr (takes_of rfl rfl rfl rfl) (da_nm 6 (de_var 6) (da_nm 3 (de_var 3) (da_nil)))))))))) (dss_nil))
 (dss_cons (ds_if (dt_not (dt_truth (de_callK h_law_alike hr (takes_of rfl rfl rfl rfl) (da_ln 7 (de_var 7) (da_ex (de_callK h_law_behind hr (takes_of rfl rfl rfl rfl) (da_nm 3 (de_var 3) (da_nm 2 (de_var 2) (da_nil)))) (da_nil)))))) (dss_one (ds_ret (de_bl))) (dss_nil))
 (dss_cons (ds_expr (de_app 7 (de_var 7) (de_int)))
 (dss_one (ds_ret (de_callK h_law_alike hr (takes_of rfl rfl rfl rfl) (da_nm 6 (de_var 6) (da_nm 3 (de_var 3) (da_nil)))))))))))))))⟩
theorem ok_all (G : G K w mg) : ∀ f fd, L2.Fun K "law" "law" st_law f fd → FnOk P w K mg base (L2.CX P w) 6 f fd ["_law_script"] (spT K mg 1 F_law) := by
  have h_law_draw : Fk P w K mg base 1 "_law_draw" 3 F_law_draw := ok_law_draw G 
  have h_law_words : Fk P w K mg base 1 "_law_words" 2 F_law_words := ok_law_words G 
  have h_law_value : Fk P w K mg base 2 "_law_value" 3 F_law_value := ok_law_value G h_law_draw h_law_words
  have h_law_plain_row : Fk P w K mg base 3 "_law_plain_row" 2 F_law_plain_row := ok_law_plain_row G h_law_draw h_law_value
  have h_law_wanted : Fk P w K mg base 1 "_law_wanted" 1 F_law_wanted := ok_law_wanted G 
  have h_law_stack : Fk P w K mg base 3 "_law_stack" 3 F_law_stack := ok_law_stack G h_law_draw h_law_value h_law_wanted
  have h_law_lack : Fk P w K mg base 1 "_law_lack" 2 F_law_lack := ok_law_lack G 
  have h_wanted : Fk P w K mg base 1 "wanted" 1 F_wanted := ok_wanted G 
  have h_check : Fk P w K mg base 2 "check" 2 F_check := ok_check G h_wanted
  have h_kind_of : Fk P w K mg base 1 "kind_of" 1 F_kind_of := ok_kind_of G 
  have h_kinds_of : Fk P w K mg base 2 "kinds_of" 1 F_kinds_of := ok_kinds_of G h_kind_of
  have h_added : Fk P w K mg base 1 "added" 1 F_added := ok_added G 
  have h_multiplied : Fk P w K mg base 1 "multiplied" 1 F_multiplied := ok_multiplied G 
  have h_compared : Fk P w K mg base 1 "compared" 1 F_compared := ok_compared G 
  have h_joined : Fk P w K mg base 1 "joined" 1 F_joined := ok_joined G 
  have h_measured : Fk P w K mg base 1 "measured" 1 F_measured := ok_measured G 
  have h_shown : Fk P w K mg base 1 "shown" 1 F_shown := ok_shown G 
  have h_swapped : Fk P w K mg base 1 "swapped" 1 F_swapped := ok_swapped G 
  have h_dropped : Fk P w K mg base 1 "dropped" 1 F_dropped := ok_dropped G 
  have h_copied : Fk P w K mg base 1 "copied" 1 F_copied := ok_copied G 
  have h_put_by : Fk P w K mg base 2 "put_by" 2 F_put_by := ok_put_by G h_added h_multiplied h_compared h_joined h_measured h_shown h_swapped h_dropped h_copied
  have h_do : Fk P w K mg base 3 "do" 2 F_do := ok_do G h_wanted h_check h_kinds_of h_put_by
  have h_done : Fk P w K mg base 4 "done" 2 F_done := ok_done G h_do
  have h_law_told : Fk P w K mg base 5 "_law_told" 2 F_law_told := ok_law_told G h_done
  have h_law_any : Fk P w K mg base 5 "_law_any" 2 F_law_any := ok_law_any G h_done
  have h_law_alike : Fk P w K mg base 1 "_law_alike" 2 F_law_alike := ok_law_alike G 
  have h_law_reckoned : Fk P w K mg base 1 "_law_reckoned" 3 F_law_reckoned := ok_law_reckoned G 
  have h_law_behind : Fk P w K mg base 2 "_law_behind" 2 F_law_behind := ok_law_behind G h_law_reckoned
  exact ok_law G h_law_plain_row h_law_stack h_law_lack h_law_wanted h_law_told h_law_any h_law_alike h_law_behind
end
end LW

open PySem PySem.W PyProof.Rows
set_option maxRecDepth 100000 in
set_option maxHeartbeats 0 in
theorem PySem.Challenge.cw_stackproof_k01_a_plain_row_holds : PySem.Challenge.rw_stackproof_k01_a_plain_row.Holds := by
  w_on; o_law; k_head; (case hw => w_witness2)
  k_fill
  refine TL.walkL (l := PySem.Challenge.rw_stackproof_k01_a_plain_row) (x := "_law_script") (st := LW.st_law) (k := 6) (F := LW.F_law) rfl rfl rfl ⟨rfl, by decide, by decide⟩ (fun w h Y => PySem.W.kIn_of Y) LW.law_true (fun _ _ _ _ _ _ _ => rfl) ?G
  case G =>
    intro w mg h KX Gn
    have z_bool : mg "bool" = none := by refine' TL.none_mk KX Gn ?a; (case a => k_is)
    have z_int : mg "int" = none := by refine' TL.none_mk KX Gn ?a; (case a => k_is)
    have z_isinstance : mg "isinstance" = none := by refine' TL.none_mk KX Gn ?a; (case a => k_is)
    have z_len : mg "len" = none := by refine' TL.none_mk KX Gn ?a; (case a => k_is)
    have z_list : mg "list" = none := by refine' TL.none_mk KX Gn ?a; (case a => k_is)
    have z_max : mg "max" = none := by refine' TL.none_mk KX Gn ?a; (case a => k_is)
    have z_range : mg "range" = none := by refine' TL.none_mk KX Gn ?a; (case a => k_is)
    have z_str : mg "str" = none := by refine' TL.none_mk KX Gn ?a; (case a => k_is)
    have z_tuple : mg "tuple" = none := by refine' TL.none_mk KX Gn ?a; (case a => k_is)
    have c_MODULUS : ∃ t, mg "MODULUS" = some (.int 1000000000 t) := by refine' TL.int_mk KX Gn ?a; (case a => k_is)
    have c_MOST_SIGNS : ∃ t, mg "MOST_SIGNS" = some (.int 60 t) := by refine' TL.int_mk KX Gn ?a; (case a => k_is)
    have d_law_draw : TL.FdX KX mg "_law_draw" LW.st_law_draw := by refine' TL.fd_mk KX Gn ?a ?l ?c ?k; (case a => k_is); (case l => k_is); (case c => k_is); (case k => k_is)
    have d_law_words : TL.FdX KX mg "_law_words" LW.st_law_words := by refine' TL.fd_mk KX Gn ?a ?l ?c ?k; (case a => k_is); (case l => k_is); (case c => k_is); (case k => k_is)
    have d_law_value : TL.FdX KX mg "_law_value" LW.st_law_value := by refine' TL.fd_mk KX Gn ?a ?l ?c ?k; (case a => k_is); (case l => k_is); (case c => k_is); (case k => k_is)
    have d_law_plain_row : TL.FdX KX mg "_law_plain_row" LW.st_law_plain_row := by refine' TL.fd_mk KX Gn ?a ?l ?c ?k; (case a => k_is); (case l => k_is); (case c => k_is); (case k => k_is)
    have d_law_wanted : TL.FdX KX mg "_law_wanted" LW.st_law_wanted := by refine' TL.fd_mk KX Gn ?a ?l ?c ?k; (case a => k_is); (case l => k_is); (case c => k_is); (case k => k_is)
    have d_law_stack : TL.FdX KX mg "_law_stack" LW.st_law_stack := by refine' TL.fd_mk KX Gn ?a ?l ?c ?k; (case a => k_is); (case l => k_is); (case c => k_is); (case k => k_is)
    have d_law_lack : TL.FdX KX mg "_law_lack" LW.st_law_lack := by refine' TL.fd_mk KX Gn ?a ?l ?c ?k; (case a => k_is); (case l => k_is); (case c => k_is); (case k => k_is)
    have d_wanted : TL.FdX KX mg "wanted" LW.st_wanted := by refine' TL.fd_mk KX Gn ?a ?l ?c ?k; (case a => k_is); (case l => k_is); (case c => k_is); (case k => k_is)
    have d_check : TL.FdX KX mg "check" LW.st_check := by refine' TL.fd_mk KX Gn ?a ?l ?c ?k; (case a => k_is); (case l => k_is); (case c => k_is); (case k => k_is)
    have d_kind_of : TL.FdX KX mg "kind_of" LW.st_kind_of := by refine' TL.fd_mk KX Gn ?a ?l ?c ?k; (case a => k_is); (case l => k_is); (case c => k_is); (case k => k_is)
    have d_kinds_of : TL.FdX KX mg "kinds_of" LW.st_kinds_of := by refine' TL.fd_mk KX Gn ?a ?l ?c ?k; (case a => k_is); (case l => k_is); (case c => k_is); (case k => k_is)
    have d_added : TL.FdX KX mg "added" LW.st_added := by refine' TL.fd_mk KX Gn ?a ?l ?c ?k; (case a => k_is); (case l => k_is); (case c => k_is); (case k => k_is)
    have d_multiplied : TL.FdX KX mg "multiplied" LW.st_multiplied := by refine' TL.fd_mk KX Gn ?a ?l ?c ?k; (case a => k_is); (case l => k_is); (case c => k_is); (case k => k_is)
    have d_compared : TL.FdX KX mg "compared" LW.st_compared := by refine' TL.fd_mk KX Gn ?a ?l ?c ?k; (case a => k_is); (case l => k_is); (case c => k_is); (case k => k_is)
    have d_joined : TL.FdX KX mg "joined" LW.st_joined := by refine' TL.fd_mk KX Gn ?a ?l ?c ?k; (case a => k_is); (case l => k_is); (case c => k_is); (case k => k_is)
    have d_measured : TL.FdX KX mg "measured" LW.st_measured := by refine' TL.fd_mk KX Gn ?a ?l ?c ?k; (case a => k_is); (case l => k_is); (case c => k_is); (case k => k_is)
    have d_shown : TL.FdX KX mg "shown" LW.st_shown := by refine' TL.fd_mk KX Gn ?a ?l ?c ?k; (case a => k_is); (case l => k_is); (case c => k_is); (case k => k_is)
    have d_swapped : TL.FdX KX mg "swapped" LW.st_swapped := by refine' TL.fd_mk KX Gn ?a ?l ?c ?k; (case a => k_is); (case l => k_is); (case c => k_is); (case k => k_is)
    have d_dropped : TL.FdX KX mg "dropped" LW.st_dropped := by refine' TL.fd_mk KX Gn ?a ?l ?c ?k; (case a => k_is); (case l => k_is); (case c => k_is); (case k => k_is)
    have d_copied : TL.FdX KX mg "copied" LW.st_copied := by refine' TL.fd_mk KX Gn ?a ?l ?c ?k; (case a => k_is); (case l => k_is); (case c => k_is); (case k => k_is)
    have d_put_by : TL.FdX KX mg "put_by" LW.st_put_by := by refine' TL.fd_mk KX Gn ?a ?l ?c ?k; (case a => k_is); (case l => k_is); (case c => k_is); (case k => k_is)
    have d_do : TL.FdX KX mg "do" LW.st_do := by refine' TL.fd_mk KX Gn ?a ?l ?c ?k; (case a => k_is); (case l => k_is); (case c => k_is); (case k => k_is)
    have d_done : TL.FdX KX mg "done" LW.st_done := by refine' TL.fd_mk KX Gn ?a ?l ?c ?k; (case a => k_is); (case l => k_is); (case c => k_is); (case k => k_is)
    have d_law_told : TL.FdX KX mg "_law_told" LW.st_law_told := by refine' TL.fd_mk KX Gn ?a ?l ?c ?k; (case a => k_is); (case l => k_is); (case c => k_is); (case k => k_is)
    have d_law_any : TL.FdX KX mg "_law_any" LW.st_law_any := by refine' TL.fd_mk KX Gn ?a ?l ?c ?k; (case a => k_is); (case l => k_is); (case c => k_is); (case k => k_is)
    have d_law_alike : TL.FdX KX mg "_law_alike" LW.st_law_alike := by refine' TL.fd_mk KX Gn ?a ?l ?c ?k; (case a => k_is); (case l => k_is); (case c => k_is); (case k => k_is)
    have d_law_reckoned : TL.FdX KX mg "_law_reckoned" LW.st_law_reckoned := by refine' TL.fd_mk KX Gn ?a ?l ?c ?k; (case a => k_is); (case l => k_is); (case c => k_is); (case k => k_is)
    have d_law_behind : TL.FdX KX mg "_law_behind" LW.st_law_behind := by refine' TL.fd_mk KX Gn ?a ?l ?c ?k; (case a => k_is); (case l => k_is); (case c => k_is); (case k => k_is)
    have d_law : TL.FdX KX mg "law" LW.st_law := by refine' TL.fd_mk KX Gn ?a ?l ?c ?k; (case a => k_is); (case l => k_is); (case c => k_is); (case k => k_is)
    have x_Empty : TL.ExTX KX mg "Empty" := by refine' TL.ext_mk KX Gn ?a ?gq ?k ?s ?t; (case a => k_is); (case gq => k_exc); (case k => k_is); (case s => k_is); (case t => k_is)
    have x_WrongKind : TL.ExTX KX mg "WrongKind" := by refine' TL.ext_mk KX Gn ?a ?gq ?k ?s ?t; (case a => k_is); (case gq => k_exc); (case k => k_is); (case s => k_is); (case t => k_is)
    have t_PUT : TL.KTabX KX w mg "PUT" LW.tbl_PUT := by
      refine' TL.ktab_mk KX Gn ?a ?l ?k ?lo ?_; (case a => k_is); (case l => k_is); (case k => k_keys); (case lo => decide)
      refine' TL.tabs_cons (TL.tab_fn KX Gn ?a ?b) ?_; (case a => k_is); (case b => k_is)
      refine' TL.tabs_cons (TL.tab_fn KX Gn ?a ?b) ?_; (case a => k_is); (case b => k_is)
      refine' TL.tabs_cons (TL.tab_fn KX Gn ?a ?b) ?_; (case a => k_is); (case b => k_is)
      refine' TL.tabs_cons (TL.tab_fn KX Gn ?a ?b) ?_; (case a => k_is); (case b => k_is)
      refine' TL.tabs_cons (TL.tab_fn KX Gn ?a ?b) ?_; (case a => k_is); (case b => k_is)
      refine' TL.tabs_cons (TL.tab_fn KX Gn ?a ?b) ?_; (case a => k_is); (case b => k_is)
      refine' TL.tabs_cons (TL.tab_fn KX Gn ?a ?b) ?_; (case a => k_is); (case b => k_is)
      refine' TL.tabs_cons (TL.tab_fn KX Gn ?a ?b) ?_; (case a => k_is); (case b => k_is)
      refine' TL.tabs_cons (TL.tab_fn KX Gn ?a ?b) ?_; (case a => k_is); (case b => k_is)
      refine' TL.tabs_cons (TL.tab_no ?a) ?_; (case a => k_is)
      refine' TL.tabs_cons (TL.tab_no ?a) ?_; (case a => k_is)
      exact TL.tabs_nil
    have t_TOLD : TL.KTabX KX w mg "TOLD" LW.tbl_TOLD := by
      refine' TL.ktab_mk KX Gn ?a ?l ?k ?lo ?_; (case a => k_is); (case l => k_is); (case k => k_keys); (case lo => decide)
      refine' TL.tabs_cons (TL.tab_str ?a) ?_; (case a => k_is)
      refine' TL.tabs_cons (TL.tab_str ?a) ?_; (case a => k_is)
      refine' TL.tabs_cons (TL.tab_str ?a) ?_; (case a => k_is)
      refine' TL.tabs_cons (TL.tab_str ?a) ?_; (case a => k_is)
      refine' TL.tabs_cons (TL.tab_str ?a) ?_; (case a => k_is)
      refine' TL.tabs_cons (TL.tab_str ?a) ?_; (case a => k_is)
      refine' TL.tabs_cons (TL.tab_str ?a) ?_; (case a => k_is)
      refine' TL.tabs_cons (TL.tab_no ?a) ?_; (case a => k_is)
      refine' TL.tabs_cons (TL.tab_no ?a) ?_; (case a => k_is)
      refine' TL.tabs_cons (TL.tab_no ?a) ?_; (case a => k_is)
      refine' TL.tabs_cons (TL.tab_no ?a) ?_; (case a => k_is)
      refine' TL.tabs_cons (TL.tab_no ?a) ?_; (case a => k_is)
      exact TL.tabs_nil
    have t_WANTED : TL.KTabX KX w mg "WANTED" LW.tbl_WANTED := by
      refine' TL.ktab_mk KX Gn ?a ?l ?k ?lo ?_; (case a => k_is); (case l => k_is); (case k => k_keys); (case lo => decide)
      refine' TL.tabs_cons (TL.tab_int ?a) ?_; (case a => k_is)
      refine' TL.tabs_cons (TL.tab_int ?a) ?_; (case a => k_is)
      refine' TL.tabs_cons (TL.tab_int ?a) ?_; (case a => k_is)
      refine' TL.tabs_cons (TL.tab_int ?a) ?_; (case a => k_is)
      refine' TL.tabs_cons (TL.tab_int ?a) ?_; (case a => k_is)
      refine' TL.tabs_cons (TL.tab_int ?a) ?_; (case a => k_is)
      refine' TL.tabs_cons (TL.tab_int ?a) ?_; (case a => k_is)
      refine' TL.tabs_cons (TL.tab_int ?a) ?_; (case a => k_is)
      refine' TL.tabs_cons (TL.tab_int ?a) ?_; (case a => k_is)
      refine' TL.tabs_cons (TL.tab_int ?a) ?_; (case a => k_is)
      refine' TL.tabs_cons (TL.tab_int ?a) ?_; (case a => k_is)
      refine' TL.tabs_cons (TL.tab_no ?a) ?_; (case a => k_is)
      exact TL.tabs_nil
    have h_Empty : TL.HdTX KX mg "Empty" LW.hdt_Empty := by
      refine' TL.hdt_mk KX Gn ?a ?_; (case a => k_is)
      refine' TL.hdt_cons KX Gn ?a ?e ?_; (case a => k_is); (case e => first | k_is | rfl)
      refine' TL.hdt_cons KX Gn ?a ?e ?_; (case a => k_is); (case e => first | k_is | rfl)
      exact TL.hdt_nil
    have h_WrongKind : TL.HdTX KX mg "WrongKind" LW.hdt_WrongKind := by
      refine' TL.hdt_mk KX Gn ?a ?_; (case a => k_is)
      refine' TL.hdt_cons KX Gn ?a ?e ?_; (case a => k_is); (case e => first | k_is | rfl)
      refine' TL.hdt_cons KX Gn ?a ?e ?_; (case a => k_is); (case e => first | k_is | rfl)
      exact TL.hdt_nil
    have a_any : TL.AnyTX KX mg "StackError" "Empty" "WrongKind" "NoBlock" "Apart" "Dry" LW.tbl_any := by
      refine' TL.anyT_mk KX Gn ?aS ?a1 ?a2 ?a3 ?a4 ?a5 z_isinstance ?av ?_; (case aS => k_is); (case a1 => k_is); (case a2 => k_is); (case a3 => k_is); (case a4 => k_is); (case a5 => k_is); (case av => k_is)
      refine' TL.any_cons KX Gn ?a ?hg ?hk ?hs ?hd ?ha ?hn ?ht ?hm ?e ?k1 ?k2 ?k3 ?k4 ?k5 ?kv ?hr ?_; (case a => k_is)
      (case hg => first | k_is | rfl); (case hk => first | k_is | rfl); (case hs => first | k_is | rfl); (case hd => first | k_is | rfl); (case ha => first | k_is | rfl); (case hn => first | k_is | rfl); (case ht => first | k_is | rfl); (case hm => first | k_is | rfl); (case e => first | k_is | rfl); (case k1 => first | k_is | rfl); (case k2 => first | k_is | rfl); (case k3 => first | k_is | rfl); (case k4 => first | k_is | rfl); (case k5 => first | k_is | rfl); (case kv => first | k_is | rfl); (case hr => rfl)
      refine' TL.any_cons KX Gn ?a ?hg ?hk ?hs ?hd ?ha ?hn ?ht ?hm ?e ?k1 ?k2 ?k3 ?k4 ?k5 ?kv ?hr ?_; (case a => k_is)
      (case hg => first | k_is | rfl); (case hk => first | k_is | rfl); (case hs => first | k_is | rfl); (case hd => first | k_is | rfl); (case ha => first | k_is | rfl); (case hn => first | k_is | rfl); (case ht => first | k_is | rfl); (case hm => first | k_is | rfl); (case e => first | k_is | rfl); (case k1 => first | k_is | rfl); (case k2 => first | k_is | rfl); (case k3 => first | k_is | rfl); (case k4 => first | k_is | rfl); (case k5 => first | k_is | rfl); (case kv => first | k_is | rfl); (case hr => rfl)
      exact TL.any_nil
    exact ⟨d_law, fun base f fd Fn => LW.ok_all ⟨z_bool, z_int, z_isinstance, z_len, z_list, z_max, z_range, z_str, z_tuple, c_MODULUS, c_MOST_SIGNS, t_PUT, t_TOLD, t_WANTED, x_Empty, x_WrongKind, h_Empty, h_WrongKind, a_any, d_law_draw, d_law_words, d_law_value, d_law_plain_row, d_law_wanted, d_law_stack, d_law_lack, d_wanted, d_check, d_kind_of, d_kinds_of, d_added, d_multiplied, d_compared, d_joined, d_measured, d_shown, d_swapped, d_dropped, d_copied, d_put_by, d_do, d_done, d_law_told, d_law_any, d_law_alike, d_law_reckoned, d_law_behind, d_law⟩ f fd Fn⟩

