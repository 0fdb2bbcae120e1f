import PyProof.Rows.All
import Wide.All
import OpenK.AllK
import Wide.FinOn
import HandS.ForMost
import HandS.ForExc
import HandS.RaiseMore
import HandS.FStr
import HandS.TryMany
import HandS.IsInst
import HandS.ExcIs
import HandS.More
import HandS.Conv
import HandS.TupAny
import HandS.Style
import HandS.Small
import HandS.Steps
import HandS.TryOnly
import HandS.WordsExc
import HandS.DictComp
import PySem.Challenge.RW_stackproof_k13_counting
set_option Elab.async false
set_option linter.all false
set_option maxRecDepth 100000
/-! The tree layer: readings of HandS over plain data. -/
namespace TL
open PySem L2

/-- plain data -/
inductive D where
  | non | bl (b : Bool) | int (i : Int) | str (s : Str) | ty (n : String) | fn (x : Str)
  | lst (xs : List D) | fls (xs : List D) | tup (xs : List D) | dct (ks : List Key) (vs : List D)
  | fdct (ks : List Key) (vs : List D)
  /-- an object of the one class -/
  | obj

section
variable (K : PySem.W.Frag) (mg : Str → Option Value) (gs : List Nat)
mutual
/-- v is d in the heap H -/
def Rep (H : Hp) : D → V → Prop
  | .non, v => v = .non
  | .bl b, v => v = .bl b
  | .int i, v => v = .int i
  | .str s, v => v = .str s
  | .ty n, v => v = .ty n
  | .fn x, v => ∃ f, mg x = some (.ref f) ∧ v = .ref f
  | .lst ds, v => ∃ a vs, v = .ref a ∧ H a = some (.lst vs) ∧ RepL H ds vs
  | .fls ds, v => ∃ a vs, v = .ref a ∧ SqL K H a vs ∧ RepL H ds vs
  | .tup ds, v => ∃ a vs, v = .ref a ∧ SqT K H a vs ∧ RepL H ds vs
  | .dct ks ds, v => ∃ a kvs, v = .ref a ∧ H a = some (.dK kvs) ∧ kvs.map (·.1) = ks ∧ ks.Nodup ∧ RepL H ds (kvs.map (·.2))
  | .fdct ks ds, v => ∃ a o kvs, v = .ref a ∧ H a = some (.frz o (.dK kvs)) ∧ kvs.map (·.1) = ks ∧ ks.Nodup ∧ RepL H ds (kvs.map (·.2))
  | .obj, v => ∃ a C dx fs, v = .ref a ∧ mg "Machine" = some (.ref C) ∧ H a = some (.ins C dx fs)
def RepL (H : Hp) : List D → List V → Prop
  | [], vs => vs = []
  | d :: ds, vs => ∃ v ws, vs = v :: ws ∧ Rep H d v ∧ RepL H ds ws
end
end

/-- the heap grows -/
def Ext (H H' : Hp) : Prop := ∀ a o, H a = some o → H' a = some o
theorem Ext.refl (H : Hp) : Ext H H := fun _ _ h => h
theorem Ext.trans {H H1 H2 : Hp} (a : Ext H H1) (b : Ext H1 H2) : Ext H H2 := fun x o h => b x o (a x o h)
theorem Ext.new {H : Hp} {p : Addr} {o : HO} (h : H p = none) : Ext H (upd H p o) := fun a u e => by
  rw [upd_ne (ne_of_none e h)]; exact e
theorem Ext.free {H H' : Hp} {p : Addr} (e : Ext H H') (h : H' p = none) : H p = none := by
  cases q : H p with
  | none => rfl
  | some o => rw [e p o q] at h; cases h
theorem Ext.rd {H H' : Hp} {a : Addr} {u : HO} (e : Ext H H') (h : Rd H a u) : Rd H' a u := by
  rcases h with h | ⟨o, h⟩
  · exact Or.inl (e a _ h)
  · exact Or.inr ⟨o, e a _ h⟩
theorem Ext.sql {K : PySem.W.Frag} {H H' : Hp} {a : Addr} {xs : List V} (e : Ext H H') (h : SqL K H a xs) : SqL K H' a xs := by
  rcases h with h | h
  · exact Or.inl (e.rd h)
  · exact Or.inr h
theorem Ext.sqt {K : PySem.W.Frag} {H H' : Hp} {a : Addr} {xs : List V} (e : Ext H H') (h : SqT K H a xs) : SqT K H' a xs := by
  rcases h with h | h
  · exact Or.inl (e.rd h)
  · exact Or.inr h

section
variable {K : PySem.W.Frag} {mg : Str → Option Value} {gs : List Nat} {H H' : Hp}
mutual
theorem Rep.mono (e : Ext H H') : ∀ {d : D} {v : V}, Rep K mg H d v → Rep K mg H' d v
  | .non, _, h => h
  | .bl _, _, h => h
  | .int _, _, h => h
  | .str _, _, h => h
  | .ty _, _, h => h
  | .fn _, _, h => h
  | .lst ds, _, ⟨a, vs, h1, h2, h3⟩ => ⟨a, vs, h1, e a _ h2, RepL.mono e h3⟩
  | .fls ds, _, ⟨a, vs, h1, h2, h3⟩ => ⟨a, vs, h1, e.sql h2, RepL.mono e h3⟩
  | .tup ds, _, ⟨a, vs, h1, h2, h3⟩ => ⟨a, vs, h1, e.sqt h2, RepL.mono e h3⟩
  | .dct ks ds, _, ⟨a, kvs, h1, h2, h3, h4, h5⟩ => ⟨a, kvs, h1, e a _ h2, h3, h4, RepL.mono e h5⟩
  | .fdct ks ds, _, ⟨a, o, kvs, h1, h2, h3, h4, h5⟩ => ⟨a, o, kvs, h1, e a _ h2, h3, h4, RepL.mono e h5⟩
  | .obj, _, ⟨a, C, dx, fs, h1, h2, h3⟩ => ⟨a, C, dx, fs, h1, h2, e a _ h3⟩
theorem RepL.mono (e : Ext H H') : ∀ {ds : List D} {vs : List V}, RepL K mg H ds vs → RepL K mg H' ds vs
  | [], _, h => h
  | d :: ds, _, ⟨v, ws, h1, h2, h3⟩ => ⟨v, ws, h1, Rep.mono e h2, RepL.mono e h3⟩
end
theorem RepL.nil : RepL K mg H [] [] := rfl
theorem RepL.cons {d : D} {v : V} {ds : List D} {vs : List V} (h : Rep K mg H d v) (t : RepL K mg H ds vs) : RepL K mg H (d :: ds) (v :: vs) := ⟨v, vs, rfl, h, t⟩
theorem RepL.length : ∀ {ds : List D} {vs : List V}, RepL K mg H ds vs → vs.length = ds.length
  | [], _, h => by have h : _ = [] := h; rw [h]; rfl
  | d :: ds, _, ⟨v, ws, h1, _, h3⟩ => by rw [h1]; simp [RepL.length h3]
theorem RepL.get : ∀ {ds : List D} {vs : List V} {i : Nat} {d : D}, RepL K mg H ds vs → ds[i]? = some d → ∃ v, vs[i]? = some v ∧ Rep K mg H d v
  | [], _, _, _, _, e => by simp at e
  | d :: ds, _, 0, _, ⟨v, ws, h1, h2, _⟩, e => by
    simp at e; subst e; rw [h1]; exact ⟨v, rfl, h2⟩
  | d :: ds, _, i + 1, x, ⟨v, ws, h1, _, h3⟩, e => by
    obtain ⟨u, q1, q2⟩ := RepL.get (i := i) (d := x) h3 (by simpa using e)
    rw [h1]; exact ⟨u, by simpa using q1, q2⟩
theorem RepL.append : ∀ {ds es : List D} {vs ws : List V}, RepL K mg H ds vs → RepL K mg H es ws → RepL K mg H (ds ++ es) (vs ++ ws)
  | [], _, _, _, h, k => by have h : _ = [] := h; rw [h]; exact k
  | d :: ds, _, _, _, ⟨v, ws', h1, h2, h3⟩, k => by rw [h1]; exact ⟨v, _, rfl, h2, RepL.append h3 k⟩
theorem RepL.take : ∀ {ds : List D} {vs : List V} (n : Nat), RepL K mg H ds vs → RepL K mg H (ds.take n) (vs.take n)
  | _, _, 0, _ => by simp [RepL]
  | [], _, _ + 1, h => by have h : _ = [] := h; rw [h]; simp [RepL]
  | d :: ds, _, n + 1, ⟨v, ws, h1, h2, h3⟩ => by rw [h1]; exact ⟨v, _, rfl, h2, RepL.take n h3⟩
theorem RepL.drop : ∀ {ds : List D} {vs : List V} (n : Nat), RepL K mg H ds vs → RepL K mg H (ds.drop n) (vs.drop n)
  | _, _, 0, h => h
  | [], _, _ + 1, h => by have h : _ = [] := h; rw [h]; simp [RepL]
  | d :: ds, _, n + 1, ⟨v, ws, h1, h2, h3⟩ => by rw [h1]; exact RepL.drop n h3
theorem RepL.set : ∀ {ds : List D} {vs : List V} (i : Nat) {d : D} {v : V}, RepL K mg H ds vs → Rep K mg H d v → RepL K mg H (ds.set i d) (vs.set i v)
  | [], _, _, _, _, h, _ => by have h : _ = [] := h; rw [h]; simp [RepL]
  | d :: ds, _, 0, _, _, ⟨v, ws, h1, h2, h3⟩, k => by rw [h1]; exact ⟨_, ws, rfl, k, h3⟩
  | d :: ds, _, i + 1, _, _, ⟨v, ws, h1, h2, h3⟩, k => by rw [h1]; exact ⟨v, _, rfl, h2, RepL.set i h3 k⟩
theorem RepL.dropLast {ds : List D} {vs : List V} (h : RepL K mg H ds vs) : RepL K mg H ds.dropLast vs.dropLast := by
  rw [List.dropLast_eq_take, List.dropLast_eq_take, h.length]; exact h.take _
theorem RepL.reverse : ∀ {ds : List D} {vs : List V}, RepL K mg H ds vs → RepL K mg H ds.reverse vs.reverse
  | [], _, h => by have h : _ = [] := h; rw [h]; simp [RepL]
  | d :: ds, _, ⟨v, ws, h1, h2, h3⟩ => by
    rw [h1, List.reverse_cons, List.reverse_cons]
    exact (RepL.reverse h3).append (.cons h2 .nil)
theorem RepL.flatRep {ds : List D} {vs : List V} (h : RepL K mg H ds vs) : ∀ n : Nat, RepL K mg H (List.replicate n ds).flatten (List.replicate n vs).flatten
  | 0 => by simp [RepL]
  | n + 1 => by rw [List.replicate_succ, List.replicate_succ, List.flatten_cons, List.flatten_cons]; exact h.append (h.flatRep n)
end

/-! ### the environment -/
inductive Cell where
  | no | val (d : D) | own (xs : List D) | ownD (ks : List Key) (vs : List D)
  /-- a machine of the program p, its stack and its frames at the slots j and j + 1; the same object as at slot k; an object of which the program p is known -/
  | mac (j : Nat) (p : D) | al (k : Nat) | pm (p : D)
abbrev Env := List Cell

/-- what the cell's own object is, by its fields -/
def OwnsO (K : PySem.W.Frag) (mg : Str → Option Value) (Hf : Hp) : Cell → HO → Prop
  | .own xs, o => ∃ vs, o = .lst vs ∧ RepL K mg Hf xs vs
  | .ownD ks ds, o => ∃ kvs, o = .dK kvs ∧ kvs.map (·.1) = ks ∧ ks.Nodup ∧ RepL K mg Hf ds (kvs.map (·.2))
  | _, _ => False
def isOwn : Cell → Bool
  | .own _ => true
  | .ownD _ _ => true
  | _ => false
/-- the content of an owned cell as data -/
def Cell.dat : Cell → Option D
  | .no => none
  | .val d => some d
  | .own xs => some (.lst xs)
  | .ownD ks vs => some (.dct ks vs)
  | .mac _ _ => some .obj
  | .al _ => none
  | .pm _ => some .obj

theorem OwnsO.mono {K : PySem.W.Frag} {mg : Str → Option Value} {Hf Hf' : Hp} (e : Ext Hf Hf') : ∀ {c : Cell} {o : HO}, OwnsO K mg Hf c o → OwnsO K mg Hf' c o
  | .own _, _, ⟨vs, h1, h2⟩ => ⟨vs, h1, h2.mono e⟩
  | .ownD _ _, _, ⟨kvs, h1, h2, h3, h4⟩ => ⟨kvs, h1, h2, h3, h4.mono e⟩
  | .no, _, h => h
  | .val _, _, h => h
  | .mac _ _, _, h => h
  | .al _, _, h => h
  | .pm _, _, h => h
theorem OwnsO.isOwn {K : PySem.W.Frag} {mg : Str → Option Value} {Hf : Hp} : ∀ {c : Cell} {o : HO}, OwnsO K mg Hf c o → isOwn c = true
  | .own _, _, _ => rfl
  | .ownD _ _, _, _ => rfl
  | .no, _, h => h.elim
  | .val _, _, h => h.elim
  | .mac _ _, _, h => h.elim
  | .al _, _, h => h.elim
  | .pm _, _, h => h.elim
theorem OwnsO.mut {K : PySem.W.Frag} {mg : Str → Option Value} {Hf : Hp} : ∀ {c : Cell} {o : HO}, OwnsO K mg Hf c o → Mut (some o)
  | .own _, _, ⟨_, h, _⟩ => by rw [h]; trivial
  | .ownD _ _, _, ⟨_, h, _⟩ => by rw [h]; trivial
  | .no, _, h => h.elim
  | .val _, _, h => h.elim
  | .mac _ _, _, h => h.elim
  | .al _, _, h => h.elim
  | .pm _, _, h => h.elim

/-- the object at p frozen is the data -/
theorem OwnsO.frozen {K : PySem.W.Frag} {mg : Str → Option Value} {Hf : Hp} {p : Addr} (hp : Hf p = none) : ∀ {c : Cell} {o : HO} {d : D}, OwnsO K mg Hf c o → c.dat = some d → Rep K mg (upd Hf p o) d (.ref p)
  | .own xs, _, _, ⟨vs, h1, h2⟩, e => by
    simp only [Cell.dat, Option.some.injEq] at e
    subst e; subst h1
    exact ⟨p, vs, rfl, upd_same, h2.mono (Ext.new hp)⟩
  | .ownD ks ds, _, _, ⟨kvs, h1, h2, h3, h4⟩, e => by
    simp only [Cell.dat, Option.some.injEq] at e
    subst e; subst h1
    exact ⟨p, kvs, rfl, upd_same, h2, h3, h4.mono (Ext.new hp)⟩
  | .no, _, _, h, _ => h.elim
  | .val _, _, _, h, _ => h.elim
  | .mac _ _, _, _, h, _ => h.elim
  | .al _, _, _, h, _ => h.elim
  | .pm _, _, _, h, _ => h.elim

/-- the cell at a slot -/
def CellOk (K : PySem.W.Frag) (mg : Str → Option Value) (Hr Hf H : Hp) : Cell → Option V → Prop
  | .no, _ => True
  | .val d, o => ∃ v, o = some v ∧ Rep K mg Hf d v
  | .mac _ _, _ => True
  | .al _, _ => True
  | .pm _, _ => True
  | c, o => ∃ a u, o = some (.ref a) ∧ H a = some u ∧ OwnsO K mg Hf c u ∧ Hf a = none ∧ Hr a = none

/-- slot i owns the object at a -/
def OwnAt (σ : St) (ρ : Env) (i : Nat) (a : Addr) : Prop := (∃ c : Cell, ρ[i]? = some c ∧ isOwn c = true) ∧ σ[i]? = some (some (.ref a))

/-- a machine's object -/
def MacAt (K : PySem.W.Frag) (mg : Str → Option Value) (Hf : Hp) (p : D) (v b1 b2 : V) : Prop := ∃ a C dx vp, v = .ref a ∧ mg "Machine" = some (.ref C) ∧ Hf a = some (.ins C dx [("_program", vp), ("stack", b1), ("frames", b2)]) ∧ Rep K mg Hf p vp
/-- an object whose program is known -/
def PMAt (K : PySem.W.Frag) (mg : Str → Option Value) (Hf : Hp) (p : D) (v : V) : Prop := ∃ a C dx fs vp, v = .ref a ∧ mg "Machine" = some (.ref C) ∧ Hf a = some (.ins C dx fs) ∧ fs.lookup ("_program" : Str) = some vp ∧ Rep K mg Hf p vp
theorem PMAt.mono {K : PySem.W.Frag} {mg : Str → Option Value} {Hf Hf' : Hp} (e : Ext Hf Hf') {p : D} {v : V} (h : PMAt K mg Hf p v) : PMAt K mg Hf' p v := by
  obtain ⟨a, C, dx, fs, vp, h1, h2, h3, h4, h5⟩ := h
  exact ⟨a, C, dx, fs, vp, h1, h2, e a _ h3, h4, h5.mono e⟩
theorem PMAt.obj {K : PySem.W.Frag} {mg : Str → Option Value} {Hf : Hp} {p : D} {v : V} (h : PMAt K mg Hf p v) : Rep K mg Hf .obj v := by
  obtain ⟨a, C, dx, fs, vp, h1, h2, h3, _⟩ := h
  exact ⟨a, C, dx, _, h1, h2, h3⟩
/-- what binds a cell to other slots; gs: the slots that no name shows -/
def LnkC (K : PySem.W.Frag) (mg : Str → Option Value) (gs : List Nat) (Hf : Hp) (σ : St) : Cell → Option V → Prop
  | .mac j p, o => (∃ v b1 b2, o = some v ∧ MacAt K mg Hf p v b1 b2 ∧ σ[j]? = some (some b1) ∧ σ[j + 1]? = some (some b2)) ∧ j ∈ gs ∧ j + 1 ∈ gs
  | .al k, o => (∃ v, o = some v ∧ σ[k]? = some (some v)) ∧ k ∈ gs
  | .pm p, o => (∃ v, o = some v ∧ PMAt K mg Hf p v) ∧ gs ≠ []
  | _, _ => True
theorem MacAt.obj {K : PySem.W.Frag} {mg : Str → Option Value} {Hf : Hp} {p : D} {v b1 b2 : V} (h : MacAt K mg Hf p v b1 b2) : Rep K mg Hf .obj v := by
  obtain ⟨a, C, dx, vp, h1, h2, h3, _⟩ := h
  exact ⟨a, C, dx, _, h1, h2, h3⟩
theorem MacAt.mono {K : PySem.W.Frag} {mg : Str → Option Value} {Hf Hf' : Hp} (e : Ext Hf Hf') {p : D} {v b1 b2 : V} (h : MacAt K mg Hf p v b1 b2) : MacAt K mg Hf' p v b1 b2 := by
  obtain ⟨a, C, dx, vp, h1, h2, h3, h4⟩ := h
  exact ⟨a, C, dx, vp, h1, h2, e a _ h3, h4.mono e⟩
/-- the cell is bound to none -/
def isLnk : Cell → Bool
  | .mac _ _ => true
  | .al _ => true
  | .pm _ => true
  | _ => false
theorem LnkC.free {K : PySem.W.Frag} {mg : Str → Option Value} {gs : List Nat} {Hf : Hp} {σ : St} {o : Option V} : ∀ {c : Cell}, isLnk c = false → LnkC K mg gs Hf σ c o
  | .no, _ => trivial
  | .val _, _ => trivial
  | .own _, _ => trivial
  | .ownD _ _, _ => trivial
  | .mac _ _, h => by cases h
  | .al _, h => by cases h
  | .pm _, h => by cases h
theorem LnkC.ownF {K : PySem.W.Frag} {mg : Str → Option Value} {gs : List Nat} {Hf : Hp} {σ : St} {o : Option V} : ∀ {c : Cell}, isOwn c = true → LnkC K mg gs Hf σ c o
  | .no, h => by cases h
  | .val _, h => by cases h
  | .own _, _ => trivial
  | .ownD _ _, _ => trivial
  | .mac _ _, h => by cases h
  | .al _, h => by cases h
  | .pm _, h => by cases h
theorem LnkC.step {K : PySem.W.Frag} {mg : Str → Option Value} {gs gs' : List Nat} {Hf Hf' : Hp} {σ σ' : St} {o : Option V} (e : Ext Hf Hf') (hg : ∀ j ∈ gs, j ∈ gs' ∧ σ'[j]? = σ[j]?) : ∀ {c : Cell}, LnkC K mg gs Hf σ c o → LnkC K mg gs' Hf' σ' c o
  | .no, _ => trivial
  | .val _, _ => trivial
  | .own _, _ => trivial
  | .ownD _ _, _ => trivial
  | .mac _ _, ⟨⟨v, b1, b2, h1, h2, h3, h4⟩, h5, h6⟩ => ⟨⟨v, b1, b2, h1, h2.mono e, by rw [(hg _ h5).2]; exact h3, by rw [(hg _ h6).2]; exact h4⟩, (hg _ h5).1, (hg _ h6).1⟩
  | .al _, ⟨⟨v, h1, h2⟩, h3⟩ => ⟨⟨v, h1, by rw [(hg _ h3).2]; exact h2⟩, (hg _ h3).1⟩
  | .pm _, ⟨⟨v, h1, h2⟩, h3⟩ => ⟨⟨v, h1, h2.mono e⟩, fun z => by
    subst z
    cases gs with
    | nil => exact h3 rfl
    | cons j _ => have := (hg j List.mem_cons_self).1; cases this⟩
theorem LnkC.mono {K : PySem.W.Frag} {mg : Str → Option Value} {gs : List Nat} {Hf Hf' : Hp} {σ : St} {o : Option V} (e : Ext Hf Hf') {c : Cell} (h : LnkC K mg gs Hf σ c o) : LnkC K mg gs Hf' σ c o := h.step e fun j hj => ⟨hj, rfl⟩
theorem LnkC.no {K : PySem.W.Frag} {mg : Str → Option Value} {Hf : Hp} {σ : St} {o : Option V} : ∀ {c : Cell}, LnkC K mg [] Hf σ c o → isLnk c = false
  | .no, _ => rfl
  | .val _, _ => rfl
  | .own _, _ => rfl
  | .ownD _ _, _ => rfl
  | .mac _ _, ⟨_, h, _⟩ => by cases h
  | .al _, ⟨_, h⟩ => by cases h
  | .pm _, ⟨_, h⟩ => (h rfl).elim
structure EnvOk (K : PySem.W.Frag) (mg : Str → Option Value) (gs : List Nat) (fx : List Bool) (vs0 : List V) (Hr Hf H : Hp) (σ : St) (ρ : Env) : Prop where
  len : σ.length = ρ.length
  sub : Ext Hf H
  frm : Ext Hr H
  dis : ∀ a o, Hr a = some o → Hf a = none
  cel : ∀ (i : Nat) (c : Cell), ρ[i]? = some c → CellOk K mg Hr Hf H c (σ[i]?).join
  inj : ∀ (i j : Nat) (a : Addr), OwnAt σ ρ i a → OwnAt σ ρ j a → i = j
  fix : ∀ i : Nat, fx[i]? = some true → σ[i]? = (vs0[i]?).map some
  lnk : ∀ (i : Nat) (c : Cell), ρ[i]? = some c → LnkC K mg gs Hf σ c (σ[i]?).join

theorem CellOk.own {K : PySem.W.Frag} {mg : Str → Option Value} {Hr Hf H : Hp} : ∀ {c : Cell} {o : Option V}, isOwn c = true → CellOk K mg Hr Hf H c o → ∃ a u, o = some (.ref a) ∧ H a = some u ∧ OwnsO K mg Hf c u ∧ Hf a = none ∧ Hr a = none
  | .own _, _, _, h => h
  | .ownD _ _, _, _, h => h
  | .no, _, h, _ => by cases h
  | .val _, _, h, _ => by cases h
  | .mac _ _, _, h, _ => by cases h
  | .al _, _, h, _ => by cases h
  | .pm _, _, h, _ => by cases h
theorem CellOk.ofOwn {K : PySem.W.Frag} {mg : Str → Option Value} {Hr Hf H : Hp} : ∀ {c : Cell} {o : Option V}, isOwn c = true → (∃ a u, o = some (.ref a) ∧ H a = some u ∧ OwnsO K mg Hf c u ∧ Hf a = none ∧ Hr a = none) → CellOk K mg Hr Hf H c o
  | .own _, _, _, h => h
  | .ownD _ _, _, _, h => h
  | .no, _, h, _ => by cases h
  | .val _, _, h, _ => by cases h
  | .mac _ _, _, h, _ => by cases h
  | .al _, _, h, _ => by cases h
  | .pm _, _, h, _ => by cases h
theorem CellOk.step {K : PySem.W.Frag} {mg : Str → Option Value} {Hr Hr' Hf Hf' H H' : Hp} {c : Cell} {o : Option V} (h : CellOk K mg Hr Hf H c o) (e : Ext Hf Hf')
    (k : isOwn c = true → ∀ a u, o = some (.ref a) → H a = some u → Hf a = none → Hr a = none → H' a = some u ∧ Hf' a = none ∧ Hr' a = none) : CellOk K mg Hr' Hf' H' c o := by
  cases hc : isOwn c with
  | true =>
    obtain ⟨a, u, h1, h2, h3, h4, h5⟩ := h.own hc
    obtain ⟨k1, k2, k3⟩ := k hc a u h1 h2 h4 h5
    exact .ofOwn hc ⟨a, u, h1, k1, h3.mono e, k2, k3⟩
  | false =>
    cases c with
    | no => trivial
    | val d => obtain ⟨v, h1, h2⟩ := h; exact ⟨v, h1, h2.mono e⟩
    | own _ => cases hc
    | ownD _ _ => cases hc
    | mac _ _ => trivial
    | al _ => trivial
    | pm _ => trivial
/-- the names that the text can't have stand for slots of our own -/
def isGh (x : Str) : Bool := x == "#0" || x == "#1" || x == "#2" || x == "#3"
def ghs : Nat → List Str → List Nat
  | _, [] => []
  | i, x :: xs => if isGh x = true then i :: ghs (i + 1) xs else ghs (i + 1) xs
end TL -- gs
namespace L2
abbrev Cx.gs (X : Cx) : List Nat := TL.ghs 0 X.N
end L2
namespace TL
open PySem L2
/-! ### what an expression gives -/
inductive R where
  | at (i : Nat) | dd (d : D) | ow (c : Cell)
  /-- a new machine -/
  | nw (p : D) (xs fs : List D)
inductive ER where
  | ok (r : R) (ρ : Env) | exc (x : Str) (ρ : Env) | bad
abbrev ME := Env → ER

section
variable (K : PySem.W.Frag) (mg : Str → Option Value) (gs : List Nat)
def ROk (Hr Hf H : Hp) (σ : St) (ρ : Env) : R → V → Prop
  | .at i, v => σ[i]? = some (some v)
  | .dd d, v => Rep K mg Hf d v
  | .ow c, v => ∃ a u, v = .ref a ∧ H a = some u ∧ OwnsO K mg Hf c u ∧ Hf a = none ∧ Hr a = none ∧ ∀ i, ¬ OwnAt σ ρ i a
  | .nw p xs fs, v => ∃ b1 b2 vs ws, MacAt K mg Hf p v (.ref b1) (.ref b2) ∧ (H b1 = some (.lst vs) ∧ RepL K mg Hf xs vs ∧ Hf b1 = none ∧ Hr b1 = none ∧ ∀ i, ¬ OwnAt σ ρ i b1) ∧ (H b2 = some (.lst ws) ∧ RepL K mg Hf fs ws ∧ Hf b2 = none ∧ Hr b2 = none ∧ ∀ i, ¬ OwnAt σ ρ i b2) ∧ b1 ≠ b2
def PRep (Hf H : Hp) : D → V → Prop
  | .lst ds, v => ∃ a vs, v = .ref a ∧ H a = some (.lst vs) ∧ RepL K mg Hf ds vs
  | .dct ks ds, v => ∃ a kvs, v = .ref a ∧ H a = some (.dK kvs) ∧ kvs.map (·.1) = ks ∧ ks.Nodup ∧ RepL K mg Hf ds (kvs.map (·.2))
  | d, v => Rep K mg Hf d v
def PostE (W : WX) (fx : List Bool) (vs0 : List V) (Hr Hf : Hp) (σ : St) (r : ER) (Q : VK) : Prop :=
  match r with
  | .ok r ρ => ∀ v Hf' H', Ext Hf Hf' → EnvOk K mg gs fx vs0 Hr Hf' H' σ ρ → ROk K mg Hr Hf' H' σ ρ r v → Q v H'
  | .exc x ρ => ∀ C, mg x = some (.ref C) → ∀ Hf' H', Ext Hf Hf' → EnvOk K mg gs fx vs0 Hr Hf' H' σ ρ → W (.ref C) none σ H'
  | .bad => False
def SE (W : WX) (t : TE) (m : ME) : Prop := ∀ fx vs0 Hr Hf H σ ρ Q, EnvOk K mg gs fx vs0 Hr Hf H σ ρ → PostE K mg gs W fx vs0 Hr Hf σ (m ρ) Q → t σ H Q
end
structure DE (X : Cx) (W : WX) (e : Expr) (t : TE) (m : ME) : Prop where
  pe : PE X e t
  se : SE X.K X.mg X.gs W t m

def use : R → Env → Option D
  | .at i, ρ => (ρ[i]?).bind Cell.dat
  | .dd d, _ => some d
  | .ow c, _ => c.dat
  | .nw _ _ _, _ => some .obj
def R.fix : R → R
  | .ow c => match c.dat with
    | some d => .dd d
    | none => .ow c
  | .nw _ _ _ => .dd .obj
  | r => r
theorem R.fix_some {c : Cell} {d : D} (h : c.dat = some d) : (R.ow c).fix = .dd d := by simp only [R.fix, h]
theorem R.fix_none {c : Cell} (h : c.dat = none) : (R.ow c).fix = .ow c := by simp only [R.fix, h]
/-- freeze: the data, the environment behind -/
def frz : R → Env → Option (D × Env)
  | .at i, ρ => match ρ[i]? with
    | some (.val d) => some (d, ρ)
    | some c => match c.dat with
      | some d => some (d, ρ.set i (.val d))
      | none => none
    | none => none
  | .dd d, ρ => some (d, ρ)
  | .ow c, ρ => match c.dat with
    | some d => some (d, ρ)
    | none => none
  | .nw _ _ _, ρ => some (.obj, ρ)
/-- take over -/
def tak : R → Env → Option (Cell × Env)
  | .ow c, ρ => some (c, ρ)
  | .nw _ _ _, ρ => some (.val .obj, ρ)
  | .dd d, ρ => some (.val d, ρ)
  | .at i, ρ => match ρ[i]? with
    | some (.val d) => some (.val d, ρ)
    | some c => match c.dat with
      | some d => some (.val d, ρ.set i (.val d))
      | none => none
    | none => none

section
variable {K : PySem.W.Frag} {mg : Str → Option Value} {gs : List Nat} {fx : List Bool} {vs0 : List V} {Hr Hf Hf' H H' : Hp} {σ : St} {ρ ρ' : Env} {r : R} {v : V} {d : D} {c : Cell} {W : WX}

theorem joinEq {i : Nat} {v : V} : (σ[i]?).join = some v ↔ σ[i]? = some (some v) := by
  cases h : σ[i]? with
  | none => simp
  | some o => cases o <;> simp

/-- the heaps grow by a fresh frozen object or by an owned one that is not of the environment -/
theorem EnvOk.freezeO {p : Addr} {o : HO} (E : EnvOk K mg gs fx vs0 Hr Hf H σ ρ) (hp : H p = some o) (hf : Hf p = none) (hr : Hr p = none) (hn : ∀ i, ¬ OwnAt σ ρ i p) : EnvOk K mg gs fx vs0 Hr (upd Hf p o) H σ ρ := by
  refine ⟨E.len, fun a u h => ?_, E.frm, fun a u h => ?_, fun i c hc => ?_, E.inj, E.fix, fun i c hc => (E.lnk i c hc).mono (Ext.new hf)⟩
  · by_cases ha : a = p
    · subst ha; rw [upd_same] at h; cases h; exact hp
    · rw [upd_ne ha] at h; exact E.sub a u h
  · by_cases ha : a = p
    · subst ha; rw [hr] at h; cases h
    · rw [upd_ne ha]; exact E.dis a u h
  · refine (E.cel i c hc).step (Ext.new hf) fun ho a u h1 h2 h3 h4 => ⟨h2, ?_, h4⟩
    have : a ≠ p := fun z => hn i ⟨⟨c, hc, ho⟩, by rw [← z]; exact joinEq.mp h1⟩
    rw [upd_ne this]; exact h3
/-- a new object in the heap -/
theorem EnvOk.newO {p : Addr} {o : HO} (E : EnvOk K mg gs fx vs0 Hr Hf H σ ρ) (hp : H p = none) : EnvOk K mg gs fx vs0 Hr Hf (upd H p o) σ ρ := by
  refine ⟨E.len, E.sub.trans (Ext.new hp), E.frm.trans (Ext.new hp), E.dis, fun i c hc => ?_, E.inj, E.fix, E.lnk⟩
  exact (E.cel i c hc).step (Ext.refl _) fun _ a u _ h2 h3 h4 => ⟨Ext.new hp a u h2, h3, h4⟩
theorem EnvOk.freshF (E : EnvOk K mg gs fx vs0 Hr Hf H σ ρ) {p : Addr} (hp : H p = none) : Hf p = none := E.sub.free hp
theorem EnvOk.freshR (E : EnvOk K mg gs fx vs0 Hr Hf H σ ρ) {p : Addr} (hp : H p = none) : Hr p = none := E.frm.free hp
theorem EnvOk.freshO (E : EnvOk K mg gs fx vs0 Hr Hf H σ ρ) {p : Addr} (hp : H p = none) (i : Nat) : ¬ OwnAt σ ρ i p := fun ⟨⟨c, hc, ho⟩, hs⟩ => by
  obtain ⟨a, u, h1, h2, _⟩ := (E.cel i c hc).own ho
  rw [joinEq] at h1
  rw [hs] at h1
  cases h1
  rw [hp] at h2; cases h2
theorem EnvOk.newR {p : Addr} {o : HO} (E : EnvOk K mg gs fx vs0 Hr Hf H σ ρ) (hp : H p = none) (ho : OwnsO K mg Hf c o) : ROk K mg Hr Hf (upd H p o) σ ρ (.ow c) (.ref p) :=
  ⟨p, o, rfl, upd_same, ho, E.freshF hp, E.freshR hp, E.freshO hp⟩
/-- a new frozen object -/
theorem EnvOk.newF {p : Addr} {o : HO} (E : EnvOk K mg gs fx vs0 Hr Hf H σ ρ) (hp : H p = none) : EnvOk K mg gs fx vs0 Hr (upd Hf p o) (upd H p o) σ ρ :=
  (E.newO hp).freezeO upd_same (E.freshF hp) (E.freshR hp) (E.freshO hp)

theorem ROk.fixed (E : EnvOk K mg gs fx vs0 Hr Hf H σ ρ) (h : ROk K mg Hr Hf H σ ρ r v) : ∃ Hf', Ext Hf Hf' ∧ EnvOk K mg gs fx vs0 Hr Hf' H σ ρ ∧ ROk K mg Hr Hf' H σ ρ r.fix v := by
  cases r with
  | «at» i => exact ⟨Hf, Ext.refl _, E, h⟩
  | dd d => exact ⟨Hf, Ext.refl _, E, h⟩
  | ow c =>
    cases hc : c.dat with
    | none => exact ⟨Hf, Ext.refl _, E, by rw [R.fix_none hc]; exact h⟩
    | some d =>
      obtain ⟨a, u, rfl, h2, h3, h4, h5, h6⟩ := h
      refine ⟨upd Hf a u, Ext.new h4, E.freezeO h2 h4 h5 h6, ?_⟩
      rw [R.fix_some hc]
      exact h3.frozen h4 hc
  | nw p xs fs =>
    obtain ⟨b1, b2, vs, ws, h1, _⟩ := h
    exact ⟨Hf, Ext.refl _, E, h1.obj⟩
/-- at and dd stay -/
def R.calm : R → Bool
  | .ow _ => false
  | .nw _ _ _ => false
  | _ => true
theorem ROk.stay {Hr' : Hp} (h : ROk K mg Hr Hf H σ ρ r v) (hc : r.calm = true) (e : Ext Hf Hf') : ROk K mg Hr' Hf' H' σ ρ' r v := by
  cases r with
  | «at» i => exact h
  | dd d => exact Rep.mono e h
  | ow c => cases hc
  | nw _ _ _ => cases hc
theorem OwnsO.calm {o : HO} (h : OwnsO K mg Hf c o) : ∃ d, c.dat = some d := by
  cases c with
  | no => exact h.elim
  | val _ => exact h.elim
  | own xs => exact ⟨_, rfl⟩
  | ownD ks vs => exact ⟨_, rfl⟩
  | mac _ _ => exact h.elim
  | al _ => exact h.elim
  | pm _ => exact h.elim
theorem ROk.fixCalm (h : ROk K mg Hr Hf H σ ρ r v) : r.fix.calm = true := by
  cases r with
  | «at» i => rfl
  | dd d => rfl
  | ow c =>
    obtain ⟨a, u, _, _, h3, _⟩ := h
    obtain ⟨d, e⟩ := h3.calm
    rw [R.fix_some e]; rfl
  | nw _ _ _ => rfl
theorem Rep.p (S : Ext Hf H) (h : Rep K mg Hf d v) : PRep K mg Hf H d v := by
  cases d with
  | lst ds => obtain ⟨a, vs, h1, h2, h3⟩ := h; exact ⟨a, vs, h1, S a _ h2, h3⟩
  | dct ks ds => obtain ⟨a, vs, h1, h2, h3⟩ := h; exact ⟨a, vs, h1, S a _ h2, h3⟩
  | _ => exact h
theorem OwnsO.p {a : Addr} {u : HO} (h : OwnsO K mg Hf c u) (ha : H a = some u) (e : c.dat = some d) : PRep K mg Hf H d (.ref a) := by
  cases c with
  | no => exact h.elim
  | val _ => exact h.elim
  | own xs =>
    simp only [Cell.dat, Option.some.injEq] at e; subst e
    obtain ⟨vs, rfl, h2⟩ := h
    exact ⟨a, vs, rfl, ha, h2⟩
  | ownD ks vs =>
    simp only [Cell.dat, Option.some.injEq] at e; subst e
    obtain ⟨kvs, rfl, h2⟩ := h
    exact ⟨a, kvs, rfl, ha, h2⟩
  | mac _ _ => exact h.elim
  | al _ => exact h.elim
  | pm _ => exact h.elim
theorem use_ok (E : EnvOk K mg gs fx vs0 Hr Hf H σ ρ) (h : ROk K mg Hr Hf H σ ρ r v) (u : use r ρ = some d) : PRep K mg Hf H d v := by
  cases r with
  | dd d' => cases u; exact Rep.p E.sub h
  | ow c =>
    obtain ⟨a, o, rfl, h2, h3, _⟩ := h
    exact h3.p h2 u
  | «at» i =>
    have h : σ[i]? = some (some v) := h
    unfold use at u
    obtain ⟨c, hc, e⟩ := Option.bind_eq_some_iff.mp u
    have q := E.cel i c hc
    rw [joinEq.mpr h] at q
    cases ho : isOwn c with
    | true =>
      obtain ⟨a, o, h1, h2, h3, _⟩ := q.own ho
      cases h1
      exact h3.p h2 e
    | false =>
      cases c with
      | no => cases e
      | val d' => cases e; obtain ⟨v', h1, h2⟩ := q; cases h1; exact Rep.p E.sub h2
      | own _ => cases ho
      | ownD _ _ => cases ho
      | mac j p =>
        cases e
        obtain ⟨⟨v', b1, b2, h1, h2, _⟩, _⟩ := E.lnk i _ hc
        rw [joinEq.mpr h] at h1; cases h1
        exact Rep.p E.sub h2.obj
      | al _ => cases e
      | pm p =>
        cases e
        obtain ⟨⟨v', h1, h2⟩, _⟩ := E.lnk i _ hc
        rw [joinEq.mpr h] at h1; cases h1
        exact Rep.p E.sub h2.obj
  | nw p xs fs =>
    cases u
    obtain ⟨b1, b2, vs, ws, h1, _⟩ := h
    exact Rep.p E.sub h1.obj
/-- a cell told as data -/
theorem EnvOk.forget {i : Nat} (E : EnvOk K mg gs fx vs0 Hr Hf H σ ρ) (hs : σ[i]? = some (some v)) (r : Rep K mg Hf d v) : EnvOk K mg gs fx vs0 Hr Hf H σ (ρ.set i (.val d)) := by
  have own' : ∀ {j : Nat} {b : Addr}, OwnAt σ (ρ.set i (.val d)) j b → OwnAt σ ρ j b := fun {j b} ⟨⟨c', hc', ho'⟩, hs'⟩ => by
    by_cases hj : i = j
    · subst hj
      by_cases hl : i < ρ.length
      · rw [List.getElem?_set_self hl] at hc'; cases hc'; cases ho'
      · rw [List.getElem?_eq_none (by simp; omega)] at hc'; cases hc'
    · rw [List.getElem?_set_ne hj] at hc'
      exact ⟨⟨c', hc', ho'⟩, hs'⟩
  refine ⟨by rw [List.length_set]; exact E.len, E.sub, E.frm, E.dis, fun j c hc => ?_, fun j k b p q => E.inj j k b (own' p) (own' q), E.fix, fun j c hc => ?_⟩
  · by_cases hj : i = j
    · subst hj
      by_cases hl : i < ρ.length
      · rw [List.getElem?_set_self hl] at hc; cases hc; exact ⟨v, joinEq.mpr hs, r⟩
      · rw [List.getElem?_eq_none (by simp; omega)] at hc; cases hc
    · rw [List.getElem?_set_ne hj] at hc; exact E.cel j c hc
  · by_cases hj : i = j
    · subst hj
      by_cases hl : i < ρ.length
      · rw [List.getElem?_set_self hl] at hc; cases hc; trivial
      · rw [List.getElem?_eq_none (by simp; omega)] at hc; cases hc
    · rw [List.getElem?_set_ne hj] at hc; exact E.lnk j c hc
/-- the cell at i is frozen -/
theorem EnvOk.freezeAt {i : Nat} (E : EnvOk K mg gs fx vs0 Hr Hf H σ ρ) (hs : σ[i]? = some (some v)) (hc : ρ[i]? = some c) (ho : isOwn c = true) (e : c.dat = some d) :
    ∃ Hf', Ext Hf Hf' ∧ EnvOk K mg gs fx vs0 Hr Hf' H σ (ρ.set i (.val d)) ∧ Rep K mg Hf' d v := by
  obtain ⟨a, u, h1, h2, h3, h4, h5⟩ := (E.cel i c hc).own ho
  rw [joinEq, hs] at h1
  cases h1
  have fr := h3.frozen h4 e
  have hi : i < ρ.length := (List.getElem?_eq_some_iff.mp hc).1
  have own' : ∀ {j : Nat} {b : Addr}, OwnAt σ (ρ.set i (.val d)) j b → OwnAt σ ρ j b ∧ j ≠ i := fun {j b} ⟨⟨c', hc', ho'⟩, hs'⟩ => by
    by_cases hj : i = j
    · subst hj; rw [List.getElem?_set_self hi] at hc'; cases hc'; cases ho'
    · rw [List.getElem?_set_ne hj] at hc'
      exact ⟨⟨⟨c', hc', ho'⟩, hs'⟩, fun z => hj z.symm⟩
  refine ⟨upd Hf a u, Ext.new h4, ⟨by rw [List.length_set]; exact E.len, fun b o h => ?_, E.frm, fun b o h => ?_, fun j c' hc' => ?_, fun j k b p q => E.inj j k b (own' p).1 (own' q).1, E.fix, fun j c' hc' => ?_⟩, fr⟩
  · by_cases hb : b = a
    · subst hb; rw [upd_same] at h; cases h; exact h2
    · rw [upd_ne hb] at h; exact E.sub b o h
  · by_cases hb : b = a
    · subst hb; rw [h5] at h; cases h
    · rw [upd_ne hb]; exact E.dis b o h
  · by_cases hj : i = j
    · subst hj
      rw [List.getElem?_set_self hi] at hc'; cases hc'
      exact ⟨_, joinEq.mpr hs, fr⟩
    · rw [List.getElem?_set_ne hj] at hc'
      refine (E.cel j c' hc').step (Ext.new h4) fun ho' b o k1 k2 k3 k4 => ⟨k2, ?_, k4⟩
      have : b ≠ a := fun z => by
        subst z
        exact hj (E.inj i j b ⟨⟨c, hc, ho⟩, hs⟩ ⟨⟨c', hc', ho'⟩, joinEq.mp k1⟩)
      rw [upd_ne this]; exact k3
  · by_cases hj : i = j
    · subst hj
      rw [List.getElem?_set_self hi] at hc'; cases hc'; trivial
    · rw [List.getElem?_set_ne hj] at hc'
      exact (E.lnk j c' hc').mono (Ext.new h4)
theorem frz_ok (E : EnvOk K mg gs fx vs0 Hr Hf H σ ρ) (h : ROk K mg Hr Hf H σ ρ r v) (u : frz r ρ = some (d, ρ')) : ∃ Hf', Ext Hf Hf' ∧ EnvOk K mg gs fx vs0 Hr Hf' H σ ρ' ∧ Rep K mg Hf' d v := by
  cases r with
  | dd d' => cases u; exact ⟨Hf, Ext.refl _, E, h⟩
  | ow c =>
    obtain ⟨Hf', e, E', h'⟩ := ROk.fixed E h
    cases hc : c.dat with
    | none => simp only [frz, hc] at u; cases u
    | some d' =>
      simp only [frz, hc, Option.some.injEq, Prod.mk.injEq] at u
      obtain ⟨rfl, rfl⟩ := u
      rw [R.fix_some hc] at h'
      exact ⟨Hf', e, E', h'⟩
  | «at» i =>
    have h : σ[i]? = some (some v) := h
    cases hc : ρ[i]? with
    | none => simp only [frz, hc] at u; cases u
    | some c =>
      simp only [frz, hc] at u
      cases c with
      | no => cases u
      | val d' =>
        cases u
        have q := E.cel i _ hc
        rw [joinEq.mpr h] at q
        obtain ⟨v', h1, h2⟩ := q
        cases h1
        exact ⟨Hf, Ext.refl _, E, h2⟩
      | own xs => cases u; exact E.freezeAt h hc rfl rfl
      | ownD ks xs => cases u; exact E.freezeAt h hc rfl rfl
      | mac j p =>
        cases u
        obtain ⟨⟨v', b1, b2, h1, h2, _⟩, _⟩ := E.lnk i _ hc
        rw [joinEq.mpr h] at h1; cases h1
        exact ⟨Hf, Ext.refl _, E.forget h h2.obj, h2.obj⟩
      | al _ => cases u
      | pm p =>
        cases u
        obtain ⟨⟨v', h1, h2⟩, _⟩ := E.lnk i _ hc
        rw [joinEq.mpr h] at h1; cases h1
        exact ⟨Hf, Ext.refl _, E.forget h h2.obj, h2.obj⟩
  | nw p xs fs =>
    cases u
    obtain ⟨b1, b2, vs, ws, h1, _⟩ := h
    exact ⟨Hf, Ext.refl _, E, h1.obj⟩
/-- the value taken over -/
theorem tak_ok (E : EnvOk K mg gs fx vs0 Hr Hf H σ ρ) (h : ROk K mg Hr Hf H σ ρ r v) (u : tak r ρ = some (c, ρ')) :
    ∃ Hf', Ext Hf Hf' ∧ EnvOk K mg gs fx vs0 Hr Hf' H σ ρ' ∧ ((∃ d, c = .val d ∧ Rep K mg Hf' d v) ∨ (ρ' = ρ ∧ Hf' = Hf ∧ ROk K mg Hr Hf H σ ρ (.ow c) v)) := by
  cases r with
  | dd d' => cases u; exact ⟨Hf, Ext.refl _, E, .inl ⟨_, rfl, h⟩⟩
  | ow c' => cases u; exact ⟨Hf, Ext.refl _, E, .inr ⟨rfl, rfl, h⟩⟩
  | nw p xs fs =>
    cases u
    obtain ⟨b1, b2, vs, ws, h1, _⟩ := h
    exact ⟨Hf, Ext.refl _, E, .inl ⟨_, rfl, h1.obj⟩⟩
  | «at» i =>
    have k : ∃ d, c = .val d ∧ frz (.at i) ρ = some (d, ρ') := by
      cases hc : ρ[i]? with
      | none => simp only [tak, hc] at u; cases u
      | some c' =>
        simp only [tak, hc] at u
        simp only [frz, hc]
        cases c' with
        | no => cases u
        | val d' => cases u; exact ⟨_, rfl, rfl⟩
        | own xs => cases u; exact ⟨_, rfl, rfl⟩
        | ownD ks xs => cases u; exact ⟨_, rfl, rfl⟩
        | mac _ _ => cases u; exact ⟨_, rfl, rfl⟩
        | al _ => cases u
        | pm _ => cases u; exact ⟨_, rfl, rfl⟩
    obtain ⟨d, e, k⟩ := k
    obtain ⟨Hf', h1, h2, h3⟩ := frz_ok E h k
    exact ⟨Hf', h1, h2, .inl ⟨d, e, h3⟩⟩

theorem PostE.mono {t : ER} {Q : VK} (h : PostE K mg gs W fx vs0 Hr Hf σ t Q) (e : Ext Hf Hf') : PostE K mg gs W fx vs0 Hr Hf' σ t Q := by
  cases t with
  | ok r ρ => exact fun v F H' e' => h v F H' (e.trans e')
  | exc x ρ => exact fun C h1 F H' e' => h C h1 F H' (e.trans e')
  | bad => exact h
end

/-! ### one part, then another -/
/-- the part's value stays: at or dd -/
def mB (m : ME) (k : R → ME) : ME := fun ρ => match m ρ with
  | .ok r ρ1 => k r.fix ρ1
  | .exc x ρ1 => .exc x ρ1
  | .bad => .bad
def opt (o : Option R) (ρ : Env) : ER := match o with
  | some r => .ok r ρ
  | none => .bad
theorem SE.bind {K : PySem.W.Frag} {mg : Str → Option Value} {gs : List Nat} {W : WX} {ta : TE} {m : ME} (ha : SE K mg gs W ta m) {k : R → ME} {fx : List Bool} {vs0 : List V} {Hr Hf H : Hp} {σ : St} {ρ : Env} {Q : VK} {QA : VK}
    (E : EnvOk K mg gs fx vs0 Hr Hf H σ ρ) (h : PostE K mg gs W fx vs0 Hr Hf σ (mB m k ρ) Q)
    (hk : ∀ r ρ1 v Hf1 H1, Ext Hf Hf1 → EnvOk K mg gs fx vs0 Hr Hf1 H1 σ ρ1 → r.calm = true → (∀ Hr' Hf' H' ρ', Ext Hf1 Hf' → ROk K mg Hr' Hf' H' σ ρ' r v) → PostE K mg gs W fx vs0 Hr Hf1 σ (k r ρ1) Q → QA v H1) : ta σ H QA := by
  refine ha fx vs0 Hr Hf H σ ρ QA E ?_
  unfold mB at h
  cases hm : m ρ with
  | bad => rw [hm] at h; exact h
  | exc x ρ1 => rw [hm] at h; exact h
  | ok r ρ1 =>
    rw [hm] at h
    intro v F H1 e E1 q
    obtain ⟨F', e', E', q'⟩ := q.fixed E1
    refine hk r.fix ρ1 v F' H1 (e.trans e') E' q.fixCalm (fun Hr' Hf' H' ρ' e2 => q'.stay q.fixCalm e2) ?_
    exact PostE.mono h (e.trans e')

/-! ### operators on data -/
def m1 (f : D → Option R) (m : ME) : ME := mB m fun r ρ => match use r ρ with
  | some d => opt (f d) ρ
  | none => .bad
def m2 (f : D → D → Option R) (ma mb : ME) : ME := mB ma fun ra => mB mb fun rb ρ => match use ra ρ, use rb ρ with
  | some a, some b => opt (f a b) ρ
  | _, _ => .bad
/-- what the operator's reading gives -/
def OpS (K : PySem.W.Frag) (mg : Str → Option Value) (gs : List Nat) (r : R2) (f : D → D → Option R) : Prop :=
  ∀ fx vs0 Hr Hf H σ ρ a b x y z Q, EnvOk K mg gs fx vs0 Hr Hf H σ ρ → PRep K mg Hf H a x → PRep K mg Hf H b y → f a b = some z →
    (∀ v Hf' H', Ext Hf Hf' → EnvOk K mg gs fx vs0 Hr Hf' H' σ ρ → ROk K mg Hr Hf' H' σ ρ z v → Q v H') → r x y H Q
theorem SE.op2 {K : PySem.W.Frag} {mg : Str → Option Value} {gs : List Nat} {W : WX} {ta tb : TE} {ma mb : ME} {r : R2} {f : D → D → Option R} (ha : SE K mg gs W ta ma) (hb : SE K mg gs W tb mb) (ho : OpS K mg gs r f) : SE K mg gs W (tOp r ta tb) (m2 f ma mb) := by
  intro fx vs0 Hr Hf H σ ρ Q E h
  refine ha.bind E h fun ra ρ1 x F1 H1 e1 E1 c1 s1 h1 => ?_
  refine hb.bind E1 h1 fun rb ρ2 y F2 H2 e2 E2 c2 s2 h2 => ?_
  cases ua : use ra ρ2 with
  | none => simp only [ua] at h2; exact h2.elim
  | some a =>
    cases ub : use rb ρ2 with
    | none => simp only [ua, ub] at h2; exact h2.elim
    | some b =>
      simp only [ua, ub] at h2
      cases hf : f a b with
      | none => rw [hf] at h2; exact h2.elim
      | some z =>
        rw [hf] at h2
        exact ho fx vs0 Hr F2 H2 σ ρ2 a b x y z Q E2 (use_ok E2 (s1 Hr F2 H2 ρ2 e2) ua) (use_ok E2 (s2 Hr F2 H2 ρ2 (Ext.refl _)) ub) hf h2
section
variable {X : Cx} {W : WX} {a b : Expr} {ta tb : TE} {ma mb : ME} {pos : Pos}
theorem de_bin {op : Operator} {r : R2} {f : D → D → Option R} (hr : OpR X (binaryOp op) r) (hs : OpS X.K X.mg X.gs r f) (ha : DE X W a ta ma) (hb : DE X W b tb mb) : DE X W (.BinOp a op b pos) (tOp r ta tb) (m2 f ma mb) :=
  ⟨pe_op hr ha.pe hb.pe, ha.se.op2 hb.se hs⟩
theorem de_cmp {op : CmpOp} {r : R2} {f : D → D → Option R} (hr : OpR X (compareOp op) r) (hs : OpS X.K X.mg X.gs r f) (ha : DE X W a ta ma) (hb : DE X W b tb mb) (hm : behindInMarks op b = false) :
    DE X W (.Compare a [op] [b] pos) (tOp r ta tb) (m2 f ma mb) := ⟨pe_cmpR hr ha.pe hb.pe hm, ha.se.op2 hb.se hs⟩
theorem de_ix {r : R2} {f : D → D → Option R} (hr : IxR X r) (hs : OpS X.K X.mg X.gs r f) (ha : DE X W a ta ma) (hb : DE X W b tb mb) (hp : PlainIx b) : DE X W (.Subscript a b pos) (tOp r ta tb) (m2 f ma mb) :=
  ⟨pe_ix hr ha.pe hb.pe hp, ha.se.op2 hb.se hs⟩

/-! ### names and constants -/
def mVar (i : Nat) : ME := fun ρ => match ρ[i]? with
  | some .no => .bad
  | some _ => .ok (.at i) ρ
  | none => .bad
theorem CellOk.some {K : PySem.W.Frag} {mg : Str → Option Value} {gs : List Nat} {Hr Hf H : Hp} {σ : St} : ∀ {c : Cell} {o : Option V}, (c = .no → False) → CellOk K mg Hr Hf H c o → LnkC K mg gs Hf σ c o → ∃ v, o = some v
  | .no, _, h, _, _ => (h rfl).elim
  | .val _, _, _, ⟨v, h, _⟩, _ => ⟨v, h⟩
  | .own _, _, _, ⟨a, _, h, _⟩, _ => ⟨_, h⟩
  | .ownD _ _, _, _, ⟨a, _, h, _⟩, _ => ⟨_, h⟩
  | .mac _ _, _, _, _, ⟨⟨v, _, _, h, _⟩, _⟩ => ⟨v, h⟩
  | .al _, _, _, _, ⟨⟨v, h, _⟩, _⟩ => ⟨v, h⟩
  | .pm _, _, _, _, ⟨⟨v, h, _⟩, _⟩ => ⟨v, h⟩
theorem se_var {K : PySem.W.Frag} {mg : Str → Option Value} {gs : List Nat} {W : WX} {i : Nat} : SE K mg gs W (tVar i) (mVar i) := by
  intro fx vs0 Hr Hf H σ ρ Q E h
  unfold mVar at h
  cases hc : ρ[i]? with
  | none => rw [hc] at h; exact h.elim
  | some c =>
    rw [hc] at h
    have k : c ≠ .no → tVar i σ H Q := fun hn => by
      obtain ⟨v, e⟩ := (E.cel i c hc).some hn (E.lnk i c hc)
      have e := joinEq.mp e
      refine ⟨v, e, ?_⟩
      cases c with
      | no => exact (hn rfl).elim
      | _ => exact h v Hf H (Ext.refl _) E e
    cases c with
    | no => exact h.elim
    | _ => exact k (by intro z; cases z)
theorem de_var (i : Nat) {x : Str} {pos : Pos} (hN : X.N[i]? = some x := by rfl) (hv : Vis X.env.scope x := by first | exact Or.inl rfl | exact Or.inr (Or.inl rfl) | exact Or.inr (Or.inr rfl))
    (hd : (x == ("__debug__" : Str)) = false := by decide) (hcd : (x == ("__classdict__" : Str)) = false := by decide) : DE X W (.Name x pos) (tVar i) (mVar i) := ⟨pe_var hN hv hd hcd, se_var⟩
def mC (d : D) : ME := fun ρ => .ok (.dd d) ρ
theorem se_c {K : PySem.W.Frag} {mg : Str → Option Value} {gs : List Nat} {d : D} {v : V} (h : ∀ H, Rep K mg H d v) : SE K mg gs W (tC v) (mC d) := fun fx vs0 Hr Hf H σ ρ Q E q => q v Hf H (Ext.refl _) E (h _)
theorem de_int {i : Int} {j} : DE X W (.Constant (.int i) j pos) (tC (.int i)) (mC (.int i)) := ⟨pe_int, se_c fun _ => rfl⟩
theorem de_str {x : Str} {j} : DE X W (.Constant (.str x) j pos) (tC (.str x)) (mC (.str x)) := ⟨pe_str, se_c fun _ => rfl⟩
theorem de_bl {b : Bool} {j} : DE X W (.Constant (.bool b) j pos) (tC (.bl b)) (mC (.bl b)) := ⟨pe_bl, se_c fun _ => rfl⟩
theorem de_non {j} : DE X W (.Constant .none j pos) (tC .non) (mC .non) := ⟨pe_non, se_c fun _ => rfl⟩
end
/-! ### tests -/
inductive TR where
  | ok (b : Bool) (ρ : Env) | exc (x : Str) (ρ : Env) | bad
abbrev MT := Env → TR
section
variable (K : PySem.W.Frag) (mg : Str → Option Value) (gs : List Nat)
def PostT (W : WX) (fx : List Bool) (vs0 : List V) (Hr Hf : Hp) (σ : St) (r : TR) (Q : Bool → Hp → Prop) : Prop :=
  match r with
  | .ok b ρ => ∀ Hf' H', Ext Hf Hf' → EnvOk K mg gs fx vs0 Hr Hf' H' σ ρ → Q b H'
  | .exc x ρ => ∀ C, mg x = some (.ref C) → ∀ Hf' H', Ext Hf Hf' → EnvOk K mg gs fx vs0 Hr Hf' H' σ ρ → W (.ref C) none σ H'
  | .bad => False
def ST (W : WX) (t : TT) (m : MT) : Prop := ∀ fx vs0 Hr Hf H σ ρ Q, EnvOk K mg gs fx vs0 Hr Hf H σ ρ → PostT K mg gs W fx vs0 Hr Hf σ (m ρ) Q → t σ H Q
end
structure DT (X : Cx) (W : WX) (e : Expr) (t : TT) (m : MT) : Prop where
  pt : PT X e t
  st : ST X.K X.mg X.gs W t m
/-- whatever its whole is -/
structure DW (X : Cx) (W : WX) (e : Expr) (t : TT) (m : MT) : Prop where
  pw : PW X e t
  st : ST X.K X.mg X.gs W t m
theorem DW.dt {X : Cx} {W : WX} {e : Expr} {t : TT} {m : MT} (h : DW X W e t m) : DT X W e t m := ⟨h.pw.pt, h.st⟩

def D.tru : D → Option Bool
  | .non => some false
  | .bl b => some b
  | .int i => some (i != 0)
  | .str s => if s.length ≤ sizeLine then some ((s.length : Int) != 0) else none
  | .lst xs => some !xs.isEmpty
  | .fls xs => some !xs.isEmpty
  | .tup xs => some !xs.isEmpty
  | .dct ks _ => some !ks.isEmpty
  | _ => none
def D.bool : D → Option Bool
  | .bl b => some b
  | _ => none
def mTest (f : D → Option Bool) (m : ME) : MT := fun ρ => match m ρ with
  | .ok r ρ1 => match use r.fix ρ1 with
    | some d => match f d with
      | some b => .ok b ρ1
      | none => .bad
    | none => .bad
  | .exc x ρ1 => .exc x ρ1
  | .bad => .bad
section
variable {K : PySem.W.Frag} {mg : Str → Option Value} {gs : List Nat} {W : WX} {fx : List Bool} {vs0 : List V} {Hr Hf Hf' H H' : Hp} {σ : St} {ρ ρ' : Env} {v : V} {d : D}
theorem PostT.mono {t : TR} {Q : Bool → Hp → Prop} (h : PostT K mg gs W fx vs0 Hr Hf σ t Q) (e : Ext Hf Hf') : PostT K mg gs W fx vs0 Hr Hf' σ t Q := by
  cases t with
  | ok r ρ => exact fun F H' e' => h F H' (e.trans e')
  | exc x ρ => exact fun C h1 F H' e' => h C h1 F H' (e.trans e')
  | bad => exact h
theorem SE.test {te : TE} {m : ME} {f : D → Option Bool} (he : SE K mg gs W te m) {Q : Bool → Hp → Prop} {QA : VK} (E : EnvOk K mg gs fx vs0 Hr Hf H σ ρ) (h : PostT K mg gs W fx vs0 Hr Hf σ (mTest f m ρ) Q)
    (hk : ∀ d b v Hf1 H1 ρ1, Ext Hf Hf1 → EnvOk K mg gs fx vs0 Hr Hf1 H1 σ ρ1 → PRep K mg Hf1 H1 d v → f d = some b → Q b H1 → QA v H1) : te σ H QA := by
  refine he fx vs0 Hr Hf H σ ρ QA E ?_
  unfold mTest at h
  cases hm : m ρ with
  | bad => rw [hm] at h; exact h
  | exc x ρ1 => rw [hm] at h; exact h
  | ok r ρ1 =>
    rw [hm] at h
    intro v F H1 e E1 q
    obtain ⟨F', e', E', q'⟩ := q.fixed E1
    cases hu : use r.fix ρ1 with
    | none => simp only [hu] at h; exact h.elim
    | some d =>
      cases hf : f d with
      | none => simp only [hu, hf] at h; exact h.elim
      | some b =>
        simp only [hu, hf] at h
        exact hk d b v F' H1 ρ1 (e.trans e') E' (use_ok E' q' hu) hf (h F' H1 (e.trans e') E')
theorem PRep.tru {b : Bool} (h : PRep K mg Hf H d v) (S : Ext Hf H) (e : d.tru = some b) : TruV K v H b := by
  cases d with
  | non => cases (show v = .non from h); cases e; exact rfl
  | bl x => cases (show v = .bl x from h); cases e; exact rfl
  | int i => cases (show v = .int i from h); cases e; exact rfl
  | str s =>
    cases (show v = .str s from h)
    have e : (if s.length ≤ sizeLine then some ((s.length : Int) != 0) else none) = some b := e
    by_cases hs : s.length ≤ sizeLine
    · rw [if_pos hs] at e; cases e; exact ⟨hs, rfl⟩
    · rw [if_neg hs] at e; cases e
  | ty n => cases e
  | fn n => cases e
  | fdct _ _ => cases e
  | obj => cases e
  | lst xs =>
    obtain ⟨a, vs, rfl, h2, h3⟩ := h
    cases e
    refine .inl ⟨vs, .of h2, ?_⟩
    have := h3.length
    cases xs <;> cases vs <;> simp_all
  | fls xs =>
    obtain ⟨a, vs, rfl, h2, h3⟩ := h
    cases e
    refine .inl ⟨vs, S.sql h2, ?_⟩
    have := h3.length
    cases xs <;> cases vs <;> simp_all
  | tup xs =>
    obtain ⟨a, vs, rfl, h2, h3⟩ := h
    cases e
    refine .inr (.inl ⟨vs, S.sqt h2, ?_⟩)
    have := h3.length
    cases xs <;> cases vs <;> simp_all
  | dct ks xs =>
    obtain ⟨a, kvs, rfl, h2, h3, h4⟩ := h
    cases e
    refine .inr (.inr ⟨kvs, h2, ?_⟩)
    subst h3
    cases kvs <;> simp
theorem PRep.bool {b : Bool} (h : PRep K mg Hf H d v) (e : d.bool = some b) : v = .bl b := by
  cases d with
  | bl x => cases e; exact h
  | _ => cases e
end
section
variable {X : Cx} {W : WX} {a b : Expr} {rest : List Expr} {ta tb te : TE} {ma mb m : ME} {pos : Pos} {tA tB' : TT} {mA mB' : MT}
theorem dt_truth (h : DE X W a te m) (he : ∀ whole, isTrue a X.env whole = (do let v ← whole; standAt a.pos; holding [v] (truthy v)) := by intro _; rfl) :
    DT X W a (fun σ H Q => te σ H fun x H' => ∃ k, TruV X.K x H' k ∧ Q k H') (mTest D.tru m) :=
  ⟨pt_truth h.pe he, fun fx vs0 Hr Hf H σ ρ Q E p => h.se.test E p fun d b v Hf1 H1 ρ1 _ E1 q e k => ⟨b, q.tru E1.sub e, k⟩⟩
theorem dt_cmp {op : CmpOp} {r : R2} {f : D → D → Option R} (hr : OpR X (compareOp op) r) (hs : OpS X.K X.mg X.gs r f) (ha : DE X W a ta ma) (hb : DE X W b tb mb) (hm : behindInMarks op b = false) :
    DT X W (.Compare a [op] [b] pos) (tTest (tOp r ta tb)) (mTest D.bool (m2 f ma mb)) :=
  ⟨pt_cmpR hr ha.pe hb.pe hm, fun fx vs0 Hr Hf H σ ρ Q E p => (ha.se.op2 hb.se hs).test E p fun d b v Hf1 H1 ρ1 _ E1 q e k => ⟨b, q.bool e, k⟩⟩
/-- a comparison's test by its value's rule -/
theorem dt_cmpC {op : CmpOp} {t : TE} (hp : PC X op a b t) (hs : SE X.K X.mg X.gs W t m) (h1 : behindInMarks op b = false) : DT X W (.Compare a [op] [b] pos) (tB t) (mTest D.bool m) :=
  ⟨pt_cmp hp h1, fun fx vs0 Hr Hf H σ ρ Q E p => hs.test E p fun d b v Hf1 H1 ρ1 _ E1 q e k => ⟨b, q.bool e, k⟩⟩
def tmNot (m : MT) : MT := fun ρ => match m ρ with
  | .ok b ρ1 => .ok (!b) ρ1
  | r => r
def tmAnd (m k : MT) : MT := fun ρ => match m ρ with
  | .ok true ρ1 => k ρ1
  | r => r
def tmOr (m k : MT) : MT := fun ρ => match m ρ with
  | .ok false ρ1 => k ρ1
  | r => r
theorem ST.next {K : PySem.W.Frag} {mg : Str → Option Value} {gs : List Nat} {t : TT} {m : MT} (ht : ST K mg gs W t m) {fx : List Bool} {vs0 : List V} {Hr Hf H : Hp} {σ : St} {ρ : Env} {Q : Bool → Hp → Prop} (E : EnvOk K mg gs fx vs0 Hr Hf H σ ρ)
    (h : match m ρ with
      | .ok b ρ1 => ∀ Hf1 H1, Ext Hf Hf1 → EnvOk K mg gs fx vs0 Hr Hf1 H1 σ ρ1 → Q b H1
      | r => PostT K mg gs W fx vs0 Hr Hf σ r Q) : t σ H Q := by
  refine ht fx vs0 Hr Hf H σ ρ Q E ?_
  cases hm : m ρ <;> rw [hm] at h <;> exact h
theorem dt_not (h : DT X W a tA mA) : DT X W (.UnaryOp .Not a pos) (tNot tA) (tmNot mA) := by
  refine ⟨pt_not h.pt, fun fx vs0 Hr Hf H σ ρ Q E p => h.st.next E ?_⟩
  unfold tmNot at p
  cases hm : mA ρ <;> rw [hm] at p <;> exact p
theorem dw_and1 (h : DT X W a tA mA) : DW X W (.BoolOp .And [a] pos) tA mA := ⟨pw_and1 h.pt, h.st⟩
theorem dw_or1 (h : DT X W a tA mA) : DW X W (.BoolOp .Or [a] pos) tA mA := ⟨pw_or1 h.pt, h.st⟩
theorem dw_and (h : DT X W a tA mA) (k : DW X W (.BoolOp .And (b :: rest) pos) tB' mB') : DW X W (.BoolOp .And (a :: b :: rest) pos) (tAnd tA tB') (tmAnd mA mB') := by
  refine ⟨pw_and h.pt k.pw, fun fx vs0 Hr Hf H σ ρ Q E p => h.st.next E ?_⟩
  unfold tmAnd at p
  cases hm : mA ρ with
  | bad => rw [hm] at p; exact p
  | exc x ρ1 => rw [hm] at p; exact p
  | ok c ρ1 =>
    rw [hm] at p
    intro F H1 e E1
    cases c with
    | true => exact k.st fx vs0 Hr F H1 σ ρ1 Q E1 (PostT.mono p e)
    | false => exact p F H1 e E1
theorem dw_or (h : DT X W a tA mA) (k : DW X W (.BoolOp .Or (b :: rest) pos) tB' mB') : DW X W (.BoolOp .Or (a :: b :: rest) pos) (tOr tA tB') (tmOr mA mB') := by
  refine ⟨pw_or h.pt k.pw, fun fx vs0 Hr Hf H σ ρ Q E p => h.st.next E ?_⟩
  unfold tmOr at p
  cases hm : mA ρ with
  | bad => rw [hm] at p; exact p
  | exc x ρ1 => rw [hm] at p; exact p
  | ok c ρ1 =>
    rw [hm] at p
    intro F H1 e E1
    cases c with
    | true => exact p F H1 e E1
    | false => exact k.st fx vs0 Hr F H1 σ ρ1 Q E1 (PostT.mono p e)
/-- a if t else b -/
def mIf (c : MT) (ma mb : ME) : ME := fun ρ => match c ρ with
  | .ok true ρ1 => ma ρ1
  | .ok false ρ1 => mb ρ1
  | .exc x ρ1 => .exc x ρ1
  | .bad => .bad
theorem de_if {c : Expr} (hc : DT X W c tA mA) (ha : DE X W a ta ma) (hb : DE X W b tb mb) : DE X W (.IfExp c a b pos) (tIf tA ta tb) (mIf mA ma mb) := by
  refine ⟨pe_ifExp hc.pt ha.pe hb.pe, fun fx vs0 Hr Hf H σ ρ Q E p => ?_⟩
  refine hc.st fx vs0 Hr Hf H σ ρ (fun c H1 => if c = true then ta σ H1 Q else tb σ H1 Q) E ?_
  unfold mIf at p
  cases hm : mA ρ with
  | bad => rw [hm] at p; exact p
  | exc x ρ1 => rw [hm] at p; exact p
  | ok c ρ1 =>
    rw [hm] at p
    intro F H1 e E1
    cases c with
    | true => exact ha.se fx vs0 Hr F H1 σ ρ1 Q E1 (PostE.mono p e)
    | false => exact hb.se fx vs0 Hr F H1 σ ρ1 Q E1 (PostE.mono p e)
/-- and, or, not of bools as values -/
def mAndV (ma mb : ME) : ME := fun ρ => match mTest D.bool ma ρ with
  | .ok true ρ1 => mb ρ1
  | .ok false ρ1 => .ok (.dd (.bl false)) ρ1
  | .exc x ρ1 => .exc x ρ1
  | .bad => .bad
def mOrV (ma mb : ME) : ME := fun ρ => match mTest D.bool ma ρ with
  | .ok true ρ1 => .ok (.dd (.bl true)) ρ1
  | .ok false ρ1 => mb ρ1
  | .exc x ρ1 => .exc x ρ1
  | .bad => .bad
def mNotV (ma : ME) : ME := fun ρ => match mTest D.bool ma ρ with
  | .ok b ρ1 => .ok (.dd (.bl !b)) ρ1
  | .exc x ρ1 => .exc x ρ1
  | .bad => .bad
theorem SE.testV {K : PySem.W.Frag} {mg : Str → Option Value} {gs : List Nat} (ha : SE K mg gs W ta ma) {fx : List Bool} {vs0 : List V} {Hr Hf H : Hp} {σ : St} {ρ : Env} {QA : VK} (E : EnvOk K mg gs fx vs0 Hr Hf H σ ρ)
    (h : match mTest D.bool ma ρ with
      | .ok b ρ1 => ∀ Hf1 H1, Ext Hf Hf1 → EnvOk K mg gs fx vs0 Hr Hf1 H1 σ ρ1 → QA (.bl b) H1
      | .exc x ρ1 => PostT K mg gs W fx vs0 Hr Hf σ (.exc x ρ1) fun _ _ => False
      | .bad => False) : ta σ H QA := by
  refine ha.test (f := D.bool) (Q := fun b H1 => QA (.bl b) H1) E ?_ fun d b v Hf1 H1 ρ1 _ E1 q e k => ?_
  · cases hm : mTest D.bool ma ρ <;> rw [hm] at h <;> exact h
  · cases q.bool e; exact k
theorem de_one {op} (h : DE X W a ta ma) : DE X W (.BoolOp op [a] pos) ta ma := ⟨pe_one h.pe, h.se⟩
theorem de_and (ha : DE X W a ta ma) (hb : DE X W (.BoolOp .And (b :: rest) pos) tb mb) : DE X W (.BoolOp .And (a :: b :: rest) pos) (tAndV ta tb) (mAndV ma mb) := by
  refine ⟨pe_and ha.pe hb.pe, fun fx vs0 Hr Hf H σ ρ Q E p => ha.se.testV E ?_⟩
  unfold mAndV at p
  cases hm : mTest D.bool ma ρ with
  | bad => rw [hm] at p; exact p
  | exc x ρ1 => rw [hm] at p; exact p
  | ok c ρ1 =>
    rw [hm] at p
    intro F H1 e E1
    cases c with
    | true => exact ⟨true, rfl, hb.se fx vs0 Hr F H1 σ ρ1 Q E1 (PostE.mono p e)⟩
    | false => exact ⟨false, rfl, p _ F H1 e E1 rfl⟩
theorem de_or (ha : DE X W a ta ma) (hb : DE X W (.BoolOp .Or (b :: rest) pos) tb mb) : DE X W (.BoolOp .Or (a :: b :: rest) pos) (tOrV ta tb) (mOrV ma mb) := by
  refine ⟨pe_or ha.pe hb.pe, fun fx vs0 Hr Hf H σ ρ Q E p => ha.se.testV E ?_⟩
  unfold mOrV at p
  cases hm : mTest D.bool ma ρ with
  | bad => rw [hm] at p; exact p
  | exc x ρ1 => rw [hm] at p; exact p
  | ok c ρ1 =>
    rw [hm] at p
    intro F H1 e E1
    cases c with
    | true => exact ⟨true, rfl, p _ F H1 e E1 rfl⟩
    | false => exact ⟨false, rfl, hb.se fx vs0 Hr F H1 σ ρ1 Q E1 (PostE.mono p e)⟩
theorem de_not (ha : DE X W a ta ma) : DE X W (.UnaryOp .Not a pos) (tNotV ta) (mNotV ma) := by
  refine ⟨pe_not ha.pe, fun fx vs0 Hr Hf H σ ρ Q E p => ha.se.testV E ?_⟩
  unfold mNotV at p
  cases hm : mTest D.bool ma ρ with
  | bad => rw [hm] at p; exact p
  | exc x ρ1 => rw [hm] at p; exact p
  | ok c ρ1 =>
    rw [hm] at p
    intro F H1 e E1
    exact ⟨c, rfl, p _ F H1 e E1 rfl⟩
end

/-! ### statements -/
inductive SR where
  | nx (ρ : Env) | ret (r : R) (ρ : Env) | exc (x : Str) (ρ : Env) | bk (ρ : Env) | ct (ρ : Env) | bad
abbrev MS := Env → SR
section
variable (K : PySem.W.Frag) (mg : Str → Option Value) (gs : List Nat)
def PostS (W : WX) (fx : List Bool) (vs0 : List V) (Hr Hf : Hp) (r : SR) (D : Ends) : Prop :=
  match r with
  | .nx ρ => ∀ σ Hf' H', Ext Hf Hf' → EnvOk K mg gs fx vs0 Hr Hf' H' σ ρ → D.nx σ H'
  | .ret r ρ => ∀ v σ Hf' H', Ext Hf Hf' → EnvOk K mg gs fx vs0 Hr Hf' H' σ ρ → ROk K mg Hr Hf' H' σ ρ r v → D.rt v H'
  | .exc x ρ => ∀ C, mg x = some (.ref C) → ∀ σ Hf' H', Ext Hf Hf' → EnvOk K mg gs fx vs0 Hr Hf' H' σ ρ → W (.ref C) none σ H'
  | .bk ρ => ∀ σ Hf' H', Ext Hf Hf' → EnvOk K mg gs fx vs0 Hr Hf' H' σ ρ → D.bk σ H'
  | .ct ρ => ∀ σ Hf' H', Ext Hf Hf' → EnvOk K mg gs fx vs0 Hr Hf' H' σ ρ → D.ct σ H'
  | .bad => False
def SS (W : WX) (fx : List Bool) (t : TS) (m : MS) : Prop := ∀ vs0 Hr Hf H σ ρ D, EnvOk K mg gs fx vs0 Hr Hf H σ ρ → PostS K mg gs W fx vs0 Hr Hf (m ρ) D → t D σ H
end
structure DS (X : Cx) (W : WX) (fx : List Bool) (st : Stmt) (t : TS) (m : MS) : Prop where
  ps : PS X st t
  ss : SS X.K X.mg X.gs W fx t m
structure DSs (X : Cx) (W : WX) (fx : List Bool) (st : List Stmt) (t : TS) (m : MS) : Prop where
  ps : PSs X st t
  ss : SS X.K X.mg X.gs W fx t m
section
variable {K : PySem.W.Frag} {mg : Str → Option Value} {gs : List Nat} {W : WX} {fx : List Bool} {vs0 : List V} {Hr Hf Hf' H H' : Hp} {σ : St} {ρ ρ' : Env} {v : V} {d : D}
theorem PostS.mono {t : SR} {D : Ends} (h : PostS K mg gs W fx vs0 Hr Hf t D) (e : Ext Hf Hf') : PostS K mg gs W fx vs0 Hr Hf' t D := by
  cases t with
  | nx ρ => exact fun s F H' e' => h s F H' (e.trans e')
  | bk ρ => exact fun s F H' e' => h s F H' (e.trans e')
  | ct ρ => exact fun s F H' e' => h s F H' (e.trans e')
  | ret r ρ => exact fun v s F H' e' => h v s F H' (e.trans e')
  | exc x ρ => exact fun C h1 s F H' e' => h C h1 s F H' (e.trans e')
  | bad => exact h
/-- a slot is stored -/
theorem EnvOk.store {i : Nat} {c : Cell} (E : EnvOk K mg gs fx vs0 Hr Hf H σ ρ) (hi : fx[i]? ≠ some true) (hg : i ∉ gs ∨ σ[i]? = some (some v)) (hc : (∃ d, c = .val d ∧ Rep K mg Hf d v) ∨ c = .no ∨ ROk K mg Hr Hf H σ ρ (.ow c) v) :
    EnvOk K mg gs fx vs0 Hr Hf H (σ.set i (some v)) (ρ.set i c) := by
  have old : ∀ {j : Nat} {a : Addr}, j ≠ i → OwnAt (σ.set i (some v)) (ρ.set i c) j a → OwnAt σ ρ j a := fun {j a} hj ⟨⟨c', h1, h2⟩, h3⟩ => by
    rw [List.getElem?_set_ne (Ne.symm hj)] at h1 h3
    exact ⟨⟨c', h1, h2⟩, h3⟩
  have new : ∀ {a : Addr}, OwnAt (σ.set i (some v)) (ρ.set i c) i a → isOwn c = true ∧ v = .ref a := fun {a} ⟨⟨c', h1, h2⟩, h3⟩ => by
    have l1 : i < ρ.length := by
      by_cases hl : i < ρ.length
      · exact hl
      · rw [List.getElem?_eq_none (by simp; omega)] at h1; cases h1
    have l2 : i < σ.length := by rw [E.len]; exact l1
    rw [List.getElem?_set_self l1] at h1
    rw [List.getElem?_set_self l2] at h3
    cases h1; cases h3
    exact ⟨h2, rfl⟩
  have fresh : ∀ {a : Addr} {j : Nat}, isOwn c = true → v = .ref a → ¬ OwnAt σ ρ j a := fun {a j} ho hv => by
    rcases hc with ⟨d, rfl, _⟩ | rfl | ⟨b, u, hb, h2, h3, h4, h5, h6⟩
    · cases ho
    · cases ho
    · rw [hv] at hb; cases hb; exact h6 j
  refine ⟨by simp [E.len], E.sub, E.frm, E.dis, fun j c' hc' => ?_, fun j k a p q => ?_, fun j hj => ?_, fun j c' hc' => ?_⟩
  · by_cases hj : j = i
    · subst hj
      have l1 : j < ρ.length := by
        by_cases hl : j < ρ.length
        · exact hl
        · rw [List.getElem?_eq_none (by simp; omega)] at hc'; cases hc'
      have l2 : j < σ.length := by rw [E.len]; exact l1
      rw [List.getElem?_set_self l1] at hc'
      cases hc'
      rw [List.getElem?_set_self l2]
      rcases hc with ⟨d, rfl, h⟩ | rfl | ⟨b, u, hb, h2, h3, h4, h5, h6⟩
      · exact ⟨v, rfl, h⟩
      · trivial
      · exact .ofOwn h3.isOwn ⟨b, u, by rw [hb]; rfl, h2, h3, h4, h5⟩
    · rw [List.getElem?_set_ne (Ne.symm hj)] at hc' ⊢
      exact E.cel j c' hc'
  · by_cases hj : j = i
    · by_cases hk : k = i
      · rw [hj, hk]
      · subst hj
        obtain ⟨n1, n2⟩ := new p
        exact absurd (old hk q) (fresh n1 n2)
    · by_cases hk : k = i
      · subst hk
        obtain ⟨n1, n2⟩ := new q
        exact absurd (old hj p) (fresh n1 n2)
      · exact E.inj j k a (old hj p) (old hk q)
  · have : i ≠ j := fun z => by rw [z] at hi; exact hi hj
    rw [List.getElem?_set_ne this]
    exact E.fix j hj
  · by_cases hj : j = i
    · subst hj
      have l1 : j < ρ.length := by
        by_cases hl : j < ρ.length
        · exact hl
        · rw [List.getElem?_eq_none (by simp; omega)] at hc'; cases hc'
      rw [List.getElem?_set_self l1] at hc'
      cases hc'
      rcases hc with ⟨d, rfl, h⟩ | rfl | ⟨b, u, hb, h2, h3, h4, h5, h6⟩
      · trivial
      · trivial
      · exact .ownF h3.isOwn
    · rw [List.getElem?_set_ne (Ne.symm hj)] at hc' ⊢
      refine (E.lnk j c' hc').step (Ext.refl _) fun k hk => ⟨hk, ?_⟩
      by_cases this : i = k
      · subst this
        rcases hg with hg | hg
        · exact (hg hk).elim
        · obtain ⟨hl, hz⟩ := List.getElem?_eq_some_iff.mp hg
          rw [List.getElem?_set_self hl, hg]
      · rw [List.getElem?_set_ne this]
end
section
variable {X : Cx} {W : WX} {fx : List Bool} {st : Stmt} {rest : List Stmt} {t u : TS} {m k : MS} {e : Expr} {te : TE} {me : ME} {pos : Pos} {tc : TT} {mc : MT}
def mNx : MS := fun ρ => .nx ρ
def mSeq (m k : MS) : MS := fun ρ => match m ρ with
  | .nx ρ1 => k ρ1
  | r => r
theorem SS.seq {K : PySem.W.Frag} {mg : Str → Option Value} {gs : List Nat} (h1 : SS K mg gs W fx t m) (h2 : SS K mg gs W fx u k) : SS K mg gs W fx (tSeq t u) (mSeq m k) := by
  intro vs0 Hr Hf H σ ρ D E p
  refine h1 vs0 Hr Hf H σ ρ _ E ?_
  unfold mSeq at p
  cases hm : m ρ with
  | nx ρ1 =>
    rw [hm] at p
    exact fun σ1 F H1 e E1 => h2 vs0 Hr F H1 σ1 ρ1 D E1 (PostS.mono p e)
  | _ => rw [hm] at p; exact p
theorem dss_nil : DSs X W fx [] tNext mNx := ⟨pss_nil, fun vs0 Hr Hf H σ ρ D E p => p σ Hf H (Ext.refl _) E⟩
theorem dss_cons (h1 : DS X W fx st t m) (h2 : DSs X W fx rest u k) : DSs X W fx (st :: rest) (tSeq t u) (mSeq m k) := ⟨pss_cons h1.ps h2.ps, h1.ss.seq h2.ss⟩
theorem dss_one (h1 : DS X W fx st t m) : DSs X W fx [st] t m := ⟨pss_one h1.ps, h1.ss⟩
theorem ds_pass : DS X W fx (.Pass pos) tNext mNx := ⟨ps_pass, fun vs0 Hr Hf H σ ρ D E p => p σ Hf H (Ext.refl _) E⟩
def mBk : MS := fun ρ => .bk ρ
def mCt : MS := fun ρ => .ct ρ
theorem ds_break : DS X W fx (.Break pos) tBreak mBk := ⟨ps_break, fun vs0 Hr Hf H σ ρ D E p => p σ Hf H (Ext.refl _) E⟩
theorem ds_continue : DS X W fx (.Continue pos) tCont mCt := ⟨ps_continue, fun vs0 Hr Hf H σ ρ D E p => p σ Hf H (Ext.refl _) E⟩
def mExpr (m : ME) : MS := fun ρ => match m ρ with
  | .ok _ ρ1 => .nx ρ1
  | .exc x ρ1 => .exc x ρ1
  | .bad => .bad
theorem ds_expr (h : DE X W e te me) (hs : swapsWith e none pos.line X.env = pure false := by rfl) : DS X W fx (.Expr e pos) (tDrop te) (mExpr me) := by
  refine ⟨ps_expr h.pe hs, fun vs0 Hr Hf H σ ρ D E p => h.se fx vs0 Hr Hf H σ ρ _ E ?_⟩
  unfold mExpr at p
  cases hm : me ρ with
  | bad => rw [hm] at p; exact p
  | exc x ρ1 => rw [hm] at p; exact fun C h1 F H' e E' => p C h1 σ F H' e E'
  | ok r ρ1 => rw [hm] at p; exact fun v F H' e E' _ => p σ F H' e E'
/-- return e: an owned local is handed over frozen -/
def mRet (m : ME) : MS := fun ρ => match m ρ with
  | .ok (.ow c) ρ1 => .ret (.ow c) ρ1
  | .ok (.nw p xs fs) ρ1 => .ret (.nw p xs fs) ρ1
  | .ok r ρ1 => match frz r ρ1 with
    | some (d, ρ2) => .ret (.dd d) ρ2
    | none => .bad
  | .exc x ρ1 => .exc x ρ1
  | .bad => .bad
theorem ds_ret (h : DE X W e te me) : DS X W fx (.Return (some e) pos) (tRet te) (mRet me) := by
  refine ⟨ps_ret h.pe, fun vs0 Hr Hf H σ ρ D E p => h.se fx vs0 Hr Hf H σ ρ _ E ?_⟩
  unfold mRet at p
  cases hm : me ρ with
  | bad => rw [hm] at p; exact p
  | exc x ρ1 => rw [hm] at p; exact fun C h1 F H' e E' => p C h1 σ F H' e E'
  | ok r ρ1 =>
    rw [hm] at p
    have key : (∀ d ρ2, frz r ρ1 = some (d, ρ2) → PostS X.K X.mg X.gs W fx vs0 Hr Hf (.ret (.dd d) ρ2) D) → (∃ x, frz r ρ1 = some x) → PostE X.K X.mg X.gs W fx vs0 Hr Hf σ (.ok r ρ1) D.rt := fun k1 k2 => by
      obtain ⟨⟨d, ρ2⟩, k2⟩ := k2
      intro v F H' e E' q
      obtain ⟨F', e', E2, q'⟩ := frz_ok E' q k2
      exact k1 d ρ2 k2 v σ F' H' (e.trans e') E2 q'
    cases r with
    | ow c => exact fun v F H' e E' q => p v σ F H' e E' q
    | «at» i =>
      cases hz : frz (.at i) ρ1 with
      | none => simp only [hz] at p; exact p.elim
      | some x => simp only [hz] at p; exact key (fun d ρ2 k => by rw [hz] at k; cases k; exact p) ⟨x, hz⟩
    | dd d =>
      cases hz : frz (.dd d) ρ1 with
      | none => simp only [hz] at p; exact p.elim
      | some x => simp only [hz] at p; exact key (fun d ρ2 k => by rw [hz] at k; cases k; exact p) ⟨x, hz⟩
    | nw a b c => exact fun v F H' e E' q => p v σ F H' e E' q
/-- return x of an owned local name that is no parameter: it is handed over -/
def mRetV (i : Nat) : MS := fun ρ => match ρ[i]? with
  | some (.val d) => .ret (.dd d) ρ
  | some .no => .bad
  | some (.mac _ _) => .bad
  | some (.al _) => .bad
  | some (.pm _) => .bad
  | some c => .ret (.ow c) (ρ.set i .no)
  | none => .bad
theorem ds_retV (i : Nat) (h : DE X W e (tVar i) (mVar i)) : DS X W fx (.Return (some e) pos) (tRet (tVar i)) (mRetV i) := by
  refine ⟨ps_ret h.pe, fun vs0 Hr Hf H σ ρ D E p => ?_⟩
  unfold mRetV at p
  cases hc : ρ[i]? with
  | none => rw [hc] at p; exact p.elim
  | some c =>
    rw [hc] at p
    have own : isOwn c = true → PostS X.K X.mg X.gs W fx vs0 Hr Hf (.ret (.ow c) (ρ.set i .no)) D → tRet (tVar i) D σ H := fun ho p => by
      obtain ⟨a, o, h1, h2, h3, h4, h5⟩ := (E.cel i c hc).own ho
      have h1 := joinEq.mp h1
      have hi : i < ρ.length := (List.getElem?_eq_some_iff.mp hc).1
      have own' : ∀ {j : Nat} {b : Addr}, OwnAt σ (ρ.set i .no) j b → OwnAt σ ρ j b ∧ j ≠ i := fun {j b} ⟨⟨c', hc', ho'⟩, hs'⟩ => by
        by_cases hj : i = j
        · subst hj; rw [List.getElem?_set_self hi] at hc'; cases hc'; cases ho'
        · rw [List.getElem?_set_ne hj] at hc'
          exact ⟨⟨⟨c', hc', ho'⟩, hs'⟩, fun z => hj z.symm⟩
      refine ⟨_, h1, p _ σ Hf H (Ext.refl _) ⟨by rw [List.length_set]; exact E.len, E.sub, E.frm, E.dis, fun j c' hc' => ?_, fun j k b p q => E.inj j k b (own' p).1 (own' q).1, E.fix, fun j c' hc' => ?_⟩ ⟨a, o, rfl, h2, h3, h4, h5, fun j q => ?_⟩⟩
      · by_cases hj : i = j
        · subst hj; rw [List.getElem?_set_self hi] at hc'; cases hc'; trivial
        · rw [List.getElem?_set_ne hj] at hc'; exact E.cel j c' hc'
      · by_cases hj : i = j
        · subst hj; rw [List.getElem?_set_self hi] at hc'; cases hc'; trivial
        · rw [List.getElem?_set_ne hj] at hc'; exact E.lnk j c' hc'
      · obtain ⟨q1, q2⟩ := own' q
        exact q2 (E.inj j i a q1 ⟨⟨c, hc, ho⟩, h1⟩)
    cases c with
    | no => exact p.elim
    | val d =>
      obtain ⟨v, h1, h2⟩ := E.cel i _ hc
      exact ⟨v, joinEq.mp h1, p v σ Hf H (Ext.refl _) E h2⟩
    | own xs => exact own rfl p
    | ownD ks vs => exact own rfl p
    | mac _ _ => exact p.elim
    | al _ => exact p.elim
    | pm _ => exact p.elim
def mRetN : MS := fun ρ => .ret (.dd .non) ρ
theorem ds_retN : DS X W fx (.Return none pos) tRetN mRetN := ⟨ps_retN, fun vs0 Hr Hf H σ ρ D E p => p .non σ Hf H (Ext.refl _) E rfl⟩
def mIfS (c : MT) (m k : MS) : MS := fun ρ => match c ρ with
  | .ok true ρ1 => m ρ1
  | .ok false ρ1 => k ρ1
  | .exc x ρ1 => .exc x ρ1
  | .bad => .bad
theorem ds_if {c : Expr} {a b : List Stmt} (hc : DT X W c tc mc) (ha : DSs X W fx a t m) (hb : DSs X W fx b u k) : DS X W fx (.If c a b pos) (tIfS tc t u) (mIfS mc m k) := by
  refine ⟨ps_if hc.pt ha.ps hb.ps, fun vs0 Hr Hf H σ ρ D E p => ?_⟩
  refine hc.st fx vs0 Hr Hf H σ ρ (fun b H1 => if b = true then t D σ H1 else u D σ H1) E ?_
  unfold mIfS at p
  cases hm : mc ρ with
  | bad => rw [hm] at p; exact p
  | exc x ρ1 => rw [hm] at p; exact fun C h1 F H' e E' => p C h1 σ F H' e E'
  | ok c ρ1 =>
    rw [hm] at p
    intro F H1 e E1
    cases c with
    | true => exact ha.ss vs0 Hr F H1 σ ρ1 D E1 (PostS.mono p e)
    | false => exact hb.ss vs0 Hr F H1 σ ρ1 D E1 (PostS.mono p e)
/-- name = e -/
def mAsg (i : Nat) (m : ME) : MS := fun ρ => match m ρ with
  | .ok r ρ1 => match tak r ρ1 with
    | some (c, ρ2) => .nx (ρ2.set i c)
    | none => .bad
  | .exc x ρ1 => .exc x ρ1
  | .bad => .bad
theorem SE.asg {K : PySem.W.Frag} {mg : Str → Option Value} {gs : List Nat} {i : Nat} (h : SE K mg gs W te me) (hi : fx[i]? ≠ some true) (hg : i ∉ gs) : SS K mg gs W fx (tAsg te (gName i)) (mAsg i me) := by
  intro vs0 Hr Hf H σ ρ D E p
  refine h fx vs0 Hr Hf H σ ρ _ E ?_
  unfold mAsg at p
  cases hm : me ρ with
  | bad => rw [hm] at p; exact p
  | exc x ρ1 => rw [hm] at p; exact fun C h1 F H' e E' => p C h1 σ F H' e E'
  | ok r ρ1 =>
    rw [hm] at p
    intro v F H' e E' q
    cases ht : tak r ρ1 with
    | none => simp only [ht] at p; exact p.elim
    | some x =>
      obtain ⟨c, ρ2⟩ := x
      simp only [ht] at p
      obtain ⟨F', e', E2, z⟩ := tak_ok E' q ht
      refine p _ F' H' (e.trans e') (E2.store hi (.inl hg) ?_)
      rcases z with ⟨d, rfl, z⟩ | ⟨rfl, rfl, z⟩
      · exact .inl ⟨d, rfl, z⟩
      · exact .inr (.inr z)
theorem ds_set (i : Nat) {x : Str} {pos' : Pos} (hN : X.N.Nodup) (h : DE X W e te me) (hi : X.N[i]? = some x := by rfl) (hx : Loc X.env.scope x := by first | exact Or.inl rfl | exact Or.inr rfl) (hs : swapsWith e (some (.Name x pos')) pos.line X.env = pure false := by rfl)
    (hf : X.fn x = true ∨ X.env.scope.names.lookup x = some .local := by first | exact .inl rfl | exact .inr rfl) (hfx : fx[i]? ≠ some true := by decide) (hgs : i ∉ X.gs := by exact of_decide_eq_true (by kernel_rfl)) : DS X W fx (.Assign [.Name x pos'] e pos) (tAsg te (gName i)) (mAsg i me) :=
  ⟨ps_set hN hi hx h.pe hs hf, h.se.asg hfx hgs⟩
end
/-! ### defs -/
inductive FR where
  | ret (r : R) (os : Env) | exc (x : Str) (os : Env) | bad
abbrev MF := List Cell → FR
section
variable (K : PySem.W.Frag) (mg : Str → Option Value) (gs : List Nat)
def PostF (Hr Hf : Hp) (vs : List V) (r : FR) (Q : VK) (E : XK) : Prop :=
  match r with
  | .ret (.at _) _ => False
  | .ret r os => ∀ v Hf' H', Ext Hf Hf' → EnvOk K mg [] [] [] Hr Hf' H' (vs.map some) os → ROk K mg Hr Hf' H' (vs.map some) os r v → Q v H'
  | .exc x os => ∀ C, mg x = some (.ref C) → ∀ Hf' H', Ext Hf Hf' → EnvOk K mg [] [] [] Hr Hf' H' (vs.map some) os → E (.ref C) none H'
  | .bad => False
/-- a def's promise: it does what F says -/
def spT (n : Nat) (F : MF) : Sp := fun vs H Q E => vs.length = n ∧ ∃ Hr Hf args, EnvOk K mg [] [] [] Hr Hf H (vs.map some) args ∧ PostF K mg Hr Hf vs (F args) Q E
end
def pad (n : Nat) (ρ : Env) : Env := ρ ++ List.replicate (n - ρ.length) .no
def outs : List Bool → Env → Env
  | [], _ => []
  | true :: bs, c :: cs => c :: outs bs cs
  | false :: bs, _ :: cs => .no :: outs bs cs
  | _ :: bs, [] => .no :: outs bs []
def mkF (fx : List Bool) (N : Nat) (m : MS) : MF := fun args => match m (pad N args) with
  | .nx ρ => .ret (.dd .non) (outs fx ρ)
  | .ret (.at _) _ => .bad
  | .ret r ρ => .ret r (outs fx ρ)
  | .exc x ρ => .exc x (outs fx ρ)
  | _ => .bad
theorem outs_length : ∀ (fx : List Bool) (ρ : Env), (outs fx ρ).length = fx.length
  | [], _ => rfl
  | true :: bs, c :: cs => by simp [outs, outs_length bs cs]
  | false :: bs, c :: cs => by simp [outs, outs_length bs cs]
  | true :: bs, [] => by simp [outs, outs_length bs []]
  | false :: bs, [] => by simp [outs, outs_length bs []]
theorem outs_get : ∀ {fx : List Bool} {ρ : Env} {i : Nat} {c : Cell}, (outs fx ρ)[i]? = some c → c = .no ∨ (fx[i]? = some true ∧ ρ[i]? = some c)
  | [], _, _, _, h => by simp [outs] at h
  | true :: bs, c :: cs, 0, _, h => by simp [outs] at h; subst h; exact .inr ⟨rfl, rfl⟩
  | true :: bs, c :: cs, i + 1, _, h => by
    have := outs_get (fx := bs) (ρ := cs) (i := i) (by simpa [outs] using h)
    simpa using this
  | false :: bs, c :: cs, 0, _, h => by simp [outs] at h; exact .inl h.symm
  | false :: bs, c :: cs, i + 1, _, h => by
    have := outs_get (fx := bs) (ρ := cs) (i := i) (by simpa [outs] using h)
    simpa using this
  | true :: bs, [], 0, _, h => by simp [outs] at h; exact .inl h.symm
  | true :: bs, [], i + 1, _, h => by
    have := outs_get (fx := bs) (ρ := []) (i := i) (by simpa [outs] using h)
    rcases this with h | ⟨_, h⟩
    · exact .inl h
    · simp at h
  | false :: bs, [], 0, _, h => by simp [outs] at h; exact .inl h.symm
  | false :: bs, [], i + 1, _, h => by
    have := outs_get (fx := bs) (ρ := []) (i := i) (by simpa [outs] using h)
    rcases this with h | ⟨_, h⟩
    · exact .inl h
    · simp at h

section
variable {K : PySem.W.Frag} {mg : Str → Option Value} {gs : List Nat} {W : WX} {fx : List Bool} {vs0 vs : List V} {Hr Hf Hf' H H' : Hp} {σ : St} {ρ ρ' args : Env} {v : V} {d : D}
theorem EnvOk.nofx (E : EnvOk K mg gs fx vs0 Hr Hf H σ ρ) : EnvOk K mg gs [] [] Hr Hf H σ ρ := ⟨E.len, E.sub, E.frm, E.dis, E.cel, E.inj, fun i h => by simp at h, E.lnk⟩
theorem EnvOk.refx {fx' : List Bool} {vs' : List V} {Hr' Hf0 H0 : Hp} {ρ0 : Env} (E : EnvOk K mg gs fx' vs' Hr Hf H σ ρ) (E0 : EnvOk K mg gs fx vs0 Hr' Hf0 H0 σ ρ0) : EnvOk K mg gs fx vs0 Hr Hf H σ ρ := ⟨E.len, E.sub, E.frm, E.dis, E.cel, E.inj, E0.fix, E.lnk⟩
/-- the entry of a def -/
theorem EnvOk.enter {N : List Str} (E : EnvOk K mg [] [] [] Hr Hf H (vs.map some) args) (hN : vs.length ≤ N.length) (hf : fx.length ≤ vs.length) : EnvOk K mg gs fx vs Hr Hf H (L2.start N vs) (pad N.length args) := by
  have el : vs.length = args.length := by have := E.len; simpa using this
  have st : ∀ i : Nat, i < vs.length → (L2.start N vs)[i]? = (vs.map some)[i]? := fun i hi => by
    unfold L2.start; rw [List.getElem?_append_left (by simpa using hi)]
  have pd : ∀ (i : Nat) (c : Cell), (pad N.length args)[i]? = some c → c = .no ∨ (i < vs.length ∧ args[i]? = some c) := fun i c h => by
    unfold pad at h
    by_cases hi : i < args.length
    · rw [List.getElem?_append_left hi] at h; exact .inr ⟨by omega, h⟩
    · rw [List.getElem?_append_right (by omega), List.getElem?_replicate] at h
      split at h
      · cases h; exact .inl rfl
      · cases h
  have own : ∀ {i : Nat} {a : Addr}, OwnAt (L2.start N vs) (pad N.length args) i a → OwnAt (vs.map some) args i a := fun {i a} ⟨⟨c, h1, h2⟩, h3⟩ => by
    rcases pd i c h1 with rfl | ⟨hi, h⟩
    · cases h2
    · rw [st i hi] at h3; exact ⟨⟨c, h, h2⟩, h3⟩
  refine ⟨?_, E.sub, E.frm, E.dis, fun i c hc => ?_, fun i j a p q => E.inj i j a (own p) (own q), fun i hi => ?_, fun i c hc => ?_⟩
  · unfold L2.start pad; simp [el]
  · rcases pd i c hc with rfl | ⟨hi, h⟩
    · trivial
    · rw [st i hi]; exact E.cel i c h
  · have hi' : i < fx.length := (List.getElem?_eq_some_iff.mp hi).1
    rw [st i (by omega), List.getElem?_map]
  · rcases pd i c hc with rfl | ⟨hi, h⟩
    · trivial
    · exact .free (E.lnk i c h).no
/-- .. and its end -/
theorem EnvOk.leave (E : EnvOk K mg gs fx vs Hr Hf H σ ρ) (hf : fx.length = vs.length) (hg : ∀ i : Nat, fx[i]? = some true → gs = []) : EnvOk K mg [] [] [] Hr Hf H (vs.map some) (outs fx ρ) := by
  have own : ∀ {i : Nat} {a : Addr}, OwnAt (vs.map some) (outs fx ρ) i a → OwnAt σ ρ i a := fun {i a} ⟨⟨c, h1, h2⟩, h3⟩ => by
    rcases outs_get h1 with rfl | ⟨h4, h5⟩
    · cases h2
    · refine ⟨⟨c, h5, h2⟩, ?_⟩
      rw [E.fix i h4, ← List.getElem?_map]; exact h3
  refine ⟨by simp [outs_length, hf], E.sub, E.frm, E.dis, fun i c hc => ?_, fun i j a p q => E.inj i j a (own p) (own q), fun i h => by simp at h, fun i c hc => ?_⟩
  · rcases outs_get hc with rfl | ⟨h4, h5⟩
    · trivial
    · rw [List.getElem?_map, ← E.fix i h4]; exact E.cel i c h5
  · rcases outs_get hc with rfl | ⟨h4, h5⟩
    · trivial
    · have q := E.lnk i c h5
      have z := hg i h4
      subst z
      exact .free q.no
theorem ROk.leave {r : R} (E : EnvOk K mg gs fx vs Hr Hf H σ ρ) (h : ROk K mg Hr Hf H σ ρ r v) (hr : ∀ i, r ≠ .at i) : ROk K mg Hr Hf H (vs.map some) (outs fx ρ) r v := by
  cases r with
  | «at» i => exact (hr i rfl).elim
  | dd d => exact h
  | ow c =>
    obtain ⟨a, u, h1, h2, h3, h4, h5, h6⟩ := h
    refine ⟨a, u, h1, h2, h3, h4, h5, fun i ⟨⟨c, q1, q2⟩, q3⟩ => h6 i ?_⟩
    rcases outs_get q1 with rfl | ⟨q4, q5⟩
    · cases q2
    · refine ⟨⟨c, q5, q2⟩, ?_⟩
      rw [E.fix i q4, ← List.getElem?_map]; exact q3
  | nw p xs fs =>
    have own : ∀ {b : Addr}, (∀ i, ¬ OwnAt σ ρ i b) → ∀ i, ¬ OwnAt (vs.map some) (outs fx ρ) i b := fun h6 i ⟨⟨c, q1, q2⟩, q3⟩ => h6 i (by
      rcases outs_get q1 with rfl | ⟨q4, q5⟩
      · cases q2
      · refine ⟨⟨c, q5, q2⟩, ?_⟩
        rw [E.fix i q4, ← List.getElem?_map]; exact q3)
    obtain ⟨b1, b2, vs1, ws, h1, ⟨a1, a2, a3, a4, a5⟩, ⟨c1, c2, c3, c4, c5⟩, h4⟩ := h
    exact ⟨b1, b2, vs1, ws, h1, ⟨a1, a2, a3, a4, own a5⟩, ⟨c1, c2, c3, c4, own c5⟩, h4⟩
end

section
variable {P : Program} {w : World} {K : PySem.W.Frag} {mg : Str → Option Value} {gs : List Nat} {base : Heap}
/-- a def of the text does what its body's function does -/
theorem fn_ok {x qual : Str} {st : Stmt} {f : Addr} {fd : FuncData} {N ps : List Str} {k : Nat} {fx : List Bool} {m : MS} (F : Fun K x qual st f fd) (S : FnScope N ps (defScope st)) (hf : fx.length = ps.length) (hgx : (ghs 0 N).isEmpty = true ∨ fx.all (fun b => !b) = true)
    (hbody : ∀ (cdv : Value) (A : Around) (outer : List PySem.Env) (s : Shared) (H : Hp) (E : XK), Room k (A.deeper (PyProof.Rows.envOfC qual (defScope st) s.heap.objs.size f cdv)) →
      ∃ t, DSs (cxOf (L2.CX P w) P w K mg base N qual (defScope st) f cdv A outer s H E) (fun cls d _ H => E cls d H) fx (defBody st) t m) :
    FnOk P w K mg base (L2.CX P w) (k + 1) f fd ps (spT K mg ps.length (mkF fx N.length m)) := by
  refine F.okX S (fun vs H Q E h => h.1) fun cdv A outer s H vs Q E hr h => ?_
  obtain ⟨hl, Hr, Hf, args, E0, p⟩ := h
  obtain ⟨t, hb⟩ := hbody cdv A outer s H E hr
  have hN : ps.length ≤ N.length := by have := congrArg List.length S.pre; rw [List.length_take] at this; omega
  refine ⟨t, hb.ps, hb.ss vs Hr Hf H _ _ _ (E0.enter (N := N) (by omega) (by omega)) ?_⟩
  unfold mkF at p
  have hfl : fx.length = vs.length := by omega
  have hgl : ∀ i : Nat, fx[i]? = some true → ghs 0 N = [] := fun i hi => by
    rcases hgx with z | z
    · exact List.isEmpty_iff.mp z
    · have := List.all_eq_true.mp z true (List.mem_of_getElem? hi)
      cases this
  show PostS K mg (ghs 0 N) (fun cls d _ H => E cls d H) fx vs Hr Hf (m (pad N.length args)) _
  cases hm : m (pad N.length args) with
  | nx ρ => rw [hm] at p; exact fun σ F H' e E' => p _ F H' e (E'.leave hfl hgl) rfl
  | ret r ρ =>
    rw [hm] at p
    cases r with
    | «at» i => exact p.elim
    | dd d => exact fun v σ F H' e E' q => p v F H' e (E'.leave hfl hgl) (ROk.leave E' q (by intro i z; cases z))
    | ow c => exact fun v σ F H' e E' q => p v F H' e (E'.leave hfl hgl) (ROk.leave E' q (by intro i z; cases z))
    | nw _ _ _ => exact fun v σ F H' e E' q => p v F H' e (E'.leave hfl hgl) (ROk.leave E' q (by intro i z; cases z))
  | exc x ρ =>
    rw [hm] at p
    exact fun C h1 σ F H' e E' => p C h1 F H' e (E'.leave hfl hgl)
  | bk ρ => rw [hm] at p; exact p.elim
  | ct ρ => rw [hm] at p; exact p.elim
  | bad => rw [hm] at p; exact p.elim
end

/-! ### calls -/
inductive AM where
  | nm (i : Nat) | ln (i : Nat) | ex (m : ME)
  /-- a list of the machine in the slot -/
  | gh (i k : Nat)
abbrev AC := Cell × Option Nat
def mArgs : List AM → Env → (List AC → Env → ER) → ER
  | [], ρ, k => k [] ρ
  | .nm i :: as, ρ, k => match ρ[i]? with
    | none => .bad
    | some .no => .bad
    | some (.mac _ _) => .bad
    | some (.al _) => .bad
    | some (.pm _) => .bad
    | some (.val d) => mArgs as ρ fun cs => k ((.val d, none) :: cs)
    | some c => mArgs as (ρ.set i .no) fun cs => k ((c, some i) :: cs)
  | .ln i :: as, ρ, k => match ρ[i]? with
    | none => .bad
    | some .no => .bad
    | some _ => mArgs as ρ fun cs ρ1 => match ρ1[i]? with
      | none => .bad
      | some .no => .bad
      | some (.mac _ _) => .bad
      | some (.al _) => .bad
      | some (.pm _) => .bad
      | some (.val d) => k ((.val d, none) :: cs) ρ1
      | some c => k ((c, some i) :: cs) (ρ1.set i .no)
  | .gh i n :: as, ρ, k => match ρ[i]? with
    | some (.mac j _) => match ρ[j + n]? with
      | some (.own xs) => mArgs as (ρ.set (j + n) .no) fun cs => k ((.own xs, some (j + n)) :: cs)
      | _ => .bad
    | _ => .bad
  | .ex m :: as, ρ, k => match m ρ with
    | .ok r ρ1 => match frz r ρ1 with
      | some (d, ρ2) => mArgs as ρ2 fun cs => k ((.val d, none) :: cs)
      | none => .bad
    | .exc x ρ1 => .exc x ρ1
    | .bad => .bad
def give : List AC → Env → Env → Env
  | (_, some i) :: cs, o :: os, ρ => give cs os (ρ.set i o)
  | (_, none) :: cs, _ :: os, ρ => give cs os ρ
  | _, _, ρ => ρ
def mCall (n : Nat) (F : MF) (as : List AM) : ME := fun ρ => mArgs as ρ fun cs ρ1 => if cs.length = n then match F (cs.map (·.1)) with
  | .ret (.at _) _ => .bad
  | .ret r os => .ok r (give cs os ρ1)
  | .exc x os => .exc x (give cs os ρ1)
  | .bad => .bad
  else .bad

section
variable (K : PySem.W.Frag) (mg : Str → Option Value) (gs : List Nat)
/-- the arguments as they stand: Hr the frame ahead, Hr' with what was handed over -/
def ArgsOk (Hf : Hp) (σ : St) : Hp → Hp → List V → List AC → Prop
  | Hr, Hr', [], [] => Hr' = Hr
  | Hr, Hr', v :: vs, (c, none) :: cs => (∃ d, c = .val d ∧ Rep K mg Hf d v) ∧ ArgsOk Hf σ Hr Hr' vs cs
  | Hr, Hr', v :: vs, (c, some i) :: cs => ∃ a u, v = .ref a ∧ σ[i]? = some (some (.ref a)) ∧ OwnsO K mg Hf c u ∧ Hr a = none ∧ ArgsOk Hf σ (upd Hr a u) Hr' vs cs
  | _, _, _, _ => False
def SA (W : WX) (t : TA) (as : List AM) : Prop := ∀ fx vs0 Hr Hr1 Hf H σ ρ Q (k : List AC → Env → ER) (QE : VK), EnvOk K mg gs fx vs0 Hr1 Hf H σ ρ → Ext Hr Hr1 → PostE K mg gs W fx vs0 Hr Hf σ (mArgs as ρ k) QE →
  (∀ vs cs Hr' Hf' H' ρ', Ext Hf Hf' → EnvOk K mg gs fx vs0 Hr' Hf' H' σ ρ' → ArgsOk K mg Hf' σ Hr1 Hr' vs cs → PostE K mg gs W fx vs0 Hr Hf' σ (k cs ρ') QE → Q vs H') → t σ H Q
/-- the outs, one by one -/
def OutsOk (Hr Hf H : Hp) : List V → Env → Prop
  | v :: vs, o :: os => (CellOk K mg Hr Hf H o (some v) ∧ isLnk o = false) ∧ OutsOk Hr Hf H vs os
  | [], [] => True
  | _, _ => False
end
structure DA (X : Cx) (W : WX) (es : List Expr) (t : TA) (as : List AM) : Prop where
  pa : PA X es t
  sa : SA X.K X.mg X.gs W t as

section
variable {K : PySem.W.Frag} {mg : Str → Option Value} {gs : List Nat} {W : WX} {fx : List Bool} {vs0 vs : List V} {Hr Hr1 Hr' Hf Hf' H H' : Hp} {σ : St} {ρ ρ' args os : Env} {v : V} {d : D} {cs : List AC}
theorem ArgsOk.mono (e : Ext Hf Hf') : ∀ {vs : List V} {cs : List AC} {Hr Hr' : Hp}, ArgsOk K mg Hf σ Hr Hr' vs cs → ArgsOk K mg Hf' σ Hr Hr' vs cs
  | [], [], _, _, h => h
  | v :: vs, (c, none) :: cs, _, _, ⟨⟨d, h1, h2⟩, h3⟩ => ⟨⟨d, h1, h2.mono e⟩, ArgsOk.mono e h3⟩
  | v :: vs, (c, some i) :: cs, _, _, ⟨a, u, h1, h2, h3, h4, h5⟩ => ⟨a, u, h1, h2, h3.mono e, h4, ArgsOk.mono e h5⟩
  | [], (_ :: _), _, _, h => h.elim
  | _ :: _, [], _, _, h => h.elim
theorem ArgsOk.ext : ∀ {vs : List V} {cs : List AC} {Hr Hr' : Hp}, ArgsOk K mg Hf σ Hr Hr' vs cs → Ext Hr Hr'
  | [], [], _, _, h => by have h : _ = _ := h; rw [h]; exact Ext.refl _
  | v :: vs, (c, none) :: cs, _, _, ⟨_, h3⟩ => ArgsOk.ext h3
  | v :: vs, (c, some i) :: cs, _, _, ⟨a, u, h1, h2, h3, h4, h5⟩ => (Ext.new h4).trans (ArgsOk.ext h5)
  | [], (_ :: _), _, _, h => h.elim
  | _ :: _, [], _, _, h => h.elim
theorem ArgsOk.len : ∀ {vs : List V} {cs : List AC} {Hr Hr' : Hp}, ArgsOk K mg Hf σ Hr Hr' vs cs → vs.length = cs.length
  | [], [], _, _, h => rfl
  | v :: vs, (c, none) :: cs, _, _, ⟨_, h3⟩ => by simp [ArgsOk.len h3]
  | v :: vs, (c, some i) :: cs, _, _, ⟨a, u, h1, h2, h3, h4, h5⟩ => by simp [ArgsOk.len h5]
  | [], (_ :: _), _, _, h => h.elim
  | _ :: _, [], _, _, h => h.elim
/-- the i-th argument -/
theorem ArgsOk.at_ : ∀ {vs : List V} {cs : List AC} {Hr Hr' : Hp} {i : Nat} {c : Cell}, ArgsOk K mg Hf σ Hr Hr' vs cs → (cs.map (·.1))[i]? = some c →
    ∃ v, vs[i]? = some v ∧ ((∃ d, c = .val d ∧ Rep K mg Hf d v) ∨ ∃ a u, v = .ref a ∧ OwnsO K mg Hf c u ∧ Hr a = none ∧ Hr' a = some u)
  | [], [], _, _, _, _, _, e => by simp at e
  | v :: vs, (c, none) :: cs, _, _, 0, _, ⟨⟨d, h1, h2⟩, h3⟩, e => by simp at e; subst e; exact ⟨v, rfl, .inl ⟨d, h1, h2⟩⟩
  | v :: vs, (c, none) :: cs, _, _, i + 1, _, ⟨_, h3⟩, e => by
    obtain ⟨v', q1, q2⟩ := ArgsOk.at_ (i := i) h3 (by simpa using e)
    exact ⟨v', by simpa using q1, q2⟩
  | v :: vs, (c, some j) :: cs, _, _, 0, _, ⟨a, u, h1, h2, h3, h4, h5⟩, e => by
    simp at e; subst e
    exact ⟨v, rfl, .inr ⟨a, u, h1, h3, h4, h5.ext a u upd_same⟩⟩
  | v :: vs, (c, some j) :: cs, _, _, i + 1, _, ⟨a, u, h1, h2, h3, h4, h5⟩, e => by
    obtain ⟨v', q1, q2⟩ := ArgsOk.at_ (i := i) h5 (by simpa using e)
    refine ⟨v', by simpa using q1, ?_⟩
    rcases q2 with q2 | ⟨b, o, k1, k2, k3, k4⟩
    · exact .inl q2
    · refine .inr ⟨b, o, k1, k2, ?_, k4⟩
      by_cases hb : b = a
      · subst hb; rw [upd_same] at k3; cases k3
      · rw [upd_ne hb] at k3; exact k3
  | [], (_ :: _), _, _, _, _, h, _ => h.elim
  | _ :: _, [], _, _, _, _, h, _ => h.elim
/-- no object is handed over twice -/
theorem ArgsOk.inj : ∀ {vs : List V} {cs : List AC} {Hr Hr' : Hp} {i j : Nat} {c c' : Cell} {a : Addr}, ArgsOk K mg Hf σ Hr Hr' vs cs → (cs.map (·.1))[i]? = some c → (cs.map (·.1))[j]? = some c' → isOwn c = true → isOwn c' = true →
    vs[i]? = some (.ref a) → vs[j]? = some (.ref a) → i = j
  | [], [], _, _, _, _, _, _, _, _, e, _, _, _, _, _ => by simp at e
  | v :: vs, (c, none) :: cs, _, _, 0, _, _, _, _, ⟨⟨d, h1, _⟩, _⟩, e, _, o1, _, _, _ => by simp at e; subst e; rw [h1] at o1; cases o1
  | v :: vs, (c, none) :: cs, _, _, _ + 1, 0, _, _, _, ⟨⟨d, h1, _⟩, _⟩, _, e, _, o2, _, _ => by simp at e; subst e; rw [h1] at o2; cases o2
  | v :: vs, (c, none) :: cs, _, _, i + 1, j + 1, _, _, _, ⟨_, h3⟩, e1, e2, o1, o2, v1, v2 => by
    have := ArgsOk.inj (i := i) (j := j) h3 (by simpa using e1) (by simpa using e2) o1 o2 (by simpa using v1) (by simpa using v2)
    omega
  | v :: vs, (c, some l) :: cs, _, _, 0, 0, _, _, _, _, _, _, _, _, _, _ => rfl
  | v :: vs, (c, some l) :: cs, _, _, 0, j + 1, _, c', a', ⟨a, u, h1, h2, h3, h4, h5⟩, e1, e2, o1, o2, v1, v2 => by
    obtain ⟨w, q1, q2⟩ := ArgsOk.at_ (i := j) h5 (by simpa using e2)
    have v1 : v = .ref a' := by simpa using v1
    have v2 : vs[j]? = some (.ref a') := by simpa using v2
    rw [v2] at q1; cases q1
    rw [h1] at v1; cases v1
    rcases q2 with ⟨d, rfl, _⟩ | ⟨b, o, k1, _, k3, _⟩
    · cases o2
    · cases k1; rw [upd_same] at k3; cases k3
  | v :: vs, (c, some l) :: cs, _, _, i + 1, 0, _, c', a', ⟨a, u, h1, h2, h3, h4, h5⟩, e1, e2, o1, o2, v1, v2 => by
    obtain ⟨w, q1, q2⟩ := ArgsOk.at_ (i := i) h5 (by simpa using e1)
    have v2 : v = .ref a' := by simpa using v2
    have v1 : vs[i]? = some (.ref a') := by simpa using v1
    rw [v1] at q1; cases q1
    rw [h1] at v2; cases v2
    rcases q2 with ⟨d, rfl, _⟩ | ⟨b, o, k1, _, k3, _⟩
    · cases o1
    · cases k1; rw [upd_same] at k3; cases k3
  | v :: vs, (c, some l) :: cs, _, _, i + 1, j + 1, _, _, _, ⟨a, u, h1, h2, h3, h4, h5⟩, e1, e2, o1, o2, v1, v2 => by
    have := ArgsOk.inj (i := i) (j := j) h5 (by simpa using e1) (by simpa using e2) o1 o2 (by simpa using v1) (by simpa using v2)
    omega
  | [], (_ :: _), _, _, _, _, _, _, _, h, _, _, _, _, _, _ => h.elim
  | _ :: _, [], _, _, _, _, _, _, _, h, _, _, _, _, _, _ => h.elim
theorem OutsOk.of : ∀ {vs : List V} {os : Env}, vs.length = os.length → (∀ (i : Nat) (c : Cell) (v : V), os[i]? = some c → vs[i]? = some v → CellOk K mg Hr Hf H c (some v) ∧ isLnk c = false) → OutsOk K mg Hr Hf H vs os
  | [], [], _, _ => trivial
  | v :: vs, o :: os, l, h => ⟨h 0 o v rfl rfl, OutsOk.of (by simpa using l) fun i c w h1 h2 => h (i + 1) c w (by simpa using h1) (by simpa using h2)⟩
  | [], _ :: _, l, _ => by simp at l
  | _ :: _, [], l, _ => by simp at l
/-- a slot is given back: the slots stay -/
theorem EnvOk.put {i : Nat} {c : Cell} (E : EnvOk K mg gs fx vs0 Hr Hf H σ ρ) (hs : σ[i]? = some (some v)) (hc : (∃ d, c = .val d ∧ Rep K mg Hf d v) ∨ c = .no ∨ ROk K mg Hr Hf H σ ρ (.ow c) v) : EnvOk K mg gs fx vs0 Hr Hf H σ (ρ.set i c) := by
  have e := E.nofx.store (i := i) (v := v) (c := c) (by simp) (.inr hs) hc
  have z : σ.set i (some v) = σ := by
    obtain ⟨hl, hz⟩ := List.getElem?_eq_some_iff.mp hs
    rw [← hz, List.set_getElem_self]
  rw [z] at e
  exact e.refx E
theorem EnvOk.weak (E : EnvOk K mg gs fx vs0 Hr' Hf H σ ρ) (e : Ext Hr Hr') : EnvOk K mg gs fx vs0 Hr Hf H σ ρ :=
  ⟨E.len, E.sub, e.trans E.frm, fun a o h => E.dis a o (e a o h), fun i c hc => (E.cel i c hc).step (Ext.refl _) fun _ a u _ h2 h3 h4 => ⟨h2, h3, e.free h4⟩, E.inj, E.fix, E.lnk⟩
theorem give_ok : ∀ {vs : List V} {cs : List AC} {os : Env} {Hr1 : Hp} {ρ : Env}, ArgsOk K mg Hf' σ Hr1 Hr' vs cs → OutsOk K mg Hr Hf H vs os → EnvOk K mg gs fx vs0 Hr Hf H σ ρ → (∀ j b, OwnAt σ ρ j b → Hr1 b ≠ none ∨ Hr' b = none) →
    EnvOk K mg gs fx vs0 Hr Hf H σ (give cs os ρ) ∧ ∀ j b, OwnAt σ (give cs os ρ) j b → OwnAt σ ρ j b ∨ ∃ i, OwnAt (vs.map some) os i b
  | [], [], [], _, _, _, _, E, _ => ⟨E, fun j b h => .inl h⟩
  | v :: vs, (c, none) :: cs, o :: os, _, _, ⟨_, h3⟩, ⟨_, k2⟩, E, f => by
    obtain ⟨q1, q2⟩ := give_ok h3 k2 E f
    refine ⟨q1, fun j b h => ?_⟩
    rcases q2 j b h with z | ⟨i, ⟨c, z1, z2⟩, z3⟩
    · exact .inl z
    · exact .inr ⟨i + 1, ⟨c, by simpa using z1, z2⟩, by simpa using z3⟩
  | v :: vs, (c, some i) :: cs, o :: os, Hr1, ρ, ⟨a, u, h1, h2, h3, h4, h5⟩, ⟨k1, k2⟩, E, f => by
    subst h1
    have hn : ∀ j, ¬ OwnAt σ ρ j a := fun j q => by
      rcases f j a q with z | z
      · exact z h4
      · rw [h5.ext a u upd_same] at z; cases z
    have hc : (∃ d, o = .val d ∧ Rep K mg Hf d (.ref a)) ∨ o = .no ∨ ROk K mg Hr Hf H σ ρ (.ow o) (.ref a) := by
      cases ho : isOwn o with
      | true =>
        obtain ⟨b, x, q1, q2, q3, q4, q5⟩ := k1.1.own ho
        cases q1
        exact .inr (.inr ⟨a, x, rfl, q2, q3, q4, q5, hn⟩)
      | false =>
        cases o with
        | no => exact .inr (.inl rfl)
        | val d => obtain ⟨⟨v', q1, q2⟩, _⟩ := k1; cases q1; exact .inl ⟨d, rfl, q2⟩
        | own _ => cases ho
        | ownD _ _ => cases ho
        | mac _ _ => cases k1.2
        | al _ => cases k1.2
        | pm _ => cases k1.2
    have E1 := E.put h2 hc
    have back : ∀ {j : Nat} {b : Addr}, OwnAt σ (ρ.set i o) j b → OwnAt σ ρ j b ∨ (b = a ∧ isOwn o = true) := fun {j b} ⟨⟨c', q1, q2⟩, q3⟩ => by
      by_cases hj : i = j
      · subst hj
        have hl : i < ρ.length := by
          by_cases hl : i < ρ.length
          · exact hl
          · rw [List.getElem?_eq_none (by simp; omega)] at q1; cases q1
        rw [List.getElem?_set_self hl] at q1; cases q1
        rw [h2] at q3; cases q3
        exact .inr ⟨rfl, q2⟩
      · rw [List.getElem?_set_ne hj] at q1
        exact .inl ⟨⟨c', q1, q2⟩, q3⟩
    obtain ⟨q1, q2⟩ := give_ok h5 k2 E1 fun j b h => by
      rcases back h with z | ⟨rfl, _⟩
      · rcases f j b z with z | z
        · refine .inl fun k => z ?_
          by_cases hb : b = a
          · subst hb; exact h4
          · rw [upd_ne hb] at k; exact k
        · exact .inr z
      · exact .inl (by rw [upd_same]; simp)
    refine ⟨q1, fun j b h => ?_⟩
    rcases q2 j b h with z | ⟨l, ⟨c, z1, z2⟩, z3⟩
    · rcases back z with z | ⟨rfl, z⟩
      · exact .inl z
      · exact .inr ⟨0, ⟨o, rfl, z⟩, rfl⟩
    · exact .inr ⟨l + 1, ⟨c, by simpa using z1, z2⟩, by simpa using z3⟩
  | [], [], _ :: _, _, _, _, h, _, _ => h.elim
  | _ :: _, _, [], _, _, _, h, _, _ => h.elim
  | [], (_ :: _), _, _, _, h, _, _, _ => h.elim
  | _ :: _, [], _, _, _, h, _, _, _ => h.elim

/-- the frame for the callee: what is not frozen and was not handed over -/
def calleeR (Hr Hr' Hf H : Hp) : Hp := fun b => if ((Hf b).isNone && !((Hr b).isNone && (Hr' b).isSome)) = true then H b else none
theorem calleeR_some {b : Addr} {o : HO} (h : calleeR Hr Hr' Hf H b = some o) : H b = some o ∧ Hf b = none ∧ (Hr b = none → Hr' b = none) := by
  unfold calleeR at h
  split at h
  · rename_i z
    refine ⟨h, ?_⟩
    cases h1 : Hf b <;> cases h2 : Hr b <;> cases h3 : Hr' b <;> simp_all
  · cases h
theorem calleeR_of {b : Addr} {o : HO} (h : H b = some o) (h1 : Hf b = none) (h2 : Hr b = none → Hr' b = none) : calleeR Hr Hr' Hf H b = some o := by
  unfold calleeR
  rw [if_pos]
  · exact h
  · cases q2 : Hr b <;> cases q3 : Hr' b <;> simp_all
theorem call_enter (E : EnvOk K mg gs fx vs0 Hr' Hf H σ ρ) (a : ArgsOk K mg Hf σ Hr1 Hr' vs cs) : EnvOk K mg [] [] [] (calleeR Hr1 Hr' Hf H) Hf H (vs.map some) (cs.map (·.1)) := by
  refine ⟨by simp [a.len], E.sub, fun b o h => (calleeR_some h).1, fun b o h => (calleeR_some h).2.1, fun i c hc => ?_, fun i j b p q => ?_, fun i h => by simp at h, fun i c hc => ?_⟩
  · obtain ⟨v, h1, h2⟩ := a.at_ hc
    rw [List.getElem?_map, h1]
    rcases h2 with ⟨d, rfl, h2⟩ | ⟨b, u, rfl, h2, h3, h4⟩
    · exact ⟨v, rfl, h2⟩
    · refine .ofOwn h2.isOwn ⟨b, u, rfl, E.frm b u h4, h2, E.dis b u h4, ?_⟩
      cases q : calleeR Hr1 Hr' Hf H b with
      | none => rfl
      | some o =>
        have := (calleeR_some q).2.2 h3
        rw [h4] at this; cases this
  · obtain ⟨⟨c, p1, p2⟩, p3⟩ := p
    obtain ⟨⟨c', q1, q2⟩, q3⟩ := q
    exact a.inj p1 q1 p2 q2 (by simpa [List.getElem?_map] using p3) (by simpa [List.getElem?_map] using q3)
  · obtain ⟨v, h1, h2⟩ := a.at_ hc
    rcases h2 with ⟨d, rfl, h2⟩ | ⟨b, u, rfl, h2, h3, h4⟩
    · trivial
    · exact .ownF h2.isOwn
theorem call_leave (E : EnvOk K mg gs fx vs0 Hr' Hf H σ ρ) (a : ArgsOk K mg Hf σ Hr1 Hr' vs cs) (e1 : Ext Hr Hr1) (e2 : Ext Hf Hf') (E2 : EnvOk K mg [] [] [] (calleeR Hr1 Hr' Hf H) Hf' H' (vs.map some) os) :
    EnvOk K mg gs fx vs0 Hr1 Hf' H' σ (give cs os ρ) ∧ ∀ r v, ROk K mg (calleeR Hr1 Hr' Hf H) Hf' H' (vs.map some) os r v → (∀ i, r ≠ .at i) → ROk K mg Hr1 Hf' H' σ (give cs os ρ) r v := by
  have inR : ∀ {b : Addr} {o : HO}, Hr1 b = some o → calleeR Hr1 Hr' Hf H b = some o := fun {b o} h =>
    calleeR_of (E.frm b o (a.ext b o h)) (E.dis b o (a.ext b o h)) fun z => by rw [h] at z; cases z
  have owR : ∀ {b : Addr} {u : HO}, H b = some u → Hf b = none → Hr' b = none → calleeR Hr1 Hr' Hf H b = some u := fun h1 h2 h3 => calleeR_of h1 h2 fun _ => h3
  have noR : ∀ {b : Addr}, calleeR Hr1 Hr' Hf H b = none → Hr1 b = none := fun {b} h => by
    cases q : Hr1 b with
    | none => rfl
    | some o => rw [inR q] at h; cases h
  have E1 : EnvOk K mg gs fx vs0 Hr1 Hf' H' σ ρ := ⟨E.len, E2.sub, fun b o h => E2.frm b o (inR h), fun b o h => E2.dis b o (inR h), fun i c hc => (E.cel i c hc).step e2 fun _ b u _ h2 h3 h4 =>
    ⟨E2.frm b u (owR h2 h3 h4), E2.dis b u (owR h2 h3 h4), a.ext.free h4⟩, E.inj, E.fix, fun i c hc => (E.lnk i c hc).mono e2⟩
  have O : OutsOk K mg (calleeR Hr1 Hr' Hf H) Hf' H' vs os := .of (by have := E2.len; simpa using this) fun i c v h1 h2 => by
    have := E2.cel i c h1
    rw [List.getElem?_map, h2] at this
    exact ⟨this, (E2.lnk i c h1).no⟩
  have O' : OutsOk K mg Hr1 Hf' H' vs os := .of (by have := E2.len; simpa using this) fun i c v h1 h2 => by
    have := E2.cel i c h1
    rw [List.getElem?_map, h2] at this
    exact ⟨this.step (Ext.refl _) fun _ b u _ k1 k2 k3 => ⟨k1, k2, noR k3⟩, (E2.lnk i c h1).no⟩
  have owns : ∀ {j : Nat} {b : Addr}, OwnAt σ ρ j b → ∃ u, H b = some u ∧ Hf b = none ∧ Hr' b = none := fun {j b} ⟨⟨c, p1, p2⟩, p3⟩ => by
    obtain ⟨x, u, h1, h2, h3, h4, h5⟩ := (E.cel j c p1).own p2
    rw [joinEq, p3] at h1; cases h1
    exact ⟨u, h2, h4, h5⟩
  obtain ⟨g1, g2⟩ := give_ok a O' E1 fun j b h => .inr (owns h).choose_spec.2.2
  refine ⟨g1, fun r v q hr => ?_⟩
  cases r with
  | «at» i => exact (hr i rfl).elim
  | dd d => exact q
  | ow c =>
    obtain ⟨b, u, h1, h2, h3, h4, h5, h6⟩ := q
    refine ⟨b, u, h1, h2, h3, h4, noR h5, fun j z => ?_⟩
    rcases g2 j b z with z | ⟨i, z⟩
    · obtain ⟨o, k1, k2, k3⟩ := owns z
      rw [owR k1 k2 k3] at h5; cases h5
    · exact h6 i z
  | nw p xs fs =>
    have own : ∀ {b : Addr}, calleeR Hr1 Hr' Hf H b = none → (∀ i, ¬ OwnAt (vs.map some) os i b) → ∀ j, ¬ OwnAt σ (give cs os ρ) j b := fun h5 h6 j z => by
      rcases g2 j _ z with z | ⟨i, z⟩
      · obtain ⟨o, k1, k2, k3⟩ := owns z
        rw [owR k1 k2 k3] at h5; cases h5
      · exact h6 i z
    obtain ⟨b1, b2, vs1, ws, h1, ⟨a1, a2, a3, a4, a5⟩, ⟨c1, c2, c3, c4, c5⟩, h4⟩ := q
    exact ⟨b1, b2, vs1, ws, h1, ⟨a1, a2, a3, noR a4, own a4 a5⟩, ⟨c1, c2, c3, noR c4, own c4 c5⟩, h4⟩
end
section
variable {X : Cx} {W : WX} {e : Expr} {es : List Expr} {te : TE} {m : ME} {t : TA} {as : List AM}
theorem PostE.weakR {K : PySem.W.Frag} {mg : Str → Option Value} {gs : List Nat} {fx : List Bool} {vs0 : List V} {Hr Hr1 Hf : Hp} {σ : St} {x : Str} {ρ : Env} {Q Q' : VK} (h : PostE K mg gs W fx vs0 Hr Hf σ (.exc x ρ) Q) (e : Ext Hr Hr1) : PostE K mg gs W fx vs0 Hr1 Hf σ (.exc x ρ) Q' := by
  exact fun C h1 F H' e' E' => h C h1 F H' e' (E'.weak e)
theorem da_nil : DA X W [] tNil [] := ⟨pa_nil, fun fx vs0 Hr Hr1 Hf H σ ρ Q k QE E e p q => q [] [] Hr1 Hf H ρ (Ext.refl _) E rfl p⟩
/-- an argument by value -/
theorem da_ex (h : DE X W e te m) (k : DA X W es t as) (hs : starEach (e :: es) X.env = (false, eval e X.env) :: starEach es X.env := by rfl) : DA X W (e :: es) (tCons te t) (.ex m :: as) := by
  refine ⟨pa_cons h.pe k.pa hs, fun fx vs0 Hr Hr1 Hf H σ ρ Q kk QE E e p q => ?_⟩
  refine h.se fx vs0 Hr1 Hf H σ ρ _ E ?_
  unfold mArgs at p
  cases hm : m ρ with
  | bad => rw [hm] at p; exact p
  | exc x ρ1 => rw [hm] at p; exact p.weakR e
  | ok r ρ1 =>
    rw [hm] at p
    intro v F H1 e1 E1 q1
    cases hz : frz r ρ1 with
    | none => simp only [hz] at p; exact p.elim
    | some x =>
      obtain ⟨d, ρ2⟩ := x
      simp only [hz] at p
      obtain ⟨F', e', E2, q2⟩ := frz_ok E1 q1 hz
      refine k.sa fx vs0 Hr Hr1 F' H1 σ ρ2 _ _ QE E2 e (PostE.mono p (e1.trans e')) fun vs cs Hr' Hf' H' ρ' e3 E3 a p3 => ?_
      exact q (v :: vs) ((.val d, none) :: cs) Hr' Hf' H' ρ' ((e1.trans e').trans e3) E3 ⟨⟨d, rfl, q2.mono e3⟩, a⟩ p3
/-- an argument that is a name: an owned object is handed over -/
theorem da_nm (i : Nat) (h : DE X W e (tVar i) (mVar i)) (k : DA X W es t as) (hs : starEach (e :: es) X.env = (false, eval e X.env) :: starEach es X.env := by rfl) : DA X W (e :: es) (tCons (tVar i) t) (.nm i :: as) := by
  refine ⟨pa_cons h.pe k.pa hs, fun fx vs0 Hr Hr1 Hf H σ ρ Q kk QE E e p q => ?_⟩
  unfold mArgs at p
  cases hc : ρ[i]? with
  | none => rw [hc] at p; exact p.elim
  | some c =>
    rw [hc] at p
    have own : isOwn c = true → PostE X.K X.mg X.gs W fx vs0 Hr Hf σ (mArgs as (ρ.set i .no) fun cs => kk ((c, some i) :: cs)) QE → tCons (tVar i) t σ H Q := fun ho p => by
      obtain ⟨a, u, h1, h2, h3, h4, h5⟩ := (E.cel i c hc).own ho
      have h1 := joinEq.mp h1
      have hi : i < ρ.length := (List.getElem?_eq_some_iff.mp hc).1
      have own' : ∀ {j : Nat} {b : Addr}, OwnAt σ (ρ.set i .no) j b → OwnAt σ ρ j b ∧ b ≠ a := fun {j b} ⟨⟨c', hc', ho'⟩, hs'⟩ => by
        by_cases hj : i = j
        · subst hj; rw [List.getElem?_set_self hi] at hc'; cases hc'; cases ho'
        · rw [List.getElem?_set_ne hj] at hc'
          refine ⟨⟨⟨c', hc', ho'⟩, hs'⟩, fun z => ?_⟩
          subst z
          exact hj (E.inj i j b ⟨⟨c, hc, ho⟩, h1⟩ ⟨⟨c', hc', ho'⟩, hs'⟩)
      have E1 : EnvOk X.K X.mg X.gs fx vs0 (upd Hr1 a u) Hf H σ (ρ.set i .no) := by
        refine ⟨by rw [List.length_set]; exact E.len, E.sub, fun b o hb => ?_, fun b o hb => ?_, fun j c' hc' => ?_, fun j k b p q => E.inj j k b (own' p).1 (own' q).1, E.fix, fun j c' hc' => ?_⟩
        · by_cases z : b = a
          · subst z; rw [upd_same] at hb; cases hb; exact h2
          · rw [upd_ne z] at hb; exact E.frm b o hb
        · by_cases z : b = a
          · subst z; exact h4
          · rw [upd_ne z] at hb; exact E.dis b o hb
        · by_cases hj : i = j
          · subst hj; rw [List.getElem?_set_self hi] at hc'; cases hc'; trivial
          · have hc2 := hc'
            rw [List.getElem?_set_ne hj] at hc'
            refine (E.cel j c' hc').step (Ext.refl _) fun ho' b o k1 k2 k3 k4 => ⟨k2, k3, ?_⟩
            have : b ≠ a := (own' ⟨⟨c', hc2, ho'⟩, joinEq.mp k1⟩).2
            rw [upd_ne this]; exact k4
        · by_cases hj : i = j
          · subst hj; rw [List.getElem?_set_self hi] at hc'; cases hc'; trivial
          · rw [List.getElem?_set_ne hj] at hc'; exact E.lnk j c' hc'
      refine ⟨.ref a, h1, k.sa fx vs0 Hr (upd Hr1 a u) Hf H σ _ _ _ QE E1 (e.trans (Ext.new h5)) p fun vs cs Hr' Hf' H' ρ' e3 E3 z p3 => ?_⟩
      exact q (.ref a :: vs) ((c, some i) :: cs) Hr' Hf' H' ρ' e3 E3 ⟨a, u, rfl, h1, h3.mono e3, h5, z⟩ p3
    cases c with
    | no => exact p.elim
    | val d =>
      obtain ⟨v, h1, h2⟩ := E.cel i _ hc
      refine ⟨v, joinEq.mp h1, k.sa fx vs0 Hr Hr1 Hf H σ ρ _ _ QE E e p fun vs cs Hr' Hf' H' ρ' e3 E3 a p3 => ?_⟩
      exact q (v :: vs) ((.val d, none) :: cs) Hr' Hf' H' ρ' e3 E3 ⟨⟨d, rfl, h2.mono e3⟩, a⟩ p3
    | own xs => exact own rfl p
    | ownD ks vs => exact own rfl p
    | mac _ _ => exact p.elim
    | al _ => exact p.elim
    | pm _ => exact p.elim
theorem upd_comm {H : Hp} {a b : Addr} {x y : HO} (h : a ≠ b) : upd (upd H a x) b y = upd (upd H b y) a x := by
  funext c; unfold upd
  by_cases h1 : c = a <;> by_cases h2 : c = b <;> simp_all
theorem ArgsOk.shift {K : PySem.W.Frag} {mg : Str → Option Value} {Hf : Hp} {σ : St} {p : Addr} {o : HO} : ∀ {vs : List V} {cs : List AC} {Hr Hr' : Hp}, ArgsOk K mg Hf σ Hr Hr' vs cs → Hr' p = none → ArgsOk K mg Hf σ (upd Hr p o) (upd Hr' p o) vs cs
  | [], [], _, _, h, _ => by have h : _ = _ := h; rw [h]; rfl
  | v :: vs, (c, none) :: cs, _, _, ⟨h1, h3⟩, hp => ⟨h1, ArgsOk.shift h3 hp⟩
  | v :: vs, (c, some i) :: cs, Hr, Hr', ⟨a, u, h1, h2, h3, h4, h5⟩, hp => by
    have hn : a ≠ p := fun z => by
      have := h5.ext a u upd_same
      rw [z, hp] at this; cases this
    refine ⟨a, u, h1, h2, h3, by rw [upd_ne hn]; exact h4, ?_⟩
    rw [upd_comm (Ne.symm hn)]
    exact ArgsOk.shift h5 hp
  | [], (_ :: _), _, _, h, _ => h.elim
  | _ :: _, [], _, _, h, _ => h.elim
theorem EnvOk.handOver {K : PySem.W.Frag} {mg : Str → Option Value} {gs : List Nat} {fx : List Bool} {vs0 : List V} {Hr1 Hf H : Hp} {σ : St} {ρ : Env} {i : Nat} {c : Cell} (E : EnvOk K mg gs fx vs0 Hr1 Hf H σ ρ) (hc : ρ[i]? = some c) (ho : isOwn c = true) :
    ∃ a u, σ[i]? = some (some (.ref a)) ∧ OwnsO K mg Hf c u ∧ Hr1 a = none ∧ EnvOk K mg gs fx vs0 (upd Hr1 a u) Hf H σ (ρ.set i .no) := by
  obtain ⟨a, u, h1, h2, h3, h4, h5⟩ := (E.cel i c hc).own ho
  have h1 := joinEq.mp h1
  have hi : i < ρ.length := (List.getElem?_eq_some_iff.mp hc).1
  have own' : ∀ {j : Nat} {b : Addr}, OwnAt σ (ρ.set i .no) j b → OwnAt σ ρ j b ∧ b ≠ a := fun {j b} ⟨⟨c', hc', ho'⟩, hs'⟩ => by
    by_cases hj : i = j
    · subst hj; rw [List.getElem?_set_self hi] at hc'; cases hc'; cases ho'
    · rw [List.getElem?_set_ne hj] at hc'
      refine ⟨⟨⟨c', hc', ho'⟩, hs'⟩, fun z => ?_⟩
      subst z
      exact hj (E.inj i j b ⟨⟨c, hc, ho⟩, h1⟩ ⟨⟨c', hc', ho'⟩, hs'⟩)
  refine ⟨a, u, h1, h3, h5, by rw [List.length_set]; exact E.len, E.sub, fun b o hb => ?_, fun b o hb => ?_, fun j c' hc' => ?_, fun j k b p q => E.inj j k b (own' p).1 (own' q).1, E.fix, fun j c' hc' => ?_⟩
  · by_cases z : b = a
    · subst z; rw [upd_same] at hb; cases hb; exact h2
    · rw [upd_ne z] at hb; exact E.frm b o hb
  · by_cases z : b = a
    · subst z; exact h4
    · rw [upd_ne z] at hb; exact E.dis b o hb
  · by_cases hj : i = j
    · subst hj; rw [List.getElem?_set_self hi] at hc'; cases hc'; trivial
    · have hc2 := hc'
      rw [List.getElem?_set_ne hj] at hc'
      refine (E.cel j c' hc').step (Ext.refl _) fun ho' b o k1 k2 k3 k4 => ⟨k2, k3, ?_⟩
      have : b ≠ a := (own' ⟨⟨c', hc2, ho'⟩, joinEq.mp k1⟩).2
      rw [upd_ne this]; exact k4
  · by_cases hj : i = j
    · subst hj; rw [List.getElem?_set_self hi] at hc'; cases hc'; trivial
    · rw [List.getElem?_set_ne hj] at hc'; exact E.lnk j c' hc'
/-- .. handed over when the arguments behind it are reckoned -/
theorem da_ln {X : Cx} {W : WX} {e : Expr} {es : List Expr} {t : TA} {as : List AM} (i : Nat) (h : DE X W e (tVar i) (mVar i)) (k : DA X W es t as) (hs : starEach (e :: es) X.env = (false, eval e X.env) :: starEach es X.env := by rfl) : DA X W (e :: es) (tCons (tVar i) t) (.ln i :: as) := by
  refine ⟨pa_cons h.pe k.pa hs, fun fx vs0 Hr Hr1 Hf H σ ρ Q kk QE E e p q => ?_⟩
  unfold mArgs at p
  cases hc : ρ[i]? with
  | none => rw [hc] at p; exact p.elim
  | some c =>
    rw [hc] at p
    have go : (c = .no → False) → PostE X.K X.mg X.gs W fx vs0 Hr Hf σ (mArgs as ρ fun cs ρ1 => match ρ1[i]? with
      | none => .bad
      | some .no => .bad
      | some (.mac _ _) => .bad
      | some (.al _) => .bad
      | some (.pm _) => .bad
      | some (.val d) => kk ((.val d, none) :: cs) ρ1
      | some c => kk ((c, some i) :: cs) (ρ1.set i .no)) QE → tCons (tVar i) t σ H Q := fun hn p => by
      obtain ⟨v, hv⟩ := (E.cel i c hc).some hn (E.lnk i c hc)
      have hv := joinEq.mp hv
      refine ⟨v, hv, k.sa fx vs0 Hr Hr1 Hf H σ ρ _ _ QE E e p fun vs cs Hr' Hf' H' ρ' e3 E3 a p3 => ?_⟩
      cases hc3 : ρ'[i]? with
      | none => simp only [hc3] at p3; exact p3.elim
      | some c3 =>
        simp only [hc3] at p3
        have own : isOwn c3 = true → PostE X.K X.mg X.gs W fx vs0 Hr Hf' σ (kk ((c3, some i) :: cs) (ρ'.set i .no)) QE → Q (v :: vs) H' := fun ho p3 => by
          obtain ⟨b, u, h1, h2, h3, E4⟩ := E3.handOver hc3 ho
          rw [hv] at h1; cases h1
          exact q (.ref b :: vs) ((c3, some i) :: cs) (upd Hr' b u) Hf' H' _ e3 E4 ⟨b, u, rfl, hv, h2, a.ext.free h3, a.shift h3⟩ p3
        cases c3 with
        | no => exact p3.elim
        | val d =>
          obtain ⟨v', h1, h2⟩ := E3.cel i _ hc3
          rw [joinEq, hv] at h1; cases h1
          exact q (v :: vs) ((.val d, none) :: cs) Hr' Hf' H' ρ' e3 E3 ⟨⟨d, rfl, h2⟩, a⟩ p3
        | own xs => exact own rfl p3
        | ownD ks vs => exact own rfl p3
        | mac _ _ => exact p3.elim
        | al _ => exact p3.elim
        | pm _ => exact p3.elim
    cases c with
    | no => exact p.elim
    | val d => exact go (by intro z; cases z) p
    | own xs => exact go (by intro z; cases z) p
    | ownD ks vs => exact go (by intro z; cases z) p
    | mac _ _ => exact go (by intro z; cases z) p
    | al _ => exact go (by intro z; cases z) p
    | pm _ => exact go (by intro z; cases z) p
/-- what a call asks, from what F says -/
theorem se_call {K : PySem.W.Frag} {mg : Str → Option Value} {gs : List Nat} {F : MF} {n : Nat} (ha : SA K mg gs W t as) : SE K mg gs W (tCallS (spT K mg n F) (WE W) t) (mCall n F as) := by
  intro fx vs0 Hr Hf H σ ρ Q E p
  refine ha fx vs0 Hr Hr Hf H σ ρ _ _ Q E (Ext.refl _) p fun vs cs Hr' Hf' H' ρ' e1 E1 a p1 => ?_
  by_cases hl : cs.length = n
  · rw [if_pos hl] at p1
    refine ⟨by rw [a.len]; exact hl, calleeR Hr Hr' Hf' H', Hf', cs.map (·.1), call_enter E1 a, ?_⟩
    cases hF : F (cs.map (·.1)) with
    | bad => rw [hF] at p1; exact p1
    | exc x os =>
      rw [hF] at p1
      exact fun C h1 F2 H2 e2 E2 => p1 C h1 F2 H2 e2 (call_leave E1 a (Ext.refl _) e2 E2).1
    | ret r os =>
      rw [hF] at p1
      cases r with
      | «at» i => exact p1.elim
      | dd d => exact fun v F2 H2 e2 E2 q => p1 v F2 H2 e2 (call_leave E1 a (Ext.refl _) e2 E2).1 ((call_leave E1 a (Ext.refl _) e2 E2).2 _ v q (by intro i z; cases z))
      | ow c => exact fun v F2 H2 e2 E2 q => p1 v F2 H2 e2 (call_leave E1 a (Ext.refl _) e2 E2).1 ((call_leave E1 a (Ext.refl _) e2 E2).2 _ v q (by intro i z; cases z))
      | nw _ _ _ => exact fun v F2 H2 e2 E2 q => p1 v F2 H2 e2 (call_leave E1 a (Ext.refl _) e2 E2).1 ((call_leave E1 a (Ext.refl _) e2 E2).2 _ v q (by intro i z; cases z))
  · rw [if_neg hl] at p1; exact p1.elim
/-- f(e, ..) -/
theorem de_call {k : Nat} {f : Addr} {fd : FuncData} {ps : List Str} {F : MF} {x : Str} {p pos : Pos} (hF : FnOk X.prog X.w X.K X.mg X.base (L2.CX X.prog X.w) k f fd ps (spT X.K X.mg ps.length F)) (hr : Room k X.A) (hm : X.mg x = some (.ref f))
    (hk : PySem.W.keepIn X.K (.ref f) = true) (hb : Binds X.K fd ps []) (tk : Takes X W) (ha : DA X W (e :: es) t as) (hg : Gl X x := by rfl) (hdb : (x == ("__debug__" : Str)) = false := by decide)
    (he : starEach (e :: es) X.env = (false, eval e X.env) :: starEach es X.env := by rfl) (hpl : (backTo pos (starEach es X.env)).any (·.1) = false := by rfl) :
    DE X W (.Call (.Name x p) (e :: es) [] pos) (tCallS (spT X.K X.mg ps.length F) (WE W) t) (mCall ps.length F as) :=
  ⟨pe_callS hF hr hg hm hk hb (passAt tk) ha.pa hdb he hpl, se_call ha.sa⟩
end
/-! ### what is walked -/
inductive LR where
  | ok (ds : List D) (ρ : Env) | exc (x : Str) (ρ : Env) | bad
abbrev MI := Env → LR
theorem RepL.getV {K : PySem.W.Frag} {mg : Str → Option Value} {H : Hp} : ∀ {ds : List D} {vs : List V} {i : Nat} {v : V}, RepL K mg H ds vs → vs[i]? = some v → ∃ d, ds[i]? = some d ∧ Rep K mg H d v
  | [], _, _, _, h, e => by have h : _ = [] := h; rw [h] at e; simp at e
  | d :: ds, _, 0, _, ⟨v, ws, h1, h2, _⟩, e => by rw [h1] at e; simp at e; subst e; exact ⟨d, rfl, h2⟩
  | d :: ds, _, i + 1, x, ⟨v, ws, h1, _, h3⟩, e => by
    rw [h1] at e
    obtain ⟨u, q1, q2⟩ := RepL.getV (i := i) (v := x) h3 (by simpa using e)
    exact ⟨u, by simpa using q1, q2⟩
section
variable (K : PySem.W.Frag) (mg : Str → Option Value) (gs : List Nat)
/-- the iterator gives the items ds -/
structure Yields (Hf : Hp) (J : It) (ds : List D) : Prop where
  go : ∀ H, Ext Hf H → ∀ i, i < ds.length → J.go i H
  stop : ∀ H, Ext Hf H → J.stop ds.length H
  yld : ∀ H, Ext Hf H → ∀ i x H', i < ds.length → J.yld i H x H' → ∃ d, ds[i]? = some d ∧ ((H' = H ∧ Rep K mg Hf d x) ∨ ∃ p vs es, H p = none ∧ H' = upd H p (.tup vs) ∧ x = .ref p ∧ d = .tup es ∧ RepL K mg Hf es vs)
def PostI (W : WX) (fx : List Bool) (vs0 : List V) (Hr Hf : Hp) (σ : St) (r : LR) (R : It → Hp → Prop) : Prop :=
  match r with
  | .ok ds ρ => ∀ J Hf' H', Ext Hf Hf' → EnvOk K mg gs fx vs0 Hr Hf' H' σ ρ → Yields K mg Hf' J ds → R J H'
  | .exc x ρ => ∀ C, mg x = some (.ref C) → ∀ Hf' H', Ext Hf Hf' → EnvOk K mg gs fx vs0 Hr Hf' H' σ ρ → W (.ref C) none σ H'
  | .bad => False
def SI (W : WX) (t : TI) (m : MI) : Prop := ∀ fx vs0 Hr Hf H σ ρ R, EnvOk K mg gs fx vs0 Hr Hf H σ ρ → PostI K mg gs W fx vs0 Hr Hf σ (m ρ) R → t σ H R
end
structure DI (X : Cx) (W : WX) (tg e : Expr) (t : TI) (m : MI) : Prop where
  pi : PI X tg e t
  si : SI X.K X.mg X.gs W t m
/-- a list or a tuple -/
def iSeq (K : PySem.W.Frag) (tl : TE) : TI := fun σ H R => tl σ H fun x H1 => ∃ a, x = .ref a ∧ ((∃ xs, SqL K H1 a xs ∧ R (Itl K a) H1) ∨ ∃ xs, SqT K H1 a xs ∧ R (Itt K a) H1)
theorem pi_seq {X : Cx} {tg l : Expr} {tl : TE} (hl : PE X l tl) : PI X tg l (iSeq X.K tl) := by
  refine ⟨fun pins s σ H R I h => ?_⟩
  refine thn (hl.run pins s σ H _ I h) fun v s1 ⟨x, H1, I1, r1, q1⟩ => ?_
  obtain ⟨a, e, q⟩ := q1
  subst e
  cases r1
  rcases q with ⟨xs, hq, q⟩ | ⟨xs, hq, q⟩
  · obtain ⟨its, rv, p, hz⟩ := I1.list hq
    refine wpAny_pyIter_list p.isList ?_
    refine ⟨s1.heap.objs.size, [s1.heap.objs.size], _, _, H1, rfl, I1.kept (t' := s1.toks) fun b o e => Heap.get?_push_of_some _ e, turn_list a _, ⟨_, Heap.get?_push_size _ rfl, rfl, rfl⟩, fun b hb => ?_, q⟩
    have e : b = s1.heap.objs.size := by simpa using hb
    subst e
    exact I1.fpOk (Nat.le_refl _) (I1.hok.fresh (Nat.le_refl _))
  · obtain ⟨its, rv, p, hz⟩ := I1.tuple hq
    refine wpAny_pyIter_tuple (show s1.heap.IsTuple a its.toArray from p) ?_
    refine ⟨s1.heap.objs.size, [s1.heap.objs.size], _, _, H1, rfl, I1.kept (t' := s1.toks) fun b o e => Heap.get?_push_of_some _ e, turn_tuple a _, ⟨_, Heap.get?_push_size _ rfl, rfl, rfl⟩, fun b hb => ?_, q⟩
    have e : b = s1.heap.objs.size := by simpa using hb
    subst e
    exact I1.fpOk (Nat.le_refl _) (I1.hok.fresh (Nat.le_refl _))
def D.items : D → Option (List D)
  | .lst xs => some xs
  | .fls xs => some xs
  | .tup xs => some xs
  | _ => none
def miSeq (m : ME) : MI := fun ρ => match m ρ with
  | .ok r ρ1 => match frz r ρ1 with
    | some (d, ρ2) => match d.items with
      | some ds => .ok ds ρ2
      | none => .bad
    | none => .bad
  | .exc x ρ1 => .exc x ρ1
  | .bad => .bad
theorem yields_l {K : PySem.W.Frag} {mg : Str → Option Value} {Hf : Hp} {a : Addr} {vs : List V} {ds : List D} (h : SqL K Hf a vs) (r : RepL K mg Hf ds vs) : Yields K mg Hf (Itl K a) ds := by
  refine ⟨fun H e i hi => ⟨vs, vs[i]'(by rw [r.length]; exact hi), e.sql h, by simp [r.length, hi]⟩, fun H e => ⟨vs, e.sql h, by rw [r.length]; exact Nat.le_refl _⟩, fun H e i x H' hi y => ?_⟩
  obtain ⟨e1, y⟩ := y
  have hx := y vs (e.sql h)
  obtain ⟨d, h1, h2⟩ := r.getV hx
  exact ⟨d, h1, .inl ⟨e1, h2⟩⟩
theorem yields_t {K : PySem.W.Frag} {mg : Str → Option Value} {Hf : Hp} {a : Addr} {vs : List V} {ds : List D} (h : SqT K Hf a vs) (r : RepL K mg Hf ds vs) : Yields K mg Hf (Itt K a) ds := by
  refine ⟨fun H e i hi => ⟨vs, vs[i]'(by rw [r.length]; exact hi), e.sqt h, by simp [r.length, hi]⟩, fun H e => ⟨vs, e.sqt h, by rw [r.length]; exact Nat.le_refl _⟩, fun H e i x H' hi y => ?_⟩
  obtain ⟨e1, y⟩ := y
  have hx := y vs (e.sqt h)
  obtain ⟨d, h1, h2⟩ := r.getV hx
  exact ⟨d, h1, .inl ⟨e1, h2⟩⟩
theorem yields_r {K : PySem.W.Frag} {mg : Str → Option Value} {Hf : Hp} {lo : Int} {n : Nat} : Yields K mg Hf (Itr lo n) ((List.range n).map fun (k : Nat) => .int (lo + k)) := by
  refine ⟨fun H e i hi => by show i < n; simpa using hi, fun H e => by simp [Itr], fun H e i x H' hi y => ?_⟩
  obtain ⟨e1, y⟩ := y
  refine ⟨.int (lo + i), ?_, .inl ⟨e1, by rw [y]; rfl⟩⟩
  simp at hi
  simp [hi]
section
variable {X : Cx} {W : WX} {tg e a b : Expr} {te ta tb : TE} {m ma mb : ME} {p pos : Pos}
theorem di_seq (h : DE X W e te m) : DI X W tg e (iSeq X.K te) (miSeq m) := by
  refine ⟨pi_seq h.pe, fun fx vs0 Hr Hf H σ ρ R E q => h.se fx vs0 Hr Hf H σ ρ _ E ?_⟩
  unfold miSeq at q
  cases hm : m ρ with
  | bad => rw [hm] at q; exact q
  | exc x ρ1 => rw [hm] at q; exact q
  | ok r ρ1 =>
    rw [hm] at q
    intro v F H1 e1 E1 q1
    cases hz : frz r ρ1 with
    | none => simp only [hz] at q; exact q.elim
    | some x =>
      obtain ⟨d, ρ2⟩ := x
      simp only [hz] at q
      obtain ⟨F', e', E2, q2⟩ := frz_ok E1 q1 hz
      cases d with
      | lst ds =>
        obtain ⟨a, vs, rfl, k1, k2⟩ := q2
        refine ⟨a, rfl, .inl ⟨vs, .of (E2.sub a _ k1), q _ F' H1 (e1.trans e') E2 (yields_l (.of k1) k2)⟩⟩
      | fls ds =>
        obtain ⟨a, vs, rfl, k1, k2⟩ := q2
        refine ⟨a, rfl, .inl ⟨vs, E2.sub.sql k1, q _ F' H1 (e1.trans e') E2 (yields_l k1 k2)⟩⟩
      | tup ds =>
        obtain ⟨a, vs, rfl, k1, k2⟩ := q2
        exact ⟨a, rfl, .inr ⟨vs, E2.sub.sqt k1, q _ F' H1 (e1.trans e') E2 (yields_t k1 k2)⟩⟩
      | _ => exact q.elim
/-- range(n) -/
def miRange (m : ME) : MI := fun ρ => match m ρ with
  | .ok r ρ1 => match use r.fix ρ1 with
    | some (.int j) => if j.natAbs < 2 ^ 62 then .ok ((List.range j.toNat).map fun (k : Nat) => .int k) ρ1 else .bad
    | _ => .bad
  | .exc x ρ1 => .exc x ρ1
  | .bad => .bad
theorem di_range (h : DE X W a ta m) (hm : X.mg "range" = none) (hg : Gl X "range" := by rfl) (hs : starEach [a] X.env = [(false, eval a X.env)] := by rfl) (hs2 : starEach (a :: []) X.env = (false, eval a X.env) :: starEach [] X.env := by rfl) :
    DI X W tg (.Call (.Name "range" p) [a] [] pos) (iRng1 (tCons ta tNil)) (miRange m) := by
  refine ⟨pi_range1 hg hm (pa_cons h.pe pa_nil hs2) hs, fun fx vs0 Hr Hf H σ ρ R E q => h.se fx vs0 Hr Hf H σ ρ _ E ?_⟩
  unfold miRange at q
  cases hm : m ρ with
  | bad => rw [hm] at q; exact q
  | exc x ρ1 => rw [hm] at q; exact q
  | ok r ρ1 =>
    rw [hm] at q
    intro v F H1 e1 E1 q1
    obtain ⟨F', e', E2, q2⟩ := q1.fixed E1
    cases hu : use r.fix ρ1 with
    | none => simp only [hu] at q; exact q.elim
    | some d =>
      have u := use_ok E2 q2 hu
      simp only [hu] at q
      cases d with
      | int j =>
        by_cases hj : j.natAbs < 2 ^ 62
        · simp only [if_pos hj] at q
          cases (show v = .int j from u)
          have y := yields_r (K := X.K) (mg := X.mg) (Hf := F') (lo := 0) (n := j.toNat)
          simp only [Int.zero_add] at y
          exact ⟨j, rfl, by omega, by omega, q _ F' H1 (e1.trans e') E2 y⟩
        · simp only [if_neg hj] at q; exact q.elim
      | _ => exact q.elim
/-- range(lo, hi) -/
def miRange2 (ma mb : ME) : MI := fun ρ => match ma ρ with
  | .ok r ρ1 => match use r.fix ρ1 with
    | some (.int i) => match mb ρ1 with
      | .ok r2 ρ2 => match use r2.fix ρ2 with
        | some (.int j) => if i.natAbs < 2 ^ 62 ∧ j.natAbs < 2 ^ 62 then .ok ((List.range (j - i).toNat).map fun (k : Nat) => .int (i + k)) ρ2 else .bad
        | _ => .bad
      | .exc x ρ2 => .exc x ρ2
      | .bad => .bad
    | _ => .bad
  | .exc x ρ1 => .exc x ρ1
  | .bad => .bad
theorem di_range2 (ha : DE X W a ta ma) (hb : DE X W b tb mb) (hm : X.mg "range" = none) (hg : Gl X "range" := by rfl) (hs : starEach [a, b] X.env = [(false, eval a X.env), (false, eval b X.env)] := by rfl) (hs2 : starEach [b] X.env = [(false, eval b X.env)] := by rfl)
    (hs3 : starEach (a :: [b]) X.env = (false, eval a X.env) :: starEach [b] X.env := by rfl) (hs4 : starEach (b :: []) X.env = (false, eval b X.env) :: starEach [] X.env := by rfl) :
    DI X W tg (.Call (.Name "range" p) [a, b] [] pos) (iRng2 (tCons ta (tCons tb tNil))) (miRange2 ma mb) := by
  refine ⟨pi_range2 hg hm (pa_cons ha.pe (pa_cons hb.pe pa_nil hs4) hs3) hs hs2, fun fx vs0 Hr Hf H σ ρ R E q => ha.se fx vs0 Hr Hf H σ ρ _ E ?_⟩
  unfold miRange2 at q
  cases hm : ma ρ with
  | bad => rw [hm] at q; exact q
  | exc x ρ1 => rw [hm] at q; exact q
  | ok r ρ1 =>
    rw [hm] at q
    intro v F H1 e1 E1 q1
    obtain ⟨F', e', E2, q2⟩ := q1.fixed E1
    cases hu : use r.fix ρ1 with
    | none => simp only [hu] at q; exact q.elim
    | some d =>
      have u := use_ok E2 q2 hu
      simp only [hu] at q
      cases d with
      | int i =>
        cases (show v = .int i from u)
        refine hb.se fx vs0 Hr F' H1 σ ρ1 _ E2 ?_
        simp only at q
        cases hm2 : mb ρ1 with
        | bad => rw [hm2] at q; exact q
        | exc x ρ2 =>
          rw [hm2] at q
          exact fun C z1 F2 H2 e2 E2 => q C z1 F2 H2 ((e1.trans e').trans e2) E2
        | ok r2 ρ2 =>
          rw [hm2] at q
          intro v2 F2 H2 e2 E3 q3
          obtain ⟨F3, e3, E4, q4⟩ := q3.fixed E3
          cases hu2 : use r2.fix ρ2 with
          | none => simp only [hu2] at q; exact q.elim
          | some d2 =>
            have u2 := use_ok E4 q4 hu2
            simp only [hu2] at q
            cases d2 with
            | int j =>
              by_cases hj : i.natAbs < 2 ^ 62 ∧ j.natAbs < 2 ^ 62
              · simp only [if_pos hj] at q
                cases (show v2 = .int j from u2)
                exact ⟨i, j, rfl, ⟨by omega, by omega, by omega, by omega⟩, q _ F3 H2 (((e1.trans e').trans e2).trans e3) E4 yields_r⟩
              · simp only [if_neg hj] at q; exact q.elim
            | _ => exact q.elim
      | _ => exact q.elim
end
/-! ### targets -/
abbrev MG := D → Env → Option Env
def SG (K : PySem.W.Frag) (mg : Str → Option Value) (gs : List Nat) (fx : List Bool) (g : TG) (f : MG) : Prop := ∀ vs0 Hr Hf H σ ρ d v ρ' Q, EnvOk K mg gs fx vs0 Hr Hf H σ ρ → Rep K mg Hf d v → f d ρ = some ρ' →
  (∀ σ', EnvOk K mg gs fx vs0 Hr Hf H σ' ρ' → Q σ' H) → g v σ H Q
/-- .. of a comprehension, whose own slots are vsl -/
def SGC (K : PySem.W.Frag) (mg : Str → Option Value) (gs : List Nat) (vsl : List Nat) (g : TG) (f : MG) : Prop := ∀ Hr Hf H σ ρ d v ρ' Q, EnvOk K mg gs [] [] Hr Hf H σ ρ → Rep K mg Hf d v → f d ρ = some ρ' →
  (∀ σ', EnvOk K mg gs [] [] Hr Hf H σ' ρ' → wipe σ' vsl = wipe σ vsl → Q σ' H) → g v σ H Q
structure DG (X : Cx) (fx : List Bool) (tg : Expr) (g : TG) (f : MG) : Prop where
  pg : PG X tg g
  sg : SG X.K X.mg X.gs fx g f
def mgName (i : Nat) : MG := fun d ρ => some (ρ.set i (.val d))
theorem sg_name {K : PySem.W.Frag} {mg : Str → Option Value} {gs : List Nat} {fx : List Bool} {i : Nat} (hi : fx[i]? ≠ some true) (hg : i ∉ gs) : SG K mg gs fx (gName i) (mgName i) := by
  intro vs0 Hr Hf H σ ρ d v ρ' Q E r e q
  cases e
  exact q _ (E.store hi (.inl hg) (.inl ⟨d, rfl, r⟩))
theorem sgc_name {K : PySem.W.Frag} {mg : Str → Option Value} {gs : List Nat} {i : Nat} (hg : i ∉ gs := by exact of_decide_eq_true (by kernel_rfl)) : SGC K mg gs [i] (gName i) (mgName i) := by
  intro Hr Hf H σ ρ d v ρ' Q E r e q
  cases e
  refine q _ (E.store (by simp) (.inl hg) (.inl ⟨d, rfl, r⟩)) ?_
  simp [wipe]
def setAll : Env → List Nat → List D → Env
  | ρ, i :: is, d :: ds => setAll (ρ.set i (.val d)) is ds
  | ρ, _, _ => ρ
def mgTup (is : List Nat) : MG := fun d ρ => match d with
  | .tup ds => if ds.length = is.length then some (setAll ρ is ds) else none
  | _ => none
def gNames : List Nat → TGs
  | [] => gNil
  | i :: is => gCons (gName i) (gNames is)
theorem sg_names {K : PySem.W.Frag} {mg : Str → Option Value} {gs : List Nat} {fx : List Bool} {vs0 : List V} {Hr Hf H : Hp} : ∀ {is : List Nat} {ds : List D} {vs : List V} {σ : St} {ρ : Env} {Q : St → Hp → Prop}, (∀ i ∈ is, fx[i]? ≠ some true ∧ i ∉ gs) → ds.length = is.length →
    EnvOk K mg gs fx vs0 Hr Hf H σ ρ → RepL K mg Hf ds vs → (∀ σ', EnvOk K mg gs fx vs0 Hr Hf H σ' (setAll ρ is ds) → Q σ' H) → gNames is vs σ H Q
  | [], [], vs, σ, ρ, Q, _, _, E, r, q => by
    have r : vs = [] := r
    subst r
    exact ⟨rfl, q σ E⟩
  | i :: is, d :: ds, _, σ, ρ, Q, hi, hl, E, ⟨v, ws, h1, h2, h3⟩, q => by
    subst h1
    refine ⟨v, ws, rfl, ?_⟩
    refine sg_names (is := is) (ds := ds) (fun j hj => hi j (List.mem_cons_of_mem _ hj)) (by simpa using hl) (E.store (hi i List.mem_cons_self).1 (.inl (hi i List.mem_cons_self).2) (.inl ⟨d, rfl, h2⟩)) h3 fun σ' E' => q σ' E'
  | [], _ :: _, _, _, _, _, _, h, _, _, _ => by simp at h
  | _ :: _, [], _, _, _, _, _, h, _, _, _ => by simp at h
theorem sg_tup {K : PySem.W.Frag} {mg : Str → Option Value} {gs : List Nat} {fx : List Bool} {is : List Nat} {n : Nat} (hn : n = is.length) (hi : ∀ i ∈ is, fx[i]? ≠ some true ∧ i ∉ gs) : SG K mg gs fx (gTup K n (gNames is)) (mgTup is) := by
  intro vs0 Hr Hf H σ ρ d v ρ' Q E r e q
  cases d with
  | tup ds =>
    unfold mgTup at e
    by_cases hl : ds.length = is.length
    · simp only [if_pos hl, Option.some.injEq] at e
      subst e
      obtain ⟨a, vs, rfl, h2, h3⟩ := r
      exact ⟨a, vs, rfl, E.sub.sqt h2, by rw [h3.length, hl, hn], sg_names hi hl E h3 q⟩
    · simp only [if_neg hl] at e; cases e
  | _ => cases e
section
variable {X : Cx} {fx : List Bool} {pos : Pos}
theorem dg_name (i : Nat) {x : Str} (hN : X.N.Nodup) (hi : X.N[i]? = some x := by rfl) (hx : Loc X.env.scope x := by first | exact Or.inl rfl | exact Or.inr rfl)
    (hf : X.fn x = true ∨ X.env.scope.names.lookup x = some .local := by first | exact .inl rfl | exact .inr rfl) (hfx : fx[i]? ≠ some true := by decide) (hgs : i ∉ X.gs := by exact of_decide_eq_true (by kernel_rfl)) : DG X fx (.Name x pos) (gName i) (mgName i) := ⟨pg_name hN hi hx hf, sg_name hfx hgs⟩
theorem dg_tup {es : List Expr} {k : Nat} {is : List Nat} (hc : X.calm = true) (h : PGs X es (gNames is)) (hi : ∀ i ∈ is, fx[i]? ≠ some true ∧ i ∉ X.gs) (hn : (assignEach es X.env).length = is.length := by rfl) (hst : (assignEach es X.env).findIdx? (·.1) = none := by rfl) :
    DG X fx (.Tuple es k pos) (gTup X.K is.length (gNames is)) (mgTup is) := ⟨pg_tup hc h hn hst, sg_tup rfl hi⟩
end

/-! ### for -/
def mLoop (f : MG) (mb : MS) : List D → MS
  | [], ρ => .nx ρ
  | d :: ds, ρ => match f d ρ with
    | none => .bad
    | some ρ1 => match mb ρ1 with
      | .nx ρ2 => mLoop f mb ds ρ2
      | .ct ρ2 => mLoop f mb ds ρ2
      | .bk ρ2 => .nx ρ2
      | r => r
def mFor (mi : MI) (f : MG) (mb : MS) : MS := fun ρ => match mi ρ with
  | .ok ds ρ1 => mLoop f mb ds ρ1
  | .exc x ρ1 => .exc x ρ1
  | .bad => .bad
section
variable {K : PySem.W.Frag} {mg : Str → Option Value} {gs : List Nat} {W : WX} {fx : List Bool}
theorem Yields.mono {Hf Hf' : Hp} {J : It} {ds : List D} (y : Yields K mg Hf J ds) (e : Ext Hf Hf') : Yields K mg Hf' J ds :=
  ⟨fun H e' => y.go H (e.trans e'), fun H e' => y.stop H (e.trans e'), fun H e' i x H' hi h => by
    obtain ⟨d, h1, h2⟩ := y.yld H (e.trans e') i x H' hi h
    refine ⟨d, h1, ?_⟩
    rcases h2 with ⟨h2, h3⟩ | ⟨p, vs, es, h2, h3, h4, h5, h6⟩
    · exact .inl ⟨h2, h3.mono e⟩
    · exact .inr ⟨p, vs, es, h2, h3, h4, h5, h6.mono e⟩⟩
theorem SS.loop {wi : TI} {g : TG} {tb : TS} {mi : MI} {f : MG} {mb : MS} (hi : SI K mg gs W wi mi) (hg : SG K mg gs fx g f) (hb : SS K mg gs W fx tb mb) : SS K mg gs W fx (tFor wi g tb) (mFor mi f mb) := by
  intro vs0 Hr Hf H σ ρ D E p
  refine hi fx vs0 Hr Hf H σ ρ _ E ?_
  unfold mFor at p
  cases hm : mi ρ with
  | bad => rw [hm] at p; exact p
  | exc x ρ1 => rw [hm] at p; exact fun C h1 F H' e E' => p C h1 σ F H' e E'
  | ok ds ρ1 =>
    rw [hm] at p
    intro J F1 H1 e1 E1 y
    have P : PostS K mg gs W fx vs0 Hr F1 (mLoop f mb ds ρ1) D := PostS.mono p e1
    let Pv : Nat → St → Hp → Prop := fun i σ H => ∃ F ρ, Ext F1 F ∧ EnvOk K mg gs fx vs0 Hr F H σ ρ ∧ PostS K mg gs W fx vs0 Hr F (mLoop f mb (ds.drop i) ρ) D
    refine ⟨fun i m σ H => m = ds.length - i ∧ i ≤ ds.length ∧ Pv i σ H, ⟨ds.length, by simp, Nat.zero_le _, F1, ρ1, Ext.refl _, E1, P⟩, ?_⟩
    rintro i m σ2 H2 ⟨rfl, hi, F, ρ2, e2, E2, P2⟩
    by_cases hlt : i < ds.length
    · refine .inr ⟨y.go H2 (e2.trans E2.sub) i hlt, Pv (i + 1), fun σ' H' p' => ⟨ds.length - (i + 1), by omega, rfl, hlt, p'⟩, fun x H' hy => ?_⟩
      obtain ⟨d, h1, h2⟩ := y.yld H2 (e2.trans E2.sub) i x H' hlt hy
      have hd : ds.drop i = d :: ds.drop (i + 1) := by
        rw [List.drop_eq_getElem_cons hlt]
        obtain ⟨_, h1⟩ := List.getElem?_eq_some_iff.mp h1
        rw [h1]
      rw [hd] at P2
      unfold mLoop at P2
      -- the item is laid
      have go : ∀ F3, Ext F F3 → EnvOk K mg gs fx vs0 Hr F3 H' σ2 ρ2 → Rep K mg F3 d x → g x σ2 H' fun σ2 H2 => tb { D with nx := Pv (i + 1), ct := Pv (i + 1), bk := D.nx } σ2 H2 := fun F3 e3 E3 r3 => by
        cases hf : f d ρ2 with
        | none => simp only [hf] at P2; exact P2.elim
        | some ρ3 =>
          simp only [hf] at P2
          refine hg vs0 Hr F3 H' σ2 ρ2 d x ρ3 _ E3 r3 hf fun σ' E4 => ?_
          refine hb vs0 Hr F3 H' σ' ρ3 _ E4 ?_
          cases hz : mb ρ3 with
          | nx ρ4 => simp only [hz] at P2; exact fun σ5 F5 H5 e5 E5 => ⟨F5, ρ4, e2.trans (e3.trans e5), E5, PostS.mono P2 (e3.trans e5)⟩
          | ct ρ4 => simp only [hz] at P2; exact fun σ5 F5 H5 e5 E5 => ⟨F5, ρ4, e2.trans (e3.trans e5), E5, PostS.mono P2 (e3.trans e5)⟩
          | bk ρ4 => simp only [hz] at P2; exact fun σ5 F5 H5 e5 E5 => P2 σ5 F5 H5 (e3.trans e5) E5
          | ret r ρ4 => simp only [hz] at P2; exact fun v σ5 F5 H5 e5 E5 => P2 v σ5 F5 H5 (e3.trans e5) E5
          | exc x ρ4 => simp only [hz] at P2; exact fun C z1 σ5 F5 H5 e5 E5 => P2 C z1 σ5 F5 H5 (e3.trans e5) E5
          | bad => simp only [hz] at P2; exact P2.elim
      rcases h2 with ⟨rfl, h2⟩ | ⟨q, vs, es, h2, rfl, rfl, rfl, h6⟩
      · exact go F (Ext.refl _) E2 (h2.mono e2)
      · refine go (upd F q (.tup vs)) (Ext.new (E2.freshF h2)) (E2.newF h2) ⟨q, vs, rfl, .of upd_same, (h6.mono e2).mono (Ext.new (E2.freshF h2))⟩
    · have e : i = ds.length := by omega
      subst e
      rw [List.drop_length] at P2
      exact .inl ⟨y.stop H2 (e2.trans E2.sub), P2 σ2 F H2 (Ext.refl _) E2⟩
end
theorem ds_for {X : Cx} {W : WX} {fx : List Bool} {tg iter : Expr} {body : List Stmt} {wi : TI} {g : TG} {tb : TS} {mi : MI} {f : MG} {mb : MS} {pos : Pos} (hp : PassesOwn (model X.prog X.w) X.A X.env X.xe) (hc : X.calm = true) (hi : DI X W tg iter wi mi)
    (hg : DG X fx tg g f) (hb : DSs X W fx body tb mb) (hs : ∀ x, foldedSetIterable iter X.env x = pure x := by intro _; rfl) : DS X W fx (.For tg iter body [] pos) (tFor wi g tb) (mFor mi f mb) :=
  ⟨ps_for hp hc hi.pi hg.pg hb.ps hs, SS.loop hi.si hg.sg hb.ss⟩

/-! ### while -/
def mWhile (c : MT) (mb : MS) : Nat → MS
  | 0, _ => .bad
  | n + 1, ρ => match c ρ with
    | .ok true ρ1 => match mb ρ1 with
      | .nx ρ2 => mWhile c mb n ρ2
      | .ct ρ2 => mWhile c mb n ρ2
      | .bk ρ2 => .nx ρ2
      | r => r
    | .ok false ρ1 => .nx ρ1
    | .exc x ρ1 => .exc x ρ1
    | .bad => .bad
theorem SS.whl {K : PySem.W.Frag} {mg : Str → Option Value} {gs : List Nat} {W : WX} {fx : List Bool} {tc : TT} {tb : TS} {mc : MT} {mb : MS} (n : Nat) (hc : ST K mg gs W tc mc) (hb : SS K mg gs W fx tb mb) : SS K mg gs W fx (tWhile tc tb) (mWhile mc mb n) := by
  intro vs0 Hr Hf H σ ρ D E p
  refine ⟨fun m σ H => ∃ F ρ, EnvOk K mg gs fx vs0 Hr F H σ ρ ∧ Ext Hf F ∧ PostS K mg gs W fx vs0 Hr F (mWhile mc mb m ρ) D, ⟨n, Hf, ρ, E, Ext.refl _, p⟩, ?_⟩
  rintro m σ1 H1 ⟨F, ρ1, E1, e1, P⟩
  cases m with
  | zero => exact P.elim
  | succ m =>
    unfold mWhile at P
    refine hc fx vs0 Hr F H1 σ1 ρ1 _ E1 ?_
    cases hm : mc ρ1 with
    | bad => simp only [hm] at P; exact P
    | exc x ρ2 => simp only [hm] at P; exact fun C h1 F H' e E' => P C h1 σ1 F H' e E'
    | ok b ρ2 =>
      intro F2 H2 e2 E2
      cases b with
      | false => simp only [hm] at P; exact P σ1 F2 H2 e2 E2
      | true =>
        simp only [hm] at P
        refine ⟨fun σ H => ∃ F ρ, EnvOk K mg gs fx vs0 Hr F H σ ρ ∧ Ext Hf F ∧ PostS K mg gs W fx vs0 Hr F (mWhile mc mb m ρ) D, fun σ' H' q => ⟨m, Nat.lt_succ_self _, q⟩, ?_⟩
        refine hb vs0 Hr F2 H2 σ1 ρ2 _ E2 ?_
        cases hz : mb ρ2 with
        | nx ρ4 => simp only [hz] at P; exact fun σ5 F5 H5 e5 E5 => ⟨F5, ρ4, E5, e1.trans (e2.trans e5), PostS.mono P (e2.trans e5)⟩
        | ct ρ4 => simp only [hz] at P; exact fun σ5 F5 H5 e5 E5 => ⟨F5, ρ4, E5, e1.trans (e2.trans e5), PostS.mono P (e2.trans e5)⟩
        | bk ρ4 => simp only [hz] at P; exact fun σ5 F5 H5 e5 E5 => P σ5 F5 H5 (e2.trans e5) E5
        | ret r ρ4 => simp only [hz] at P; exact fun v σ5 F5 H5 e5 E5 => P v σ5 F5 H5 (e2.trans e5) E5
        | exc x ρ4 => simp only [hz] at P; exact fun C z1 σ5 F5 H5 e5 E5 => P C z1 σ5 F5 H5 (e2.trans e5) E5
        | bad => simp only [hz] at P; exact P.elim
theorem ds_while {X : Cx} {W : WX} {fx : List Bool} {c : Expr} {body : List Stmt} {tc : TT} {tb : TS} {mc : MT} {mb : MS} {pos : Pos} (n : Nat) (hp : PassesOwn (model X.prog X.w) X.A X.env X.xe) (hc : DT X W c tc mc) (hb : DSs X W fx body tb mb) :
    DS X W fx (.While c body [] pos) (tWhile tc tb) (mWhile mc mb n) := ⟨ps_while hp hc.pt hb.ps, SS.whl n hc.st hb.ss⟩

/-! ### comprehensions -/
def wipeE (ρ : Env) : List Nat → Env
  | [] => ρ
  | v :: vs => (wipeE ρ vs).set v .no
/-- behind: the own slots as they were -/
def backE (ρ0 : Env) (ρ : Env) : List Nat → Env
  | [] => ρ
  | v :: vs => match ρ0[v]? with
    | some c => (backE ρ0 ρ vs).set v c
    | none => backE ρ0 ρ vs
def noneOwn (ρ : Env) (vsl : List Nat) : Bool := vsl.all fun v => match ρ[v]? with
  | some c => !isOwn c
  | none => true
def mLcLoop (vsl : List Nat) (f : MG) (mt : MT) (me : ME) : List D → List D → Env → LR
  | [], acc, ρ => .ok acc ρ
  | d :: ds, acc, ρ => match f d ρ with
    | none => .bad
    | some ρ1 => match mt ρ1 with
      | .ok true ρ2 => match me ρ2 with
        | .ok r ρ3 => match frz r ρ3 with
          | some (y, ρ4) => if acc.length < sizeLine then mLcLoop vsl f mt me ds (acc ++ [y]) (wipeE ρ4 vsl) else .bad
          | none => .bad
        | _ => .bad
      | .ok false ρ2 => mLcLoop vsl f mt me ds acc (wipeE ρ2 vsl)
      | _ => .bad
def mLc (vsl : List Nat) (mi : MI) (f : MG) (mt : MT) (me : ME) : ME := fun ρ => match mi ρ with
  | .ok ds ρ1 => if noneOwn ρ1 vsl = true then match mLcLoop vsl f mt me ds [] (wipeE ρ1 vsl) with
      | .ok ys ρ2 => .ok (.ow (.own ys)) (backE ρ1 ρ2 vsl)
      | _ => .bad
    else .bad
  | .exc x ρ1 => .exc x ρ1
  | .bad => .bad
abbrev W0 : WX := fun _ _ _ _ => False
theorem wipe_len (σ : St) : ∀ vs : List Nat, (wipe σ vs).length = σ.length
  | [] => rfl
  | v :: vs => by unfold wipe; rw [List.length_set, wipe_len σ vs]
theorem wipe_wipe1 (σ : St) : ∀ (vs : List Nat) (v : Nat), (wipe (σ.set v none) vs) = (wipe σ vs).set v none
  | [], v => rfl
  | u :: vs, v => by
    unfold wipe
    rw [wipe_wipe1 σ vs v]
    by_cases h : u = v
    · subst h; rfl
    · rw [List.set_comm _ _ (Ne.symm h)]
theorem wipe_wipe (σ : St) : ∀ (vs : List Nat), wipe (wipe σ vs) vs = wipe σ vs
  | [] => rfl
  | v :: vs => by
    show (wipe ((wipe σ vs).set v none) vs).set v none = (wipe σ vs).set v none
    rw [wipe_wipe1, wipe_wipe σ vs, List.set_set]
theorem wipeE_len (ρ : Env) : ∀ vs : List Nat, (wipeE ρ vs).length = ρ.length
  | [] => rfl
  | v :: vs => by unfold wipeE; rw [List.length_set, wipeE_len ρ vs]
theorem wipe_at {σ : St} {i : Nat} : ∀ {vs : List Nat}, i ∉ vs → (wipe σ vs)[i]? = σ[i]?
  | [], _ => rfl
  | v :: vs, h => by
    unfold wipe
    rw [List.getElem?_set_ne (fun z => h (by rw [z]; exact List.mem_cons_self)), wipe_at fun z => h (List.mem_cons_of_mem _ z)]
theorem wipeE_at {ρ : Env} {i : Nat} : ∀ {vs : List Nat}, i ∉ vs → (wipeE ρ vs)[i]? = ρ[i]?
  | [], _ => rfl
  | v :: vs, h => by
    unfold wipeE
    rw [List.getElem?_set_ne (fun z => h (by rw [z]; exact List.mem_cons_self)), wipeE_at fun z => h (List.mem_cons_of_mem _ z)]
theorem wipeE_in {ρ : Env} {i : Nat} {c : Cell} : ∀ {vs : List Nat}, i ∈ vs → (wipeE ρ vs)[i]? = some c → c = .no
  | v :: vs, h, e => by
    unfold wipeE at e
    by_cases hv : v = i
    · subst hv
      by_cases hl : v < (wipeE ρ vs).length
      · rw [List.getElem?_set_self hl] at e; cases e; rfl
      · rw [List.getElem?_eq_none (by simp; omega)] at e; cases e
    · rw [List.getElem?_set_ne hv] at e
      refine wipeE_in (vs := vs) ?_ e
      rcases List.mem_cons.mp h with z | z
      · exact (hv z.symm).elim
      · exact z
theorem backE_len (ρ0 ρ : Env) : ∀ vs : List Nat, (backE ρ0 ρ vs).length = ρ.length
  | [] => rfl
  | v :: vs => by
    unfold backE
    cases ρ0[v]? with
    | none => exact backE_len ρ0 ρ vs
    | some c => simp only [List.length_set]; exact backE_len ρ0 ρ vs
theorem backE_at {ρ0 ρ : Env} {i : Nat} : ∀ {vs : List Nat}, i ∉ vs → (backE ρ0 ρ vs)[i]? = ρ[i]?
  | [], _ => rfl
  | v :: vs, h => by
    unfold backE
    have ih := backE_at (ρ0 := ρ0) (ρ := ρ) (vs := vs) fun z => h (List.mem_cons_of_mem _ z)
    cases ρ0[v]? with
    | none => exact ih
    | some c =>
      simp only
      rw [List.getElem?_set_ne (fun z => h (by rw [z]; exact List.mem_cons_self)), ih]
theorem backE_in {ρ0 ρ : Env} {i : Nat} {c : Cell} : ∀ {vs : List Nat}, i ∈ vs → ρ0.length = ρ.length → (backE ρ0 ρ vs)[i]? = some c → ρ0[i]? = some c
  | v :: vs, h, l, e => by
    unfold backE at e
    by_cases hv : v = i
    · subst hv
      cases h0 : ρ0[v]? with
      | none =>
        rw [h0] at e
        have : ρ0.length ≤ v := List.getElem?_eq_none_iff.mp h0
        simp only at e
        rw [List.getElem?_eq_none (by rw [backE_len]; omega)] at e; cases e
      | some c' =>
        rw [h0] at e
        simp only at e
        have hl : v < ρ0.length := (List.getElem?_eq_some_iff.mp h0).1
        rw [List.getElem?_set_self (by rw [backE_len]; omega)] at e
        exact e
    · have hm : i ∈ vs := by
        rcases List.mem_cons.mp h with z | z
        · exact (hv z.symm).elim
        · exact z
      cases h0 : ρ0[v]? with
      | none => rw [h0] at e; exact backE_in hm l e
      | some c' =>
        rw [h0] at e
        simp only at e
        rw [List.getElem?_set_ne hv] at e
        exact backE_in hm l e
section
variable {K : PySem.W.Frag} {mg : Str → Option Value} {gs : List Nat} {Hr Hf Hf' H H' : Hp} {σ σ' : St} {ρ ρ' : Env} {vsl : List Nat} {fx : List Bool} {vs0 : List V}
theorem EnvOk.wiped (E : EnvOk K mg gs fx vs0 Hr Hf H σ ρ) (hg : ∀ j ∈ gs, j ∉ vsl) (hn : wipe σ vsl = wipe σ' vsl) : EnvOk K mg gs [] [] Hr Hf H (wipe σ' vsl) (wipeE ρ vsl) := by
  have own : ∀ {i : Nat} {a : Addr}, OwnAt (wipe σ' vsl) (wipeE ρ vsl) i a → OwnAt σ ρ i a ∧ i ∉ vsl := fun {i a} ⟨⟨c, h1, h2⟩, h3⟩ => by
    have hi : i ∉ vsl := fun hi => by rw [wipeE_in hi h1] at h2; cases h2
    rw [wipeE_at hi] at h1
    rw [← hn, wipe_at hi] at h3
    exact ⟨⟨⟨c, h1, h2⟩, h3⟩, hi⟩
  refine ⟨?_, E.sub, E.frm, E.dis, fun i c hc => ?_, fun i j a p q => E.inj i j a (own p).1 (own q).1, fun i h => by simp at h, fun i c hc => ?_⟩
  · rw [wipeE_len, ← hn, wipe_len]; exact E.len
  · by_cases hi : i ∈ vsl
    · rw [wipeE_in hi hc]; trivial
    · rw [wipeE_at hi] at hc
      rw [← hn, wipe_at hi]
      exact E.cel i c hc
  · by_cases hi : i ∈ vsl
    · rw [wipeE_in hi hc]; trivial
    · rw [wipeE_at hi] at hc
      rw [← hn, wipe_at hi]
      exact (E.lnk i c hc).step (Ext.refl _) fun j hj => ⟨hj, by rw [wipe_at (hg j hj)]⟩
/-- behind the comprehension -/
theorem EnvOk.back {ρ2 : Env} (E : EnvOk K mg gs fx vs0 Hr Hf H σ ρ) (hg : ∀ j ∈ gs, j ∉ vsl) (hn : noneOwn ρ vsl = true) (E2 : EnvOk K mg gs [] [] Hr Hf' H' (wipe σ vsl) ρ2) (e : Ext Hf Hf') : EnvOk K mg gs fx vs0 Hr Hf' H' σ (backE ρ ρ2 vsl) := by
  have l2 : ρ2.length = σ.length := by rw [← E2.len, wipe_len]
  have l : ρ.length = ρ2.length := by rw [l2, E.len]
  have nown : ∀ {i : Nat} {c : Cell}, i ∈ vsl → ρ[i]? = some c → isOwn c = false := fun {i c} hi hc => by
    have := List.all_eq_true.mp hn i hi
    rw [hc] at this
    simpa using this
  have own : ∀ {i : Nat} {a : Addr}, OwnAt σ (backE ρ ρ2 vsl) i a → OwnAt (wipe σ vsl) ρ2 i a := fun {i a} ⟨⟨c, h1, h2⟩, h3⟩ => by
    by_cases hi : i ∈ vsl
    · have := nown hi (backE_in hi l h1)
      rw [h2] at this; cases this
    · rw [backE_at hi] at h1
      exact ⟨⟨c, h1, h2⟩, by rw [wipe_at hi]; exact h3⟩
  refine ⟨by rw [backE_len, l2], E2.sub, E2.frm, E2.dis, fun i c hc => ?_, fun i j a p q => E2.inj i j a (own p) (own q), E.fix, fun i c hc => ?_⟩
  · by_cases hi : i ∈ vsl
    · have hc := backE_in hi l hc
      have z := nown hi hc
      exact (E.cel i c hc).step e fun ho => by rw [z] at ho; cases ho
    · rw [backE_at hi] at hc
      have := E2.cel i c hc
      rw [wipe_at hi] at this
      exact this
  · by_cases hi : i ∈ vsl
    · exact (E.lnk i c (backE_in hi l hc)).mono e
    · rw [backE_at hi] at hc
      have := E2.lnk i c hc
      rw [wipe_at hi] at this
      exact this.step (Ext.refl _) fun j hj => ⟨hj, by rw [wipe_at (hg j hj)]⟩
theorem SE.lc {W : WX} (hgs : ∀ j ∈ gs, j ∉ vsl) {wi : TI} {g : TG} {tt : TT} {te : TE} {mi : MI} {f : MG} {mt : MT} {me : ME} (hi : SI K mg gs W wi mi) (hg : SGC K mg gs vsl g f) (ht : ST K mg gs W0 tt mt) (he : SE K mg gs W0 te me) : SE K mg gs W (tLc wi g tt te vsl) (mLc vsl mi f mt me) := by
  intro fx vs0 Hr Hf H σ ρ Q E p
  refine hi fx vs0 Hr Hf H σ ρ _ E ?_
  unfold mLc at p
  cases hm : mi ρ with
  | bad => rw [hm] at p; exact p
  | exc x ρ1 => rw [hm] at p; exact p
  | ok ds ρ1 =>
    rw [hm] at p
    intro J F1 H1 e1 E1 y Dl hD
    by_cases hno : noneOwn ρ1 vsl = true
    · simp only [if_pos hno] at p
      cases hl : mLcLoop vsl f mt me ds [] (wipeE ρ1 vsl) with
      | bad => simp only [hl] at p; exact p.elim
      | exc x ρ2 => simp only [hl] at p; exact p.elim
      | ok ys ρ2 =>
        simp only [hl] at p
        -- the new list is kept out of the frame
        have E0 : EnvOk K mg gs [] [] Hr F1 (upd H1 Dl (.lst [])) (wipe σ vsl) (wipeE ρ1 vsl) := (E1.newO hD).wiped hgs rfl
        let Pv : Nat → Hp → Prop := fun i H => ∃ F ρ acc vs, Ext F1 F ∧ EnvOk K mg gs [] [] Hr F H (wipe σ vsl) ρ ∧ H Dl = some (.lst vs) ∧ RepL K mg F acc vs ∧ F Dl = none ∧ Hr Dl = none ∧ (∀ j, ¬ OwnAt (wipe σ vsl) ρ j Dl) ∧ mLcLoop vsl f mt me (ds.drop i) acc ρ = .ok ys ρ2
        refine ⟨fun i m H => m = ds.length - i ∧ i ≤ ds.length ∧ Pv i H, ⟨ds.length, by simp, Nat.zero_le _, F1, wipeE ρ1 vsl, [], [], Ext.refl _, E0, upd_same, rfl, E1.freshF hD, E1.freshR hD, fun j q => ?_, hl⟩, ?_⟩
        · obtain ⟨⟨c, q1, q2⟩, q3⟩ := q
          have hj : j ∉ vsl := fun hj => by rw [wipeE_in hj q1] at q2; cases q2
          rw [wipeE_at hj] at q1
          rw [wipe_at hj] at q3
          exact E1.freshO hD j ⟨⟨c, q1, q2⟩, q3⟩
        · rintro i m H2 ⟨rfl, hi, F, ρ3, acc, vs, e2, E2, hDl, hacc, fD, rD, oD, P2⟩
          by_cases hlt : i < ds.length
          · refine .inr ⟨y.go H2 (e2.trans E2.sub) i hlt, Pv (i + 1), fun H' p' => ⟨ds.length - (i + 1), by omega, rfl, hlt, p'⟩, fun x H' hy => ?_⟩
            obtain ⟨d, h1, h2⟩ := y.yld H2 (e2.trans E2.sub) i x H' hlt hy
            have hd : ds.drop i = d :: ds.drop (i + 1) := by
              rw [List.drop_eq_getElem_cons hlt]
              obtain ⟨_, h1⟩ := List.getElem?_eq_some_iff.mp h1
              rw [h1]
            rw [hd] at P2
            unfold mLcLoop at P2
            -- the list under construction is put into the frame for the turn
            have go : ∀ F3, Ext F F3 → F3 Dl = none → EnvOk K mg gs [] [] Hr F3 H' (wipe σ vsl) ρ3 → H' Dl = some (.lst vs) → Rep K mg F3 d x → g x (wipe σ vsl) H' fun σ2 H2 => wipe σ2 vsl = wipe σ vsl ∧ tt σ2 H2 fun b H3 =>
                if b = true then te σ2 H3 fun y H4 => ∃ acc, H4 Dl = some (.lst acc) ∧ acc.length < sizeLine ∧ Pv (i + 1) (upd H4 Dl (.lst (acc ++ [y]))) else Pv (i + 1) H3 := fun F3 e3 f3 E3 d3 r3 => by
              cases hf : f d ρ3 with
              | none => simp only [hf] at P2; cases P2
              | some ρ4 =>
                simp only [hf] at P2
                have E3' : EnvOk K mg gs [] [] (upd Hr Dl (.lst vs)) F3 H' (wipe σ vsl) ρ3 := by
                  refine ⟨E3.len, E3.sub, fun b o hb => ?_, fun b o hb => ?_, fun j c hc => (E3.cel j c hc).step (Ext.refl _) fun ho b o k1 k2 k3 k4 => ⟨k2, k3, ?_⟩, E3.inj, fun i h => by simp at h, E3.lnk⟩
                  · by_cases z : b = Dl
                    · subst z; rw [upd_same] at hb; cases hb; exact d3
                    · rw [upd_ne z] at hb; exact E3.frm b o hb
                  · by_cases z : b = Dl
                    · subst z; exact f3
                    · rw [upd_ne z] at hb; exact E3.dis b o hb
                  · have : b ≠ Dl := fun z => oD j ⟨⟨c, hc, ho⟩, by rw [← z]; exact joinEq.mp k1⟩
                    rw [upd_ne this]; exact k4
                refine hg _ F3 H' _ ρ3 d x ρ4 _ E3' r3 hf fun σ4 E4 hw => ?_
                have hw' : wipe σ4 vsl = wipe σ vsl := by
                  rw [hw]
                  have : ∀ l : List Nat, ∀ s : St, wipe (wipe s vsl) l = wipe (wipe s vsl) l := fun _ _ => rfl
                  exact wipe_wipe σ vsl
                refine ⟨hw', ?_⟩
                refine ht [] [] _ F3 H' σ4 ρ4 _ E4 ?_
                -- what the turn's end gives
                have fin : ∀ {F5 H5 : Hp} {ρ5 : Env} {acc' : List D} {vs' : List V}, Ext F3 F5 → EnvOk K mg gs [] [] (upd Hr Dl (.lst vs)) F5 H5 σ4 ρ5 → RepL K mg F5 acc' vs' → mLcLoop vsl f mt me (ds.drop (i + 1)) acc' (wipeE ρ5 vsl) = .ok ys ρ2 →
                    Pv (i + 1) (upd H5 Dl (.lst vs')) := fun {F5 H5 ρ5 acc' vs'} e5 E5 r5 l5 => by
                  have h5 : H5 Dl = some (.lst vs) := E5.frm Dl _ upd_same
                  have f5 : F5 Dl = none := E5.dis Dl _ upd_same
                  have o5 : ∀ {j : Nat} {b : Addr}, OwnAt σ4 ρ5 j b → b ≠ Dl := fun {j b} ⟨⟨c, q1, q2⟩, q3⟩ z => by
                    subst z
                    obtain ⟨a, u, k1, k2, k3, k4, k5⟩ := (E5.cel j c q1).own q2
                    rw [joinEq, q3] at k1; cases k1
                    rw [upd_same] at k5; cases k5
                  have E6 : EnvOk K mg gs [] [] Hr F5 (upd H5 Dl (.lst vs')) σ4 ρ5 := by
                    refine ⟨E5.len, fun b o hb => ?_, fun b o hb => ?_, fun b o hb => ?_, fun j c hc => (E5.cel j c hc).step (Ext.refl _) fun ho b o k1 k2 k3 k4 => ?_, E5.inj, fun i h => by simp at h, E5.lnk⟩
                    · have : b ≠ Dl := ne_of_none hb f5
                      rw [upd_ne this]; exact E5.sub b o hb
                    · have : b ≠ Dl := ne_of_none hb rD
                      rw [upd_ne this]; exact E5.frm b o (by rw [upd_ne this]; exact hb)
                    · have : b ≠ Dl := ne_of_none hb rD
                      exact E5.dis b o (by rw [upd_ne this]; exact hb)
                    · have : b ≠ Dl := o5 ⟨⟨c, hc, ho⟩, joinEq.mp k1⟩
                      rw [upd_ne this] at k4 ⊢
                      exact ⟨k2, k3, k4⟩
                  refine ⟨F5, wipeE ρ5 vsl, acc', vs', e2.trans (e3.trans e5), E6.wiped hgs hw', upd_same, r5, f5, rD, fun j q => ?_, l5⟩
                  obtain ⟨⟨c, q1, q2⟩, q3⟩ := q
                  have hj : j ∉ vsl := fun hj => by rw [wipeE_in hj q1] at q2; cases q2
                  rw [wipeE_at hj] at q1
                  rw [← hw', wipe_at hj] at q3
                  exact o5 ⟨⟨c, q1, q2⟩, q3⟩ rfl
                cases hz : mt ρ4 with
                | bad => simp only [hz] at P2; cases P2
                | exc x ρ5 => simp only [hz] at P2; cases P2
                | ok b ρ5 =>
                  intro F5 H5 e5 E5
                  cases b with
                  | false =>
                    simp only [hz] at P2
                    have q := fin e5 E5 (hacc.mono (e3.trans e5)) P2
                    have h5 : H5 Dl = some (.lst vs) := E5.frm Dl _ upd_same
                    have : upd H5 Dl (.lst vs) = H5 := by
                      funext b; unfold upd
                      by_cases z : b = Dl
                      · subst z; rw [if_pos rfl, h5]
                      · rw [if_neg z]
                    rw [this] at q
                    exact q
                  | true =>
                    simp only [hz] at P2
                    show te σ4 H5 _
                    refine he [] [] _ F5 H5 σ4 ρ5 _ E5 ?_
                    cases hq : me ρ5 with
                    | bad => simp only [hq] at P2; cases P2
                    | exc x ρ6 => simp only [hq] at P2; cases P2
                    | ok r ρ6 =>
                      simp only [hq] at P2
                      intro v F6 H6 e6 E6 q6
                      cases hy2 : frz r ρ6 with
                      | none => simp only [hy2] at P2; cases P2
                      | some z =>
                        obtain ⟨y2, ρ7⟩ := z
                        simp only [hy2] at P2
                        obtain ⟨F7, e7, E7, r7⟩ := frz_ok E6 q6 hy2
                        by_cases hsz : acc.length < sizeLine
                        · simp only [if_pos hsz] at P2
                          refine ⟨vs, E7.frm Dl _ upd_same, by rw [hacc.length]; exact hsz, ?_⟩
                          exact fin ((e5.trans e6).trans e7) E7 ((hacc.mono (((e3.trans e5).trans e6).trans e7)).append (.cons r7 .nil)) P2
                        · simp only [if_neg hsz] at P2; cases P2
            rcases h2 with ⟨rfl, h2⟩ | ⟨q, ws, es, h2, rfl, rfl, rfl, h6⟩
            · exact go F (Ext.refl _) fD E2 hDl (h2.mono e2)
            · have nq : Dl ≠ q := ne_of_none hDl h2
              refine go (upd F q (.tup ws)) (Ext.new (E2.freshF h2)) (by rw [upd_ne nq]; exact fD) (E2.newF h2) (by rw [upd_ne nq]; exact hDl) ⟨q, ws, rfl, .of upd_same, (h6.mono e2).mono (Ext.new (E2.freshF h2))⟩
          · have e : i = ds.length := by omega
            subst e
            rw [List.drop_length] at P2
            simp only [mLcLoop, LR.ok.injEq] at P2
            obtain ⟨rfl, rfl⟩ := P2
            refine .inl ⟨y.stop H2 (e2.trans E2.sub), p (.ref Dl) F H2 (e1.trans e2) (E1.back hgs hno E2 e2) ⟨Dl, _, rfl, hDl, ⟨vs, rfl, hacc⟩, fD, rD, fun j q => ?_⟩⟩
            obtain ⟨⟨c, q1, q2⟩, q3⟩ := q
            have l : ρ1.length = ρ3.length := by rw [← E1.len, ← E2.len, wipe_len]
            by_cases hj : j ∈ vsl
            · have q1 := backE_in hj l q1
              have := List.all_eq_true.mp hno j hj
              rw [q1] at this
              simp [q2] at this
            · rw [backE_at hj] at q1
              exact oD j ⟨⟨c, q1, q2⟩, by rw [wipe_at hj]; exact q3⟩
    · simp only [if_neg hno] at p; exact p.elim
end
section
variable {X : Cx} {W : WX} {fx : List Bool} {elt tg iter : Expr} {ifs : List Expr} {scope : Scope} {own : List (Str × Nat)} {pos : Pos} {wi : TI} {g : TG} {tt : TT} {te : TE} {mi : MI} {f : MG} {mt : MT} {me : ME}
/-- the tests of a comprehension -/
structure DTs (X : Cx) (W : WX) (ifs : List Expr) (t : TT) (m : MT) : Prop where
  pts : PTs X ifs t
  st : ST X.K X.mg X.gs W t m
def mYes : MT := fun ρ => .ok true ρ
theorem dts_nil : DTs X W [] tYes mYes := ⟨pts_nil, fun fx vs0 Hr Hf H σ ρ Q E p => p Hf H (Ext.refl _) E⟩
theorem dts_one {c : Expr} (h : DT X W c tt mt) : DTs X W [c] tt mt := ⟨pts_one h.pt, h.st⟩
theorem de_lc (hc : X.calm = true) (hN : X.N.Nodup) (hi : DI X W tg iter wi mi) (ok : BlkOk X.N X.env.scope scope own)
    (hg : ∀ (s : Shared) (H : Hp) (C : Addr) (cl : List (Str × Addr)) (fp : List Addr), PG (X.blk s H scope (compEnvC scope cl C X.env) fp) tg g) (sg : SGC X.K X.mg X.gs (own.map (·.2)) g f)
    (ht : ∀ (s : Shared) (H : Hp) (C : Addr) (cl : List (Str × Addr)) (fp : List Addr), DTs (X.blk s H scope (compEnvC scope cl C X.env) fp) W0 ifs tt mt)
    (he : ∀ (s : Shared) (H : Hp) (C : Addr) (cl : List (Str × Addr)) (fp : List Addr), DE (X.blk s H scope (compEnvC scope cl C X.env) fp) W0 elt te me) (hs : ∀ x, foldedSetIterable iter X.env x = pure x := by intro _; rfl) (hgs : ∀ j ∈ X.gs, j ∉ own.map (·.2) := by exact of_decide_eq_true (by kernel_rfl)) :
    DE X W (.ListComp elt [⟨tg, iter, ifs, 0⟩] scope pos) (tLc wi g tt te (own.map (·.2))) (mLc (own.map (·.2)) mi f mt me) :=
  ⟨pe_lc hc hN hi.pi ok hg (fun s H C cl fp => (ht s H C cl fp).pts) (fun s H C cl fp => (he s H C cl fp).pe) hs,
    SE.lc hgs hi.si sg (ht X.s_0 X.H_0 0 [] []).st (he X.s_0 X.H_0 0 [] []).se⟩
/-- name = [..] -/
theorem ds_setLc (i : Nat) {y : Str} {py spos : Pos} (hc : X.calm = true) (hN : X.N.Nodup) (hi : DI X W tg iter wi mi) (ok : BlkOk X.N X.env.scope scope own)
    (hg : ∀ (s : Shared) (H : Hp) (C : Addr) (cl : List (Str × Addr)) (fp : List Addr), PG (X.blk s H scope (compEnvC scope cl C X.env) fp) tg g) (sg : SGC X.K X.mg X.gs (own.map (·.2)) g f)
    (ht : ∀ (s : Shared) (H : Hp) (C : Addr) (cl : List (Str × Addr)) (fp : List Addr), DTs (X.blk s H scope (compEnvC scope cl C X.env) fp) W0 ifs tt mt)
    (he : ∀ (s : Shared) (H : Hp) (C : Addr) (cl : List (Str × Addr)) (fp : List Addr), DE (X.blk s H scope (compEnvC scope cl C X.env) fp) W0 elt te me)
    (hsw : swapsWith (.ListComp elt [⟨tg, iter, ifs, 0⟩] scope pos) (some (.Name y py)) spos.line X.env = pure true) (hy : X.N[i]? = some y := by rfl) (hyl : X.env.scope.names.lookup y = some .local := by rfl) (hfx : fx[i]? ≠ some true := by decide)
    (hs : ∀ x, foldedSetIterable iter X.env x = pure x := by intro _; rfl) (hgs : ∀ j ∈ X.gs, j ∉ own.map (·.2) := by exact of_decide_eq_true (by kernel_rfl)) (hgi : i ∉ X.gs := by exact of_decide_eq_true (by kernel_rfl)) :
    DS X W fx (.Assign [.Name y py] (.ListComp elt [⟨tg, iter, ifs, 0⟩] scope pos) spos) (tAsg (tLc wi g tt te (own.map (·.2))) (gName i)) (mAsg i (mLc (own.map (·.2)) mi f mt me)) :=
  ⟨ps_setLc hc hN hy hyl hsw hi.pi ok hg (fun s H C cl fp => (ht s H C cl fp).pts) (fun s H C cl fp => (he s H C cl fp).pe) hs,
    (SE.lc hgs hi.si sg (ht X.s_0 X.H_0 0 [] []).st (he X.s_0 X.H_0 0 [] []).se).asg hfx hgi⟩
end

/-! ### raise -/
section
variable {X : Cx} {W : WX} {fx : List Bool} {e : Expr} {te : TE} {m : ME}
def mRaise (x : Str) (m : ME) : MS := fun ρ => match m ρ with
  | .ok _ ρ1 => .exc x ρ1
  | .exc y ρ1 => .exc y ρ1
  | .bad => .bad
theorem ds_raise {C : Addr} {bmB : List Value} {B newId initId : String} {x : Str} {p pos pos' : Pos} (hc : X.calm = true) (tk : Takes X W) (F : ExcBaseFacts B newId initId bmB) (q : PySem.W.excIn X.K C bmB newId = true) (gC : X.mg x = some (.ref C))
    (kC : PySem.W.keepIn X.K (.ref C) = true) (r : Raises X (.ref C)) (h : DE X W e te m) (hg : Gl X x := by rfl) (hs : starEach [e] X.env = (false, eval e X.env) :: starEach [] X.env := by rfl) (hdb : (x == ("__debug__" : Str)) = false := by decide) :
    DS X W fx (.Raise (some (.Call (.Name x p) [e] [] pos)) none pos') (fun _ σ H => te σ H fun _ H1 => W (.ref C) none σ H1) (mRaise x m) := by
  refine ⟨ps_raise hc tk (SkE.pmk_own1 F q gC kC r hg h.pe hs hdb), fun vs0 Hr Hf H σ ρ D E p => h.se fx vs0 Hr Hf H σ ρ _ E ?_⟩
  unfold mRaise at p
  cases hm : m ρ with
  | bad => rw [hm] at p; exact p
  | exc y ρ1 => rw [hm] at p; exact fun C h1 F H' e E' => p C h1 σ F H' e E'
  | ok r ρ1 =>
    rw [hm] at p
    exact fun v F H' e E' _ => p C gC σ F H' e E'
end

/-! ### f-strings -/
def D.fmt : D → Option R
  | .str y => if y.length ≤ sizeLine then some (.dd (.str y)) else none
  | .int i => if i.natAbs.log2 < 1920 then some (.dd (.str (toString i : Str))) else none
  | _ => none
def mJs : List ME → Str → ME
  | [], acc, ρ => .ok (.dd (.str acc)) ρ
  | m :: ms, acc, ρ => match m ρ with
    | .ok r ρ1 => match use r.fix ρ1 with
      | some (.str y) => if (acc ++ y).length ≤ sizeLine then mJs ms (acc ++ y) ρ1 else .bad
      | _ => .bad
    | .exc x ρ1 => .exc x ρ1
    | .bad => .bad
inductive DJ (X : Cx) (W : WX) : List Expr → List TE → List ME → Prop where
  | nil : DJ X W [] [] []
  | cons {e : Expr} {t : TE} {m : ME} {es : List Expr} {ts : List TE} {ms : List ME} (h : DE X W e t m) (r : DJ X W es ts ms) : DJ X W (e :: es) (t :: ts) (m :: ms)
theorem DJ.pj {X : Cx} {W : WX} {es : List Expr} {ts : List TE} {ms : List ME} (h : DJ X W es ts ms) : PJ X es ts := by
  induction h with
  | nil => exact .nil
  | cons h _ ih => exact .cons h.pe ih
theorem DJ.run {X : Cx} {W : WX} {es : List Expr} {ts : List TE} {ms : List ME} (h : DJ X W es ts ms) : ∀ acc fx vs0 Hr Hf H σ ρ Q, EnvOk X.K X.mg X.gs fx vs0 Hr Hf H σ ρ → PostE X.K X.mg X.gs W fx vs0 Hr Hf σ (mJs ms acc ρ) Q → tJs ts acc σ H fun out H1 => Q (.str out) H1 := by
  induction h with
  | nil => intro acc fx vs0 Hr Hf H σ ρ Q E p; exact p (.str acc) Hf H (Ext.refl _) E rfl
  | @cons e t m es ts ms h _ ih =>
    intro acc fx vs0 Hr Hf H σ ρ Q E p
    refine h.se fx vs0 Hr Hf H σ ρ _ E ?_
    unfold mJs at p
    cases hm : m ρ with
    | bad => rw [hm] at p; exact p
    | exc x ρ1 => rw [hm] at p; exact p
    | ok r ρ1 =>
      rw [hm] at p
      intro v F H1 e1 E1 q1
      obtain ⟨F', e', E2, q2⟩ := q1.fixed E1
      cases hu : use r.fix ρ1 with
      | none => simp only [hu] at p; exact p.elim
      | some d =>
        have u := use_ok E2 q2 hu
        simp only [hu] at p
        cases d with
        | str y =>
          cases (show v = .str y from u)
          simp only at p
          by_cases hz : (acc ++ y).length ≤ sizeLine
          · rw [if_pos hz] at p
            exact ⟨y, rfl, hz, ih _ fx vs0 Hr F' H1 σ ρ1 Q E2 (PostE.mono p (e1.trans e'))⟩
          · rw [if_neg hz] at p; exact p.elim
        | _ => exact p.elim
section
variable {X : Cx} {W : WX} {e : Expr} {te : TE} {m : ME} {pos : Pos}
theorem de_fmt (h : DE X W e te m) : DE X W (.FormattedValue e (-1) none pos) (tFmt te) (m1 D.fmt m) := by
  refine ⟨pe_fmt h.pe, fun fx vs0 Hr Hf H σ ρ Q E p => ?_⟩
  refine h.se.bind E p fun r ρ1 v F H1 e1 E1 c1 s1 q => ?_
  cases hu : use r ρ1 with
  | none => simp only [hu] at q; exact q.elim
  | some d =>
    have u := use_ok E1 (s1 Hr F H1 ρ1 (Ext.refl _)) hu
    simp only [hu] at q
    cases d with
    | str y =>
      cases (show v = .str y from u)
      unfold D.fmt at q
      by_cases hz : y.length ≤ sizeLine
      · simp only [if_pos hz] at q
        exact .inl ⟨y, rfl, hz, q _ F H1 (Ext.refl _) E1 rfl⟩
      · simp only [if_neg hz] at q; exact q.elim
    | int i =>
      cases (show v = .int i from u)
      unfold D.fmt at q
      by_cases hz : i.natAbs.log2 < 1920
      · simp only [if_pos hz] at q
        exact .inr ⟨i, rfl, hz, q _ F H1 (Ext.refl _) E1 rfl⟩
      · simp only [if_neg hz] at q; exact q.elim
    | _ => exact q.elim
theorem de_join {v1 v2 : Expr} {rest : List Expr} {ts : List TE} {ms : List ME} (h : DJ X W (v1 :: v2 :: rest) ts ms) : DE X W (.JoinedStr (v1 :: v2 :: rest) pos) (fun σ H Q => tJs ts Str.empty σ H fun out H1 => Q (.str out) H1) (mJs ms Str.empty) :=
  ⟨pe_joined h.pj, fun fx vs0 Hr Hf H σ ρ Q E p => h.run _ fx vs0 Hr Hf H σ ρ Q E p⟩
theorem de_join1 (h : DE X W e te m) : DE X W (.JoinedStr [e] pos) te m := ⟨pe_joined1 h.pe, h.se⟩
end

/-! ### try -/
/-- the clauses: what each says of a class (caught or not), its suite -/
def mHands : List ((Str → Option Bool) × MS) → Str → MS
  | [], x, ρ => .exc x ρ
  | (h, m) :: r, x, ρ => match h x with
    | none => .bad
    | some true => match m ρ with
      | .exc _ _ => .bad
      | z => z
    | some false => mHands r x ρ
def mTry (mb : MS) (hs : List ((Str → Option Bool) × MS)) : MS := fun ρ => match mb ρ with
  | .exc x ρ1 => mHands hs x ρ1
  | r => r
section
variable {X : Cx} {fx : List Bool}
inductive DHs (X : Cx) (fx : List Bool) : List ExceptHandler → List (Value × (Addr → Value → Option Addr → TS)) → List ((Str → Option Bool) × MS) → Prop where
  | nil : DHs X fx [] [] []
  | cons {x : Str} {c : Value} {ts : Addr → Value → Option Addr → TS} {b₀ : Stmt} {suite : List Stmt} {np pos' : Pos} {hds : List ExceptHandler} {l : List (Value × (Addr → Value → Option Addr → TS))} {h : Str → Option Bool} {m : MS} {hs : List ((Str → Option Bool) × MS)}
      (hc : Names X x c) (hh : ∀ y b C, h y = some b → X.mg y = some (.ref C) → PySem.W.exmOne X.K (.ref C) c = some b)
      (hsu : ∀ (a : Addr) (oe : Obj) (cls : Value) (d : Option Addr) (pn : List (Addr × Obj)), Zc cls d oe → (∃ vs, oe.data = .fields vs) → DSs (X.suite a ((a, oe) :: pn)) W0 fx (b₀ :: suite) (ts a cls d) m) (r : DHs X fx hds l hs) :
      DHs X fx (.ExceptHandler (some (.Name x np)) none (b₀ :: suite) pos' :: hds) ((c, ts) :: l) ((h, m) :: hs)
theorem DHs.ok {hds : List ExceptHandler} {l : List (Value × (Addr → Value → Option Addr → TS))} {hs : List ((Str → Option Bool) × MS)} (h : DHs X fx hds l hs) : HdsOk X hds l := by
  induction h with
  | nil => exact .nil
  | cons hc hh hsu _ ih => exact .cons hc (fun a oe cls d pn z v => (hsu a oe cls d pn z v).ps) ih
theorem DHs.run {hds : List ExceptHandler} {l : List (Value × (Addr → Value → Option Addr → TS))} {hs : List ((Str → Option Bool) × MS)} (h : DHs X fx hds l hs) {Wout : WX} {vs0 : List V} {Hr Hf : Hp} {D : Ends} {x : Str} {ρ : Env}
    (p : PostS X.K X.mg X.gs Wout fx vs0 Hr Hf (mHands hs x ρ) D) {C : Addr} (gC : X.mg x = some (.ref C)) {σ : St} {Hf' H : Hp} (e : Ext Hf Hf') (E : EnvOk X.K X.mg X.gs fx vs0 Hr Hf' H σ ρ) : wMany X.K Wout D l (.ref C) none σ H := by
  induction h with
  | nil =>
    exact p C gC σ Hf' H e E
  | @cons y c ts b₀ suite np pos' hds l h m hs hc hh hsu _ ih =>
    unfold mHands at p
    cases hx : h x with
    | none => simp only [hx] at p; exact p.elim
    | some b =>
      refine ⟨b, hh x b C hx gC, fun hb a na => ?_, fun hb => ?_⟩
      · subst hb
        simp only [hx] at p
        obtain ⟨oe, hz, hv⟩ : ∃ oe, Zc (.ref C) none oe ∧ ∃ vs, oe.data = .fields vs := ⟨{ cls := .ref C, dict := none, data := .fields #[] }, ⟨rfl, rfl⟩, _, rfl⟩
        refine (hsu a oe (.ref C) none [] hz hv).ss vs0 Hr Hf' H σ ρ D E ?_
        cases hm : m ρ with
        | exc _ _ => simp only [hm] at p; exact p.elim
        | nx ρ1 => simp only [hm] at p; exact PostS.mono (W := Wout) p e
        | bk ρ1 => simp only [hm] at p; exact PostS.mono (W := Wout) p e
        | ct ρ1 => simp only [hm] at p; exact PostS.mono (W := Wout) p e
        | ret r ρ1 => simp only [hm] at p; exact PostS.mono (W := Wout) p e
        | bad => simp only [hm] at p; exact p.elim
      · subst hb
        simp only [hx] at p
        exact ih p
theorem ds_try {body : List Stmt} {h₀ : ExceptHandler} {hds : List ExceptHandler} {l : List (Value × (Addr → Value → Option Addr → TS))} {hs : List ((Str → Option Bool) × MS)} {pos : Pos} {tb : WX → TS} {mb : MS} {Wout : WX} (hst : X.stack = X.env :: X.outer) (hf : X.env.frame = some X.env.locals) (tk : Takes X Wout)
    (hb : ∀ (W : WX) (pn : List (Addr × Obj)) (xe : Value → Shared → Prop), Takes (X.tr pn xe) W → PassesOwn (model X.prog X.w) X.A X.env xe → DSs (X.tr pn xe) W fx body (tb W) mb) (hbS : ∀ W, SS X.K X.mg X.gs W fx (tb W) mb) (hh : DHs X fx (h₀ :: hds) l hs) :
    DS X Wout fx (.Try body (h₀ :: hds) [] [] pos) (fun D σ H => tb (wMany X.K Wout D l) D σ H) (mTry mb hs) := by
  refine ⟨ps_try_many hst hf tk (fun W pn xe tk po => (hb W pn xe tk po).ps) hh.ok, fun vs0 Hr Hf H σ ρ D E p => ?_⟩
  refine hbS _ vs0 Hr Hf H σ ρ D E ?_
  unfold mTry at p
  cases hm : mb ρ with
  | exc x ρ1 =>
    rw [hm] at p
    exact fun C gC σ F H' e E' => hh.run p gC e E'
  | _ => rw [hm] at p; exact p
end
/-! ### operators -/
section
variable {K : PySem.W.Frag} {mg : Str → Option Value} {gs : List Nat} {fx : List Bool} {vs0 : List V} {Hr Hf Hf' H H' : Hp} {σ : St} {ρ : Env} {v : V} {d : D}
/-- the end: a value that needs no heap -/
theorem EnvOk.giveD {Q : VK} (E : EnvOk K mg gs fx vs0 Hr Hf H σ ρ) (q : ∀ v Hf' H', Ext Hf Hf' → EnvOk K mg gs fx vs0 Hr Hf' H' σ ρ → ROk K mg Hr Hf' H' σ ρ (.dd d) v → Q v H') (r : Rep K mg Hf d v) : Q v H := q v Hf H (Ext.refl _) E r
/-- .. a new list -/
theorem EnvOk.giveL {Q : VK} {xs : List D} {vs : List V} (E : EnvOk K mg gs fx vs0 Hr Hf H σ ρ) (q : ∀ v Hf' H', Ext Hf Hf' → EnvOk K mg gs fx vs0 Hr Hf' H' σ ρ → ROk K mg Hr Hf' H' σ ρ (.ow (.own xs)) v → Q v H') (r : RepL K mg Hf xs vs) :
    ∀ p, H p = none → Q (.ref p) (upd H p (.lst vs)) := fun p hp => q (.ref p) Hf _ (Ext.refl _) (E.newO hp) (E.newR hp ⟨vs, rfl, r⟩)
/-- .. a new tuple -/
theorem EnvOk.giveT {Q : VK} {xs : List D} {vs : List V} (E : EnvOk K mg gs fx vs0 Hr Hf H σ ρ) (q : ∀ v Hf' H', Ext Hf Hf' → EnvOk K mg gs fx vs0 Hr Hf' H' σ ρ → ROk K mg Hr Hf' H' σ ρ (.dd (.tup xs)) v → Q v H') (r : RepL K mg Hf xs vs) :
    ∀ p, H p = none → Q (.ref p) (upd H p (.tup vs)) := fun p hp => q (.ref p) (upd Hf p (.tup vs)) _ (Ext.new (E.freshF hp)) (E.newF hp) ⟨p, vs, rfl, .of upd_same, r.mono (Ext.new (E.freshF hp))⟩
end
def CallR.or {X : Cx} {f : Value} {r r' : List V → Hp → VK → Prop} (h : CallR X f r) (h' : CallR X f r') : CallR X f (fun xs H Q => r xs H Q ∨ r' xs H Q) := by
  intro pins s σ H xs us Q I rv q
  rcases q with q | q
  · exact h pins s σ H xs us Q I rv q
  · exact h' pins s σ H xs us Q I rv q

/-! #### + -/
def oAdd : D → D → Option R
  | .int i, .int j => some (.dd (.int (i + j)))
  | .str x, .str y => if x.length + y.length ≤ sizeLine then some (.dd (.str (x ++ y))) else none
  | .lst xs, .lst ys => if xs.length + ys.length ≤ sizeLine then some (.ow (.own (xs ++ ys))) else none
  | .tup xs, .tup ys => if xs.length + ys.length ≤ sizeLine then some (.dd (.tup (xs ++ ys))) else none
  | _, _ => none
def rAdd4 (K : PySem.W.Frag) : R2 := fun x y H Q => (∃ i j, x = .int i ∧ y = .int j ∧ Q (.int (i + j)) H) ∨ (∃ i j, x = .str i ∧ y = .str j ∧ i.length + j.length ≤ sizeLine ∧ Q (.str (i ++ j)) H) ∨ rCat x y H Q ∨ rCatA K x y H Q
theorem op_add4 {X : Cx} : OpR X (binaryOp .Add) (rAdd4 X.K) := op_add.or (op_add_str.or (op_cat.or op_catA))
theorem os_add {K : PySem.W.Frag} {mg : Str → Option Value} {gs : List Nat} : OpS K mg gs (rAdd4 K) oAdd := by
  intro fx vs0 Hr Hf H σ ρ a b x y z Q E ra rb e q
  cases a with
  | int i =>
    cases b with
    | int j =>
      cases e
      exact .inl ⟨i, j, ra, rb, E.giveD q rfl⟩
    | _ => cases e
  | str i =>
    cases b with
    | str j =>
      dsimp only [oAdd] at e
      by_cases hz : i.length + j.length ≤ sizeLine
      · rw [if_pos hz] at e; cases e
        exact .inr (.inl ⟨i, j, ra, rb, hz, E.giveD q rfl⟩)
      · rw [if_neg hz] at e; cases e
    | _ => cases e
  | lst xs =>
    cases b with
    | lst ys =>
      dsimp only [oAdd] at e
      by_cases hz : xs.length + ys.length ≤ sizeLine
      · rw [if_pos hz] at e; cases e
        obtain ⟨l, vs, rfl, h1, h2⟩ := ra
        obtain ⟨m, ws, rfl, k1, k2⟩ := rb
        exact .inr (.inr (.inl ⟨l, m, vs, ws, rfl, rfl, h1, k1, by rw [h2.length, k2.length]; exact hz, E.giveL q (h2.append k2)⟩))
      · rw [if_neg hz] at e; cases e
    | _ => cases e
  | tup xs =>
    cases b with
    | tup ys =>
      dsimp only [oAdd] at e
      by_cases hz : xs.length + ys.length ≤ sizeLine
      · rw [if_pos hz] at e; cases e
        obtain ⟨l, vs, rfl, h1, h2⟩ := ra
        obtain ⟨m, ws, rfl, k1, k2⟩ := rb
        refine .inr (.inr (.inr ⟨l, m, vs, ws, rfl, rfl, E.sub.sqt h1, E.sub.sqt k1, by rw [h2.length, k2.length]; exact hz, fun hv => ?_, fun _ hw => ?_, fun _ _ => E.giveT q (h2.append k2)⟩))
        · subst hv
          have : xs = [] := by have := h2.length; cases xs; rfl; simp at this
          subst this
          exact E.giveD q ⟨m, ws, rfl, k1, k2⟩
        · subst hw
          have : ys = [] := by have := k2.length; cases ys; rfl; simp at this
          subst this
          rw [List.append_nil] at q
          exact E.giveD q ⟨l, vs, rfl, h1, h2⟩
      · rw [if_neg hz] at e; cases e
    | _ => cases e
  | _ => cases e

/-! #### - * // % ** of ints, list * int -/
def oSub : D → D → Option R
  | .int i, .int j => some (.dd (.int (i - j)))
  | _, _ => none
theorem os_sub {K : PySem.W.Frag} {mg : Str → Option Value} {gs : List Nat} : OpS K mg gs (rI0 fun i j => .int (i - j)) oSub := by
  intro fx vs0 Hr Hf H σ ρ a b x y z Q E ra rb e q
  cases a with
  | int i =>
    cases b with
    | int j => cases e; exact ⟨i, j, ra, rb, E.giveD q rfl⟩
    | _ => cases e
  | _ => cases e
instance (i j : Int) : Decidable (CMul i j) := by unfold CMul; infer_instance
instance (i j : Int) : Decidable (CDiv i j) := by unfold CDiv; infer_instance
instance (i j : Int) : Decidable (CPow i j) := by unfold CPow; infer_instance
def oMul : D → D → Option R
  | .int i, .int j => if CMul i j then some (.dd (.int (i * j))) else none
  | .lst xs, .int k => if k.natAbs < 2 ^ 63 ∧ xs.length * k.toNat ≤ sizeLine then some (.ow (.own (List.replicate k.toNat xs).flatten)) else none
  | _, _ => none
def rMul2 : R2 := fun x y H Q => rI CMul (fun i j => .int (i * j)) x y H Q ∨ rRep x y H Q
theorem op_mul2 {X : Cx} : OpR X (binaryOp .Mult) rMul2 := op_mul.or op_rep
theorem os_mul {K : PySem.W.Frag} {mg : Str → Option Value} {gs : List Nat} : OpS K mg gs rMul2 oMul := by
  intro fx vs0 Hr Hf H σ ρ a b x y z Q E ra rb e q
  cases a with
  | int i =>
    cases b with
    | int j =>
      dsimp only [oMul] at e
      by_cases hz : CMul i j
      · rw [if_pos hz] at e; cases e
        exact .inl ⟨i, j, ra, rb, hz, E.giveD q rfl⟩
      · rw [if_neg hz] at e; cases e
    | _ => cases e
  | lst xs =>
    cases b with
    | int k =>
      dsimp only [oMul] at e
      by_cases hz : k.natAbs < 2 ^ 63 ∧ xs.length * k.toNat ≤ sizeLine
      · rw [if_pos hz] at e; cases e
        obtain ⟨l, vs, rfl, h1, h2⟩ := ra
        exact .inr ⟨l, k, vs, rfl, rb, h1, by omega, by omega, by rw [h2.length]; exact hz.2, E.giveL q (h2.flatRep _)⟩
      · rw [if_neg hz] at e; cases e
    | _ => cases e
  | _ => cases e
def oDiv : D → D → Option R
  | .int i, .int j => if CDiv i j then some (.dd (.int (i / j))) else none
  | _, _ => none
theorem os_div {K : PySem.W.Frag} {mg : Str → Option Value} {gs : List Nat} : OpS K mg gs (rI CDiv fun i j => .int (i / j)) oDiv := by
  intro fx vs0 Hr Hf H σ ρ a b x y z Q E ra rb e q
  cases a with
  | int i =>
    cases b with
    | int j =>
      dsimp only [oDiv] at e
      by_cases hz : CDiv i j
      · rw [if_pos hz] at e; cases e
        exact ⟨i, j, ra, rb, hz, E.giveD q rfl⟩
      · rw [if_neg hz] at e; cases e
    | _ => cases e
  | _ => cases e
def oMod : D → D → Option R
  | .int i, .int j => if 0 < j then some (.dd (.int (i % j))) else none
  | _, _ => none
theorem os_mod {K : PySem.W.Frag} {mg : Str → Option Value} {gs : List Nat} : OpS K mg gs (rI (fun _ j => 0 < j) fun i j => .int (i % j)) oMod := by
  intro fx vs0 Hr Hf H σ ρ a b x y z Q E ra rb e q
  cases a with
  | int i =>
    cases b with
    | int j =>
      dsimp only [oMod] at e
      by_cases hz : 0 < j
      · rw [if_pos hz] at e; cases e
        exact ⟨i, j, ra, rb, hz, E.giveD q rfl⟩
      · rw [if_neg hz] at e; cases e
    | _ => cases e
  | _ => cases e
def oPow : D → D → Option R
  | .int i, .int j => if CPow i j then some (.dd (.int (i ^ j.toNat))) else none
  | _, _ => none
theorem os_pow {K : PySem.W.Frag} {mg : Str → Option Value} {gs : List Nat} : OpS K mg gs (rI CPow fun i j => .int (i ^ j.toNat)) oPow := by
  intro fx vs0 Hr Hf H σ ρ a b x y z Q E ra rb e q
  cases a with
  | int i =>
    cases b with
    | int j =>
      dsimp only [oPow] at e
      by_cases hz : CPow i j
      · rw [if_pos hz] at e; cases e
        exact ⟨i, j, ra, rb, hz, E.giveD q rfl⟩
      · rw [if_neg hz] at e; cases e
    | _ => cases e
  | _ => cases e
/-- the negative of an int -/
def oNeg : D → Option R
  | .int i => some (.dd (.int (-i)))
  | _ => none
theorem de_neg {X : Cx} {W : WX} {a : Expr} {ta : TE} {ma : ME} {pos : Pos} (h : DE X W a ta ma) : DE X W (.UnaryOp .USub a pos) (tUn (rU fun i => .int (-i)) ta) (m1 oNeg ma) := by
  refine ⟨pe_un un_neg h.pe, fun fx vs0 Hr Hf H σ ρ Q E p => ?_⟩
  refine h.se.bind E p fun r ρ1 v F H1 e1 E1 c1 s1 q => ?_
  cases hu : use r ρ1 with
  | none => simp only [hu] at q; exact q.elim
  | some d =>
    have u := use_ok E1 (s1 Hr F H1 ρ1 (Ext.refl _)) hu
    simp only [hu] at q
    cases d with
    | int i =>
      cases (show v = .int i from u)
      exact ⟨i, rfl, E1.giveD q rfl⟩
    | _ => exact q.elim

/-! #### comparisons -/
def oCmp (p : Int → Int → Bool) : D → D → Option R
  | .int i, .int j => some (.dd (.bl (p i j)))
  | _, _ => none
theorem os_cmp {K : PySem.W.Frag} {mg : Str → Option Value} {gs : List Nat} {p : Int → Int → Bool} : OpS K mg gs (rI0 fun i j => .bl (p i j)) (oCmp p) := by
  intro fx vs0 Hr Hf H σ ρ a b x y z Q E ra rb e q
  cases a with
  | int i =>
    cases b with
    | int j => cases e; exact ⟨i, j, ra, rb, E.giveD q rfl⟩
    | _ => cases e
  | _ => cases e
abbrev oLt := oCmp fun i j => decide (i < j)
abbrev oLe := oCmp fun i j => decide (i ≤ j)
abbrev oGt := oCmp fun i j => decide (j < i)
abbrev oGe := oCmp fun i j => decide (j ≤ i)

mutual
/-- as the library's data -/
def D.py : D → Option PyData
  | .non => some .none
  | .bl b => some (.bool b)
  | .int i => some (.int i)
  | .str s => some (.str s)
  | .lst xs => (pyL xs).map .list
  | .fls xs => (pyL xs).map .list
  | .tup xs => (pyL xs).map .tuple
  | _ => none
def pyL : List D → Option (List PyData)
  | [] => some []
  | d :: ds => match d.py, pyL ds with
    | some p, some ps => some (p :: ps)
    | _, _ => none
end
section
variable {K : PySem.W.Frag} {mg : Str → Option Value} {gs : List Nat} {Hf H : Hp}
mutual
theorem Rep.dp (S : Ext Hf H) : ∀ {d : D} {v : V} {p : PyData}, Rep K mg Hf d v → d.py = some p → Dp K H v p
  | .non, _, _, h, e => by cases (show _ = _ from h); cases e; exact .non
  | .bl b, _, _, h, e => by cases (show _ = _ from h); cases e; exact .bl b
  | .int i, _, _, h, e => by cases (show _ = _ from h); cases e; exact .int i
  | .str s, _, _, h, e => by cases (show _ = _ from h); cases e; exact .str s
  | .lst xs, _, _, ⟨a, vs, h1, h2, h3⟩, e => by
    obtain ⟨ps, e1, e2⟩ := Option.map_eq_some_iff.mp e
    subst h1; subst e2
    exact .lst (.of (S a _ h2)) (RepL.dp S h3 e1)
  | .fls xs, _, _, ⟨a, vs, h1, h2, h3⟩, e => by
    obtain ⟨ps, e1, e2⟩ := Option.map_eq_some_iff.mp e
    subst h1; subst e2
    exact .lst (S.sql h2) (RepL.dp S h3 e1)
  | .tup xs, _, _, ⟨a, vs, h1, h2, h3⟩, e => by
    obtain ⟨ps, e1, e2⟩ := Option.map_eq_some_iff.mp e
    subst h1; subst e2
    exact .tup (S.sqt h2) (RepL.dp S h3 e1)
  | .ty _, _, _, _, e => by cases e
  | .fn _, _, _, _, e => by cases e
  | .dct _ _, _, _, _, e => by cases e
  | .fdct _ _, _, _, _, e => by cases e
  | .obj, _, _, _, e => by cases e
theorem RepL.dp (S : Ext Hf H) : ∀ {ds : List D} {vs : List V} {ps : List PyData}, RepL K mg Hf ds vs → pyL ds = some ps → DpAll K H vs ps
  | [], _, _, h, e => by have h : _ = [] := h; subst h; cases e; exact .nil
  | d :: ds, _, ps, ⟨v, ws, h1, h2, h3⟩, e => by
    subst h1
    unfold pyL at e
    cases hd : d.py with
    | none => simp only [hd] at e; cases e
    | some p =>
      cases hs : pyL ds with
      | none => simp only [hd, hs] at e; cases e
      | some qs => simp only [hd, hs] at e; cases e; exact .cons (Rep.dp S h2 hd) (RepL.dp S h3 hs)
end
theorem PRep.dp (S : Ext Hf H) {d : D} {v : V} {p : PyData} (h : PRep K mg Hf H d v) (e : d.py = some p) : Dp K H v p := by
  cases d with
  | lst xs =>
    obtain ⟨a, vs, rfl, h2, h3⟩ := h
    obtain ⟨ps, e1, rfl⟩ := Option.map_eq_some_iff.mp e
    exact .lst (.of h2) (h3.dp S e1)
  | dct ks xs => cases e
  | _ => exact Rep.dp S h e
end
def D.scal : D → Option V
  | .non => some .non
  | .bl b => some (.bl b)
  | .int i => some (.int i)
  | .str s => some (.str s)
  | _ => none
def oEqB (a b : D) : Option Bool := match a.scal, b.scal with
  | some x, some y => if L2.scal x y = true then some (decide (x = y)) else none
  | _, _ => match a.py, b.py with
    | some p, some q => if SeqAt.shaped p = true ∧ SeqAt.shaped q = true then some (PyData.eqv p q) else none
    | _, _ => none
def oEq (a b : D) : Option R := (oEqB a b).map fun c => .dd (.bl c)
def oNe (a b : D) : Option R := (oEqB a b).map fun c => .dd (.bl !c)
theorem PRep.scal {K : PySem.W.Frag} {mg : Str → Option Value} {Hf H : Hp} {d : D} {v x : V} (h : PRep K mg Hf H d v) (e : d.scal = some x) : v = x := by
  cases d <;> cases e <;> exact h
theorem oEqB_ok {K : PySem.W.Frag} {mg : Str → Option Value} {Hf H : Hp} (S : Ext Hf H) {a b : D} {x y : V} {c : Bool} (ra : PRep K mg Hf H a x) (rb : PRep K mg Hf H b y) (e : oEqB a b = some c) :
    (L2.scal x y = true ∧ c = decide (x = y)) ∨ ∃ p q, Dp K H x p ∧ Dp K H y q ∧ SeqAt.shaped p = true ∧ SeqAt.shaped q = true ∧ c = PyData.eqv p q := by
  unfold oEqB at e
  have deep : (match a.py, b.py with
    | some p, some q => if SeqAt.shaped p = true ∧ SeqAt.shaped q = true then some (PyData.eqv p q) else none
    | _, _ => none) = some c → ∃ p q, Dp K H x p ∧ Dp K H y q ∧ SeqAt.shaped p = true ∧ SeqAt.shaped q = true ∧ c = PyData.eqv p q := fun e => by
    cases ha : a.py with
    | none => simp only [ha] at e; cases e
    | some p =>
      cases hb : b.py with
      | none => simp only [ha, hb] at e; cases e
      | some q =>
        simp only [ha, hb] at e
        by_cases hz : SeqAt.shaped p = true ∧ SeqAt.shaped q = true
        · rw [if_pos hz] at e; cases e
          exact ⟨p, q, ra.dp S ha, rb.dp S hb, hz.1, hz.2, rfl⟩
        · rw [if_neg hz] at e; cases e
  cases ha : a.scal with
  | none => simp only [ha] at e; exact .inr (deep e)
  | some u =>
    cases hb : b.scal with
    | none => simp only [ha, hb] at e; exact .inr (deep e)
    | some w =>
      simp only [ha, hb] at e
      rw [ra.scal ha, rb.scal hb]
      by_cases hz : L2.scal u w = true
      · rw [if_pos hz] at e; cases e; exact .inl ⟨hz, rfl⟩
      · rw [if_neg hz] at e; cases e
def rEqA (K : PySem.W.Frag) : R2 := fun x y H Q => rEq x y H Q ∨ rEqD K x y H Q
def rNeA (K : PySem.W.Frag) : R2 := fun x y H Q => rNe x y H Q ∨ rNeD K x y H Q
theorem op_eqA {X : Cx} (hu : X.A.units + 64 < cLine) : OpR X (compareOp .Eq) (rEqA X.K) := op_eq.or (op_eqD hu)
theorem op_neA {X : Cx} (hu : X.A.units + 64 < cLine) : OpR X (compareOp .NotEq) (rNeA X.K) := op_ne.or (op_neD hu)
theorem os_eq {K : PySem.W.Frag} {mg : Str → Option Value} {gs : List Nat} : OpS K mg gs (rEqA K) oEq := by
  intro fx vs0 Hr Hf H σ ρ a b x y z Q E ra rb e q
  obtain ⟨c, e1, rfl⟩ := Option.map_eq_some_iff.mp e
  rcases oEqB_ok E.sub ra rb e1 with ⟨h1, rfl⟩ | ⟨p, p', h1, h2, h3, h4, rfl⟩
  · exact .inl ⟨h1, E.giveD q rfl⟩
  · exact .inr ⟨p, p', h1, h2, h3, h4, E.giveD q rfl⟩
theorem os_ne {K : PySem.W.Frag} {mg : Str → Option Value} {gs : List Nat} : OpS K mg gs (rNeA K) oNe := by
  intro fx vs0 Hr Hf H σ ρ a b x y z Q E ra rb e q
  obtain ⟨c, e1, rfl⟩ := Option.map_eq_some_iff.mp e
  rcases oEqB_ok E.sub ra rb e1 with ⟨h1, rfl⟩ | ⟨p, p', h1, h2, h3, h4, rfl⟩
  · exact .inl ⟨h1, E.giveD q rfl⟩
  · exact .inr ⟨p, p', h1, h2, h3, h4, E.giveD q rfl⟩
/-- is None, is not None -/
def D.isNon : D → Bool
  | .non => true
  | _ => false
def oIsN (neg : Bool) : D → D → Option R
  | a, .non => some (.dd (.bl (if neg then !a.isNon else a.isNon)))
  | _, _ => none
theorem PRep.isNon {K : PySem.W.Frag} {mg : Str → Option Value} {Hf H : Hp} {d : D} {v : V} (h : PRep K mg Hf H d v) : decide (v = .non) = d.isNon := by
  cases d with
  | non => cases (show v = .non from h); rfl
  | bl _ => cases (show v = .bl _ from h); rfl
  | int _ => cases (show v = .int _ from h); rfl
  | str _ => cases (show v = .str _ from h); rfl
  | ty _ => cases (show v = .ty _ from h); rfl
  | fn _ => obtain ⟨_, _, rfl⟩ := h; rfl
  | fdct _ _ => obtain ⟨_, _, _, rfl, _⟩ := h; rfl
  | obj => obtain ⟨_, _, _, _, rfl, _⟩ := h; rfl
  | lst _ => obtain ⟨_, _, rfl, _⟩ := h; rfl
  | fls _ => obtain ⟨_, _, rfl, _⟩ := h; rfl
  | tup _ => obtain ⟨_, _, rfl, _⟩ := h; rfl
  | dct _ _ => obtain ⟨_, _, rfl, _⟩ := h; rfl
theorem os_isN {K : PySem.W.Frag} {mg : Str → Option Value} {gs : List Nat} : OpS K mg gs rIsN (oIsN false) := by
  intro fx vs0 Hr Hf H σ ρ a b x y z Q E ra rb e q
  cases b with
  | non => cases (show y = .non from rb); cases e; exact ⟨rfl, by rw [ra.isNon]; exact E.giveD q rfl⟩
  | _ => cases e
theorem os_notN {K : PySem.W.Frag} {mg : Str → Option Value} {gs : List Nat} : OpS K mg gs rNotN (oIsN true) := by
  intro fx vs0 Hr Hf H σ ρ a b x y z Q E ra rb e q
  cases b with
  | non => cases (show y = .non from rb); cases e; exact ⟨rfl, by rw [ra.isNon]; exact E.giveD q rfl⟩
  | _ => cases e
/-! #### subscripts -/
def dget : List Key → List D → Key → Option D
  | k' :: ks, v :: vs, k => if k' = k then some v else dget ks vs k
  | _, _, _ => none
def D.key : D → Option Key
  | .int i => some (.inl i)
  | .str s => some (.inr s)
  | _ => none
theorem PRep.key {K : PySem.W.Frag} {mg : Str → Option Value} {Hf H : Hp} {d : D} {v : V} {k : Key} (h : PRep K mg Hf H d v) (e : d.key = some k) : v = kV k := by
  cases d <;> cases e <;> exact h
theorem dget_some {K : PySem.W.Frag} {mg : Str → Option Value} {Hf : Hp} {k : Key} {d : D} : ∀ {kvs : List (Key × V)} {ks : List Key} {ds : List D}, kvs.map (·.1) = ks → RepL K mg Hf ds (kvs.map (·.2)) → dget ks ds k = some d → ∃ v, valV kvs k = some v ∧ Rep K mg Hf d v
  | [], _, [], h, _, e => by subst h; cases e
  | [], _, _ :: _, h, _, e => by subst h; cases e
  | p :: kvs, _, [], h, r, e => by subst h; cases e
  | p :: kvs, _, d' :: ds, h, ⟨v, ws, h1, h2, h3⟩, e => by
    subst h
    have h1 : p.2 :: kvs.map (·.2) = v :: ws := h1
    cases h1
    simp only [List.map_cons, dget] at e
    by_cases hk : p.1 = k
    · rw [if_pos hk] at e; cases e
      exact ⟨p.2, valV_pos hk, h2⟩
    · rw [if_neg hk] at e
      rw [valV_neg hk]
      exact dget_some (kvs := kvs) rfl h3 e
theorem dget_none {K : PySem.W.Frag} {mg : Str → Option Value} {Hf : Hp} {k : Key} : ∀ {kvs : List (Key × V)} {ks : List Key} {ds : List D}, kvs.map (·.1) = ks → RepL K mg Hf ds (kvs.map (·.2)) → dget ks ds k = none → valV kvs k = none
  | [], _, _, _, _, _ => rfl
  | p :: kvs, _, [], h, r, e => by
    have := r.length
    simp at this
  | p :: kvs, _, d' :: ds, h, ⟨v, ws, h1, h2, h3⟩, e => by
    subst h
    have h1 : p.2 :: kvs.map (·.2) = v :: ws := h1
    cases h1
    simp only [List.map_cons, dget] at e
    by_cases hk : p.1 = k
    · rw [if_pos hk] at e; cases e
    · rw [if_neg hk] at e
      rw [valV_neg hk]
      exact dget_none (kvs := kvs) rfl h3 e
theorem atI_rep {K : PySem.W.Frag} {mg : Str → Option Value} {Hf : Hp} {ds : List D} {vs : List V} {i : Int} {d : D} (r : RepL K mg Hf ds vs) (e : atI ds i = some d) : ∃ v, atI vs i = some v ∧ Rep K mg Hf d v := by
  unfold atI at e ⊢
  rw [r.length]
  obtain ⟨j, e1, e2⟩ := Option.bind_eq_some_iff.mp e
  obtain ⟨v, h1, h2⟩ := r.get e2
  exact ⟨v, by rw [e1]; exact h1, h2⟩
def oIx : D → D → Option R
  | .lst xs, .int i => (atI xs i).map .dd
  | .fls xs, .int i => (atI xs i).map .dd
  | .tup xs, .int i => (atI xs i).map .dd
  | .str s, .int i => if s.length ≤ sizeLine then (atI s.cps.toList i).map fun c => .dd (.str ⟨#[c]⟩) else none
  | .dct ks vs, k => match k.key with
    | some k => (dget ks vs k).map .dd
    | none => none
  | .fdct ks vs, k => match k.key with
    | some k => (dget ks vs k).map .dd
    | none => none
  | _, _ => none
def rIxDk : R2 := fun x y H Q => ∃ a v, x = .ref a ∧ DGet H a y (some v) ∧ Q v H
theorem ix_dk {X : Cx} (hu : X.A.units + 1 < cLine) : IxR X rIxDk := by
  intro value slice pins s σ H x y v u Q I rx ry h hs
  obtain ⟨a, v0, rfl, g, q⟩ := h
  obtain rfl : v = Value.ref a := rx
  exact PyProof.Rows.tail_any (dict_typeIs I g) PySem.slot_dict_getitem.lookup (d_getItem hu I g ry fun w' s' I' r => ⟨v0, H, I', r, q⟩) hs
def rIxAll (K : PySem.W.Frag) : R2 := fun x y H Q => rIx K x y H Q ∨ rIxDk x y H Q
theorem ix_all {X : Cx} (hu : X.A.units + 1 < cLine) : IxR X (rIxAll X.K) := ix_seq.or (ix_dk hu)
theorem os_ix {K : PySem.W.Frag} {mg : Str → Option Value} {gs : List Nat} : OpS K mg gs (rIxAll K) oIx := by
  intro fx vs0 Hr Hf H σ ρ a b x y z Q E ra rb e q
  have dic : ∀ ks vs, a = .dct ks vs → rIxAll K x y H Q := fun ks vs ha => by
    subst ha
    obtain ⟨l, kvs, rfl, h1, h2, h3, h4⟩ := ra
    have e : (match b.key with
      | some k => (dget ks vs k).map R.dd
      | none => none) = some z := e
    cases hb : b.key with
    | none => simp only [hb] at e; cases e
    | some k =>
      simp only [hb] at e
      obtain ⟨d, e1, rfl⟩ := Option.map_eq_some_iff.mp e
      obtain ⟨v, k1, k2⟩ := dget_some h2 h4 e1
      rw [rb.key hb]
      exact .inr ⟨l, v, rfl, by rw [← k1]; exact DGet.k h1, E.giveD q k2⟩
  have dicF : ∀ ks vs, a = .fdct ks vs → rIxAll K x y H Q := fun ks vs ha => by
    subst ha
    obtain ⟨l, o, kvs, rfl, h1, h2, h3, h4⟩ := ra
    have e : (match b.key with
      | some k => (dget ks vs k).map R.dd
      | none => none) = some z := e
    cases hb : b.key with
    | none => simp only [hb] at e; cases e
    | some k =>
      simp only [hb] at e
      obtain ⟨d, e1, rfl⟩ := Option.map_eq_some_iff.mp e
      obtain ⟨v, k1, k2⟩ := dget_some h2 h4 e1
      rw [rb.key hb]
      exact .inr ⟨l, v, rfl, .inl ⟨kvs, k, .inr ⟨o, E.sub l _ h1⟩, rfl, k1.symm⟩, E.giveD q k2⟩
  cases a with
  | dct ks vs => exact dic ks vs rfl
  | fdct ks vs => exact dicF ks vs rfl
  | lst xs =>
    cases b with
    | int i =>
      obtain ⟨d, e1, rfl⟩ := Option.map_eq_some_iff.mp e
      obtain ⟨l, vs, rfl, h1, h2⟩ := ra
      obtain ⟨v, k1, k2⟩ := atI_rep h2 e1
      exact .inl (.inl ⟨l, vs, i, v, rfl, rb, .of h1, k1, E.giveD q k2⟩)
    | _ => cases e
  | fls xs =>
    cases b with
    | int i =>
      obtain ⟨d, e1, rfl⟩ := Option.map_eq_some_iff.mp e
      obtain ⟨l, vs, rfl, h1, h2⟩ := ra
      obtain ⟨v, k1, k2⟩ := atI_rep h2 e1
      exact .inl (.inl ⟨l, vs, i, v, rfl, rb, E.sub.sql h1, k1, E.giveD q k2⟩)
    | _ => cases e
  | tup xs =>
    cases b with
    | int i =>
      obtain ⟨d, e1, rfl⟩ := Option.map_eq_some_iff.mp e
      obtain ⟨l, vs, rfl, h1, h2⟩ := ra
      obtain ⟨v, k1, k2⟩ := atI_rep h2 e1
      exact .inl (.inr (.inl ⟨l, vs, i, v, rfl, rb, E.sub.sqt h1, k1, E.giveD q k2⟩))
    | _ => cases e
  | str s =>
    cases b with
    | int i =>
      dsimp only [oIx] at e
      by_cases hz : s.length ≤ sizeLine
      · rw [if_pos hz] at e
        obtain ⟨c, e1, rfl⟩ := Option.map_eq_some_iff.mp e
        exact .inl (.inr (.inr ⟨s, i, c, ra, rb, hz, e1, E.giveD q rfl⟩))
      · rw [if_neg hz] at e; cases e
    | _ => cases e
  | _ => cases e

/-! #### in, not in -/
def D.flat : D → Bool
  | .non => true
  | .bl _ => true
  | .int _ => true
  | .str _ => true
  | _ => false
def eqF : D → D → Bool
  | .non, .non => true
  | .bl a, .bl b => a == b
  | .bl a, .int b => (if a then 1 else 0) == b
  | .int a, .bl b => a == (if b then 1 else 0)
  | .int a, .int b => a == b
  | .str a, .str b => a == b
  | _, _ => false
def oInB : D → D → Option Bool
  | x, .lst xs => if x.flat = true ∧ xs.all D.flat = true then some (xs.any fun y => eqF y x) else none
  | x, .fls xs => if x.flat = true ∧ xs.all D.flat = true then some (xs.any fun y => eqF y x) else none
  | x, .tup xs => if x.flat = true ∧ xs.all D.flat = true then some (xs.any fun y => eqF y x) else none
  | x, .dct ks vs => match x.key with
    | some k => some (dget ks vs k).isSome
    | none => none
  | _, _ => none
def oIn (neg : Bool) (x y : D) : Option R := (oInB x y).map fun c => .dd (.bl (if neg then !c else c))
section
variable {K : PySem.W.Frag} {mg : Str → Option Value} {gs : List Nat} {Hf H : Hp}
theorem flat_rep {d : D} {v : V} (h : Rep K mg Hf d v) (f : d.flat = true) : flatV v = true := by
  cases d with
  | non => cases (show v = _ from h); rfl
  | bl _ => cases (show v = _ from h); rfl
  | int _ => cases (show v = _ from h); rfl
  | str _ => cases (show v = _ from h); rfl
  | _ => cases f
theorem flat_p {d : D} {v : V} (h : PRep K mg Hf H d v) (f : d.flat = true) : Rep K mg Hf d v := by
  cases d with
  | lst _ => cases f
  | dct _ _ => cases f
  | _ => exact h
theorem flat_all : ∀ {ds : List D} {vs : List V}, RepL K mg Hf ds vs → ds.all D.flat = true → vs.all flatV = true
  | [], _, h, _ => by have h : _ = [] := h; subst h; rfl
  | d :: ds, _, ⟨v, ws, h1, h2, h3⟩, f => by
    subst h1
    rw [List.all_cons, Bool.and_eq_true] at f
    rw [List.all_cons, flat_rep h2 f.1, flat_all h3 f.2]
    rfl
theorem eqF_rep {a b : D} {x y : V} (ha : Rep K mg Hf a x) (hb : Rep K mg Hf b y) (fa : a.flat = true) (fb : b.flat = true) : eqF a b = eqV x y := by
  cases a with
  | non => cases (show x = _ from ha); cases b <;> first | (cases (show y = _ from hb); rfl) | cases fb
  | bl _ => cases (show x = _ from ha); cases b <;> first | (cases (show y = _ from hb); rfl) | cases fb
  | int _ => cases (show x = _ from ha); cases b <;> first | (cases (show y = _ from hb); rfl) | cases fb
  | str _ => cases (show x = _ from ha); cases b <;> first | (cases (show y = _ from hb); rfl) | cases fb
  | _ => cases fa
theorem any_rep {b : D} {y : V} (hb : Rep K mg Hf b y) (fb : b.flat = true) : ∀ {ds : List D} {vs : List V}, RepL K mg Hf ds vs → ds.all D.flat = true → (ds.any fun a => eqF a b) = inV y vs
  | [], _, h, _ => by have h : _ = [] := h; subst h; rfl
  | d :: ds, _, ⟨v, ws, h1, h2, h3⟩, f => by
    subst h1
    rw [List.all_cons, Bool.and_eq_true] at f
    show (eqF d b || (ds.any fun a => eqF a b)) = (eqV v y || inV y ws)
    rw [eqF_rep h2 hb f.1 fb, any_rep hb fb h3 f.2]
end
def rInDk (neg : Bool) : R2 := fun x y H Q => ∃ a o, y = .ref a ∧ DGet H a x o ∧ Q (.bl (if neg then !o.isSome else o.isSome)) H
theorem op_inDk {X : Cx} (hu : X.A.units + 1 < cLine) : OpR X (compareOp .In) (rInDk false) := by
  intro pins s σ H x y v u Q I rx ry h
  obtain ⟨a, o, rfl, g, q⟩ := h
  obtain rfl : u = Value.ref a := ry
  exact d_in hu I g rx fun s' I' => ⟨.bl o.isSome, H, I', rfl, q⟩
theorem op_notInDk {X : Cx} (hu : X.A.units + 1 < cLine) : OpR X (compareOp .NotIn) (rInDk true) := by
  intro pins s σ H x y v u Q I rx ry h
  obtain ⟨a, o, rfl, g, q⟩ := h
  obtain rfl : u = Value.ref a := ry
  exact d_notIn hu I g rx fun s' I' => ⟨.bl (!o.isSome), H, I', rfl, q⟩
def rInA (K : PySem.W.Frag) (neg : Bool) : R2 := fun x y H Q => rIn K neg x y H Q ∨ rInDk neg x y H Q
theorem op_inA {X : Cx} (hu : X.A.units + 1 < cLine) : OpR X (compareOp .In) (rInA X.K false) := op_in_seq.or (op_inDk hu)
theorem op_notInA {X : Cx} (hu : X.A.units + 1 < cLine) : OpR X (compareOp .NotIn) (rInA X.K true) := op_notIn_seq.or (op_notInDk hu)
theorem os_in {K : PySem.W.Frag} {mg : Str → Option Value} {gs : List Nat} {neg : Bool} : OpS K mg gs (rInA K neg) (oIn neg) := by
  intro fx vs0 Hr Hf H σ ρ a b x y z Q E ra rb e q
  obtain ⟨c, e1, rfl⟩ := Option.map_eq_some_iff.mp e
  clear e
  have seq : ∀ xs vs p, y = .ref p → (SqL K H p vs ∨ SqT K H p vs) → RepL K mg Hf xs vs → (if a.flat = true ∧ xs.all D.flat = true then some (xs.any fun y => eqF y a) else none) = some c → rInA K neg x y H Q := fun xs vs p hy hs hr e => by
    by_cases hz : a.flat = true ∧ xs.all D.flat = true
    · rw [if_pos hz] at e
      have ra' := flat_p ra hz.1
      have e : xs.any (fun y => eqF y a) = c := Option.some.inj e
      rw [any_rep ra' hz.1 hr hz.2] at e
      refine .inl ⟨p, vs, hy, hs, flat_rep ra' hz.1, flat_all hr hz.2, ?_⟩
      rw [e]
      exact E.giveD q rfl
    · rw [if_neg hz] at e; cases e
  cases b with
  | lst xs => obtain ⟨p, vs, hy, h1, h2⟩ := rb; exact seq xs vs p hy (.inl (.of h1)) h2 e1
  | fls xs => obtain ⟨p, vs, hy, h1, h2⟩ := rb; exact seq xs vs p hy (.inl (E.sub.sql h1)) h2 e1
  | tup xs => obtain ⟨p, vs, hy, h1, h2⟩ := rb; exact seq xs vs p hy (.inr (E.sub.sqt h1)) h2 e1
  | dct ks vs =>
    obtain ⟨l, kvs, rfl, h1, h2, h3, h4⟩ := rb
    have e : (match a.key with
      | some k => some (dget ks vs k).isSome
      | none => none) = some c := e1
    cases hb : a.key with
    | none => simp only [hb] at e; cases e
    | some k =>
      simp only [hb] at e
      refine .inr ⟨l, valV kvs k, rfl, by rw [ra.key hb]; exact DGet.k h1, ?_⟩
      have : (valV kvs k).isSome = c := by
        rw [← Option.some.inj e]
        cases hd : dget ks vs k with
        | none => rw [dget_none h2 h4 hd]; rfl
        | some d => obtain ⟨v, k1, _⟩ := dget_some h2 h4 hd; rw [k1]; rfl
      rw [this]
      exact E.giveD q rfl
  | _ => cases e1

/-! #### slices -/
def cut {α : Type} (xs : List α) (lo hi : Option Int) : List α := (xs.drop (HT.sIx xs.length 0 lo)).take (HT.sIx xs.length xs.length hi - HT.sIx xs.length 0 lo)
def oSl (d : D) (lo hi : Option Int) : Option R := match d with
  | .lst xs => some (.ow (.own (cut xs lo hi)))
  | .fls xs => some (.ow (.own (cut xs lo hi)))
  | .tup xs => some (.dd (.tup (cut xs lo hi)))
  | .str s => if s.length ≤ sizeLine then some (.dd (.str (cutS s lo hi))) else none
  | _ => none
/-- a bound of a slice -/
def mPart (m : Option ME) (k : Option Int → ME) : ME := fun ρ => match m with
  | none => k none ρ
  | some m => match m ρ with
    | .ok r ρ1 => match use r.fix ρ1 with
      | some (.int i) => k (some i) ρ1
      | _ => .bad
    | .exc x ρ1 => .exc x ρ1
    | .bad => .bad
def mSl (m : ME) (lo hi : Option ME) : ME := mB m fun r => mPart lo fun l => mPart hi fun h ρ => match use r ρ with
  | some d => opt (oSl d l h) ρ
  | none => .bad
def SO (K : PySem.W.Frag) (mg : Str → Option Value) (gs : List Nat) (W : WX) (t : TO) (m : Option ME) : Prop := ∀ fx vs0 Hr Hf H σ ρ (Q : Option Int → Hp → Prop) (k : Option Int → ME) (QE : VK), EnvOk K mg gs fx vs0 Hr Hf H σ ρ → PostE K mg gs W fx vs0 Hr Hf σ (mPart m k ρ) QE →
  (∀ o Hf' H' ρ', Ext Hf Hf' → EnvOk K mg gs fx vs0 Hr Hf' H' σ ρ' → PostE K mg gs W fx vs0 Hr Hf' σ (k o ρ') QE → Q o H') → t σ H Q
structure DO (X : Cx) (W : WX) (e : Option Expr) (t : TO) (m : Option ME) : Prop where
  po : PO X e t
  so : SO X.K X.mg X.gs W t m
def rSl4 (K : PySem.W.Frag) : V → Option Int → Option Int → Hp → VK → Prop := fun x lo hi H Q => rSlL K x lo hi H Q ∨ rSlA K x lo hi H Q ∨ rSlS x lo hi H Q
theorem sl_all {X : Cx} : SlR X (rSl4 X.K) := sl_list.or (sl_tupA.or sl_str)
theorem cut_rep {K : PySem.W.Frag} {mg : Str → Option Value} {Hf : Hp} {ds : List D} {vs : List V} {lo hi : Option Int} (r : RepL K mg Hf ds vs) : RepL K mg Hf (cut ds lo hi) (cutV vs lo hi) := by
  unfold cut cutV
  rw [r.length]
  exact (r.drop _).take _
section
variable {X : Cx} {W : WX} {e : Expr} {te : TE} {m : ME} {lo hi : Option Expr} {tl th : TO} {ml mh : Option ME} {pos p2 : Pos}
theorem do_none : DO X W none tNoPart none := ⟨po_none, fun fx vs0 Hr Hf H σ ρ Q k QE E p q => q none Hf H ρ (Ext.refl _) E p⟩
theorem do_some (h : DE X W e te m) : DO X W (some e) (tPart te) (some m) := by
  refine ⟨po_some h.pe, fun fx vs0 Hr Hf H σ ρ Q k QE E p q => ?_⟩
  refine h.se fx vs0 Hr Hf H σ ρ _ E ?_
  unfold mPart at p
  dsimp only at p
  cases hm : m ρ with
  | bad => rw [hm] at p; exact p
  | exc x ρ1 => rw [hm] at p; exact p
  | ok r ρ1 =>
    rw [hm] at p
    intro v F H1 e1 E1 q1
    obtain ⟨F', e', E2, q2⟩ := q1.fixed E1
    cases hu : use r.fix ρ1 with
    | none => simp only [hu] at p; exact p.elim
    | some d =>
      have u := use_ok E2 q2 hu
      simp only [hu] at p
      cases d with
      | int i => exact ⟨i, u, q (some i) F' H1 ρ1 (e1.trans e') E2 (PostE.mono p (e1.trans e'))⟩
      | _ => exact p.elim
theorem de_sl (h : DE X W e te m) (hl : DO X W lo tl ml) (hh : DO X W hi th mh) : DE X W (.Subscript e (.Slice lo hi none p2) pos) (tSl (rSl4 X.K) te tl th) (mSl m ml mh) := by
  refine ⟨pe_slice sl_all h.pe hl.po hh.po, fun fx vs0 Hr Hf H σ ρ Q E p => ?_⟩
  refine h.se.bind E p fun r ρ1 v F H1 e1 E1 c1 s1 q => ?_
  refine hl.so fx vs0 Hr F H1 σ ρ1 _ _ Q E1 q fun l F2 H2 ρ2 e2 E2 q2 => ?_
  refine hh.so fx vs0 Hr F2 H2 σ ρ2 _ _ Q E2 q2 fun u F3 H3 ρ3 e3 E3 q3 => ?_
  cases hu : use r ρ3 with
  | none => simp only [hu] at q3; exact q3.elim
  | some d =>
    have hp := use_ok E3 (s1 Hr F3 H3 ρ3 (e2.trans e3)) hu
    simp only [hu] at q3
    cases d with
    | lst xs => obtain ⟨a, vs, rfl, h1, h2⟩ := hp; exact .inl ⟨a, vs, rfl, .of h1, E3.giveL q3 (cut_rep h2)⟩
    | fls xs => obtain ⟨a, vs, rfl, h1, h2⟩ := hp; exact .inl ⟨a, vs, rfl, E3.sub.sql h1, E3.giveL q3 (cut_rep h2)⟩
    | tup xs =>
      obtain ⟨a, vs, rfl, h1, h2⟩ := hp
      refine .inr (.inl ⟨a, vs, rfl, E3.sub.sqt h1, fun hw => ?_, fun _ => E3.giveT q3 (cut_rep h2)⟩)
      have : cut xs l u = xs := by
        unfold cut
        rw [h2.length] at hw
        rw [hw.1, hw.2]
        simp
      dsimp only [oSl, opt] at q3
      rw [this] at q3
      exact E3.giveD q3 ⟨a, vs, rfl, h1, h2⟩
    | str s =>
      dsimp only [oSl] at q3
      by_cases hz : s.length ≤ sizeLine
      · rw [if_pos hz] at q3
        exact .inr (.inr ⟨s, hp, hz, E3.giveD q3 rfl⟩)
      · rw [if_neg hz] at q3; exact q3.elim
    | _ => exact q3.elim
end

/-! #### built-in functions by values -/
def CS1 (K : PySem.W.Frag) (mg : Str → Option Value) (gs : List Nat) (r : List V → Hp → VK → Prop) (f : D → Option R) : Prop :=
  ∀ fx vs0 Hr Hf H σ ρ a x z Q, EnvOk K mg gs fx vs0 Hr Hf H σ ρ → PRep K mg Hf H a x → f a = some z →
    (∀ v Hf' H', Ext Hf Hf' → EnvOk K mg gs fx vs0 Hr Hf' H' σ ρ → ROk K mg Hr Hf' H' σ ρ z v → Q v H') → r [x] H Q
def CS2 (K : PySem.W.Frag) (mg : Str → Option Value) (gs : List Nat) (r : List V → Hp → VK → Prop) (f : D → D → Option R) : Prop := OpS K mg gs (fun x y H Q => r [x, y] H Q) f
theorem SE.call1 {K : PySem.W.Frag} {mg : Str → Option Value} {gs : List Nat} {W : WX} {ta : TE} {ma : ME} {r : List V → Hp → VK → Prop} {f : D → Option R} (ha : SE K mg gs W ta ma) (ho : CS1 K mg gs r f) : SE K mg gs W (tCB r (tCons ta tNil)) (m1 f ma) := by
  intro fx vs0 Hr Hf H σ ρ Q E p
  refine ha.bind E p fun ra ρ1 v F H1 e1 E1 c1 s1 q => ?_
  cases hu : use ra ρ1 with
  | none => simp only [hu] at q; exact q.elim
  | some a =>
    simp only [hu] at q
    cases hf : f a with
    | none => rw [hf] at q; exact q.elim
    | some z =>
      rw [hf] at q
      exact ho fx vs0 Hr F H1 σ ρ1 a v z Q E1 (use_ok E1 (s1 Hr F H1 ρ1 (Ext.refl _)) hu) hf q
theorem SE.call2 {K : PySem.W.Frag} {mg : Str → Option Value} {gs : List Nat} {W : WX} {ta tb : TE} {ma mb : ME} {r : List V → Hp → VK → Prop} {f : D → D → Option R} (ha : SE K mg gs W ta ma) (hb : SE K mg gs W tb mb) (ho : CS2 K mg gs r f) : SE K mg gs W (tCB r (tCons ta (tCons tb tNil))) (m2 f ma mb) :=
  ha.op2 hb ho
section
variable {X : Cx} {W : WX} {a b : Expr} {ta tb : TE} {ma mb : ME} {p pos : Pos} {id T : String} {x : Str} {r : List V → Hp → VK → Prop}
theorem de_b1 {f : D → Option R} (hc : CallR X (.builtin id) r) (hs : CS1 X.K X.mg X.gs r f) (h : DE X W a ta ma) (hm : X.mg x = none) (hv : bootBuiltins x = some (.builtin id)) (hg : Gl X x := by rfl) (hn : x ≠ "__name__" := by decide) (hdb : (x == ("__debug__" : Str)) = false := by decide)
    (he : starEach (a :: []) X.env = (false, eval a X.env) :: starEach [] X.env := by rfl) (hpl : (backTo pos (starEach [] X.env)).any (·.1) = false := by rfl) : DE X W (.Call (.Name x p) [a] [] pos) (tCB r (tCons ta tNil)) (m1 f ma) :=
  ⟨pe_callB hc hg hm hv (pa_cons h.pe pa_nil he) hn hdb he hpl, h.se.call1 hs⟩
theorem de_t1 {f : D → Option R} (hc : CallR X (.type T) r) (hs : CS1 X.K X.mg X.gs r f) (h : DE X W a ta ma) (hm : X.mg x = none) (hv : bootBuiltins x = some (.type T)) (hg : Gl X x := by rfl) (hn : x ≠ "__name__" := by decide) (hdb : (x == ("__debug__" : Str)) = false := by decide)
    (he : starEach (a :: []) X.env = (false, eval a X.env) :: starEach [] X.env := by rfl) (hpl : (backTo pos (starEach [] X.env)).any (·.1) = false := by rfl) : DE X W (.Call (.Name x p) [a] [] pos) (tCB r (tCons ta tNil)) (m1 f ma) :=
  ⟨pe_callTy hc hg hm hv (pa_cons h.pe pa_nil he) hn hdb he hpl, h.se.call1 hs⟩
theorem de_b2 {f : D → D → Option R} (hc : CallR X (.builtin id) r) (hs : CS2 X.K X.mg X.gs r f) (h : DE X W a ta ma) (k : DE X W b tb mb) (hm : X.mg x = none) (hv : bootBuiltins x = some (.builtin id)) (hg : Gl X x := by rfl) (hn : x ≠ "__name__" := by decide) (hdb : (x == ("__debug__" : Str)) = false := by decide)
    (he : starEach (a :: [b]) X.env = (false, eval a X.env) :: starEach [b] X.env := by rfl) (he2 : starEach (b :: []) X.env = (false, eval b X.env) :: starEach [] X.env := by rfl) (hpl : (backTo pos (starEach [b] X.env)).any (·.1) = false := by rfl) :
    DE X W (.Call (.Name x p) [a, b] [] pos) (tCB r (tCons ta (tCons tb tNil))) (m2 f ma mb) :=
  ⟨pe_callB hc hg hm hv (pa_cons h.pe (pa_cons k.pe pa_nil he2) he) hn hdb he hpl, h.se.call2 k.se hs⟩
end
def oLen : D → Option R
  | .lst xs => some (.dd (.int xs.length))
  | .fls xs => some (.dd (.int xs.length))
  | .tup xs => some (.dd (.int xs.length))
  | .str s => if s.length ≤ sizeLine then some (.dd (.int s.length)) else none
  | .dct ks _ => some (.dd (.int ks.length))
  | _ => none
def rLenA (K : PySem.W.Frag) : List V → Hp → VK → Prop := fun xs H Q => (∃ x n, xs = [x] ∧ LenV K x H n ∧ Q (.int n) H) ∨ ∃ a kvs, xs = [.ref a] ∧ H a = some (.dK kvs) ∧ Q (.int kvs.length) H
theorem call_lenA {X : Cx} : CallR X (.builtin "len") (rLenA X.K) := CallR.or call_len call_lenD
theorem cs_len {K : PySem.W.Frag} {mg : Str → Option Value} {gs : List Nat} : CS1 K mg gs (rLenA K) oLen := by
  intro fx vs0 Hr Hf H σ ρ a x z Q E ra e q
  cases a with
  | lst xs => cases e; obtain ⟨l, vs, rfl, h1, h2⟩ := ra; exact .inl ⟨_, vs.length, rfl, .inl ⟨vs, .of h1, rfl⟩, by rw [h2.length]; exact E.giveD q rfl⟩
  | fls xs => cases e; obtain ⟨l, vs, rfl, h1, h2⟩ := ra; exact .inl ⟨_, vs.length, rfl, .inl ⟨vs, E.sub.sql h1, rfl⟩, by rw [h2.length]; exact E.giveD q rfl⟩
  | tup xs => cases e; obtain ⟨l, vs, rfl, h1, h2⟩ := ra; exact .inl ⟨_, vs.length, rfl, .inr ⟨vs, E.sub.sqt h1, rfl⟩, by rw [h2.length]; exact E.giveD q rfl⟩
  | str s =>
    cases (show x = .str s from ra)
    dsimp only [oLen] at e
    by_cases hz : s.length ≤ sizeLine
    · rw [if_pos hz] at e; cases e; exact .inl ⟨_, s.length, rfl, ⟨hz, rfl⟩, E.giveD q rfl⟩
    · rw [if_neg hz] at e; cases e
  | dct ks xs => cases e; obtain ⟨l, kvs, rfl, h1, h2, _⟩ := ra; exact .inr ⟨l, kvs, rfl, h1, by rw [show kvs.length = ks.length by rw [← h2, List.length_map]]; exact E.giveD q rfl⟩
  | _ => cases e
/-- list(x) of a list, a tuple, a dict -/
def keyD : Key → D
  | .inl i => .int i
  | .inr s => .str s
def oList : D → Option R
  | .lst xs => some (.ow (.own xs))
  | .fls xs => some (.ow (.own xs))
  | .tup xs => some (.ow (.own xs))
  | .dct ks _ => some (.ow (.own (ks.map keyD)))
  | _ => none
def rListA (K : PySem.W.Frag) : List V → Hp → VK → Prop := fun xs H Q => (∃ p ys, xs = [.ref p] ∧ (SqL K H p ys ∨ SqT K H p ys) ∧ ∀ l, H l = none → Q (.ref l) (upd H l (.lst ys))) ∨
  ∃ a kvs, xs = [.ref a] ∧ Rd H a (.dK kvs) ∧ ∀ p, H p = none → Q (.ref p) (upd H p (.lst (kvs.map fun kv => kV kv.1)))
theorem call_listA {X : Cx} (hc : X.calm = true) : CallR X (.type "list") (rListA X.K) := CallR.or call_list_of (call_listD hc)
theorem keys_rep {K : PySem.W.Frag} {mg : Str → Option Value} {Hf : Hp} : ∀ (kvs : List (Key × V)), RepL K mg Hf ((kvs.map (·.1)).map keyD) (kvs.map fun kv => kV kv.1)
  | [] => rfl
  | (.inl i, v) :: r => ⟨.int i, _, rfl, rfl, keys_rep r⟩
  | (.inr x, v) :: r => ⟨.str x, _, rfl, rfl, keys_rep r⟩
theorem cs_list {K : PySem.W.Frag} {mg : Str → Option Value} {gs : List Nat} : CS1 K mg gs (rListA K) oList := by
  intro fx vs0 Hr Hf H σ ρ a x z Q E ra e q
  cases a with
  | lst xs => cases e; obtain ⟨l, vs, rfl, h1, h2⟩ := ra; exact .inl ⟨l, vs, rfl, .inl (.of h1), E.giveL q h2⟩
  | fls xs => cases e; obtain ⟨l, vs, rfl, h1, h2⟩ := ra; exact .inl ⟨l, vs, rfl, .inl (E.sub.sql h1), E.giveL q h2⟩
  | tup xs => cases e; obtain ⟨l, vs, rfl, h1, h2⟩ := ra; exact .inl ⟨l, vs, rfl, .inr (E.sub.sqt h1), E.giveL q h2⟩
  | dct ks xs =>
    cases e
    obtain ⟨l, kvs, rfl, h1, h2, _⟩ := ra
    subst h2
    exact .inr ⟨l, kvs, rfl, .of h1, E.giveL q (keys_rep kvs)⟩
  | _ => cases e
/-- tuple(x) of a list, a tuple -/
def oTuple : D → Option R
  | .lst xs => some (.dd (.tup xs))
  | .fls xs => some (.dd (.tup xs))
  | .tup xs => some (.dd (.tup xs))
  | _ => none
def rTupleA (K : PySem.W.Frag) : List V → Hp → VK → Prop := fun xs H Q => ∃ p ys, xs = [.ref p] ∧ ((SqL K H p ys ∧ ∀ l, H l = none → Q (.ref l) (upd H l (.tup ys))) ∨ (SqT K H p ys ∧ Q (.ref p) H))
theorem call_tupleA {X : Cx} : CallR X (.type "tuple") (rTupleA X.K) := call_tuple_of
theorem cs_tuple {K : PySem.W.Frag} {mg : Str → Option Value} {gs : List Nat} : CS1 K mg gs (rTupleA K) oTuple := by
  intro fx vs0 Hr Hf H σ ρ a x z Q E ra e q
  cases a with
  | lst xs => cases e; obtain ⟨l, vs, rfl, h1, h2⟩ := ra; exact ⟨l, vs, rfl, .inl ⟨.of h1, E.giveT q h2⟩⟩
  | fls xs => cases e; obtain ⟨l, vs, rfl, h1, h2⟩ := ra; exact ⟨l, vs, rfl, .inl ⟨E.sub.sql h1, E.giveT q h2⟩⟩
  | tup xs => cases e; obtain ⟨l, vs, rfl, h1, h2⟩ := ra; exact ⟨l, vs, rfl, .inr ⟨E.sub.sqt h1, E.giveD q ⟨l, vs, rfl, h1, h2⟩⟩⟩
  | _ => cases e
/-- str(n) -/
def oStr : D → Option R
  | .int i => if i.natAbs.log2 < 1920 then some (.dd (.str (toString i : Str))) else none
  | _ => none
theorem cs_str {K : PySem.W.Frag} {mg : Str → Option Value} {gs : List Nat} : CS1 K mg gs (fun xs H Q => ∃ i, xs = [.int i] ∧ i.natAbs.log2 < 1920 ∧ Q (.str (toString i)) H) oStr := by
  intro fx vs0 Hr Hf H σ ρ a x z Q E ra e q
  cases a with
  | int i =>
    cases (show x = .int i from ra)
    dsimp only [oStr] at e
    by_cases hz : i.natAbs.log2 < 1920
    · rw [if_pos hz] at e; cases e; exact ⟨i, rfl, hz, E.giveD q rfl⟩
    · rw [if_neg hz] at e; cases e
  | _ => cases e
/-- int(b), int(n) -/
def oInt : D → Option R
  | .int i => some (.dd (.int i))
  | .bl k => some (.dd (.int (if k then 1 else 0)))
  | _ => none
theorem cs_int {K : PySem.W.Frag} {mg : Str → Option Value} {gs : List Nat} : CS1 K mg gs (fun xs H Q => (∃ i, xs = [.int i] ∧ Q (.int i) H) ∨ ∃ k, xs = [.bl k] ∧ Q (.int (if k then 1 else 0)) H) oInt := by
  intro fx vs0 Hr Hf H σ ρ a x z Q E ra e q
  cases a with
  | int i => cases (show x = .int i from ra); cases e; exact .inl ⟨i, rfl, E.giveD q rfl⟩
  | bl k => cases (show x = .bl k from ra); cases e; exact .inr ⟨k, rfl, E.giveD q rfl⟩
  | _ => cases e
def oAbs : D → Option R
  | .int i => some (.dd (.int (if i < 0 then -i else i)))
  | _ => none
theorem cs_abs {K : PySem.W.Frag} {mg : Str → Option Value} {gs : List Nat} : CS1 K mg gs (fun xs H Q => ∃ i, xs = [.int i] ∧ Q (.int (if i < 0 then -i else i)) H) oAbs := by
  intro fx vs0 Hr Hf H σ ρ a x z Q E ra e q
  cases a with
  | int i => cases (show x = .int i from ra); cases e; exact ⟨i, rfl, E.giveD q rfl⟩
  | _ => cases e
def oMax : D → D → Option R
  | .int i, .int j => some (.dd (.int (if j > i then j else i)))
  | _, _ => none
def oMin : D → D → Option R
  | .int i, .int j => some (.dd (.int (if j < i then j else i)))
  | _, _ => none
theorem cs_max {K : PySem.W.Frag} {mg : Str → Option Value} {gs : List Nat} : CS2 K mg gs (fun xs H Q => ∃ i j, xs = [.int i, .int j] ∧ Q (.int (if j > i then j else i)) H) oMax := by
  intro fx vs0 Hr Hf H σ ρ a b x y z Q E ra rb e q
  cases a with
  | int i =>
    cases b with
    | int j => cases (show x = .int i from ra); cases (show y = .int j from rb); cases e; exact ⟨i, j, rfl, E.giveD q rfl⟩
    | _ => cases e
  | _ => cases e
theorem cs_min {K : PySem.W.Frag} {mg : Str → Option Value} {gs : List Nat} : CS2 K mg gs (fun xs H Q => ∃ i j, xs = [.int i, .int j] ∧ Q (.int (if j < i then j else i)) H) oMin := by
  intro fx vs0 Hr Hf H σ ρ a b x y z Q E ra rb e q
  cases a with
  | int i =>
    cases b with
    | int j => cases (show x = .int i from ra); cases (show y = .int j from rb); cases e; exact ⟨i, j, rfl, E.giveD q rfl⟩
    | _ => cases e
  | _ => cases e
def bools : List D → Option (List Bool)
  | [] => some []
  | .bl b :: ds => (bools ds).map (b :: ·)
  | _ => none
def oAny : D → Option R
  | .lst xs => (bools xs).map fun bs => .dd (.bl (bs.any id))
  | _ => none
theorem bools_rep {K : PySem.W.Frag} {mg : Str → Option Value} {Hf : Hp} : ∀ {ds : List D} {vs : List V} {bs : List Bool}, RepL K mg Hf ds vs → bools ds = some bs → vs = bs.map V.bl
  | [], _, _, h, e => by have h : _ = [] := h; subst h; cases e; rfl
  | .bl b :: ds, _, _, ⟨v, ws, h1, h2, h3⟩, e => by
    obtain ⟨cs, e1, rfl⟩ := Option.map_eq_some_iff.mp e
    subst h1
    rw [bools_rep h3 e1]
    cases (show v = .bl b from h2)
    rfl
  | .non :: _, _, _, _, e => by cases e
  | .int _ :: _, _, _, _, e => by cases e
  | .str _ :: _, _, _, _, e => by cases e
  | .ty _ :: _, _, _, _, e => by cases e
  | .fn _ :: _, _, _, _, e => by cases e
  | .lst _ :: _, _, _, _, e => by cases e
  | .fls _ :: _, _, _, _, e => by cases e
  | .tup _ :: _, _, _, _, e => by cases e
  | .dct _ _ :: _, _, _, _, e => by cases e
  | .fdct _ _ :: _, _, _, _, e => by cases e
theorem cs_any {K : PySem.W.Frag} {mg : Str → Option Value} {gs : List Nat} : CS1 K mg gs (rAny K) oAny := by
  intro fx vs0 Hr Hf H σ ρ a x z Q E ra e q
  cases a with
  | lst xs =>
    obtain ⟨bs, e1, rfl⟩ := Option.map_eq_some_iff.mp e
    obtain ⟨l, vs, rfl, h1, h2⟩ := ra
    have := bools_rep h2 e1
    subst this
    exact ⟨l, bs, rfl, .of h1, E.giveD q rfl⟩
  | _ => cases e

/-! #### isinstance with built-in types -/
def D.tyN : D → Option String
  | .non => some "NoneType"
  | .bl _ => some "bool"
  | .int _ => some "int"
  | .str _ => some "str"
  | .lst _ => some "list"
  | .fls _ => some "list"
  | .tup _ => some "tuple"
  | .dct _ _ => some "dict"
  | _ => none
def D.isTy (d : D) (n : String) : Option Bool := match d.tyN with
  | some t => if ["bool", "int", "str", "list", "tuple", "dict"].contains n = true then some (t == n || (t == "bool" && n == "int")) else none
  | none => none
theorem kit_all {t n : String} (ht : t ∈ ["NoneType", "bool", "int", "str", "list", "tuple", "dict"]) (hn : n ∈ ["bool", "int", "str", "list", "tuple", "dict"]) : kitB t n = some (t == n || (t == "bool" && n == "int")) := by
  simp only [List.mem_cons, List.not_mem_nil, or_false] at ht hn
  rcases ht with rfl | rfl | rfl | rfl | rfl | rfl | rfl <;> rcases hn with rfl | rfl | rfl | rfl | rfl | rfl <;> decide +kernel
section
variable {K : PySem.W.Frag} {mg : Str → Option Value} {gs : List Nat} {Hf H : Hp}
theorem sqt_ty {a : Addr} {vs : List V} (h : SqT K H a vs) : TyX K H (.ref a) (.type "tuple") := by
  rcases h with (h | ⟨o, h⟩) | ⟨o, its, n, hk, hc, _⟩
  · exact .base (.tup h)
  · exact .fTuple h
  · exact .kTuple hk hc
theorem sql_ty {a : Addr} {vs : List V} (h : SqL K H a vs) : TyX K H (.ref a) (.type "list") := by
  rcases h with (h | ⟨o, h⟩) | ⟨o, its, n, hk, hc, _⟩
  · exact .base (.lst h)
  · exact .base (.frz h)
  · exact .kList hk hc
theorem PRep.ty (S : Ext Hf H) {d : D} {v : V} {t : String} (h : PRep K mg Hf H d v) (e : d.tyN = some t) : TyX K H v (.type t) ∧ t ∈ ["NoneType", "bool", "int", "str", "list", "tuple", "dict"] := by
  cases d with
  | non => cases (show v = _ from h); cases e; exact ⟨.base .non, by simp⟩
  | bl b => cases (show v = _ from h); cases e; exact ⟨.base (.bl b), by simp⟩
  | int b => cases (show v = _ from h); cases e; exact ⟨.base (.int b), by simp⟩
  | str b => cases (show v = _ from h); cases e; exact ⟨.base (.str b), by simp⟩
  | lst xs => obtain ⟨a, vs, rfl, h1, _⟩ := h; cases e; exact ⟨.base (.lst h1), by simp⟩
  | fls xs => obtain ⟨a, vs, rfl, h1, _⟩ := h; cases e; exact ⟨sql_ty (S.sql h1), by simp⟩
  | tup xs => obtain ⟨a, vs, rfl, h1, _⟩ := h; cases e; exact ⟨sqt_ty (S.sqt h1), by simp⟩
  | dct ks xs => obtain ⟨a, vs, rfl, h1, _⟩ := h; cases e; exact ⟨.base (.dK h1), by simp⟩
  | _ => cases e
theorem isTy_ok (S : Ext Hf H) {d : D} {v : V} {n : String} {b : Bool} (h : PRep K mg Hf H d v) (e : d.isTy n = some b) : ∃ t, d.tyN = some t ∧ TyX K H v (.type t) ∧ PySem.W.kitOne K (.type t) (.type n) = some b := by
  unfold D.isTy at e
  cases ht : d.tyN with
  | none => simp only [ht] at e; cases e
  | some t =>
    simp only [ht] at e
    by_cases hn : ["bool", "int", "str", "list", "tuple", "dict"].contains n = true
    · rw [if_pos hn] at e
      obtain ⟨h1, h2⟩ := h.ty S ht
      refine ⟨t, rfl, h1, kit_ty ?_⟩
      rw [kit_all h2 (by simpa using hn)]
      exact e
    · rw [if_neg hn] at e; cases e
end
def oIsi : D → D → Option R
  | d, .ty n => (d.isTy n).map fun b => .dd (.bl b)
  | _, _ => none
theorem cs_isi {K : PySem.W.Frag} {mg : Str → Option Value} {gs : List Nat} : CS2 K mg gs (rIsi K) oIsi := by
  intro fx vs0 Hr Hf H σ ρ a b x y z Q E ra rb e q
  cases b with
  | ty n =>
    obtain ⟨c, e1, rfl⟩ := Option.map_eq_some_iff.mp e
    cases (show y = .ty n from rb)
    obtain ⟨t, _, h1, h2⟩ := isTy_ok E.sub ra e1
    exact ⟨x, .ty n, .type t, .type n, c, rfl, .ty n, h1, h2, E.giveD q rfl⟩
  | _ => cases e
section
variable {X : Cx} {W : WX} {a : Expr} {ta : TE} {ma : ME} {p pos : Pos}
/-- a built-in type as a value -/
theorem de_ty {x : Str} (n : String) (hm : X.mg x = none) (hv : bootBuiltins x = some (.type n)) (hg : Gl X x := by rfl) (hn : x ≠ "__name__" := by decide) (hd : (x == ("__debug__" : Str)) = false := by decide) : DE X W (.Name x pos) (tC (.ty n)) (mC (.ty n)) :=
  ⟨pe_bltn hg hm hv rfl hn hd, se_c fun _ => rfl⟩
/-- a global of the program, by its name -/
theorem de_glob {x : Str} {f : Addr} (hm : X.mg x = some (.ref f)) (hg : Gl X x := by rfl) (hd : (x == ("__debug__" : Str)) = false := by decide) : DE X W (.Name x pos) (tC (.ref f)) (mC (.fn x)) :=
  ⟨pe_glob hg hm rfl hd, se_c fun _ => ⟨f, hm, rfl⟩⟩
/-- a module's int, text -/
theorem de_globI {x : Str} {i : Int} {t : Tok} (hm : X.mg x = some (.int i t)) (hg : Gl X x := by rfl) (hd : (x == ("__debug__" : Str)) = false := by decide) : DE X W (.Name x pos) (tC (.int i)) (mC (.int i)) :=
  ⟨pe_glob hg hm ⟨t, rfl⟩ hd, se_c fun _ => rfl⟩
theorem de_globS {x : Str} {i : Str} {t : Tok} (hm : X.mg x = some (.str i t)) (hg : Gl X x := by rfl) (hd : (x == ("__debug__" : Str)) = false := by decide) : DE X W (.Name x pos) (tC (.str i)) (mC (.str i)) :=
  ⟨pe_glob hg hm ⟨t, rfl⟩ hd, se_c fun _ => rfl⟩
def oIsi2 (n1 n2 : String) (d : D) : Option R := match d.isTy n1, d.isTy n2 with
  | some b, some c => some (.dd (.bl (b || c)))
  | _, _ => none
/-- isinstance(x, (A, B)) of built-in types -/
theorem de_isi2 {x : Str} {x1 x2 : Str} {n1 n2 : String} {p1 p2 p3 : Pos} {kk} (h : DE X W a ta ma) (hm : X.mg "isinstance" = none) (h1 : DE X W (.Name x1 p1) (tC (.ty n1)) (mC (.ty n1))) (h2 : DE X W (.Name x2 p2) (tC (.ty n2)) (mC (.ty n2))) (hg : Gl X "isinstance" := by rfl)
    (he : starEach (a :: [.Tuple [.Name x1 p1, .Name x2 p2] kk p3]) X.env = (false, eval a X.env) :: starEach [.Tuple [.Name x1 p1, .Name x2 p2] kk p3] X.env := by rfl) (he2 : starEach [.Tuple [.Name x1 p1, .Name x2 p2] kk p3] X.env = (false, eval (.Tuple [.Name x1 p1, .Name x2 p2] kk p3) X.env) :: starEach [] X.env := by rfl)
    (hpl : (backTo pos (starEach [.Tuple [.Name x1 p1, .Name x2 p2] kk p3] X.env)).any (·.1) = false := by rfl)
    (hs1 : starEach (.Name x1 p1 :: [.Name x2 p2]) X.env = (false, eval (.Name x1 p1) X.env) :: starEach [.Name x2 p2] X.env := by rfl) (hs2 : starEach (.Name x2 p2 :: []) X.env = (false, eval (.Name x2 p2) X.env) :: starEach [] X.env := by rfl) :
    DE X W (.Call (.Name "isinstance" p) [a, .Tuple [.Name x1 p1, .Name x2 p2] kk p3] [] pos) (tCB (rIsiT X.K) (tCons ta (tCons (tTup (tCons (tC (.ty n1)) (tCons (tC (.ty n2)) tNil))) tNil))) (m1 (oIsi2 n1 n2) ma) := by
  refine ⟨pe_callB call_isiT hg hm (by decide +kernel) (pa_cons h.pe (pa_cons (pe_tup (pa_cons h1.pe (pa_cons h2.pe pa_nil hs2) hs1)) pa_nil he2) he) (by decide) (by decide) he hpl, fun fx vs0 Hr Hf H σ ρ Q E p => ?_⟩
  refine h.se.bind E p fun r ρ1 v F H1 e1 E1 c1 s1 q => ?_
  cases hu : use r ρ1 with
  | none => simp only [hu] at q; exact q.elim
  | some d =>
    have hp := use_ok E1 (s1 Hr F H1 ρ1 (Ext.refl _)) hu
    simp only [hu] at q
    cases hb : d.isTy n1 with
    | none => simp only [oIsi2, hb] at q; exact q.elim
    | some b =>
      cases hc : d.isTy n2 with
      | none => simp only [oIsi2, hb, hc] at q; exact q.elim
      | some c =>
        simp only [oIsi2, hb, hc] at q
        refine ⟨by show 2 ≤ sizeLine; rw [sizeLine_eq]; decide, fun tp htp => ?_⟩
        have E2 := E1.newF (o := .tup [.ty n1, .ty n2]) htp
        have hp2 : PRep X.K X.mg (upd F tp (.tup [.ty n1, .ty n2])) (upd H1 tp (.tup [.ty n1, .ty n2])) d v := use_ok E2 (s1 Hr _ _ ρ1 (Ext.new (E1.freshF htp))) hu
        obtain ⟨t, k0, k1, k2⟩ := isTy_ok E2.sub hp2 hb
        obtain ⟨t', k3, _, k4⟩ := isTy_ok E2.sub hp2 hc
        have et : t' = t := by rw [k0] at k3; cases k3; rfl
        subst et
        refine ⟨v, tp, _, .type t', [.type n1, .type n2], b || c, rfl, upd_same, .cons (.ty n1) (.cons (.ty n2) .nil), k1, ?_, ?_⟩
        · refine L2.kitAny_cons k2 (fun hb => ?_) (fun hb => by rw [hb]; rfl)
          subst hb
          exact L2.kitAny_cons k4 (fun hc => by subst hc; rfl) fun hc => by rw [hc]; rfl
        · exact q (.bl (b || c)) _ _ (Ext.new (E1.freshF htp)) E2 rfl
end
/-! ### displays -/
def vals : List AC → Option (List D)
  | [] => some []
  | (.val d, none) :: cs => (vals cs).map (d :: ·)
  | _ => none
theorem vals_ok {K : PySem.W.Frag} {mg : Str → Option Value} {Hf : Hp} {σ : St} : ∀ {vs : List V} {cs : List AC} {Hr Hr' : Hp} {ds : List D}, ArgsOk K mg Hf σ Hr Hr' vs cs → vals cs = some ds → Hr' = Hr ∧ RepL K mg Hf ds vs
  | [], [], _, _, _, h, e => by cases e; exact ⟨h, rfl⟩
  | v :: vs, (.val d, none) :: cs, _, _, _, ⟨⟨d', h1, h2⟩, h3⟩, e => by
    obtain ⟨ds, e1, rfl⟩ := Option.map_eq_some_iff.mp e
    cases h1
    obtain ⟨k1, k2⟩ := vals_ok h3 e1
    exact ⟨k1, .cons h2 k2⟩
  | _ :: _, (.no, none) :: _, _, _, _, _, e => by cases e
  | _ :: _, (.own _, none) :: _, _, _, _, _, e => by cases e
  | _ :: _, (.ownD _ _, none) :: _, _, _, _, _, e => by cases e
  | _ :: _, (.no, some _) :: _, _, _, _, _, e => by cases e
  | _ :: _, (.val _, some _) :: _, _, _, _, _, e => by cases e
  | _ :: _, (.own _, some _) :: _, _, _, _, _, e => by cases e
  | _ :: _, (.ownD _ _, some _) :: _, _, _, _, _, e => by cases e
  | [], (_ :: _), _, _, _, h, _ => h.elim
  | _ :: _, [], _, _, _, h, _ => h.elim
def mSeqD (f : List D → R) (as : List AM) : ME := fun ρ => mArgs as ρ fun cs ρ1 => match vals cs with
  | some ds => if ds.length ≤ sizeLine then .ok (f ds) ρ1 else .bad
  | none => .bad
section
variable {X : Cx} {W : WX} {es : List Expr} {t : TA} {as : List AM} {pos : Pos}
theorem SA.vals {K : PySem.W.Frag} {mg : Str → Option Value} {gs : List Nat} (ha : SA K mg gs W t as) {f : List D → R} {fx : List Bool} {vs0 : List V} {Hr Hf H : Hp} {σ : St} {ρ : Env} {Q : VK} {QA : List V → Hp → Prop} (E : EnvOk K mg gs fx vs0 Hr Hf H σ ρ)
    (p : PostE K mg gs W fx vs0 Hr Hf σ (mSeqD f as ρ) Q) (hk : ∀ vs ds Hf' H' ρ', Ext Hf Hf' → EnvOk K mg gs fx vs0 Hr Hf' H' σ ρ' → RepL K mg Hf' ds vs → vs.length ≤ sizeLine → PostE K mg gs W fx vs0 Hr Hf' σ (.ok (f ds) ρ') Q → QA vs H') : t σ H QA := by
  refine ha fx vs0 Hr Hr Hf H σ ρ _ _ Q E (Ext.refl _) p fun vs cs Hr' Hf' H' ρ' e1 E1 a p1 => ?_
  cases hv : TL.vals cs with
  | none => simp only [hv] at p1; exact p1.elim
  | some ds =>
    simp only [hv] at p1
    by_cases hz : ds.length ≤ sizeLine
    · rw [if_pos hz] at p1
      obtain ⟨k1, k2⟩ := vals_ok a hv
      subst k1
      exact hk vs ds Hf' H' ρ' e1 E1 k2 (by rw [k2.length]; exact hz) p1
    · rw [if_neg hz] at p1; exact p1.elim
theorem de_tup {x1} (h : DA X W es t as) : DE X W (.Tuple es x1 pos) (tTup t) (mSeqD (fun ds => .dd (.tup ds)) as) :=
  ⟨pe_tup h.pa, fun fx vs0 Hr Hf H σ ρ Q E p => h.sa.vals E p fun vs ds Hf' H' ρ' e1 E1 r hz q => ⟨hz, E1.giveT q r⟩⟩
theorem de_lst (h : DA X W es t as) : DE X W (.List es pos) (tLst t) (mSeqD (fun ds => .ow (.own ds)) as) :=
  ⟨pe_lst h.pa, fun fx vs0 Hr Hf H σ ρ Q E p => h.sa.vals E p fun vs ds Hf' H' ρ' e1 E1 r hz q => ⟨hz, E1.giveL q r⟩⟩
/-- {} -/
def mDict0 : ME := fun ρ => .ok (.ow (.ownD [] [])) ρ
theorem de_dict0 : DE X W (.Dict [] [] pos) tDNewK mDict0 :=
  ⟨pe_dnewK, fun fx vs0 Hr Hf H σ ρ Q E p => fun l hl => p (.ref l) Hf _ (Ext.refl _) (E.newO hl) (E.newR hl ⟨[], rfl, rfl, List.nodup_nil, rfl⟩)⟩
/-- {"a": 1, ..}: written keys, written values -/
def cV : D → V
  | .bl b => .bl b
  | .int i => .int i
  | .str s => .str s
  | _ => .non
def cOk : D → Bool
  | .bl _ => true
  | .int _ => true
  | .str _ => true
  | .non => true
  | _ => false
theorem cV_rep {K : PySem.W.Frag} {mg : Str → Option Value} {H : Hp} {d : D} (h : cOk d = true) : Rep K mg H d (cV d) := by
  cases d <;> first | exact rfl | cases h
def mDictC (kds : List (Key × D)) : ME := fun ρ => .ok (.ow (.ownD (kds.map (·.1)) (kds.map (·.2)))) ρ
def trsC (kds : List (Key × D)) : List (TE × TE) := kds.map fun kd => (tC (kV kd.1), tC (cV kd.2))
theorem tPairs_c {σ : St} {H : Hp} {Q : List (V × V) → Hp → Prop} : ∀ (kds : List (Key × D)), Q (kds.map fun kd => (kV kd.1, cV kd.2)) H → tPairs (trsC kds) σ H Q
  | [], h => h
  | (k, d) :: r, h => tPairs_c (Q := fun ps H3 => Q ((kV k, cV d) :: ps) H3) r h
theorem merge_nd : ∀ (more kvs : List (Key × V)), ((kvs ++ more).map (·.1)).Nodup → mergeK kvs more = kvs ++ more
  | [], kvs, _ => by simp [mergeK]
  | (k, v) :: r, kvs, h => by
    have hn : valV kvs k = none := by
      cases hq : valV kvs k with
      | none => rfl
      | some u =>
        have h1 := valV_in hq
        rw [List.map_append, List.nodup_append] at h
        exact (h.2.2 k h1 k (by simp) rfl).elim
    show mergeK (putK kvs k v) r = _
    rw [putK_new v hn, merge_nd r (kvs ++ [(k, v)]) (by simpa using h)]
    simp
theorem repL_c {K : PySem.W.Frag} {mg : Str → Option Value} {H : Hp} : ∀ (kds : List (Key × D)), (∀ kd ∈ kds, cOk kd.2 = true) → RepL K mg H (kds.map (·.2)) (kds.map fun kd => cV kd.2)
  | [], _ => rfl
  | kd :: r, h => ⟨cV kd.2, _, rfl, cV_rep (h kd List.mem_cons_self), repL_c r fun x hx => h x (List.mem_cons_of_mem _ hx)⟩
theorem de_dictC {keys : List (Option Expr)} {values : List Expr} (kds : List (Key × D)) (h : PPs X pos keys values (trsC kds)) (hall : keys.all (·.isSome) = true) (hl : keys.length = values.length) (h0 : keys ≠ []) (h15 : keys.length ≤ 15) (hk : kds.length ≤ 15)
    (hc : ∀ kd ∈ kds, cOk kd.2 = true) (hn : (kds.map (·.1)).Nodup) : DE X W (.Dict keys values pos) (tDisp (trsC kds)) (mDictC kds) := by
  refine ⟨pe_disp h hall hl h0 h15, fun fx vs0 Hr Hf H σ ρ Q E p => fun l hl => ?_⟩
  refine tPairs_c kds ⟨upd_same, kds.map fun kd => (kd.1, cV kd.2), by simp, by simpa using hk, ?_⟩
  have e := merge_nd (kds.map fun kd => (kd.1, cV kd.2)) [] (by simpa [Function.comp_def] using hn)
  rw [List.nil_append] at e
  rw [e, upd_upd]
  exact p (.ref l) Hf _ (Ext.refl _) (E.newO hl) (E.newR hl ⟨_, rfl, by simp [Function.comp_def], hn, by simpa [Function.comp_def] using repL_c kds hc⟩)
end

/-! ### an owned object changes -/
section
variable {K : PySem.W.Frag} {mg : Str → Option Value} {gs : List Nat} {fx : List Bool} {vs0 : List V} {Hr Hf Hf' H H' : Hp} {σ : St} {ρ : Env} {c c' : Cell} {i : Nat} {a : Addr} {o : HO}
theorem EnvOk.mutate (E : EnvOk K mg gs fx vs0 Hr Hf H σ ρ) (hc : ρ[i]? = some c) (ho : isOwn c = true) (hs : σ[i]? = some (some (.ref a))) (h' : OwnsO K mg Hf c' o) : EnvOk K mg gs fx vs0 Hr Hf (upd H a o) σ (ρ.set i c') := by
  obtain ⟨b, u, h1, h2, h3, h4, h5⟩ := (E.cel i c hc).own ho
  rw [joinEq, hs] at h1; cases h1
  have hi : i < ρ.length := (List.getElem?_eq_some_iff.mp hc).1
  have own' : ∀ {j : Nat} {b : Addr}, OwnAt σ (ρ.set i c') j b → OwnAt σ ρ j b := fun {j b} ⟨⟨c2, hc2, ho2⟩, hs2⟩ => by
    by_cases hj : i = j
    · subst hj; exact ⟨⟨c, hc, ho⟩, hs2⟩
    · rw [List.getElem?_set_ne hj] at hc2; exact ⟨⟨c2, hc2, ho2⟩, hs2⟩
  refine ⟨by rw [List.length_set]; exact E.len, fun b u hb => ?_, fun b u hb => ?_, E.dis, fun j c2 hc2 => ?_, fun j k b p q => E.inj j k b (own' p) (own' q), E.fix, fun j c2 hc2 => ?_⟩
  · rw [upd_ne (ne_of_none hb h4)]; exact E.sub b u hb
  · rw [upd_ne (ne_of_none hb h5)]; exact E.frm b u hb
  · by_cases hj : i = j
    · subst hj
      rw [List.getElem?_set_self hi] at hc2; cases hc2
      exact .ofOwn h'.isOwn ⟨_, o, joinEq.mpr hs, upd_same, h', h4, h5⟩
    · rw [List.getElem?_set_ne hj] at hc2
      refine (E.cel j c2 hc2).step (Ext.refl _) fun ho2 b u k1 k2 k3 k4 => ⟨?_, k3, k4⟩
      have : b ≠ a := fun z => by
        subst z
        exact hj (E.inj i j b ⟨⟨c, hc, ho⟩, hs⟩ ⟨⟨c2, hc2, ho2⟩, joinEq.mp k1⟩)
      rw [upd_ne this]; exact k2
  · by_cases hj : i = j
    · subst hj
      rw [List.getElem?_set_self hi] at hc2; cases hc2
      exact .ownF h'.isOwn
    · rw [List.getElem?_set_ne hj] at hc2; exact E.lnk j c2 hc2
theorem EnvOk.ownAt (E : EnvOk K mg gs fx vs0 Hr Hf H σ ρ) (hc : ρ[i]? = some c) (ho : isOwn c = true) : ∃ a u, σ[i]? = some (some (.ref a)) ∧ H a = some u ∧ OwnsO K mg Hf c u := by
  obtain ⟨b, u, h1, h2, h3, h4, h5⟩ := (E.cel i c hc).own ho
  exact ⟨b, u, joinEq.mp h1, h2, h3⟩
end
/-- the name is an owned list ahead and behind -/
def ownL (ρ : Env) (i : Nat) : Option (List D) := match ρ[i]? with
  | some (.own xs) => some xs
  | _ => none
theorem ownL_some {ρ : Env} {i : Nat} {xs : List D} (h : ownL ρ i = some xs) : ρ[i]? = some (.own xs) := by
  unfold ownL at h
  split at h
  · rename_i ys e; cases h; exact e
  · cases h
/-- x.append(e) -/
def mApp (i : Nat) (m : ME) : ME := fun ρ => match ownL ρ i with
  | none => .bad
  | some _ => match m ρ with
    | .ok r ρ1 => match frz r ρ1 with
      | some (d, ρ2) => match ownL ρ2 i with
        | some xs => if xs.length < sizeLine then .ok (.dd .non) (ρ2.set i (.own (xs ++ [d]))) else .bad
        | none => .bad
      | none => .bad
    | .exc x ρ1 => .exc x ρ1
    | .bad => .bad
def mPop (i : Nat) : ME := fun ρ => match ownL ρ i with
  | none => .bad
  | some xs => match xs.getLast? with
    | some d => .ok (.dd d) (ρ.set i (.own xs.dropLast))
    | none => .bad
/-- x.insert(k, e) -/
def mIns (i : Nat) (mk me : ME) : ME := fun ρ => match ownL ρ i with
  | none => .bad
  | some _ => match mk ρ with
    | .ok rk ρ1 => match use rk.fix ρ1 with
      | some (.int k) => match me ρ1 with
        | .ok r ρ2 => match frz r ρ2 with
          | some (d, ρ3) => match ownL ρ3 i with
            | some xs => if xs.length < sizeLine ∧ 0 ≤ k ∧ k.natAbs < 2 ^ 63 then .ok (.dd .non) (ρ3.set i (.own (xs.take k.toNat ++ [d] ++ xs.drop k.toNat))) else .bad
            | none => .bad
          | none => .bad
        | .exc x ρ2 => .exc x ρ2
        | .bad => .bad
      | _ => .bad
    | .exc x ρ1 => .exc x ρ1
    | .bad => .bad
section
variable {X : Cx} {W : WX} {o e k : Expr} {te tk : TE} {me mk : ME} {apos cpos : Pos}
theorem de_app (i : Nat) (ho : DE X W o (tVar i) (mVar i)) (he : DE X W e te me) (hbase : attributeBase o "append" X.env (eval o X.env) = eval o X.env := by rfl)
    (hfew : ((backTo cpos (starEach (e :: []) X.env)).all (fun x => !x.1) && (backToKw cpos (keywordEach [] X.env)).all (fun x => x.1.isSome)
      && decide ((e :: ([] : List Expr)).length + ([] : List Keyword).length + (if ([] : List Keyword).isEmpty then 0 else 1) < 30)) = true := by rfl)
    (hline : (apos.endLine == cpos.line) = true := by rfl) (hs : starEach (e :: []) X.env = (false, eval e X.env) :: starEach [] X.env := by rfl) (hplain : (backTo cpos (starEach [] X.env)).any (·.1) = false := by rfl) :
    DE X W (.Call (.Attribute o "append" apos) [e] [] cpos) (tBM X.K "list" rAppend (tVar i) (tCons te tNil)) (mApp i me) := by
  refine ⟨pe_bm PySem.F.plainAttrs_list PySem.F.slot_list_append PySem.F.type_list_append mt_append ho.pe (pa_cons he.pe pa_nil hs) hbase hfew hline hs hplain, fun fx vs0 Hr Hf H σ ρ Q E p => ?_⟩
  unfold mApp at p
  cases h0 : ownL ρ i with
  | none => simp only [h0] at p; exact p.elim
  | some xs0 =>
    simp only [h0] at p
    obtain ⟨a, u, s1, s2, vs0', rfl, s3⟩ := E.ownAt (ownL_some h0) rfl
    refine ⟨.ref a, s1, .inl ⟨rfl, _, .of s2⟩, he.se fx vs0 Hr Hf H σ ρ _ E ?_⟩
    cases hm : me ρ with
    | bad => simp only [hm] at p; exact p
    | exc x ρ1 => simp only [hm] at p; exact p
    | ok r ρ1 =>
      simp only [hm] at p
      intro v F H1 e1 E1 q1
      cases hz : frz r ρ1 with
      | none => simp only [hz] at p; exact p.elim
      | some x =>
        obtain ⟨d, ρ2⟩ := x
        simp only [hz] at p
        obtain ⟨F', e', E2, r2⟩ := frz_ok E1 q1 hz
        cases h2 : ownL ρ2 i with
        | none => simp only [h2] at p; exact p.elim
        | some xs =>
          simp only [h2] at p
          by_cases hl : xs.length < sizeLine
          · rw [if_pos hl] at p
            obtain ⟨a', u, t1, t2, vs, rfl, t3⟩ := E2.ownAt (ownL_some h2) rfl
            rw [s1] at t1; cases t1
            exact ⟨a, vs, v, rfl, rfl, t2, by rw [t3.length]; exact hl, p .non F' _ (e1.trans e') (E2.mutate (ownL_some h2) rfl s1 ⟨_, rfl, t3.append (.cons r2 .nil)⟩) rfl⟩
          · rw [if_neg hl] at p; exact p.elim
theorem de_pop (i : Nat) (ho : DE X W o (tVar i) (mVar i)) (hbase : attributeBase o "pop" X.env (eval o X.env) = eval o X.env := by rfl) (hline : (apos.endLine == cpos.line) = true := by rfl) :
    DE X W (.Call (.Attribute o "pop" apos) [] [] cpos) (tBM0 X.K "list" rPop (tVar i)) (mPop i) := by
  refine ⟨pe_bm0 PySem.F.plainAttrs_list PySem.F.slot_list_pop PySem.F.type_list_pop mt_pop ho.pe hbase hline, fun fx vs0 Hr Hf H σ ρ Q E p => ?_⟩
  unfold mPop at p
  cases h0 : ownL ρ i with
  | none => simp only [h0] at p; exact p.elim
  | some xs =>
    simp only [h0] at p
    obtain ⟨a, u, s1, s2, vs, rfl, s3⟩ := E.ownAt (ownL_some h0) rfl
    cases hg : xs.getLast? with
    | none => simp only [hg] at p; exact p.elim
    | some d =>
      simp only [hg] at p
      rw [List.getLast?_eq_getElem?] at hg
      obtain ⟨v, k1, k2⟩ := s3.get hg
      refine ⟨.ref a, s1, .inl ⟨rfl, _, .of s2⟩, a, vs, v, rfl, rfl, s2, by rw [s3.length]; exact k1, ?_⟩
      exact p v Hf _ (Ext.refl _) (E.mutate (ownL_some h0) rfl s1 ⟨_, rfl, s3.dropLast⟩) k2
theorem de_ins (i : Nat) (ho : DE X W o (tVar i) (mVar i)) (hk : DE X W k tk mk) (he : DE X W e te me) (hbase : attributeBase o "insert" X.env (eval o X.env) = eval o X.env := by rfl)
    (hfew : ((backTo cpos (starEach (k :: [e]) X.env)).all (fun x => !x.1) && (backToKw cpos (keywordEach [] X.env)).all (fun x => x.1.isSome)
      && decide ((k :: ([e] : List Expr)).length + ([] : List Keyword).length + (if ([] : List Keyword).isEmpty then 0 else 1) < 30)) = true := by rfl)
    (hline : (apos.endLine == cpos.line) = true := by rfl) (hs : starEach (k :: [e]) X.env = (false, eval k X.env) :: starEach [e] X.env := by rfl) (hs2 : starEach (e :: []) X.env = (false, eval e X.env) :: starEach [] X.env := by rfl) (hplain : (backTo cpos (starEach [e] X.env)).any (·.1) = false := by rfl) :
    DE X W (.Call (.Attribute o "insert" apos) [k, e] [] cpos) (tBM X.K "list" (fun x vs H Q => ∃ (l : Addr) (xs : List V) (i : Int) (y : V), x = .ref l ∧ vs = [.int i, y] ∧ H l = some (.lst xs) ∧ xs.length < sizeLine ∧ 0 ≤ i ∧ i < 2 ^ 63 ∧ Q .non (upd H l (.lst (xs.take i.toNat ++ [y] ++ xs.drop i.toNat)))) (tVar i) (tCons tk (tCons te tNil))) (mIns i mk me) := by
  refine ⟨pe_bm PySem.F.plainAttrs_list PySem.F.slot_list_insert PySem.F.type_list_insert mt_insert ho.pe (pa_cons hk.pe (pa_cons he.pe pa_nil hs2) hs) hbase hfew hline hs hplain, fun fx vs0 Hr Hf H σ ρ Q E p => ?_⟩
  unfold mIns at p
  cases h0 : ownL ρ i with
  | none => simp only [h0] at p; exact p.elim
  | some xs0 =>
    simp only [h0] at p
    obtain ⟨a, u, s1, s2, vs0', rfl, s3⟩ := E.ownAt (ownL_some h0) rfl
    refine ⟨.ref a, s1, .inl ⟨rfl, _, .of s2⟩, hk.se fx vs0 Hr Hf H σ ρ _ E ?_⟩
    cases hm : mk ρ with
    | bad => simp only [hm] at p; exact p
    | exc x ρ1 => simp only [hm] at p; exact p
    | ok rk ρ1 =>
      simp only [hm] at p
      intro vk F H1 e1 E1 q1
      obtain ⟨F', e', E2, q2⟩ := q1.fixed E1
      cases hu : use rk.fix ρ1 with
      | none => simp only [hu] at p; exact p.elim
      | some dk =>
        have uk := use_ok E2 q2 hu
        simp only [hu] at p
        cases dk with
        | int kk =>
          cases (show vk = .int kk from uk)
          refine he.se fx vs0 Hr F' H1 σ ρ1 _ E2 ?_
          simp only at p
          cases hm2 : me ρ1 with
          | bad => simp only [hm2] at p; exact p
          | exc x ρ2 => simp only [hm2] at p; exact PostE.mono p (e1.trans e')
          | ok r ρ2 =>
            simp only [hm2] at p
            intro v F2 H2 e2 E3 q3
            cases hz : frz r ρ2 with
            | none => simp only [hz] at p; exact p.elim
            | some x =>
              obtain ⟨d, ρ3⟩ := x
              simp only [hz] at p
              obtain ⟨F3, e3, E4, r4⟩ := frz_ok E3 q3 hz
              cases h2 : ownL ρ3 i with
              | none => simp only [h2] at p; exact p.elim
              | some xs =>
                simp only [h2] at p
                by_cases hl : xs.length < sizeLine ∧ 0 ≤ kk ∧ kk.natAbs < 2 ^ 63
                · rw [if_pos hl] at p
                  obtain ⟨a', u, t1, t2, vs, rfl, t3⟩ := E4.ownAt (ownL_some h2) rfl
                  rw [s1] at t1; cases t1
                  exact ⟨a, vs, kk, v, rfl, rfl, t2, by rw [t3.length]; exact hl.1, hl.2.1, by omega, p .non F3 _ (((e1.trans e').trans e2).trans e3) (E4.mutate (ownL_some h2) rfl s1 ⟨_, rfl, ((t3.take _).append (.cons r4 .nil)).append (t3.drop _)⟩) rfl⟩
                · rw [if_neg hl] at p; exact p.elim
        | _ => exact p.elim
end
/-! ### x[k] = e -/
def dput : List Key → List D → Key → D → List Key × List D
  | k' :: ks, v :: vs, k, d => if k' = k then (k' :: ks, d :: vs) else ((dput ks vs k d).1.cons k', (dput ks vs k d).2.cons v)
  | ks, vs, k, d => (ks ++ [k], vs ++ [d])
def mPut (i : Nat) (mk me : ME) : MS := fun ρ => match me ρ with
  | .ok r ρ1 => match frz r ρ1 with
    | some (d, ρ2) => match ρ2[i]? with
      | some .no => .bad
      | none => .bad
      | some _ => match mk ρ2 with
        | .ok rk ρ3 => match use rk.fix ρ3 with
          | some kd => match ρ3[i]? with
            | some (.own xs) => match kd with
              | .int k => match ixN xs.length k with
                | some j => .nx (ρ3.set i (.own (xs.set j d)))
                | none => .bad
              | _ => .bad
            | some (.ownD ks vs) => match kd.key with
              | some k => if ks.length < sizeLine then .nx (ρ3.set i (.ownD (dput ks vs k d).1 (dput ks vs k d).2)) else .bad
              | none => .bad
            | _ => .bad
          | none => .bad
        | .exc x ρ3 => .exc x ρ3
        | .bad => .bad
    | none => .bad
  | .exc x ρ1 => .exc x ρ1
  | .bad => .bad
def rSetA : TSet := fun o i v H Q => rSetL o i v H Q ∨ rSetD o i v H Q
theorem set_any {X : Cx} (hu : X.A.units + 1 < cLine) : PSet X rSetA := by
  intro pins s σ H o i v ov iv u Q I ro ri rv h
  rcases h with h | h
  · exact set_list pins s σ H o i v ov iv u Q I ro ri rv h
  · exact set_dict hu pins s σ H o i v ov iv u Q I ro ri rv h
theorem putK_hit {kvs : List (Key × V)} {k : Key} {v : V} (p : Key × V) (e : p.1 = k) (hn : ((p :: kvs).map (·.1)).Nodup) : putK (p :: kvs) k v = (p.1, v) :: kvs := by
  unfold putK
  rw [if_pos (by simp [e])]
  rw [List.map_cons, if_pos e]
  congr 1
  have : ∀ q ∈ kvs, (if q.1 = k then (q.1, v) else q) = q := fun q hq => by
    rw [if_neg]
    intro z
    rw [List.map_cons, List.nodup_cons] at hn
    exact hn.1 (by rw [e, ← z]; exact List.mem_map_of_mem hq)
  rw [List.map_congr_left this, List.map_id'']
  exact fun _ => rfl
theorem putK_miss {kvs : List (Key × V)} {k : Key} {v : V} (p : Key × V) (e : ¬ p.1 = k) : putK (p :: kvs) k v = p :: putK kvs k v := by
  unfold putK
  rw [List.any_cons, decide_eq_false e, Bool.false_or]
  by_cases h : (kvs.any fun kv => decide (kv.1 = k)) = true
  · rw [if_pos h, if_pos h, List.map_cons, if_neg e]
  · rw [if_neg h, if_neg h]; rfl
theorem dput_ok {K : PySem.W.Frag} {mg : Str → Option Value} {Hf : Hp} {k : Key} {d : D} {v : V} (rd : Rep K mg Hf d v) : ∀ {kvs : List (Key × V)} {ks : List Key} {ds : List D}, kvs.map (·.1) = ks → ks.Nodup → RepL K mg Hf ds (kvs.map (·.2)) →
    (putK kvs k v).map (·.1) = (dput ks ds k d).1 ∧ RepL K mg Hf (dput ks ds k d).2 ((putK kvs k v).map (·.2)) ∧ ((dput ks ds k d).1).Nodup ∧ (∀ x, x ∈ (dput ks ds k d).1 → x ∈ ks ∨ x = k)
  | [], _, [], h, n, r => by
    subst h
    refine ⟨rfl, ⟨v, [], rfl, rd, rfl⟩, by simp [dput], fun x hx => ?_⟩
    simp [dput] at hx
    exact .inr hx
  | [], _, _ :: _, h, n, ⟨_, _, h1, _⟩ => by cases h1
  | p :: kvs, _, [], h, n, r => by have := r.length; simp at this
  | p :: kvs, _, d' :: ds, h, n, ⟨w, ws, h1, h2, h3⟩ => by
    subst h
    have h1 : p.2 :: kvs.map (·.2) = w :: ws := h1
    cases h1
    by_cases hk : p.1 = k
    · rw [putK_hit p hk n]
      simp only [List.map_cons, dput, if_pos hk]
      exact ⟨trivial, ⟨v, _, rfl, rd, h3⟩, n, fun x hx => .inl hx⟩
    · rw [putK_miss p hk]
      simp only [List.map_cons, dput, if_neg hk]
      obtain ⟨k1, k2, k3, k4⟩ := dput_ok rd (kvs := kvs) rfl (List.nodup_cons.mp n).2 h3
      refine ⟨by rw [k1], ⟨p.2, _, rfl, h2, k2⟩, List.nodup_cons.mpr ⟨fun z => ?_, k3⟩, fun x hx => ?_⟩
      · rcases k4 _ z with z | z
        · exact (List.nodup_cons.mp n).1 z
        · exact hk z
      · rcases List.mem_cons.mp hx with rfl | hx
        · exact .inl List.mem_cons_self
        · rcases k4 x hx with z | z
          · exact .inl (List.mem_cons_of_mem _ z)
          · exact .inr z
section
variable {X : Cx} {W : WX} {fx : List Bool} {o k e : Expr} {te tk : TE} {me mk : ME} {pos pos' : Pos}
theorem ds_put (i : Nat) (hu : X.A.units + 1 < cLine) (ho : DE X W o (tVar i) (mVar i)) (hk : DE X W k tk mk) (he : DE X W e te me) (hs : swapsWithSole [.Subscript o k pos'] e pos.line X.env = pure false := by rfl) (hw : swappedStores [.Subscript o k pos'] e X.env = pure none := by rfl)
    (h1 : (assignEach [.Subscript o k pos'] X.env).map (·.2) = [assign (.Subscript o k pos') X.env] := by rfl)
    (ha : ∀ v, assign (.Subscript o k pos') X.env v = (do
      let ov ← holding [v] (eval o X.env)
      let iv ← holding [v, ov] (eval k X.env)
      standAt pos'
      holding [v, ov, iv] (setItem ov iv v)
      release [v, ov, iv] []) := by intro _; rfl) : DS X W fx (.Assign [.Subscript o k pos'] e pos) (tAsg te (gSub (tVar i) tk rSetA)) (mPut i mk me) := by
  refine ⟨ps_asg he.pe (pg_sub ho.pe hk.pe (set_any hu) ha) hs hw h1, fun vs0 Hr Hf H σ ρ D E p => he.se fx vs0 Hr Hf H σ ρ _ E ?_⟩
  unfold mPut at p
  cases hm : me ρ with
  | bad => simp only [hm] at p; exact p
  | exc x ρ1 => simp only [hm] at p; exact fun C h1 F H' e E' => p C h1 σ F H' e E'
  | ok r ρ1 =>
    simp only [hm] at p
    intro v F H1 e1 E1 q1
    cases hz : frz r ρ1 with
    | none => simp only [hz] at p; exact p.elim
    | some x =>
      obtain ⟨d, ρ2⟩ := x
      simp only [hz] at p
      obtain ⟨F', e', E2, r2⟩ := frz_ok E1 q1 hz
      have go : ∀ c, ρ2[i]? = some c → c ≠ .no → PostS X.K X.mg X.gs W fx vs0 Hr Hf (match mk ρ2 with
        | .ok rk ρ3 => match use rk.fix ρ3 with
          | some kd => match ρ3[i]? with
            | some (.own xs) => match kd with
              | .int k => match ixN xs.length k with
                | some j => .nx (ρ3.set i (.own (xs.set j d)))
                | none => .bad
              | _ => .bad
            | some (.ownD ks vs) => match kd.key with
              | some k => if ks.length < sizeLine then .nx (ρ3.set i (.ownD (dput ks vs k d).1 (dput ks vs k d).2)) else .bad
              | none => .bad
            | _ => .bad
          | none => .bad
        | .exc x ρ3 => .exc x ρ3
        | .bad => .bad) D → gSub (tVar i) tk rSetA v σ H1 D.nx := fun c hc hn p => by
        obtain ⟨w, sw⟩ := (E2.cel i c hc).some hn (E2.lnk i c hc)
        have sw := joinEq.mp sw
        refine ⟨w, sw, hk.se fx vs0 Hr F' H1 σ ρ2 _ E2 ?_⟩
        cases hm2 : mk ρ2 with
        | bad => simp only [hm2] at p; exact p
        | exc x ρ3 => simp only [hm2] at p; exact fun C h1 F2 H' e E' => p C h1 σ F2 H' ((e1.trans e').trans e) E'
        | ok rk ρ3 =>
          simp only [hm2] at p
          intro vk F2 H2 e2 E3 q3
          obtain ⟨F3, e3, E4, q4⟩ := q3.fixed E3
          cases hu2 : use rk.fix ρ3 with
          | none => simp only [hu2] at p; exact p.elim
          | some kd =>
            have uk := use_ok E4 q4 hu2
            simp only [hu2] at p
            have rd := r2.mono (e2.trans e3)
            cases hc3 : ρ3[i]? with
            | none => simp only [hc3] at p; exact p.elim
            | some c3 =>
              simp only [hc3] at p
              cases c3 with
              | no => exact p.elim
              | val _ => exact p.elim
              | mac _ _ => exact p.elim
              | al _ => exact p.elim
              | pm _ => exact p.elim
              | own xs =>
                simp only at p
                obtain ⟨a, u, t1, t2, vs, rfl, t3⟩ := E4.ownAt hc3 rfl
                rw [sw] at t1; cases t1
                cases kd with
                | int kk =>
                  simp only at p
                  cases hj : ixN xs.length kk with
                  | none => simp only [hj] at p; exact p.elim
                  | some j =>
                    simp only [hj] at p
                    refine .inl ⟨a, vs, kk, j, rfl, uk, t2, by rw [t3.length]; exact hj, ?_⟩
                    exact p σ F3 _ (((e1.trans e').trans e2).trans e3) (E4.mutate hc3 rfl sw ⟨_, rfl, t3.set j rd⟩)
                | _ => exact p.elim
              | ownD ks xs =>
                simp only at p
                obtain ⟨a, u, t1, t2, kvs, rfl, t3, t4, t5⟩ := E4.ownAt hc3 rfl
                rw [sw] at t1; cases t1
                cases hkk : kd.key with
                | none => simp only [hkk] at p; exact p.elim
                | some kk =>
                  simp only [hkk] at p
                  by_cases hl : ks.length < sizeLine
                  · rw [if_pos hl] at p
                    obtain ⟨z1, z2, z3, _⟩ := dput_ok rd (k := kk) t3 t4 t5
                    refine .inr ⟨a, _, rfl, by rw [uk.key hkk]; exact DPut.k t2 (by rw [← t3, List.length_map] at hl; exact hl), ?_⟩
                    exact p σ F3 _ (((e1.trans e').trans e2).trans e3) (E4.mutate hc3 rfl sw ⟨_, rfl, z1, z3, z2⟩)
                  · rw [if_neg hl] at p; exact p.elim
      cases hc : ρ2[i]? with
      | none => simp only [hc] at p; exact p.elim
      | some c =>
        simp only [hc] at p
        cases c with
        | no => exact p.elim
        | _ => exact go _ hc (by intro z; cases z) p
end
/-! ### "sep".join(list of texts) -/
def strL : List D → Option (List Str)
  | [] => some []
  | .str s :: ds => (strL ds).map (s :: ·)
  | _ => none
theorem strL_rep {K : PySem.W.Frag} {mg : Str → Option Value} {Hf : Hp} : ∀ {ds : List D} {vs : List V} {bs : List Str}, RepL K mg Hf ds vs → strL ds = some bs → vs = bs.map V.str
  | [], _, _, h, e => by have h : _ = [] := h; subst h; cases e; rfl
  | .str b :: ds, _, _, ⟨v, ws, h1, h2, h3⟩, e => by
    obtain ⟨cs, e1, rfl⟩ := Option.map_eq_some_iff.mp e
    subst h1
    rw [strL_rep h3 e1]
    cases (show v = .str b from h2)
    rfl
  | .non :: _, _, _, _, e => by cases e
  | .int _ :: _, _, _, _, e => by cases e
  | .bl _ :: _, _, _, _, e => by cases e
  | .ty _ :: _, _, _, _, e => by cases e
  | .fn _ :: _, _, _, _, e => by cases e
  | .lst _ :: _, _, _, _, e => by cases e
  | .fls _ :: _, _, _, _, e => by cases e
  | .tup _ :: _, _, _, _, e => by cases e
  | .dct _ _ :: _, _, _, _, e => by cases e
  | .fdct _ _ :: _, _, _, _, e => by cases e
def mJoin (mo me : ME) : ME := mB mo fun ra ρ1 => match use ra ρ1 with
  | some (.str a) => mB me (fun rb ρ2 => match use rb ρ2 with
    | some (.lst xs) => match strL xs with
      | some ys => if (ys.map (·.length)).sum + ys.length * a.length ≤ 16777216 then .ok (.dd (.str (Txt.join a ys))) ρ2 else .bad
      | none => .bad
    | _ => .bad) ρ1
  | _ => .bad
section
variable {X : Cx} {W : WX} {o e : Expr} {to te : TE} {mo me : ME} {apos pos : Pos}
theorem de_txtjoin (ho : DE X W o to mo) (he : DE X W e te me) (hs : starEach [e] X.env = [(false, eval e X.env)] := by rfl) (hbase : attributeBase o "join" X.env (eval o X.env) = eval o X.env := by rfl) (hline : (apos.endLine == pos.line) = true := by rfl) :
    DE X W (.Call (.Attribute o "join" apos) [e] [] pos) (tM1 (fun x xs H Q => ∃ a p, ∃ ys : List Str, x = .str a ∧ xs = [.ref p] ∧ (SqL X.K H p (ys.map V.str) ∨ SqT X.K H p (ys.map V.str)) ∧
      (ys.map (·.length)).sum + ys.length * a.length ≤ 16777216 ∧ Q (.str (Txt.join a ys)) H) to te) (mJoin mo me) := by
  refine ⟨L2.pe_join ho.pe he.pe hs hbase hline, fun fx vs0 Hr Hf H σ ρ Q E p => ?_⟩
  refine ho.se.bind E p fun ra ρ1 x F1 H1 e1 E1 c1 s1 h1 => ?_
  cases hra : use ra ρ1 with
  | none => simp only [hra] at h1; exact h1.elim
  | some d =>
    have u := use_ok E1 (s1 Hr F1 H1 ρ1 (Ext.refl _)) hra
    simp only [hra] at h1
    cases d with
    | str a =>
      cases (show x = .str a from u)
      refine ⟨⟨a, rfl⟩, he.se.bind E1 h1 fun rb ρ2 y F2 H2 e2 E2 c2 s2 h2 => ?_⟩
      cases hrb : use rb ρ2 with
      | none => simp only [hrb] at h2; exact h2.elim
      | some d2 =>
        have u2 := use_ok E2 (s2 Hr F2 H2 ρ2 (Ext.refl _)) hrb
        simp only [hrb] at h2
        cases d2 with
        | lst xs =>
          simp only at h2
          cases hs : strL xs with
          | none => simp only [hs] at h2; exact h2.elim
          | some ys =>
            simp only [hs] at h2
            by_cases hz : (ys.map (·.length)).sum + ys.length * a.length ≤ 16777216
            · rw [if_pos hz] at h2
              obtain ⟨l, vs, rfl, k1, k2⟩ := u2
              have := strL_rep k2 hs
              subst this
              exact ⟨a, l, ys, rfl, rfl, .inl (.of k1), hz, E2.giveD h2 rfl⟩
            · rw [if_neg hz] at h2; exact h2.elim
        | _ => exact h2.elim
    | _ => exact h1.elim
end

/-! ### dicts of the written part: x is the global name of the dict at d; tbl tells of the words that are asked -/
structure KTab (K : PySem.W.Frag) (w : World) (mg : Str → Option Value) (x : Str) (d : Addr) (tbl : List (Str × Option D)) : Prop where
  at_ : mg x = some (.ref d)
  kd : ∃ es n, KDict K w d es n
  tab : ∀ p ∈ tbl, match p.2 with
    | some D => ∃ u v, PySem.W.nsIn K d p.1 = some (some u) ∧ RelV v u ∧ ∀ H, Rep K mg H D v
    | none => PySem.W.nsIn K d p.1 = some none
theorem lookup_mem {α : Type} : ∀ {l : List (Str × α)} {n : Str} {c : α}, l.lookup n = some c → (n, c) ∈ l
  | (k, v) :: r, n, c, h => by
    rw [List.lookup_cons] at h
    cases hb : n == k with
    | true =>
      rw [hb] at h
      cases h
      have : n = k := by simpa using hb
      subst this
      exact List.mem_cons_self
    | false => rw [hb] at h; exact List.mem_cons_of_mem _ (lookup_mem h)
def mKGet (tbl : List (Str × Option D)) (mk : ME) : ME := mB mk fun r ρ => match use r ρ with
  | some (.str k) => match tbl.lookup k with
    | some (some d) => .ok (.dd d) ρ
    | _ => .bad
  | _ => .bad
def mKIn (tbl : List (Str × Option D)) (neg : Bool) (mk : ME) : ME := mB mk fun r ρ => match use r ρ with
  | some (.str k) => match tbl.lookup k with
    | some o => .ok (.dd (.bl (if neg then !o.isSome else o.isSome))) ρ
    | none => .bad
  | _ => .bad
section
variable {X : Cx} {W : WX} {k : Expr} {tk : TE} {mk : ME} {p pos : Pos} {x : Str} {d : Addr} {tbl : List (Str × Option D)}
theorem de_kget (T : KTab X.K X.w X.mg x d tbl) (h : DE X W k tk mk) (hp : PlainIx k) (hg : Gl X x := by rfl) (hd : (x == ("__debug__" : Str)) = false := by decide) :
    DE X W (.Subscript (.Name x p) k pos) (tOp (rIxD X.K X.w) (tC (.ref d)) tk) (mKGet tbl mk) := by
  refine ⟨pe_ix ix_kdict (pe_glob hg T.at_ rfl hd) h.pe hp, fun fx vs0 Hr Hf H σ ρ Q E p => ?_⟩
  refine h.se.bind E p fun r ρ1 y F1 H1 e1 E1 c1 s1 q => ?_
  cases hu : use r ρ1 with
  | none => simp only [hu] at q; exact q.elim
  | some dk =>
    have u := use_ok E1 (s1 Hr F1 H1 ρ1 (Ext.refl _)) hu
    simp only [hu] at q
    cases dk with
    | str z =>
      cases (show y = .str z from u)
      simp only at q
      cases hl : tbl.lookup z with
      | none => simp only [hl] at q; exact q.elim
      | some o =>
        cases o with
        | none => simp only [hl] at q; exact q.elim
        | some dd =>
          simp only [hl] at q
          obtain ⟨u0, v0, n1, n2, n3⟩ := T.tab _ (lookup_mem hl)
          obtain ⟨es, n, kd⟩ := T.kd
          exact ⟨d, z, v0, rfl, rfl, ⟨es, n, u0, kd.at_, kd.lit, n1, n2⟩, E1.giveD q (n3 _)⟩
    | _ => exact q.elim
theorem kin_ok {neg : Bool} {fx : List Bool} {vs0 : List V} {Hr Hf H : Hp} {σ : St} {ρ : Env} {Q : VK} (T : KTab X.K X.w X.mg x d tbl) (h : DE X W k tk mk) (E : EnvOk X.K X.mg X.gs fx vs0 Hr Hf H σ ρ) (p : PostE X.K X.mg X.gs W fx vs0 Hr Hf σ (mKIn tbl neg mk ρ) Q) :
    tk σ H fun y H1 => ∃ (z : Str) (r : Option Value), y = .str z ∧ V.ref d = .ref d ∧ PySem.W.nsIn X.K d z = some r ∧ Q (.bl (if neg then !r.isSome else r.isSome)) H1 := by
  refine h.se.bind E p fun r ρ1 y F1 H1 e1 E1 c1 s1 q => ?_
  cases hu : use r ρ1 with
  | none => simp only [hu] at q; exact q.elim
  | some dk =>
    have u := use_ok E1 (s1 Hr F1 H1 ρ1 (Ext.refl _)) hu
    simp only [hu] at q
    cases dk with
    | str z =>
      cases (show y = .str z from u)
      simp only at q
      cases hl : tbl.lookup z with
      | none => simp only [hl] at q; exact q.elim
      | some o =>
        simp only [hl] at q
        have t := T.tab _ (lookup_mem hl)
        cases o with
        | none => exact ⟨z, none, rfl, rfl, t, E1.giveD q rfl⟩
        | some dd =>
          obtain ⟨u0, v0, n1, n2, n3⟩ := t
          exact ⟨z, some u0, rfl, rfl, n1, E1.giveD q rfl⟩
    | _ => exact q.elim
def rKIn (K : PySem.W.Frag) (d : Addr) : R2 := fun x y H Q => ∃ (z : Str) (r : Option Value), x = .str z ∧ y = .ref d ∧ PySem.W.nsIn K d z = some r ∧ Q (.bl r.isSome) H
def rKNotIn (K : PySem.W.Frag) (d : Addr) : R2 := fun x y H Q => ∃ (z : Str) (r : Option Value), x = .str z ∧ y = .ref d ∧ PySem.W.nsIn K d z = some r ∧ Q (.bl (!r.isSome)) H
theorem de_kin (T : KTab X.K X.w X.mg x d tbl) (h : DE X W k tk mk) (hg : Gl X x := by rfl) (hd : (x == ("__debug__" : Str)) = false := by decide) : DE X W (.Compare k [.In] [.Name x p] pos) (tOp (rKIn X.K d) tk (tC (.ref d))) (mKIn tbl false mk) := by
  obtain ⟨es, n, kd⟩ := T.kd
  exact ⟨pe_cmpR (op_in_kd kd) h.pe (pe_glob hg T.at_ rfl hd) rfl, fun fx vs0 Hr Hf H σ ρ Q E p => kin_ok T h E p⟩
theorem de_knotin (T : KTab X.K X.w X.mg x d tbl) (h : DE X W k tk mk) (hg : Gl X x := by rfl) (hd : (x == ("__debug__" : Str)) = false := by decide) : DE X W (.Compare k [.NotIn] [.Name x p] pos) (tOp (rKNotIn X.K d) tk (tC (.ref d))) (mKIn tbl true mk) := by
  obtain ⟨es, n, kd⟩ := T.kd
  exact ⟨pe_cmpR (op_notIn_kd kd) h.pe (pe_glob hg T.at_ rfl hd) rfl, fun fx vs0 Hr Hf H σ ρ Q E p => kin_ok T h E p⟩
theorem dt_kin (T : KTab X.K X.w X.mg x d tbl) (h : DE X W k tk mk) (hg : Gl X x := by rfl) (hd : (x == ("__debug__" : Str)) = false := by decide) : DT X W (.Compare k [.In] [.Name x p] pos) (tTest (tOp (rKIn X.K d) tk (tC (.ref d)))) (mTest D.bool (mKIn tbl false mk)) := by
  obtain ⟨es, n, kd⟩ := T.kd
  have s : SE X.K X.mg X.gs W (tOp (rKIn X.K d) tk (tC (.ref d))) (mKIn tbl false mk) := fun fx vs0 Hr Hf H σ ρ Q E p => kin_ok T h E p
  exact ⟨pt_cmpR (op_in_kd kd) h.pe (pe_glob hg T.at_ rfl hd) rfl, fun fx vs0 Hr Hf H σ ρ Q E p => s.test E p fun d b v Hf1 H1 ρ1 _ E1 q e k => ⟨b, q.bool e, k⟩⟩
theorem dt_knotin (T : KTab X.K X.w X.mg x d tbl) (h : DE X W k tk mk) (hg : Gl X x := by rfl) (hd : (x == ("__debug__" : Str)) = false := by decide) : DT X W (.Compare k [.NotIn] [.Name x p] pos) (tTest (tOp (rKNotIn X.K d) tk (tC (.ref d)))) (mTest D.bool (mKIn tbl true mk)) := by
  obtain ⟨es, n, kd⟩ := T.kd
  have s : SE X.K X.mg X.gs W (tOp (rKNotIn X.K d) tk (tC (.ref d))) (mKIn tbl true mk) := fun fx vs0 Hr Hf H σ ρ Q E p => kin_ok T h E p
  exact ⟨pt_cmpR (op_notIn_kd kd) h.pe (pe_glob hg T.at_ rfl hd) rfl, fun fx vs0 Hr Hf H σ ρ Q E p => s.test E p fun d b v Hf1 H1 ρ1 _ E1 q e k => ⟨b, q.bool e, k⟩⟩
end

/-! ### a call of a name that holds one of several defs of the module -/
structure KFns (P : Program) (w : World) (K : PySem.W.Frag) (mg : Str → Option Value) (base : Heap) (k : Nat) (tbl : List (Str × Nat × MF)) : Prop where
  all : ∀ p ∈ tbl, ∃ f fd ps, mg p.1 = some (.ref f) ∧ ps.length = p.2.1 ∧ FnOk P w K mg base (L2.CX P w) k f fd ps (spT K mg p.2.1 p.2.2) ∧ PySem.W.keepIn K (.ref f) = true ∧ Binds K fd ps []
def mCallV (i : Nat) (tbl : List (Str × Nat × MF)) (as : List AM) : ME := fun ρ => match ρ[i]? with
  | some (.val (.fn x)) => match tbl.lookup x with
    | some (n, F) => mCall n F as ρ
    | none => .bad
  | _ => .bad
def tCallT (P : Program) (w : World) (K : PySem.W.Frag) (mg : Str → Option Value) (base : Heap) (k : Nat) (i : Nat) (E : St → XK) (t : TA) : TE := fun σ H Q => ∃ f fd ps sp, σ[i]? = some (some (.ref f)) ∧ FnOk P w K mg base (L2.CX P w) k f fd ps sp ∧ PySem.W.keepIn K (.ref f) = true ∧ Binds K fd ps [] ∧
  t σ H fun vs H1 => sp vs H1 Q (E σ)
section
variable {X : Cx} {W : WX} {i k : Nat} {x : Str} {p pos : Pos} {e : Expr} {es : List Expr} {t : TA} {as : List AM} {tbl : List (Str × Nat × MF)}
theorem pe_callT (hr : Room k X.A) (hN : X.N[i]? = some x) (hv : Vis X.env.scope x) (tk : Takes X W) (ha : PA X (e :: es) t)
    (hdb : (x == ("__debug__" : Str)) = false := by decide) (hcd : (x == ("__classdict__" : Str)) = false := by decide)
    (he : starEach (e :: es) X.env = (false, eval e X.env) :: starEach es X.env := by rfl) (hpl : (backTo pos (starEach es X.env)).any (·.1) = false := by rfl) : PE X (.Call (.Name x p) (e :: es) [] pos) (tCallT X.prog X.w X.K X.mg X.base k i (WE W) t) := by
  refine ⟨fun pins s σ H Q I h => ?_⟩
  obtain ⟨f, fd, ps, sp, hs, F, hk, hb, ht⟩ := h
  refine wpAny_Call_Name_kw (thn ((pe_var (pos := p) hN hv hdb hcd).run pins s σ H (fun v H1 => v = .ref f ∧ H1 = H) I ⟨.ref f, hs, rfl, rfl⟩) fun u s1 ⟨v, H1, I1, r1, q1⟩ => ?_)
  obtain ⟨rfl, rfl⟩ := q1
  cases r1
  refine PySem.W.callWith_K (h₀ := X.base) I.ok.mod.kin hk (thn (ha.run pos pins s1 σ _ _ I1 ht) fun us s2 ⟨vs, H2, I2, r, q⟩ => ⟨I2.kIn, ?_⟩) he hpl
  exact run_fnS F hr hb (passAt tk σ) I2 r q
theorem de_callV (i : Nat) (T : KFns X.prog X.w X.K X.mg X.base k tbl) (hr : Room k X.A) (tk : Takes X W) (ha : DA X W (e :: es) t as) (hN : X.N[i]? = some x := by rfl) (hv : Vis X.env.scope x := by first | exact Or.inl rfl | exact Or.inr (Or.inl rfl) | exact Or.inr (Or.inr rfl))
    (hdb : (x == ("__debug__" : Str)) = false := by decide) (hcd : (x == ("__classdict__" : Str)) = false := by decide)
    (he : starEach (e :: es) X.env = (false, eval e X.env) :: starEach es X.env := by rfl) (hpl : (backTo pos (starEach es X.env)).any (·.1) = false := by rfl) :
    DE X W (.Call (.Name x p) (e :: es) [] pos) (tCallT X.prog X.w X.K X.mg X.base k i (WE W) t) (mCallV i tbl as) := by
  refine ⟨pe_callT hr hN hv tk ha.pa hdb hcd he hpl, fun fx vs0 Hr Hf H σ ρ Q E p => ?_⟩
  unfold mCallV at p
  cases hc : ρ[i]? with
  | none => simp only [hc] at p; exact p.elim
  | some c =>
    simp only [hc] at p
    cases c with
    | val d =>
      cases d with
      | fn y =>
        simp only at p
        cases hl : tbl.lookup y with
        | none => simp only [hl] at p; exact p.elim
        | some nF =>
          obtain ⟨n, F⟩ := nF
          simp only [hl] at p
          obtain ⟨f, fd, ps, m1, m2, m3, m4, m5⟩ := T.all _ (lookup_mem hl)
          obtain ⟨v, h1, f', h2, rfl⟩ := E.cel i _ hc
          rw [m1] at h2; cases h2
          exact ⟨f, fd, ps, _, joinEq.mp h1, m3, m4, m5, se_call ha.sa fx vs0 Hr Hf H σ ρ Q E p⟩
      | _ => exact p.elim
    | _ => exact p.elim
end

/-! ### x[::-1] of a list -/
def oRev : D → Option R
  | .lst xs => some (.ow (.own xs.reverse))
  | .fls xs => some (.ow (.own xs.reverse))
  | _ => none
theorem de_rev {X : Cx} {W : WX} {e : Expr} {te : TE} {m : ME} {k : Nat} {p1 p2 p3 pos : Pos} (h : DE X W e te m) : DE X W (.Subscript e (.Slice none none (some (.UnaryOp .USub (.Constant (.int 1) k p1) p2)) p3) pos) (tRevL X.K te) (m1 oRev m) := by
  refine ⟨pe_revL h.pe, fun fx vs0 Hr Hf H σ ρ Q E p => ?_⟩
  refine h.se.bind E p fun r ρ1 v F H1 e1 E1 c1 s1 q => ?_
  cases hu : use r ρ1 with
  | none => simp only [hu] at q; exact q.elim
  | some d =>
    have u := use_ok E1 (s1 Hr F H1 ρ1 (Ext.refl _)) hu
    simp only [hu] at q
    cases d with
    | lst xs => obtain ⟨a, vs, rfl, h1, h2⟩ := u; exact ⟨a, vs, rfl, .of h1, E1.giveL q h2.reverse⟩
    | fls xs => obtain ⟨a, vs, rfl, h1, h2⟩ := u; exact ⟨a, vs, rfl, E1.sub.sql h1, E1.giveL q h2.reverse⟩
    | _ => exact q.elim
/-! ### a, b = a tuple or a list -/
section
variable {X : Cx} {W : WX} {fx : List Bool} {pos : Pos}
def gSeq (K : PySem.W.Frag) (n : Nat) (t : TGs) : TG := fun v σ H Q => gTup K n t v σ H Q ∨ gLst K n t v σ H Q
theorem pg_seq {es : List Expr} {k : Nat} {t : TGs} {n : Nat} (hc : X.calm = true) (h : PGs X es t) (hn : (assignEach es X.env).length = n := by rfl) (hst : (assignEach es X.env).findIdx? (·.1) = none := by rfl) : PG X (.Tuple es k pos) (gSeq X.K n t) := by
  refine ⟨fun pins s σ H v u Q I r hw => ?_⟩
  rcases hw with hw | hw
  · exact (pg_tup hc h hn hst).run pins s σ H v u Q I r hw
  · exact (pg_lst hc h hn hst).run pins s σ H v u Q I r hw
def mgSeq (is : List Nat) : MG := fun d ρ => match d.items with
  | some ds => if ds.length = is.length then some (setAll ρ is ds) else none
  | none => none
theorem sg_seq {K : PySem.W.Frag} {mg : Str → Option Value} {gs : List Nat} {is : List Nat} {n : Nat} (hn : n = is.length) (hi : ∀ i ∈ is, fx[i]? ≠ some true ∧ i ∉ gs) : SG K mg gs fx (gSeq K n (gNames is)) (mgSeq is) := by
  intro vs0 Hr Hf H σ ρ d v ρ' Q E r e q
  unfold mgSeq at e
  cases hd : d.items with
  | none => simp only [hd] at e; cases e
  | some ds =>
    simp only [hd] at e
    by_cases hl : ds.length = is.length
    · simp only [if_pos hl, Option.some.injEq] at e
      subst e
      cases d with
      | tup _ => cases hd; obtain ⟨a, vs, rfl, h2, h3⟩ := r; exact .inl ⟨a, vs, rfl, E.sub.sqt h2, by rw [h3.length, hl, hn], sg_names hi hl E h3 q⟩
      | lst _ => cases hd; obtain ⟨a, vs, rfl, h2, h3⟩ := r; exact .inr ⟨a, vs, rfl, .of (E.sub a _ h2), by rw [h3.length, hl, hn], sg_names hi hl E h3 q⟩
      | fls _ => cases hd; obtain ⟨a, vs, rfl, h2, h3⟩ := r; exact .inr ⟨a, vs, rfl, E.sub.sql h2, by rw [h3.length, hl, hn], sg_names hi hl E h3 q⟩
      | _ => cases hd
    · simp only [if_neg hl] at e; cases e
theorem dg_seq {es : List Expr} {k : Nat} (is : List Nat) (hc : X.calm = true) (h : PGs X es (gNames is)) (hi : ∀ i ∈ is, fx[i]? ≠ some true ∧ i ∉ X.gs := by exact of_decide_eq_true (by kernel_rfl)) (hn : (assignEach es X.env).length = is.length := by rfl) (hst : (assignEach es X.env).findIdx? (·.1) = none := by rfl) :
    DG X fx (.Tuple es k pos) (gSeq X.K is.length (gNames is)) (mgSeq is) := ⟨pg_seq hc h hn hst, sg_seq rfl hi⟩
/-- (target, ..) = e -/
def mAsgG (f : MG) (m : ME) : MS := fun ρ => match m ρ with
  | .ok r ρ1 => match frz r ρ1 with
    | some (d, ρ2) => match f d ρ2 with
      | some ρ3 => .nx ρ3
      | none => .bad
    | none => .bad
  | .exc x ρ1 => .exc x ρ1
  | .bad => .bad
theorem ds_asgG {tg e : Expr} {te : TE} {me : ME} {g : TG} {f : MG} (h : DE X W e te me) (hg : DG X fx tg g f) (hs : swapsWithSole [tg] e pos.line X.env = pure false := by rfl) (hw : swappedStores [tg] e X.env = pure none := by rfl)
    (h1 : (assignEach [tg] X.env).map (·.2) = [assign tg X.env] := by rfl) : DS X W fx (.Assign [tg] e pos) (tAsg te g) (mAsgG f me) := by
  refine ⟨ps_asg h.pe hg.pg hs hw h1, fun vs0 Hr Hf H σ ρ D E p => h.se fx vs0 Hr Hf H σ ρ _ E ?_⟩
  unfold mAsgG at p
  cases hm : me ρ with
  | bad => rw [hm] at p; exact p
  | exc x ρ1 => rw [hm] at p; exact fun C h1 F H' e E' => p C h1 σ F H' e E'
  | ok r ρ1 =>
    rw [hm] at p
    intro v F H1 e1 E1 q1
    cases hz : frz r ρ1 with
    | none => simp only [hz] at p; exact p.elim
    | some x =>
      obtain ⟨d, ρ2⟩ := x
      simp only [hz] at p
      obtain ⟨F', e', E2, r2⟩ := frz_ok E1 q1 hz
      cases hf : f d ρ2 with
      | none => simp only [hf] at p; exact p.elim
      | some ρ3 =>
        simp only [hf] at p
        exact hg.sg vs0 Hr F' H1 σ ρ2 d v ρ3 _ E2 r2 hf fun σ' E3 => p σ' F' H1 (e1.trans e') E3
end

/-! ### a def, told once -/
structure Fk (P : Program) (w : World) (K : PySem.W.Frag) (mg : Str → Option Value) (base : Heap) (k : Nat) (x : Str) (n : Nat) (F : MF) : Prop where
  all : ∃ f fd ps, mg x = some (.ref f) ∧ ps.length = n ∧ FnOk P w K mg base (L2.CX P w) k f fd ps (spT K mg n F) ∧ PySem.W.keepIn K (.ref f) = true ∧ Binds K fd ps []
/-- a def of the text stands behind the name -/
structure Fd (K : PySem.W.Frag) (mg : Str → Option Value) (x : Str) (st : Stmt) : Prop where
  all : ∃ f fd, mg x = some (.ref f) ∧ Fun K x x st f fd
theorem fk_of {P : Program} {w : World} {K : PySem.W.Frag} {mg : Str → Option Value} {base : Heap} {k : Nat} {x : Str} {st : Stmt} {ps : List Str} {n : Nat} {F : MF} (D : Fd K mg x st) (hn : ps.length = n)
    (hb : ∀ (kV doc pm : Value) (an : Option Addr) (cdv ct : Value) (us : List Value), us.length = ps.length → bindArgs (PySem.W.fnOf x x (defArgs st) (defBody st) (defScope st) .none kV doc pm an cdv ct) ⟨us, []⟩ = pure (ps.zip us))
    (h : ∀ f fd, Fun K x x st f fd → FnOk P w K mg base (L2.CX P w) k f fd ps (spT K mg ps.length F)) : Fk P w K mg base k x n F := by
  obtain ⟨f, fd, m, Fn⟩ := D.all
  subst hn
  exact ⟨f, fd, ps, m, rfl, h f fd Fn, Fn.kp, Fn.binds hb⟩
section
variable {X : Cx} {W : WX} {e : Expr} {es : List Expr} {t : TA} {as : List AM}
theorem de_callK {k k' n : Nat} {F : MF} {x : Str} {p pos : Pos} (hF : Fk X.prog X.w X.K X.mg X.base k x n F) (hr : Room k' X.A) (tk : Takes X W) (ha : DA X W (e :: es) t as) (hk : k ≤ k' := by decide) (hg : Gl X x := by rfl) (hdb : (x == ("__debug__" : Str)) = false := by decide)
    (he : starEach (e :: es) X.env = (false, eval e X.env) :: starEach es X.env := by rfl) (hpl : (backTo pos (starEach es X.env)).any (·.1) = false := by rfl) :
    DE X W (.Call (.Name x p) (e :: es) [] pos) (tCallS (spT X.K X.mg n F) (WE W) t) (mCall n F as) := by
  obtain ⟨f, fd, ps, m1, m2, m3, m4, m5⟩ := hF.all
  subst m2
  exact de_call m3 (hr.mono hk) m1 m4 m5 tk ha hg hdb he hpl
theorem kfns_of {P : Program} {w : World} {K : PySem.W.Frag} {mg : Str → Option Value} {base : Heap} {k : Nat} {x : Str} {n : Nat} {F : MF} {tbl : List (Str × Nat × MF)} (h : Fk P w K mg base k x n F) (T : KFns P w K mg base k tbl) : KFns P w K mg base k ((x, n, F) :: tbl) :=
  ⟨fun p hp => by
    rcases List.mem_cons.mp hp with rfl | hp
    · exact h.all
    · exact T.all p hp⟩
theorem kfns_nil {P : Program} {w : World} {K : PySem.W.Frag} {mg : Str → Option Value} {base : Heap} {k : Nat} : KFns P w K mg base k [] := ⟨fun p hp => by cases hp⟩
theorem FnOk.up {P : Program} {w : World} {K : PySem.W.Frag} {mg : Str → Option Value} {base : Heap} {CX : CXT} {k k' : Nat} {f : Addr} {fd : FuncData} {ps : List Str} {sp : Sp} (F : FnOk P w K mg base CX k f fd ps sp) (h : k ≤ k') : FnOk P w K mg base CX k' f fd ps sp := F.mono h
theorem Fk.up {P : Program} {w : World} {K : PySem.W.Frag} {mg : Str → Option Value} {base : Heap} {k k' : Nat} {x : Str} {n : Nat} {F : MF} (h : Fk P w K mg base k x n F) (hk : k ≤ k' := by decide) : Fk P w K mg base k' x n F := by
  obtain ⟨f, fd, ps, m1, m2, m3, m4, m5⟩ := h.all
  exact ⟨f, fd, ps, m1, m2, FnOk.up m3 hk, m4, m5⟩
end

/-! ### an exception class of the text, below ValueError -/
abbrev bmV : List Value := [Value.type "ValueError", Value.type "Exception", Value.type "BaseException", Value.type "object"]
structure ExT (K : PySem.W.Frag) (mg : Str → Option Value) (x : Str) : Prop where
  all : ∃ C, mg x = some (.ref C) ∧ PySem.W.excIn K C bmV "ValueError.__new__" = true ∧ PySem.W.keepIn K (.ref C) = true ∧ PySem.W.subIn K (.ref C) (.type "BaseException") = some true ∧ PySem.W.typeIn K (.ref C) = some (.type "type")
def tRaise (W : WX) (mg : Str → Option Value) (x : Str) (te : TE) : TS := fun _ σ H => te σ H fun _ H1 => ∀ C, mg x = some (.ref C) → W (.ref C) none σ H1
section
variable {X : Cx} {W : WX} {fx : List Bool} {e : Expr} {te : TE} {m : ME}
theorem ds_raiseT {x : Str} {p pos pos' : Pos} (hc : X.calm = true) (tk : Takes X W) (q : ExT X.K X.mg x) (h : DE X W e te m) (hg : Gl X x := by rfl) (hs : starEach [e] X.env = (false, eval e X.env) :: starEach [] X.env := by rfl) (hdb : (x == ("__debug__" : Str)) = false := by decide) :
    DS X W fx (.Raise (some (.Call (.Name x p) [e] [] pos)) none pos') (tRaise W X.mg x te) (mRaise x m) := by
  obtain ⟨C, g, q1, q2, q3, q4⟩ := q.all
  have d := ds_raise (fx := fx) (pos := pos) (pos' := pos') (p := p) hc tk PySem.F.excBase_ValueError q1 g q2 (raises_own q3 q4) h hg hs hdb
  have e1 : tRaise W X.mg x te = (fun _ σ H => te σ H fun _ H1 => W (.ref C) none σ H1) := by
    funext D σ H
    unfold tRaise
    have : (fun (_ : V) (H1 : Hp) => ∀ C, X.mg x = some (.ref C) → W (.ref C) none σ H1) = fun _ H1 => W (.ref C) none σ H1 := by
      funext v H1
      exact propext ⟨fun z => z C g, fun z C' h' => by rw [g] at h'; cases h'; exact z⟩
    rw [this]
  rw [e1]
  exact d
end
/-! ### xs.count(True) of a list of bools -/
def eqb (k : Bool) (v : Value) : Bool := match v with
  | .bool n => n == k
  | _ => false
theorem vals_bools : ∀ {bs : List Bool} {us : List Value}, Vals (bs.map V.bl) us → us = bs.map Value.bool
  | [], _, .nil => rfl
  | b :: bs, _, .cons r rr => by
    have r : _ = _ := r
    rw [r, vals_bools rr]; rfl
theorem eqb_count {k : Bool} : ∀ (bs : List Bool), (bs.map Value.bool).countP (eqb k) = bs.count k
  | [] => rfl
  | b :: bs => by
    rw [List.map_cons, List.countP_cons, List.count_cons, eqb_count bs] <;> rfl
def rCntB (K : PySem.W.Frag) : V → List V → Hp → VK → Prop := fun x xs H Q => ∃ (p : Addr) (bs : List Bool) (k : Bool), x = .ref p ∧ xs = [.bl k] ∧ SqL K H p (bs.map V.bl) ∧ Q (.int (bs.count k : Nat)) H
open PyProof.Rows in
theorem mt_lcountB {X : Cx} : MtR X "list.count" (rCntB X.K) := by
  intro pins s σ H x xs v us Q I rx rxs h
  obtain ⟨p, bs, k, rfl, rfl, hs, q⟩ := h
  cases rx
  obtain ⟨u, rfl, ru⟩ := rxs.one
  have ru : u = Value.bool k := ru
  subst ru
  obtain ⟨its, rv, ⟨⟨cls, dd, data, sl⟩, n, ho, hc, hdn, hd⟩, hlen⟩ := I.list hs
  simp only at hc hd
  subst hc hd
  have hi := vals_bools rv
  subst hi
  refine call_meets PySem.F.slot_list_count ⟨_, ho, rfl⟩ PySem.F.entry_list_count (PySem.F.args_list_count_2 _ _)
    (SeqAt.list_countAt p (bs.map Value.bool).toArray n dd sl (.bool k) (eqb k)) ⟨ho, fun y hy => ?_, ?_⟩
  · have hy : y ∈ bs.map Value.bool := by simpa using hy
    obtain ⟨b, _, rfl⟩ := List.mem_map.mp hy
    exact SeqAt.EqAt.bool_bool b k
  · have ec : (bs.map Value.bool).toArray.toList.countP (eqb k) = bs.count k := eqb_count bs
    refine ⟨.int (bs.count k : Nat), H, I.tok _, ⟨s.toks, ?_⟩, q⟩
    show Value.int (((bs.map Value.bool).toArray.toList.countP (eqb k) : Nat) : Int) s.toks = Value.int ((bs.count k : Nat) : Int) s.toks
    rw [ec]

/-! ### _law_any: try: .. except S as e: which of the classes, counted -/
/-- what isinstance says of an error of the class x -/
structure AnyX (K : PySem.W.Frag) (C cS c1 c2 c3 c4 c5 : Addr) (r : Bool) : Prop where
  ec : ExcC K C
  ex : PySem.W.exmOne K (.ref C) (.ref cS) = some true
  is : ∃ b1 b2 b3 b4 b5 bv, PySem.W.kitOne K (.ref C) (.ref c1) = some b1 ∧ PySem.W.kitOne K (.ref C) (.ref c2) = some b2 ∧ PySem.W.kitOne K (.ref C) (.ref c3) = some b3 ∧ PySem.W.kitOne K (.ref C) (.ref c4) = some b4 ∧
    PySem.W.kitOne K (.ref C) (.ref c5) = some b5 ∧ PySem.W.kitOne K (.ref C) (.type "ValueError") = some bv ∧ r = (bv && decide (([b1, b2, b3] ++ [b4, b5]).count true = 1))
structure AnyT (K : PySem.W.Frag) (mg : Str → Option Value) (nS n1 n2 n3 n4 n5 : Str) (tbl : List (Str × Bool)) : Prop where
  all : ∃ cS c1 c2 c3 c4 c5, mg nS = some (.ref cS) ∧ mg n1 = some (.ref c1) ∧ mg n2 = some (.ref c2) ∧ mg n3 = some (.ref c3) ∧ mg n4 = some (.ref c4) ∧ mg n5 = some (.ref c5) ∧ mg "isinstance" = none ∧ mg "ValueError" = none ∧
    ∀ p ∈ tbl, ∃ C, mg p.1 = some (.ref C) ∧ AnyX K C cS c1 c2 c3 c4 c5 p.2
def mAny (ie js : Nat) (tbl : List (Str × Bool)) (mb : MS) : MS := fun ρ => match mb ρ with
  | .exc x ρ1 => match tbl.lookup x with
    | some r => if ie < ρ1.length ∧ js < ρ1.length then .ret (.dd (.bl r)) ((ρ1.set ie .no).set js .no) else .bad
    | none => .bad
  | r => r
abbrev tIsE (K : PySem.W.Frag) (C a : Addr) (ie : Nat) (c : V) : TE := tCB (rIsE K C a) (tCons (tVar ie) (tCons (tC c) tNil))
def tAnyB (K : PySem.W.Frag) (C a : Addr) (ie js : Nat) (c1 c2 c3 c4 c5 : Addr) : TS :=
  tSeq (tAsg (tLst (tCons (tIsE K C a ie (.ref c1)) (tCons (tIsE K C a ie (.ref c2)) (tCons (tIsE K C a ie (.ref c3)) tNil)))) (gName js))
  (tSeq (tAsg (tOp rCat (tVar js) (tLst (tCons (tIsE K C a ie (.ref c4)) (tCons (tIsE K C a ie (.ref c5)) tNil)))) (gName js))
    (tRet (tAndV (tIsE K C a ie (.ty "ValueError")) (tOp rEq (tBM K "list" (rCntB K) (tVar js) (tCons (tC (.bl true)) tNil)) (tC (.int 1))))))
def tAny (K : PySem.W.Frag) (ie js : Nat) (c1 c2 c3 c4 c5 : Addr) : Addr → Value → Option Addr → TS := fun a cls d D σ H => ∃ C, cls = .ref C ∧ d = none ∧ ExcC K C ∧ tAnyB K C a ie js c1 c2 c3 c4 c5 D σ H
theorem pss_pre {X : Cx} {ss : List Stmt} {t : TS} (P : Ends → St → Hp → Prop) (h : ∀ D σ H, P D σ H → ∃ t', PSs X ss t' ∧ t' D σ H) (ht : ∀ D σ H, t D σ H → P D σ H) : PSs X ss t :=
  ⟨fun pins s σ H D I q => by
    obtain ⟨t', h1, h2⟩ := h D σ H (ht D σ H q)
    exact h1.run pins s σ H D I h2⟩
section
variable {X : Cx} {W : WX} {fx : List Bool} {body : List Stmt}
theorem pe_isE {a C : Addr} {oe : Obj} {pn : List (Addr × Obj)} {ie : Nat} {n : Str} {c : V} {p pe pos : Pos} {ce : Expr} (hC : ExcC X.K C) (hz : Zc (.ref C) none oe) (hf : ∃ vs, oe.data = .fields vs) (hm : X.mg "isinstance" = none) (hg : Gl (X.suite a ((a, oe) :: pn)) "isinstance")
    (hv : PE (X.suite a ((a, oe) :: pn)) (.Name n pe) (tVar ie)) (hc : PE (X.suite a ((a, oe) :: pn)) ce (tC c)) (he : starEach (.Name n pe :: [ce]) X.env = (false, eval (.Name n pe) X.env) :: starEach [ce] X.env := by rfl) (he2 : starEach (ce :: []) X.env = (false, eval ce X.env) :: starEach [] X.env := by rfl)
    (hpl : (backTo pos (starEach [ce] X.env)).any (·.1) = false := by rfl) :
    PE (X.suite a ((a, oe) :: pn)) (.Call (.Name "isinstance" p) [.Name n pe, ce] [] pos) (tIsE X.K C a ie c) :=
  pe_callB (call_isE hC hz hf) hg hm (by decide +kernel) (pa_cons hv (pa_cons hc pa_nil he2) he) (by decide) (by decide) he hpl
theorem tIsE_ok {K : PySem.W.Frag} {C a : Addr} {ie : Nat} {c : V} {cv : Value} {b : Bool} {σ : St} {H : Hp} {Q : VK} (hs : σ[ie]? = some (some (.ref a))) (hc : ∀ u, RelV c u → u = cv) (h : PySem.W.kitOne K (.ref C) cv = some b) (q : Q (.bl b) H) : tIsE K C a ie c σ H Q :=
  ⟨.ref a, hs, c, cv, b, rfl, hc, h, q⟩
theorem ds_any {nS n1 n2 n3 n4 n5 : Str} {tbl : List (Str × Bool)} (ie js : Nat) {n sn : Str} (tb : WX → TS) {mb : MS} {Wout : WX} (T : AnyT X.K X.mg nS n1 n2 n3 n4 n5 tbl)
    {np p' pos e1 e2 e3 e4 e5 e6 i1 i2 i3 i4 i5 i6 q1 q2 q3 q4 q5 q6 r1 r2 r3 r4 r5 r6 l1 l2 s1 s2 s3 y1 y2 y3 y4 b1 b2 c1p c2p c3p c4p c5p : Pos} {k1 k2 : Nat}
    (hst : X.stack = X.env :: X.outer) (hfr : X.env.frame = some X.env.locals) (hN : X.N.Nodup) (tk : Takes X Wout)
    (hb : ∀ (W : WX) (pn : List (Addr × Obj)) (xe : Value → Shared → Prop), Takes (X.tr pn xe) W → DSs (X.tr pn xe) W fx body (tb W) mb)
    (hgS : Gl X nS := by rfl) (hg1 : Gl X n1 := by rfl) (hg2 : Gl X n2 := by rfl) (hg3 : Gl X n3 := by rfl) (hg4 : Gl X n4 := by rfl) (hg5 : Gl X n5 := by rfl) (hgi : Gl X "isinstance" := by rfl) (hgv : Gl X "ValueError" := by rfl)
    (hi : X.N[ie]? = some n := by rfl) (hj : X.N[js]? = some sn := by rfl) (hln : X.env.kindOf n = some .local := by rfl) (hlj : X.env.scope.names.lookup sn = some .local := by rfl) (hij : ie ≠ js := by decide) (hfi : fx[ie]? ≠ some true := by decide) (hgi1 : ie ∉ X.gs := by exact of_decide_eq_true (by kernel_rfl)) (hgj1 : js ∉ X.gs := by exact of_decide_eq_true (by kernel_rfl)) (hfj : fx[js]? ≠ some true := by decide)
    (dS : (nS == ("__debug__" : Str)) = false := by decide) (d1 : (n1 == ("__debug__" : Str)) = false := by decide) (d2 : (n2 == ("__debug__" : Str)) = false := by decide) (d3 : (n3 == ("__debug__" : Str)) = false := by decide) (d4 : (n4 == ("__debug__" : Str)) = false := by decide) (d5 : (n5 == ("__debug__" : Str)) = false := by decide)
    (dn : (n == ("__debug__" : Str)) = false := by decide) (dn2 : (n == ("__classdict__" : Str)) = false := by decide) (dj : (sn == ("__debug__" : Str)) = false := by decide) (dj2 : (sn == ("__classdict__" : Str)) = false := by decide)
    (hw1 : ∀ ln e, swapsWith (.List e l1) (some (.Name sn s1)) ln X.env = pure false := by intros; rfl) (hw2 : ∀ ln a b, swapsWith (.BinOp a .Add b b1) (some (.Name sn s2)) ln X.env = pure false := by intros; rfl)
    (hs : ∀ a b : Expr, ∀ f p1 p2, starEach (.Call f [a, b] [] p1 :: p2) X.env = (false, eval (.Call f [a, b] [] p1) X.env) :: starEach p2 X.env := by intros; rfl) (hs2 : ∀ a p1 p2, starEach (.Name a p1 :: p2) X.env = (false, eval (.Name a p1) X.env) :: starEach p2 X.env := by intros; rfl)
    (hpl : ∀ a p1 pos, (backTo pos (starEach [.Name a p1] X.env)).any (·.1) = false := by intros; rfl)
    (hbase : attributeBase (.Name sn y1) "count" X.env (eval (.Name sn y1) X.env) = eval (.Name sn y1) X.env := by rfl)
    (hfew : ((backTo y3 (starEach (.Constant (.bool true) k1 y4 :: []) X.env)).all (fun x => !x.1) && (backToKw y3 (keywordEach [] X.env)).all (fun x => x.1.isSome)
      && decide ((Expr.Constant (.bool true) k1 y4 :: ([] : List Expr)).length + ([] : List Keyword).length + (if ([] : List Keyword).isEmpty then 0 else 1) < 30)) = true := by rfl)
    (hline : (y2.endLine == y3.line) = true := by rfl) (hs3 : starEach (.Constant (.bool true) k1 y4 :: []) X.env = (false, eval (.Constant (.bool true) k1 y4) X.env) :: starEach [] X.env := by rfl) (hplain : (backTo y3 (starEach [] X.env)).any (·.1) = false := by rfl) :
    DS X Wout fx (.Try body [.ExceptHandler (some (.Name nS np)) (some n)
      [.Assign [.Name sn s1] (.List [.Call (.Name "isinstance" i1) [.Name n e1, .Name n1 q1] [] r1, .Call (.Name "isinstance" i2) [.Name n e2, .Name n2 q2] [] r2, .Call (.Name "isinstance" i3) [.Name n e3, .Name n3 q3] [] r3] l1) c1p,
       .Assign [.Name sn s2] (.BinOp (.Name sn s3) .Add (.List [.Call (.Name "isinstance" i4) [.Name n e4, .Name n4 q4] [] r4, .Call (.Name "isinstance" i5) [.Name n e5, .Name n5 q5] [] r5] l2) b1) c2p,
       .Return (some (.BoolOp .And [.Call (.Name "isinstance" i6) [.Name n e6, .Name "ValueError" q6] [] r6, .Compare (.Call (.Attribute (.Name sn y1) "count" y2) [.Constant (.bool true) k1 y4] [] y3) [.Eq] [.Constant (.int 1) k2 c4p] c5p] b2)) c3p] p'] [] [] pos)
      (fun D σ H => ∃ cS c1 c2 c3 c4 c5, X.mg nS = some (.ref cS) ∧ X.mg n1 = some (.ref c1) ∧ X.mg n2 = some (.ref c2) ∧ X.mg n3 = some (.ref c3) ∧ X.mg n4 = some (.ref c4) ∧ X.mg n5 = some (.ref c5) ∧ tb (wAs X.K (.ref cS) ie (tAny X.K ie js c1 c2 c3 c4 c5) Wout D) D σ H) (mAny ie js tbl mb) := by
  have hbS : ∀ W, SS X.K X.mg X.gs W fx (tb W) mb := fun W => (hb W [] (fun _ _ => True) fun _ _ _ => trivial).ss
  obtain ⟨cS, c1, c2, c3, c4, c5, gS, g1, g2, g3, g4, g5, gi, gv, hall⟩ := T.all
  refine ⟨⟨fun pins s σ H D I q => ?_⟩, fun vs0 Hr Hf H σ ρ D E p => ?_⟩
  · obtain ⟨cS', c1', c2', c3', c4', c5', z0, z1, z2, z3, z4, z5, q⟩ := q
    rw [gS] at z0; cases z0
    rw [g1] at z1; cases z1
    rw [g2] at z2; cases z2
    rw [g3] at z3; cases z3
    rw [g4] at z4; cases z4
    rw [g5] at z5; cases z5
    refine (ps_try_as (i := ie) (tb := tb) (ts := tAny X.K ie js c1 c2 c3 c4 c5) (Wout := Wout) hst hfr hN hi hln ⟨hgS, dS, .inl gS⟩ tk (fun W pn xe tk _ => (hb W pn xe tk).ps) (fun a oe cls d pn hz hf => ?_)).run pins s σ H D I q
    refine pss_pre (fun D σ H => tAny X.K ie js c1 c2 c3 c4 c5 a cls d D σ H) (fun D σ H h => ?_) fun _ _ _ h => h
    obtain ⟨C, rfl, rfl, hC, h⟩ := h
    refine ⟨_, ?_, h⟩
    have ve : ∀ pe, PE (X.suite a ((a, oe) :: pn)) (.Name n pe) (tVar ie) := fun pe => pe_var hi (.inl hln) dn dn2
    have vj : ∀ pe, PE (X.suite a ((a, oe) :: pn)) (.Name sn pe) (tVar js) := fun pe => pe_var hj (.inl hlj) dj dj2
    have is : ∀ {x : Str} {c : Addr} {p pe pc pos : Pos}, Gl X x → X.mg x = some (.ref c) → (x == ("__debug__" : Str)) = false → PE (X.suite a ((a, oe) :: pn)) (.Call (.Name "isinstance" p) [.Name n pe, .Name x pc] [] pos) (tIsE X.K C a ie (.ref c)) := fun hg hm hd =>
      pe_isE hC hz hf gi hgi (ve _) (pe_glob hg hm rfl hd) (hs2 _ _ _) (hs2 _ _ _) (hpl _ _ _)
    have st : ∀ {e : Expr} {te : TE} {s1 pos : Pos}, PE (X.suite a ((a, oe) :: pn)) e te → swapsWith e (some (.Name sn s1)) pos.line X.env = pure false → PS (X.suite a ((a, oe) :: pn)) (.Assign [.Name sn s1] e pos) (tAsg te (gName js)) := fun he hsw =>
      ps_set hN hj (.inl hlj) he hsw (.inr hlj)
    exact pss_cons (st (pe_lst (pa_cons (is hg1 g1 d1) (pa_cons (is hg2 g2 d2) (pa_cons (is hg3 g3 d3) pa_nil (hs _ _ _ _ _)) (hs _ _ _ _ _)) (hs _ _ _ _ _))) (hw1 _ _))
      (pss_cons (st (pe_op op_cat (vj _) (pe_lst (pa_cons (is hg4 g4 d4) (pa_cons (is hg5 g5 d5) pa_nil (hs _ _ _ _ _)) (hs _ _ _ _ _)))) (hw2 _ _ _))
      (pss_one (ps_ret (pe_and (pe_isE hC hz hf gi hgi (ve _) (pe_bltn hgv gv (by decide +kernel) rfl (by decide) (by decide)) (hs2 _ _ _) (hs2 _ _ _) (hpl _ _ _))
        (pe_one (pe_cmpR op_eq (pe_bm PySem.F.plainAttrs_list PySem.F.slot_list_count PySem.F.type_list_count mt_lcountB (vj _) (pa_cons pe_bl pa_nil hs3) hbase hfew hline hs3 hplain) pe_int rfl))))))
  · refine ⟨cS, c1, c2, c3, c4, c5, gS, g1, g2, g3, g4, g5, hbS _ vs0 Hr Hf H σ ρ D E ?_⟩
    unfold mAny at p
    cases hm : mb ρ with
    | exc x ρ1 =>
      rw [hm] at p
      intro C gC σ1 F1 H1 e1 E1
      cases hl : tbl.lookup x with
      | none => simp only [hl] at p; exact p.elim
      | some r =>
        simp only [hl] at p
        obtain ⟨C', gC', A⟩ := hall _ (lookup_mem hl)
        rw [gC] at gC'; cases gC'
        obtain ⟨b1, b2, b3, b4, b5, bv, k1, k2, k3, k4, k5, kv, hr⟩ := A.is
        have hr : r = _ := hr
        refine ⟨true, A.ex, fun _ a ha => ⟨C, rfl, rfl, A.ec, ?_⟩, fun z => by cases z⟩
        by_cases hl : ie < ρ1.length ∧ js < ρ1.length
        · simp only [if_pos hl] at p
          have sz : ∀ n : Nat, n ≤ 1000 → n ≤ sizeLine := fun n h => Nat.le_of_lt (small1000 h)
          have E2 := E1.store hfi (v := .ref a) (c := .no) (.inl hgi1) (.inr (.inl rfl))
          have m1 : ie < σ1.length := by rw [E1.len]; exact hl.1
          have m2 : js < σ1.length := by rw [E1.len]; exact hl.2
          have hse : (σ1.set ie (some (V.ref a)))[ie]? = some (some (V.ref a)) := by rw [List.getElem?_set_self m1]
          have hse' : ∀ v, ((σ1.set ie (some (V.ref a))).set js v)[ie]? = some (some (V.ref a)) := fun v => by rw [List.getElem?_set_ne (Ne.symm hij)]; exact hse
          have hsj : ∀ (τ : St) v, τ.length = σ1.length → (τ.set js v)[js]? = some v := fun τ v hτ => by rw [List.getElem?_set_self (by rw [hτ]; exact m2)]
          refine ⟨_, hse, _, _, b1, rfl, fun _ r => r, k1, _, hse, _, _, b2, rfl, fun _ r => r, k2, _, hse, _, _, b3, rfl, fun _ r => r, k3, sz 3 (by decide), fun p0 hp0 => ?_⟩
          have E3 := (E2.newO (o := .lst [.bl b1, .bl b2, .bl b3]) hp0).store hfj (v := .ref p0) (c := .no) (.inl hgj1) (.inr (.inl rfl))
          refine ⟨_, hsj _ _ (by simp), _, hse' _, _, _, b4, rfl, fun _ r => r, k4, _, hse' _, _, _, b5, rfl, fun _ r => r, k5, sz 2 (by decide), fun p1 hp1 => ?_⟩
          have n1 : p0 ≠ p1 := fun z => by rw [← z, upd_same] at hp1; cases hp1
          refine ⟨p0, p1, [.bl b1, .bl b2, .bl b3], [.bl b4, .bl b5], rfl, rfl, by rw [upd_ne n1, upd_same], upd_same, sz 5 (by decide), fun p2 hp2 => ?_⟩
          have E4 := ((E3.newO (o := .lst [.bl b4, .bl b5]) hp1).newO (o := .lst ([.bl b1, .bl b2, .bl b3] ++ [.bl b4, .bl b5])) hp2).store hfj (v := .ref p2) (c := .no) (.inl hgj1) (.inr (.inl rfl))
          have er : ((ρ1.set ie Cell.no).set js Cell.no).set js Cell.no = (ρ1.set ie Cell.no).set js Cell.no := List.set_set ..
          rw [er] at E4
          have hv : (((σ1.set ie (some (V.ref a))).set js (some (V.ref p0))).set js (some (V.ref p2)))[ie]? = some (some (V.ref a)) := by rw [List.getElem?_set_ne (Ne.symm hij)]; exact hse' _
          refine ⟨_, hv, .ty "ValueError", .type "ValueError", bv, rfl, fun _ r => r, kv, bv, rfl, ?_⟩
          have fin : ∀ rr, rr = r → D.rt (.bl rr) (upd (upd (upd H1 p0 (.lst [.bl b1, .bl b2, .bl b3])) p1 (.lst [.bl b4, .bl b5])) p2 (.lst ([.bl b1, .bl b2, .bl b3] ++ [.bl b4, .bl b5]))) := fun rr hrr => by
            subst hrr
            exact p (.bl rr) _ F1 _ e1 E4 rfl
          cases bv with
          | false => exact fin false (by rw [hr]; rfl)
          | true =>
            refine ⟨_, hsj _ _ (by simp), .inl ⟨rfl, _, .of upd_same⟩, p2, [b1, b2, b3] ++ [b4, b5], true, rfl, rfl, .of upd_same, rfl, ?_⟩
            refine fin _ ?_
            rw [hr, Bool.true_and]
            generalize List.count true ([b1, b2, b3] ++ [b4, b5]) = m
            by_cases hm : m = 1
            · subst hm; rfl
            · rw [decide_eq_false hm]
              apply decide_eq_false
              intro z
              have z : (m : Int) = 1 := V.int.inj z
              exact hm (by omega)
        · simp only [if_neg hl] at p; exact p.elim
    | _ => rw [hm] at p; exact p
end

/-! ### try: without as, the clauses by tables -/
structure HdT (K : PySem.W.Frag) (mg : Str → Option Value) (x : Str) (tbl : List (Str × Bool)) : Prop where
  all : ∃ c, mg x = some (.ref c) ∧ ∀ p ∈ tbl, ∃ C, mg p.1 = some (.ref C) ∧ PySem.W.exmOne K (.ref C) (.ref c) = some p.2
theorem hd_ok {K : PySem.W.Frag} {mg : Str → Option Value} {c : Addr} {tbl : List (Str × Bool)} (h : ∀ p ∈ tbl, ∃ C, mg p.1 = some (.ref C) ∧ PySem.W.exmOne K (.ref C) (.ref c) = some p.2) :
    ∀ y b C, (fun y => tbl.lookup y) y = some b → mg y = some (.ref C) → PySem.W.exmOne K (.ref C) (.ref c) = some b := fun y b C e g => by
  obtain ⟨C', g', h'⟩ := h _ (lookup_mem e)
  have g' : mg y = some (.ref C') := g'
  rw [g] at g'; cases g'
  exact h'
theorem ds_tryN {X : Cx} {fx : List Bool} {body : List Stmt} {h₀ : ExceptHandler} {hds : List ExceptHandler} {l : List (Value × (Addr → Value → Option Addr → TS))} {hs : List ((Str → Option Bool) × MS)} {pos : Pos} {tb : WX → TS} {mb : MS} {Wout : WX} (hst : X.stack = X.env :: X.outer) (hf : X.env.frame = some X.env.locals) (tk : Takes X Wout)
    (hb : ∀ (W : WX) (pn : List (Addr × Obj)) (xe : Value → Shared → Prop), Takes (X.tr pn xe) W → DSs (X.tr pn xe) W fx body (tb W) mb) (hh : DHs X fx (h₀ :: hds) l hs) :
    DS X Wout fx (.Try body (h₀ :: hds) [] [] pos) (fun D σ H => tb (wMany X.K Wout D l) D σ H) (mTry mb hs) :=
  ds_try hst hf tk (fun W pn xe tk _ => hb W pn xe tk) (fun W => (hb W [] (fun _ _ => True) fun _ _ _ => trivial).ss) hh
/-! ### the reading that a mirror gives -/
def tE (K : PySem.W.Frag) (mg : Str → Option Value) (gs : List Nat) (W : WX) (m : ME) : TE := fun σ H Q => ∃ fx vs0 Hr Hf ρ, EnvOk K mg gs fx vs0 Hr Hf H σ ρ ∧ PostE K mg gs W fx vs0 Hr Hf σ (m ρ) Q
def tTs (K : PySem.W.Frag) (mg : Str → Option Value) (gs : List Nat) (W : WX) (m : MT) : TT := fun σ H Q => ∃ fx vs0 Hr Hf ρ, EnvOk K mg gs fx vs0 Hr Hf H σ ρ ∧ PostT K mg gs W fx vs0 Hr Hf σ (m ρ) Q
def tSs (K : PySem.W.Frag) (mg : Str → Option Value) (gs : List Nat) (W : WX) (fx : List Bool) (m : MS) : TS := fun D σ H => ∃ vs0 Hr Hf ρ, EnvOk K mg gs fx vs0 Hr Hf H σ ρ ∧ PostS K mg gs W fx vs0 Hr Hf (m ρ) D
section
variable {X : Cx} {W : WX} {fx : List Bool}
theorem DE.can {e : Expr} {t : TE} {m : ME} (h : DE X W e t m) : DE X W e (tE X.K X.mg X.gs W m) m :=
  ⟨⟨fun pins s σ H Q I ⟨fx, vs0, Hr, Hf, ρ, E, p⟩ => h.pe.run pins s σ H Q I (h.se fx vs0 Hr Hf H σ ρ Q E p)⟩, fun fx vs0 Hr Hf H σ ρ Q E p => ⟨fx, vs0, Hr, Hf, ρ, E, p⟩⟩
theorem DTs.can {ifs : List Expr} {t : TT} {m : MT} (h : DTs X W ifs t m) : DTs X W ifs (tTs X.K X.mg X.gs W m) m :=
  ⟨⟨fun pins s σ H Q I ⟨fx, vs0, Hr, Hf, ρ, E, p⟩ => h.pts.run pins s σ H Q I (h.st fx vs0 Hr Hf H σ ρ Q E p)⟩, fun fx vs0 Hr Hf H σ ρ Q E p => ⟨fx, vs0, Hr, Hf, ρ, E, p⟩⟩
theorem DSs.can {ss : List Stmt} {t : TS} {m : MS} (h : DSs X W fx ss t m) : DSs X W fx ss (tSs X.K X.mg X.gs W fx m) m :=
  ⟨⟨fun pins s σ H D I ⟨vs0, Hr, Hf, ρ, E, p⟩ => h.ps.run pins s σ H D I (h.ss vs0 Hr Hf H σ ρ D E p)⟩, fun vs0 Hr Hf H σ ρ D E p => ⟨vs0, Hr, Hf, ρ, E, p⟩⟩
variable {elt tg iter : Expr} {ifs : List Expr} {scope : Scope} {pos : Pos} {wi : TI} {g : TG} {mi : MI} {f : MG} {mt : MT} {me : ME}
theorem de_lcm (own : List (Str × Nat)) (hc : X.calm = true) (hN : X.N.Nodup) (hi : DI X W tg iter wi mi) (ok : BlkOk X.N X.env.scope scope own)
    (hg : ∀ (s : Shared) (H : Hp) (C : Addr) (cl : List (Str × Addr)) (fp : List Addr), PG (X.blk s H scope (compEnvC scope cl C X.env) fp) tg g) (sg : SGC X.K X.mg X.gs (own.map (·.2)) g f)
    (ht : ∀ (s : Shared) (H : Hp) (C : Addr) (cl : List (Str × Addr)) (fp : List Addr), ∃ t, DTs (X.blk s H scope (compEnvC scope cl C X.env) fp) W0 ifs t mt)
    (he : ∀ (s : Shared) (H : Hp) (C : Addr) (cl : List (Str × Addr)) (fp : List Addr), ∃ t, DE (X.blk s H scope (compEnvC scope cl C X.env) fp) W0 elt t me) (hs : ∀ x, foldedSetIterable iter X.env x = pure x := by intro _; rfl) (hgs : ∀ j ∈ X.gs, j ∉ own.map (·.2) := by exact of_decide_eq_true (by kernel_rfl)) :
    DE X W (.ListComp elt [⟨tg, iter, ifs, 0⟩] scope pos) (tLc wi g (tTs X.K X.mg X.gs W0 mt) (tE X.K X.mg X.gs W0 me) (own.map (·.2))) (mLc (own.map (·.2)) mi f mt me) :=
  de_lc hc hN hi ok hg sg (fun s H C cl fp => (ht s H C cl fp).choose_spec.can) (fun s H C cl fp => (he s H C cl fp).choose_spec.can) hs hgs
theorem ds_setLcm (i : Nat) (own : List (Str × Nat)) {y : Str} {py spos : Pos} (hc : X.calm = true) (hN : X.N.Nodup) (hi : DI X W tg iter wi mi) (ok : BlkOk X.N X.env.scope scope own)
    (hg : ∀ (s : Shared) (H : Hp) (C : Addr) (cl : List (Str × Addr)) (fp : List Addr), PG (X.blk s H scope (compEnvC scope cl C X.env) fp) tg g) (sg : SGC X.K X.mg X.gs (own.map (·.2)) g f)
    (ht : ∀ (s : Shared) (H : Hp) (C : Addr) (cl : List (Str × Addr)) (fp : List Addr), ∃ t, DTs (X.blk s H scope (compEnvC scope cl C X.env) fp) W0 ifs t mt)
    (he : ∀ (s : Shared) (H : Hp) (C : Addr) (cl : List (Str × Addr)) (fp : List Addr), ∃ t, DE (X.blk s H scope (compEnvC scope cl C X.env) fp) W0 elt t me)
    (hsw : swapsWith (.ListComp elt [⟨tg, iter, ifs, 0⟩] scope pos) (some (.Name y py)) spos.line X.env = pure true) (hy : X.N[i]? = some y := by rfl) (hyl : X.env.scope.names.lookup y = some .local := by rfl) (hfx : fx[i]? ≠ some true := by decide)
    (hs : ∀ x, foldedSetIterable iter X.env x = pure x := by intro _; rfl) (hgs : ∀ j ∈ X.gs, j ∉ own.map (·.2) := by exact of_decide_eq_true (by kernel_rfl)) (hgi : i ∉ X.gs := by exact of_decide_eq_true (by kernel_rfl)) :
    DS X W fx (.Assign [.Name y py] (.ListComp elt [⟨tg, iter, ifs, 0⟩] scope pos) spos) (tAsg (tLc wi g (tTs X.K X.mg X.gs W0 mt) (tE X.K X.mg X.gs W0 me) (own.map (·.2))) (gName i)) (mAsg i (mLc (own.map (·.2)) mi f mt me)) :=
  ds_setLc i hc hN hi ok hg sg (fun s H C cl fp => (ht s H C cl fp).choose_spec.can) (fun s H C cl fp => (he s H C cl fp).choose_spec.can) hsw hy hyl hfx hs hgs hgi
theorem ds_tryM {body : List Stmt} {h₀ : ExceptHandler} {hds : List ExceptHandler} {l : List (Value × (Addr → Value → Option Addr → TS))} {hs : List ((Str → Option Bool) × MS)} {pos : Pos} {mb : MS} (hst : X.stack = X.env :: X.outer) (hf : X.env.frame = some X.env.locals) (tk : Takes X W)
    (hb : ∀ (W : WX) (pn : List (Addr × Obj)) (xe : Value → Shared → Prop), Takes (X.tr pn xe) W → ∃ t, DSs (X.tr pn xe) W fx body t mb) (hh : DHs X fx (h₀ :: hds) l hs) :
    DS X W fx (.Try body (h₀ :: hds) [] [] pos) (fun D σ H => tSs X.K X.mg X.gs (wMany X.K W D l) fx mb D σ H) (mTry mb hs) :=
  ds_tryN (tb := fun W => tSs X.K X.mg X.gs W fx mb) hst hf tk (fun W pn xe tk => (hb W pn xe tk).choose_spec.can) hh
end
/-! ### the end: what the top has written, and the law -/
section
variable {K : PySem.W.Frag} {h : Heap} {mg : Str → Option Value} {gs : List Nat} {w : World}
theorem fd_mk {x : Str} {st : Stmt} {f : Addr} {oc : Value} {od an : Option Addr} {osl : Array (Option Value)} {kV doc pm cdv ct : Value} (X : K.In h) (G : h.Ns mainGlobals mg) (a : PySem.W.nsIn K mainGlobals x = some (some (.ref f)))
    (l : K.lookup f = some ⟨oc, od, .func (PySem.W.fnOf x x (defArgs st) (defBody st) (defScope st) .none kV doc pm an cdv ct), osl⟩) (c : PySem.W.codeIn K cdv x = true) (k : PySem.W.keepIn K (.ref f) = true) : Fd K mg x st := ⟨f, _, PySem.W.mg_of X G a, fun_mk l c k⟩
theorem none_mk {x : Str} (X : K.In h) (G : h.Ns mainGlobals mg) (a : PySem.W.nsIn K mainGlobals x = some none) : mg x = none := PySem.W.mg_none_of X G a
theorem int_mk {x : Str} {i : Int} {t : Tok} (X : K.In h) (G : h.Ns mainGlobals mg) (a : PySem.W.nsIn K mainGlobals x = some (some (.int i t))) : ∃ t, mg x = some (.int i t) := ⟨t, PySem.W.mg_of X G a⟩
theorem ext_mk {x : Str} {C : Addr} (X : K.In h) (G : h.Ns mainGlobals mg) (a : PySem.W.nsIn K mainGlobals x = some (some (.ref C))) (q : PySem.W.excIn K C bmV "ValueError.__new__" = true) (k : PySem.W.keepIn K (.ref C) = true)
    (s : PySem.W.subIn K (.ref C) (.type "BaseException") = some true) (t : PySem.W.typeIn K (.ref C) = some (.type "type")) : ExT K mg x := ⟨C, PySem.W.mg_of X G a, q, k, s, t⟩
/-- the entries of a table -/
def TabE (K : PySem.W.Frag) (mg : Str → Option Value) (d : Addr) (p : Str × Option D) : Prop := match p.2 with
  | some D => ∃ u v, PySem.W.nsIn K d p.1 = some (some u) ∧ RelV v u ∧ ∀ H, Rep K mg H D v
  | none => PySem.W.nsIn K d p.1 = some none
theorem tab_int {d : Addr} {k : Str} {i : Int} {t : Tok} (a : PySem.W.nsIn K d k = some (some (.int i t))) : TabE K mg d (k, some (.int i)) := ⟨_, .int i, a, ⟨t, rfl⟩, fun _ => rfl⟩
theorem tab_str {d : Addr} {k : Str} {i : Str} {t : Tok} (a : PySem.W.nsIn K d k = some (some (.str i t))) : TabE K mg d (k, some (.str i)) := ⟨_, .str i, a, ⟨t, rfl⟩, fun _ => rfl⟩
theorem tab_fn {d : Addr} {k x : Str} {f : Addr} (X : K.In h) (G : h.Ns mainGlobals mg) (a : PySem.W.nsIn K d k = some (some (.ref f))) (b : PySem.W.nsIn K mainGlobals x = some (some (.ref f))) : TabE K mg d (k, some (.fn x)) := ⟨_, .ref f, a, rfl, fun _ => ⟨f, PySem.W.mg_of X G b, rfl⟩⟩
theorem tab_no {d : Addr} {k : Str} (a : PySem.W.nsIn K d k = some none) : TabE K mg d (k, none) := a
theorem tabs_nil {d : Addr} : ∀ p ∈ ([] : List (Str × Option D)), TabE K mg d p := fun p hp => by cases hp
theorem tabs_cons {d : Addr} {p : Str × Option D} {ps : List (Str × Option D)} (h1 : TabE K mg d p) (h2 : ∀ p ∈ ps, TabE K mg d p) : ∀ q ∈ p :: ps, TabE K mg d q := fun q hq => by
  rcases List.mem_cons.mp hq with rfl | hq
  · exact h1
  · exact h2 q hq
theorem ktab_mk {x : Str} {d : Addr} {es : Array DictEntry} {n : Nat} {tbl : List (Str × Option D)} (X : K.In h) (G : h.Ns mainGlobals mg) (a : PySem.W.nsIn K mainGlobals x = some (some (.ref d))) (l : K.lookup d = some ⟨.type "dict", none, .dict es n, #[]⟩)
    (k : PySem.W.KeysLit w.params es.toList) (lo : (d == sysModules) = false) (t : ∀ p ∈ tbl, TabE K mg d p) : ∃ d, KTab K w mg x d tbl := ⟨d, PySem.W.mg_of X G a, ⟨es, n, l, k, lo⟩, t⟩
theorem hdt_mk {x : Str} {c : Addr} {tbl : List (Str × Bool)} (X : K.In h) (G : h.Ns mainGlobals mg) (a : PySem.W.nsIn K mainGlobals x = some (some (.ref c))) (t : ∀ p ∈ tbl, ∃ C, mg p.1 = some (.ref C) ∧ PySem.W.exmOne K (.ref C) (.ref c) = some p.2) : HdT K mg x tbl := ⟨c, PySem.W.mg_of X G a, t⟩
theorem hdt_nil {c : Addr} : ∀ p ∈ ([] : List (Str × Bool)), ∃ C, mg p.1 = some (.ref C) ∧ PySem.W.exmOne K (.ref C) (.ref c) = some p.2 := fun p hp => by cases hp
theorem hdt_cons {c C : Addr} {x : Str} {b : Bool} {ps : List (Str × Bool)} (X : K.In h) (G : h.Ns mainGlobals mg) (a : PySem.W.nsIn K mainGlobals x = some (some (.ref C))) (e : PySem.W.exmOne K (.ref C) (.ref c) = some b)
    (t : ∀ p ∈ ps, ∃ C, mg p.1 = some (.ref C) ∧ PySem.W.exmOne K (.ref C) (.ref c) = some p.2) : ∀ p ∈ (x, b) :: ps, ∃ C, mg p.1 = some (.ref C) ∧ PySem.W.exmOne K (.ref C) (.ref c) = some p.2 := fun p hp => by
  rcases List.mem_cons.mp hp with rfl | hp
  · exact ⟨C, PySem.W.mg_of X G a, e⟩
  · exact t p hp
theorem anyT_mk {nS n1 n2 n3 n4 n5 : Str} {cS c1 c2 c3 c4 c5 : Addr} {tbl : List (Str × Bool)} (X : K.In h) (G : h.Ns mainGlobals mg) (aS : PySem.W.nsIn K mainGlobals nS = some (some (.ref cS))) (a1 : PySem.W.nsIn K mainGlobals n1 = some (some (.ref c1))) (a2 : PySem.W.nsIn K mainGlobals n2 = some (some (.ref c2)))
    (a3 : PySem.W.nsIn K mainGlobals n3 = some (some (.ref c3))) (a4 : PySem.W.nsIn K mainGlobals n4 = some (some (.ref c4))) (a5 : PySem.W.nsIn K mainGlobals n5 = some (some (.ref c5))) (ai : mg "isinstance" = none) (av : PySem.W.nsIn K mainGlobals "ValueError" = some none)
    (t : ∀ p ∈ tbl, ∃ C, mg p.1 = some (.ref C) ∧ AnyX K C cS c1 c2 c3 c4 c5 p.2) : AnyT K mg nS n1 n2 n3 n4 n5 tbl :=
  ⟨cS, c1, c2, c3, c4, c5, PySem.W.mg_of X G aS, PySem.W.mg_of X G a1, PySem.W.mg_of X G a2, PySem.W.mg_of X G a3, PySem.W.mg_of X G a4, PySem.W.mg_of X G a5, ai, PySem.W.mg_none_of X G av, t⟩
theorem any_nil {cS c1 c2 c3 c4 c5 : Addr} : ∀ p ∈ ([] : List (Str × Bool)), ∃ C, mg p.1 = some (.ref C) ∧ AnyX K C cS c1 c2 c3 c4 c5 p.2 := fun p hp => by cases hp
theorem any_cons {x : Str} {C cS c1 c2 c3 c4 c5 : Addr} {b1 b2 b3 b4 b5 bv r : Bool} {ps : List (Str × Bool)} (X : K.In h) (G : h.Ns mainGlobals mg) (a : PySem.W.nsIn K mainGlobals x = some (some (.ref C)))
    (hg : PySem.W.findIn K (.ref C) "__getattribute__" = some (some (.builtin "BaseException.__getattribute__"))) (hk : PySem.W.findIn K (.ref C) "__getattr__" = some none) (hs : PySem.W.subIn K (.ref C) (.type "BaseException") = some true) (hd : PySem.W.hasDictIn K C = true)
    (ha : PySem.W.findIn K (.ref C) "__class__" = some (some (.builtin "object.__class__"))) (hn : PySem.W.specialIn K (.builtin "object.__class__") "__get__" = some (some (.builtin "getset_descriptor.__get__"))) (ht : PySem.W.takesIn K (.builtin "object.__class__") = some true) (hm : PySem.W.mroIn K C (.type "object") = some true)
    (e : PySem.W.exmOne K (.ref C) (.ref cS) = some true) (k1 : PySem.W.kitOne K (.ref C) (.ref c1) = some b1) (k2 : PySem.W.kitOne K (.ref C) (.ref c2) = some b2) (k3 : PySem.W.kitOne K (.ref C) (.ref c3) = some b3) (k4 : PySem.W.kitOne K (.ref C) (.ref c4) = some b4)
    (k5 : PySem.W.kitOne K (.ref C) (.ref c5) = some b5) (kv : PySem.W.kitOne K (.ref C) (.type "ValueError") = some bv) (hr : r = (bv && decide (([b1, b2, b3] ++ [b4, b5]).count true = 1)))
    (t : ∀ p ∈ ps, ∃ C, mg p.1 = some (.ref C) ∧ AnyX K C cS c1 c2 c3 c4 c5 p.2) : ∀ p ∈ (x, r) :: ps, ∃ C, mg p.1 = some (.ref C) ∧ AnyX K C cS c1 c2 c3 c4 c5 p.2 := fun p hp => by
  rcases List.mem_cons.mp hp with rfl | hp
  · exact ⟨C, PySem.W.mg_of X G a, ⟨⟨hg, hk, hs, hd, ha, hn, ht, hm⟩, e, _, _, _, _, _, _, k1, k2, k3, k4, k5, kv, hr⟩⟩
  · exact t p hp
end
abbrev FdX {K : PySem.W.Frag} {h : Heap} (_ : K.In h) (mg : Str → Option Value) (x : Str) (st : Stmt) : Prop := Fd K mg x st
abbrev ExTX {K : PySem.W.Frag} {h : Heap} (_ : K.In h) (mg : Str → Option Value) (x : Str) : Prop := ExT K mg x
abbrev KTabX {K : PySem.W.Frag} {h : Heap} (_ : K.In h) (w : World) (mg : Str → Option Value) (x : Str) (tbl : List (Str × Option D)) : Prop := ∃ d, KTab K w mg x d tbl
abbrev HdTX {K : PySem.W.Frag} {h : Heap} (_ : K.In h) (mg : Str → Option Value) (x : Str) (tbl : List (Str × Bool)) : Prop := HdT K mg x tbl
abbrev AnyTX {K : PySem.W.Frag} {h : Heap} (_ : K.In h) (mg : Str → Option Value) (nS n1 n2 n3 n4 n5 : Str) (tbl : List (Str × Bool)) : Prop := AnyT K mg nS n1 n2 n3 n4 n5 tbl
/-- law's: a list of at most n ints is handed in, True comes out -/
def spLaw (n : Nat) (K : PySem.W.Frag) : Sp := fun vs H Q _ => ∃ (a : Addr) (ns : List Int), vs = [.ref a] ∧ SqL K H a (ns.map V.int) ∧ ns.length ≤ n ∧ ∀ H', Q (.bl true) H'
theorem repL_ints {K : PySem.W.Frag} {mg : Str → Option Value} {H : Hp} : ∀ ns : List Int, RepL K mg H (ns.map D.int) (ns.map V.int)
  | [] => rfl
  | n :: ns => ⟨_, _, rfl, rfl, repL_ints ns⟩
theorem spT_law {n : Nat} {K : PySem.W.Frag} {mg : Str → Option Value} {F : MF} (hF : ∀ ns : List Int, ns.length ≤ n → ∃ os, F [.val (.fls (ns.map D.int))] = .ret (.dd (.bl true)) os) : ∀ vs H Q E, spLaw n K vs H Q E → spT K mg 1 F vs H Q E := by
  rintro vs H Q E ⟨a, ns, rfl, hs, hl, q⟩
  obtain ⟨os, hF⟩ := hF ns hl
  have E : EnvOk K mg [] [] [] (fun _ => none) H H [some (.ref a)] [.val (.fls (ns.map D.int))] := by
    refine ⟨rfl, Ext.refl _, (fun _ _ z => by cases z), (fun _ _ z => by cases z), fun i c hc => ?_, fun i j b p q => ?_, fun i h => by simp at h, fun i c hc => ?_⟩
    · match i with
      | 0 => cases hc; exact ⟨.ref a, rfl, a, _, rfl, hs, repL_ints ns⟩
      | i + 1 => simp at hc
    · obtain ⟨⟨c, h1, h2⟩, _⟩ := p
      match i with
      | 0 => cases h1; cases h2
      | i + 1 => simp at h1
    · match i with
      | 0 => cases hc; trivial
      | i + 1 => simp at hc
  refine ⟨rfl, fun _ => none, H, [.val (.fls (ns.map D.int))], E, ?_⟩
  rw [hF]
  intro v F' H' _ _ r
  cases (show v = .bl true from r)
  exact q H'
theorem walkL {l : PySem.W.OpenLaw} {q : Program} {loose : List Str} {XP : (Str → Option Value) → Heap → Prop} {YP : World → Heap → Prop} {d : DefRec} {K : Params → PySem.W.Frag} {x : Str} {st : Stmt} {k : Nat} {F : MF} (hn : l.most = some 63) (hdf : d.params.defaults = []) (hnm : d.name = ("law" : Str)) (hr : Room k callerA)
    (hY : ∀ (w : World) (h : Heap), YP w h → (K w.params).In h) (hF : ∀ ns : List Int, ns.length ≤ 63 → ∃ os, F [.val (.fls (ns.map D.int))] = .ret (.dd (.bl true)) os)
    (hb : ∀ (kV doc pm : Value) (an : Option Addr) (cdv ct : Value) (u : Value), bindArgs (PySem.W.fnOf "law" "law" (defArgs st) (defBody st) (defScope st) .none kV doc pm an cdv ct) ⟨[u], []⟩ = pure [(x, u)])
    (G : ∀ (w : World) (mg : Str → Option Value) (h : Heap), (K w.params).In h → h.Ns mainGlobals mg →
      Fd (K w.params) mg "law" st ∧ ∀ base : Heap, ∀ f fd, Fun (K w.params) "law" "law" st f fd → FnOk l.prog w (K w.params) mg base (L2.CX l.prog w) k f fd [x] (spT (K w.params) mg 1 F)) :
    PySem.W.WalkO q loose XP YP l.row.toRowW d [] (fun f vs => PySem.call f vs) :=
  L2.walk_of (n := 63) (k := k) (x := x) (CX := fun w => L2.CX l.prog w) (sp := fun w => spLaw 63 (K w.params)) hn (by decide) hdf hr hY (fun w mg fa h KX Gn hmg => by
    obtain ⟨g1, g2⟩ := G w mg h KX Gn
    obtain ⟨f, fd, m, Fn⟩ := g1.all
    rw [hnm, m] at hmg
    cases hmg
    refine ⟨fd, ?_, fun base _ _ => (g2 base _ fd Fn).imp (spT_law hF)⟩
    obtain ⟨oc, od, kV, doc, pm, an, cdv, ct, osl, rfl, lk, hcd⟩ := Fn.ex
    exact fun s v => .of_eq (hb kV doc pm an cdv ct v)) (fun _ _ a ns hl _ hS => ⟨a, ns, rfl, hS, hl, fun _ => rfl⟩) fun _ _ _ _ _ h => by
      obtain ⟨_, _, _, _, _, _, _, _, _, _, _, _, z⟩ := h
      exact z
/-! ### reckoning with mirrors -/
theorem sz0 : 0 ≤ sizeLine := by decide
theorem sz1 : 1 ≤ sizeLine := by decide
theorem sz2 : 2 ≤ sizeLine := by decide
theorem sz3 : 3 ≤ sizeLine := by decide
theorem sz4 : 4 ≤ sizeLine := by decide
theorem sz5 : 5 ≤ sizeLine := by decide
theorem sz6 : 6 ≤ sizeLine := by decide
theorem sz7 : 7 ≤ sizeLine := by decide
theorem sz8 : 8 ≤ sizeLine := by decide
theorem sz9 : 9 ≤ sizeLine := by decide
theorem sz10 : 10 ≤ sizeLine := by decide
theorem sz11 : 11 ≤ sizeLine := by decide
theorem sz12 : 12 ≤ sizeLine := by decide
theorem sz13 : 13 ≤ sizeLine := by decide
theorem sz14 : 14 ≤ sizeLine := by decide
theorem sz15 : 15 ≤ sizeLine := by decide
theorem oNe_str (a b : Str) : oNe (.str a) (.str b) = some (.dd (.bl (!decide (a = b)))) := by
  show some (R.dd (.bl (!decide (V.str a = V.str b)))) = _
  congr 4
  exact decide_eq_decide.mpr ⟨fun h => by cases h; rfl, fun h => by rw [h]⟩
theorem oNe_int (a b : Int) : oNe (.int a) (.int b) = some (.dd (.bl (!decide (a = b)))) := by
  show some (R.dd (.bl (!decide (V.int a = V.int b)))) = _
  congr 4
  exact decide_eq_decide.mpr ⟨fun h => by cases h; rfl, fun h => by rw [h]⟩
theorem oNe_bl (a b : Bool) : oNe (.bl a) (.bl b) = some (.dd (.bl (!decide (a = b)))) := by
  show some (R.dd (.bl (!decide (V.bl a = V.bl b)))) = _
  congr 4
  exact decide_eq_decide.mpr ⟨fun h => by cases h; rfl, fun h => by rw [h]⟩
theorem mLoop_nx {f : MG} {mb : MS} {d : D} {ds : List D} {ρ ρ1 ρ2 : Env} (h1 : f d ρ = some ρ1) (h2 : mb ρ1 = .nx ρ2) : mLoop f mb (d :: ds) ρ = mLoop f mb ds ρ2 := by
  rw [mLoop]; simp only [h1, h2]
theorem mLoop_ret {f : MG} {mb : MS} {d : D} {ds : List D} {ρ ρ1 ρ2 : Env} {r : R} (h1 : f d ρ = some ρ1) (h2 : mb ρ1 = .ret r ρ2) : mLoop f mb (d :: ds) ρ = .ret r ρ2 := by
  rw [mLoop]; simp only [h1, h2]
theorem mLoop_exc {f : MG} {mb : MS} {d : D} {ds : List D} {ρ ρ1 ρ2 : Env} {x : Str} (h1 : f d ρ = some ρ1) (h2 : mb ρ1 = .exc x ρ2) : mLoop f mb (d :: ds) ρ = .exc x ρ2 := by
  rw [mLoop]; simp only [h1, h2]
theorem js_all (ρ : Env) : ∀ (ms : List ME) (acc : Str), acc.length + 1000 * ms.length ≤ sizeLine → (∀ m ∈ ms, ∃ y, y.length ≤ 1000 ∧ m ρ = .ok (.dd (.str y)) ρ) → ∃ s, mJs ms acc ρ = .ok (.dd (.str s)) ρ
  | [], acc, _, _ => ⟨acc, rfl⟩
  | m :: ms, acc, hl, h => by
    obtain ⟨y, hy, e⟩ := h m List.mem_cons_self
    have hc : (acc ++ y).length = acc.length + y.length := Str.length_append acc y
    simp only [List.length_cons] at hl
    obtain ⟨s, hs⟩ := js_all ρ ms (acc ++ y) (by rw [hc]; omega) fun m' hm => h m' (List.mem_cons_of_mem _ hm)
    refine ⟨s, ?_⟩
    unfold mJs
    have hz : (acc ++ y).length ≤ sizeLine := by rw [hc]; omega
    simp only [e, R.fix, use, if_pos hz]
    exact hs
theorem le_sz {n : Nat} (h : n ≤ 16777216) : n ≤ sizeLine := h
theorem cut_map {α β : Type} (f : α → β) (xs : List α) (lo hi : Option Int) : cut (xs.map f) lo hi = (cut xs lo hi).map f := by
  unfold cut; rw [List.length_map, ← List.map_drop, ← List.map_take]
theorem atI_nat {α : Type} (xs : List α) (i : Int) (h0 : 0 ≤ i) (h : i < xs.length) : atI xs i = xs[i.toNat]? := by
  unfold atI ixN; rw [if_pos h0, if_pos h]; rfl
theorem atI_lt {α : Type} (xs : List α) (i : Int) (h0 : 0 ≤ i) (h : i < xs.length) : ∃ x, x ∈ xs ∧ atI xs i = some x := by
  rw [atI_nat xs i h0 h]
  have : i.toNat < xs.length := by omega
  exact ⟨xs[i.toNat], List.getElem_mem this, List.getElem?_eq_getElem this⟩
instance (i j : Int) : Decidable (CMul i j) := by unfold CMul; infer_instance
/-! ### xs[a:] = ys -/
section
variable {prog : Program} {w : World} {A : Around} {E : Value → Shared → Prop} {s : Shared}
theorem from_run {k n : Nat} (h : k ≤ n) : sliceBounds (some (k : Int)) none none n = ((k : Int), (n : Int), 1) := by
  simp only [sliceBounds, Option.getD_none]
  have z1 : ¬ ((k : Int) < 0) := by omega
  simp only [z1, if_false, show (1 : Int) > 0 by decide, if_true]
  congr 1
  omega
theorem splice_from (olds news : List Value) (k : Nat) : olds.toArray.extract 0 k ++ news.toArray ++ olds.toArray.extract olds.toArray.size olds.toArray.size = (olds.take k ++ news).toArray := by
  apply Array.toList_inj.mp
  simp
set_option maxRecDepth 100000 in
theorem setFrom {lA bA sA : Addr} {olds news : Array Value} {nO nN : Nat} {va : Value} {k : Nat} {Q : Unit → Shared → Prop}
    (g1 : s.heap.get? lA = some { cls := .type "list", data := .seq olds nO }) (g2 : s.heap.get? bA = some { cls := .type "list", data := .seq news nN }) (g3 : lA ≠ bA)
    (g4 : s.heap.IsSliceOf sA va .none .none) (g5 : IsPart va (some (k : Int))) (g6 : k ≤ olds.size)
    (g7 : olds.size + news.size ≤ sizeLine) (g8 : Q () { s with heap := s.heap.update lA (Obj.mapSeq fun xs => xs.extract 0 k ++ news ++ xs.extract olds.size xs.size) }) :
    wpAny (model prog w) A (setItem (.ref lA) (.ref sA) (.ref bA)) Q E s := by
  have y1 : s.heap.IsList lA olds := PySem.IsL.isList g1
  have y2 : s.heap.IsList bA news := PySem.IsL.isList g2
  obtain ⟨os, y3, y4, y5⟩ := id g4
  have y6 : s.TypeIs (.ref sA) "slice" := ⟨os, y3, y4⟩
  have y7 : ¬ ((rawPart none == rawInt 0) = true) := Bool.false_ne_true
  have y8 : Builtin.List.listSameRef (.ref lA) (.ref bA) = false := by
    unfold Builtin.List.listSameRef; exact beq_eq_false_iff_ne.mpr g3
  have y9 : (max (k : Int) (olds.size : Int)).toNat = olds.size := by omega
  have ya : ((fun xs : Array Value => xs.extract 0 k ++ news ++ xs.extract olds.size xs.size) olds).size ≤ sizeLine + 1 := by
    simp only [Array.size_append, Array.size_extract]; omega
  unfold setItem; try with_reducible refine wpAny_holding ?_
  first | (refine wpAny_bind (wpAny_pure ?_)) | skip
  refine wpAny_bind (wpAny_sequenceKey y1.typeIs (by decide) ?_)
  refine wpAny_bind (wpAny_callSpecial?_slot (name := Str.ofString "__setitem__") y1.typeIs slot_list_setitem (wpAny_call_entry slot_list_setitem y1.typeIs entry_list_setitem ?_ (args_list_setitem _ _ _)))
  show wpAny _ _ (Builtin.List.listSubscript? (.ref sA) >>= _) _ _ s
  refine wpAny_bind ?_; unfold Builtin.List.listSubscript?
  refine wpAny_bind (wpAny_specialOf y6 slice_no_index ?_)
  simp only [Option.isNone_none, if_true]; refine wpAny_pure ?_
  show wpAny _ _ (typeOf (.ref sA) >>= _) _ _ s
  refine wpAny_bind (wpAny_typeOf y6 ?_)
  first | (rw [if_neg (by decide)]) | (refine PySem.W.KFB.if_not (by decide) ?_)
  rw [listSliceParts_eq]; refine wpAny_bind (wpAny_bind (wpAny_field y3 y5 (x := .none) rfl (wpAny_bind (wpAny_listPart .none ?_))))
  rw [if_neg y7]; refine wpAny_bind (wpAny_field y3 y5 (x := va) rfl (wpAny_bind (wpAny_listPart g5 ?_)))
  refine wpAny_bind (wpAny_field y3 y5 (x := .none) rfl (wpAny_bind (wpAny_listPart .none (wpAny_pure ?_))))
  first | (simp only [y8, Bool.false_eq_true, if_false]) | (refine PySem.W.KFB.if_not y8 ?_) | (dsimp only; rw [if_neg (by rw [y8]; exact Bool.false_ne_true)])
  refine wpAny_bind (m := Builtin.List.listAllItems (.ref bA) "must assign iterable to extended slice") ?_
  unfold Builtin.List.listAllItems; refine wpAny_bind (wpAny_typeOf y2.typeIs ?_)
  first | (refine PySem.W.KFB.if_so (by decide) ?_) | (rw [if_pos (by decide)]) | (simp only [beq_self_eq_true, Bool.true_or, if_true])
  unfold Builtin.List.listItems; refine wpAny_bind (wpAny_seqItems g2 rfl (wpAny_pure ?_))
  refine wpAny_bind (wpAny_bind (wpAny_seqItems g1 rfl (wpAny_pure ?_)))
  refine wpAny_bind (wpAny_of_eq ((sliceIndices_raw (some (k : Int)) none none olds.size (by simp)).trans (congrArg (pure : Int × Int × Int → Sem (Int × Int × Int)) (from_run g6))) ?_)
  show wpAny _ _ (if ((1 : Int) == 1) = true then _ else _) _ _ s
  rw [if_pos (by decide)]; refine wpAny_bind (wpAny_rule ?_)
  first | (simp only [notLongL g7, Bool.false_eq_true, if_false]) | (refine PySem.W.KFB.if_not (notLongL g7) ?_)
  first | (refine wpAny_bind (wpAny_pure ?_)) | skip
  show wpAny _ _ (updateSeq lA (fun xs => xs.extract 0 ((k : Int)).toNat ++ news ++ xs.extract (max (k : Int) (olds.size : Int)).toNat xs.size) >>= _) _ _ s
  rw [y9, Int.toNat_natCast]
  refine wpAny_bind (wpAny_updateSeq (hz := Nat.le_trans (Nat.le_add_right _ _) g7) (_hz' := ya) g1 rfl ?_)
  refine wpAny_bind (wpAny_letGo ?_)
  first | (exact wpAny_bind (wpAny_pure (wpAny_pure ⟨.none, rfl, wpAny_pure g8⟩))) | (exact wpAny_pure ⟨.none, rfl, wpAny_pure g8⟩)
end
section
variable {X : Cx}
theorem set_from {pins : List (Addr × Obj)} {s : Shared} {σ : St} {H : Hp} {l b sl : Addr} {xs ys : List V} {k : Int} {va : Value} {Q : Unit → Shared → Prop} (I : Inv X pins σ H s)
    (hH : H l = some (.lst xs)) (hB : H b = some (.lst ys)) (hne : l ≠ b) (g4 : s.heap.IsSliceOf sl va .none .none) (ra : IsPart va (some k)) (h0 : 0 ≤ k) (hk : k ≤ xs.length)
    (hz : xs.length + ys.length ≤ sizeLine) (h : ∀ s', Inv X pins σ (upd H l (.lst (xs.take k.toNat ++ ys))) s' → Q () s') :
    wpAny (model X.prog X.w) X.A (setItem (.ref l) (.ref sl) (.ref b)) Q X.xe s := by
  obtain ⟨z, its, n, r, hl, e⟩ := I.lstM hH
  obtain ⟨z2, its2, n2, r2, hl2, e2⟩ := I.lstM hB
  obtain ⟨k', rfl⟩ := Int.eq_ofNat_of_zero_le h0
  simp only [Int.toNat_natCast] at h
  refine setFrom (k := k') e e2 hne g4 ra (by rw [List.size_toArray]; omega) (by rw [List.size_toArray, List.size_toArray]; omega) (h _ ?_)
  refine I.lset (its' := its.take k' ++ its2) (t' := s.toks) hH e ?_ (Vals.append (r.take _) r2) ?_
  · exact splice_from its its2 k'
  · rw [List.length_append, List.length_take]; omega
/-- o[a:] = .. -/
def gFrom (to : TE) (tl : TO) : TG := fun v σ H Q => to σ H fun o H1 => tl σ H1 fun lo H2 => ∃ l b xs ys k, o = .ref l ∧ v = .ref b ∧ lo = some k ∧ H2 l = some (.lst xs) ∧ H2 b = some (.lst ys) ∧ l ≠ b ∧ 0 ≤ k ∧ k ≤ xs.length ∧ xs.length + ys.length ≤ sizeLine ∧ Q σ (upd H2 l (.lst (xs.take k.toNat ++ ys)))
theorem pg_from {o lo : Expr} {to : TE} {tl : TO} {p2 pos : Pos} (ho : PE X o to) (hl : PO X (some lo) tl)
    (ha : ∀ v, assign (.Subscript o (.Slice (some lo) none none p2) pos) X.env v = (do
      let ov ← holding [v] (eval o X.env)
      let iv ← holding [v, ov] (eval (.Slice (some lo) none none p2) X.env)
      standAt pos
      holding [v, ov, iv] (setItem ov iv v)
      release [iv, v, ov] []) := by intro _; rfl) : PG X (.Subscript o (.Slice (some lo) none none p2) pos) (gFrom to tl) := by
  refine ⟨fun pins s σ H v u Q I r h => ?_⟩
  rw [ha]
  refine wpAny_bind (wpAny_holding (thn (ho.run pins s σ H _ I h) fun ov s1 ⟨x, H1, I1, r1, q1⟩ => ?_))
  refine wpAny_bind (wpAny_holding (wpAny_Slice (thn (hl.run pins s1 σ H1 _ I1 q1) fun vl s2 ⟨l, H2, I2, pl, q2⟩ => ?_)))
  rw [evalPart_none]
  refine wpAny_pure (wpAny_pure ?_)
  have I4 : Inv X pins σ H2 { s2 with heap := s2.heap.push { cls := .type "slice", data := .fields #[vl, .none, .none] } } := I2.kept (t' := s2.toks) fun b ob q => Heap.get?_push_of_some _ q
  obtain ⟨la, ba, xs, ys, k, rfl, rfl, rfl, q3, q4, q5, q6, q7, q8, q9⟩ := q2
  cases r1
  cases r
  refine wpAny_bind (wpAny_standAt (wpAny_bind (wpAny_holding ?_)))
  refine set_from I4 q3 q4 q5 (Heap.IsSliceOf.new ..) pl q6 q7 q8 fun s' I' => ?_
  exact wpAny_release ⟨σ, _, I', q9⟩
end

/-- x[a:] = e, x an owned list -/
def mPutSl (i : Nat) (ml m : ME) : MS := fun ρ => match m ρ with
  | .ok r ρ1 => match frz r ρ1 with
    | some (.lst ys, ρ2) => match ownL ρ2 i with
      | none => .bad
      | some _ => match ml ρ2 with
        | .ok rl ρ3 => match use rl.fix ρ3 with
          | some (.int k) => match ownL ρ3 i with
            | some xs => if 0 ≤ k ∧ k.natAbs ≤ xs.length ∧ xs.length + ys.length ≤ sizeLine then .nx (ρ3.set i (.own (xs.take k.natAbs ++ ys))) else .bad
            | none => .bad
          | _ => .bad
        | .exc x ρ3 => .exc x ρ3
        | .bad => .bad
    | _ => .bad
  | .exc x ρ1 => .exc x ρ1
  | .bad => .bad
section
variable {X : Cx} {W : WX} {fx : List Bool} {o lo e : Expr} {te tl : TE} {me ml : ME} {pos pos' p2 : Pos}
theorem ds_putSl (i : Nat) (ho : DE X W o (tVar i) (mVar i)) (hl : DE X W lo tl ml) (he : DE X W e te me) (hs : swapsWithSole [.Subscript o (.Slice (some lo) none none p2) pos'] e pos.line X.env = pure false := by rfl) (hw : swappedStores [.Subscript o (.Slice (some lo) none none p2) pos'] e X.env = pure none := by rfl)
    (h1 : (assignEach [.Subscript o (.Slice (some lo) none none p2) pos'] X.env).map (·.2) = [assign (.Subscript o (.Slice (some lo) none none p2) pos') X.env] := by rfl)
    (ha : ∀ v, assign (.Subscript o (.Slice (some lo) none none p2) pos') X.env v = (do
      let ov ← holding [v] (eval o X.env)
      let iv ← holding [v, ov] (eval (.Slice (some lo) none none p2) X.env)
      standAt pos'
      holding [v, ov, iv] (setItem ov iv v)
      release [iv, v, ov] []) := by intro _; rfl) : DS X W fx (.Assign [.Subscript o (.Slice (some lo) none none p2) pos'] e pos) (tAsg te (gFrom (tVar i) (tPart tl))) (mPutSl i ml me) := by
  refine ⟨ps_asg he.pe (pg_from ho.pe (po_some hl.pe) ha) hs hw h1, fun vs0 Hr Hf H σ ρ D E p => he.se fx vs0 Hr Hf H σ ρ _ E ?_⟩
  unfold mPutSl at p
  cases hm : me ρ with
  | bad => simp only [hm] at p; exact p
  | exc x ρ1 => simp only [hm] at p; exact fun C h1 F H' e E' => p C h1 σ F H' e E'
  | ok r ρ1 =>
    simp only [hm] at p
    intro v F H1 e1 E1 q1
    cases hz : frz r ρ1 with
    | none => simp only [hz] at p; exact p.elim
    | some x =>
      obtain ⟨d, ρ2⟩ := x
      obtain ⟨F', e', E2, r2⟩ := frz_ok E1 q1 hz
      cases d with
      | lst ys =>
        simp only [hz] at p
        cases h2 : ownL ρ2 i with
        | none => simp only [h2] at p; exact p.elim
        | some xs0 =>
          simp only [h2] at p
          obtain ⟨a, u, s1, s2, vs0', rfl, s3⟩ := E2.ownAt (ownL_some h2) rfl
          refine ⟨.ref a, s1, hl.se fx vs0 Hr F' H1 σ ρ2 _ E2 ?_⟩
          cases hm2 : ml ρ2 with
          | bad => simp only [hm2] at p; exact p
          | exc x ρ3 => simp only [hm2] at p; exact fun C h1 F2 H' e E' => p C h1 σ F2 H' ((e1.trans e').trans e) E'
          | ok rl ρ3 =>
            simp only [hm2] at p
            intro vk F2 H2 e2 E3 q3
            obtain ⟨F3, e3, E4, q4⟩ := q3.fixed E3
            cases hu : use rl.fix ρ3 with
            | none => simp only [hu] at p; exact p.elim
            | some dk =>
              have uk := use_ok E4 q4 hu
              simp only [hu] at p
              cases dk with
              | int k =>
                cases (show vk = .int k from uk)
                simp only at p
                cases h3 : ownL ρ3 i with
                | none => simp only [h3] at p; exact p.elim
                | some xs =>
                  simp only [h3] at p
                  by_cases hc : 0 ≤ k ∧ k.natAbs ≤ xs.length ∧ xs.length + ys.length ≤ sizeLine
                  · rw [if_pos hc] at p
                    obtain ⟨c1, c2, c3⟩ := hc
                    obtain ⟨a', u, t1, t2, vs, rfl, t3⟩ := E4.ownAt (ownL_some h3) rfl
                    rw [s1] at t1; cases t1
                    obtain ⟨b, ws, rfl, b1, b2⟩ := r2.mono (e2.trans e3)
                    have hab : a ≠ b := fun z => by
                      subst z
                      obtain ⟨a2, u2, k1, k2, k3, k4, k5⟩ := (E4.cel i _ (ownL_some h3)).own rfl
                      rw [joinEq, s1] at k1; cases k1
                      rw [k4] at b1; cases b1
                    have kk : k.toNat = k.natAbs := by omega
                    refine ⟨k, rfl, ?_⟩
                    refine ⟨a, b, vs, ws, k, rfl, rfl, rfl, t2, E4.sub _ _ b1, hab, c1, by rw [t3.length]; omega, by rw [t3.length, b2.length]; exact c3, ?_⟩
                    rw [kk]
                    exact p σ F3 _ (((e1.trans e').trans e2).trans e3) (E4.mutate (ownL_some h3) rfl s1 ⟨_, rfl, (t3.take _).append b2⟩)
                  · rw [if_neg hc] at p; exact p.elim
              | _ => exact p.elim
      | _ => simp only [hz] at p; exact p.elim
end
/-! ### enumerate(xs) -/
def enumD : Nat → List D → List D
  | _, [] => []
  | n, d :: ds => .tup [.int n, d] :: enumD (n + 1) ds
theorem enumD_get : ∀ (n : Nat) (ds : List D) (i : Nat), (enumD n ds)[i]? = (ds[i]?).map fun d => .tup [.int ((n + i : Nat)), d]
  | _, [], i => by simp [enumD]
  | n, d :: ds, 0 => by simp [enumD]
  | n, d :: ds, i + 1 => by
    have := enumD_get (n + 1) ds i
    simp only [enumD, List.getElem?_cons_succ, this]
    rw [show n + 1 + i = n + (i + 1) by omega]
theorem enumD_len : ∀ (n : Nat) (ds : List D), (enumD n ds).length = ds.length
  | _, [] => rfl
  | n, d :: ds => by simp [enumD, enumD_len (n + 1) ds]
def miEnum (m : ME) : MI := fun ρ => match m ρ with
  | .ok r ρ1 => match frz r ρ1 with
    | some (.lst ds, ρ2) => .ok (enumD 0 ds) ρ2
    | _ => .bad
  | .exc x ρ1 => .exc x ρ1
  | .bad => .bad
theorem yields_e {K : PySem.W.Frag} {mg : Str → Option Value} {Hf : Hp} {a : Addr} {vs : List V} {ds : List D} (h : SqL K Hf a vs) (r : RepL K mg Hf ds vs) : Yields K mg Hf (Ite K a) (enumD 0 ds) := by
  refine ⟨fun H e i hi => ?_, fun H e => ⟨vs, e.sql h, by rw [r.length, enumD_len]; exact Nat.le_refl _⟩, fun H e i x H' hi y => ?_⟩
  · rw [enumD_len] at hi
    exact ⟨vs, vs[i]'(by rw [r.length]; exact hi), e.sql h, by simp [r.length, hi]⟩
  · obtain ⟨T, z, rfl, h1, h2, h3⟩ := y
    have hx := h3 vs (e.sql h)
    obtain ⟨d, k1, k2⟩ := r.getV hx
    refine ⟨.tup [.int (i : Nat), d], by rw [enumD_get, k1]; simp, .inr ⟨T, [.int (i : Nat), z], [.int (i : Nat), d], h1, h2, rfl, rfl, .cons rfl (.cons k2 .nil)⟩⟩
theorem di_enum {X : Cx} {W : WX} {a : Expr} {ta : TE} {m : ME} {p pos tpos : Pos} {elts : List Expr} {kk : Nat} (h : DE X W a ta m) (hm : X.mg "enumerate" = none) (hg : Gl X "enumerate" := by rfl) (hs : starEach [a] X.env = [(false, eval a X.env)] := by rfl) (hs2 : starEach (a :: []) X.env = (false, eval a X.env) :: starEach [] X.env := by rfl) :
    DI X W (.Tuple elts kk tpos) (.Call (.Name "enumerate" p) [a] [] pos) (iEnum X.K (tCons ta tNil)) (miEnum m) := by
  refine ⟨pi_enum hg hm (pa_cons h.pe pa_nil hs2) hs, fun fx vs0 Hr Hf H σ ρ R E q => ?_⟩
  refine h.se fx vs0 Hr Hf H σ ρ _ E ?_
  unfold miEnum at q
  cases hm : m ρ with
  | bad => rw [hm] at q; exact q
  | exc x ρ1 => rw [hm] at q; exact q
  | ok r ρ1 =>
    simp only [hm] at q
    intro v F H1 e1 E1 q1
    cases hz : frz r ρ1 with
    | none => simp only [hz] at q; exact q.elim
    | some x =>
      obtain ⟨d, ρ2⟩ := x
      obtain ⟨F', e', E2, r2⟩ := frz_ok E1 q1 hz
      cases d with
      | lst ds =>
        simp only [hz] at q
        obtain ⟨b, ws, rfl, b1, b2⟩ := r2
        exact ⟨b, ws, rfl, .of (E2.sub _ _ b1), q (Ite X.K b) F' H1 (e1.trans e') E2 (yields_e (.of b1) b2)⟩
      | _ => simp only [hz] at q; exact q.elim
/-- how many turns a while is followed -/
def whileMost : Nat := 1048576
/-! ### == and != of two dicts that are alike -/
section
variable {X : Cx}
theorem hits_F {A : Around} {s : Shared} {F : V → V → Prop} (ih : ∀ x y v u, F x y → RelV x v → RelV y u → SeqAt.EqAt A s v u true) {ls : List (Key × V)} {vb : List (Key × Value)} (hb : KV ls vb) {ks : List (Key × V)} {va : List (Key × Value)}
    (ha : KV ks va) : (∀ p ∈ ks, ∃ u, valV ls p.1 = some u ∧ F p.2 u) → PySem.W.KeqHits A s vb va true := by
  unfold KV at ha
  induction ha with
  | nil => exact fun _ => .nil
  | @cons p q ps qs h t k =>
    intro hp
    obtain ⟨u, e, f⟩ := hp p List.mem_cons_self
    have z : RelO (some u) (valueAt vb p.1) := by rw [← e]; exact hb.val p.1
    obtain ⟨y, hy, ry⟩ := z.some_of
    obtain ⟨key, v⟩ := q
    obtain ⟨h1, h2⟩ := h
    have h1' : p.1 = key := h1
    rw [h1'] at hy
    exact (.hit hy (ih _ _ _ _ f h2 ry) (k fun p' hm => hp p' (List.mem_cons_of_mem _ hm)) : PySem.W.KeqHits A s vb ((key, v) :: qs) (true && true))
def Lk (K : PySem.W.Frag) (H : Hp) (x y : V) : Prop := ∃ d e, Dp K H x d ∧ Dp K H y e ∧ SeqAt.shaped d = true ∧ SeqAt.shaped e = true ∧ PyData.eqv d e = true
def rEqK (K : PySem.W.Frag) (r : Bool) : R2 := fun x y H Q => ∃ a b ks ls, x = .ref a ∧ y = .ref b ∧ H a = some (.dK ks) ∧ H b = some (.dK ls) ∧ ks.length = ls.length ∧ (∀ p ∈ ks, ∃ u, valV ls p.1 = some u ∧ Lk K H p.2 u) ∧ Q (.bl r) H
theorem lk_run {pins : List (Addr × Obj)} {s : Shared} {σ : St} {H : Hp} (I : Inv X pins σ H s) (hu : X.A.units + 65 < cLine) : ∀ x y v u, Lk X.K H x y → RelV x v → RelV y u → SeqAt.EqAt X.A.in1 s v u true := by
  rintro x y v u ⟨d, e, hd, he, sd, se, h⟩ rx ry
  obtain ⟨as, r1⟩ := Dp.reads I d x v hd rx
  obtain ⟨bs, r2⟩ := Dp.reads I e y u he ry
  rw [← h]
  exact PySem.W.keq_at r1 r2 sd se (by show X.A.units + 1 + 64 < cLine; omega)
theorem op_eqK (hu : X.A.units + 65 < cLine) : OpR X (compareOp .Eq) (rEqK X.K true) := by
  intro pins s σ H x y v u Q I rx ry h
  obtain ⟨a, b, ks, ls, rfl, rfl, ea, eb, hl, hp, q⟩ := h
  obtain rfl : v = Value.ref a := rx
  obtain rfl : u = Value.ref b := ry
  obtain ⟨_, ya, va, ra, da⟩ := (show ObjOk X.prog X.w H s.heap a (.dK ks) from I.hok a _ ea)
  obtain ⟨_, yb, vb, rb, db⟩ := (show ObjOk X.prog X.w H s.heap b (.dK ls) from I.hok b _ eb)
  have hl : va.length = vb.length := by rw [← ra.length, ← rb.length]; exact hl
  refine PySem.W.keq_eq (knd := mixKind X.prog X.w) (r := true) ya yb da db (by omega) (fun _ => hits_F (lk_run I hu) rb ra hp) ?_
  rw [show (va.length == vb.length && true) = true by simp [hl]]
  exact ⟨.bl true, H, I, rfl, q⟩
theorem op_neK (hu : X.A.units + 65 < cLine) : OpR X (compareOp .NotEq) (rEqK X.K false) := by
  intro pins s σ H x y v u Q I rx ry h
  obtain ⟨a, b, ks, ls, rfl, rfl, ea, eb, hl, hp, q⟩ := h
  obtain rfl : v = Value.ref a := rx
  obtain rfl : u = Value.ref b := ry
  obtain ⟨_, ya, va, ra, da⟩ := (show ObjOk X.prog X.w H s.heap a (.dK ks) from I.hok a _ ea)
  obtain ⟨_, yb, vb, rb, db⟩ := (show ObjOk X.prog X.w H s.heap b (.dK ls) from I.hok b _ eb)
  have hl : va.length = vb.length := by rw [← ra.length, ← rb.length]; exact hl
  refine PySem.W.keq_ne (knd := mixKind X.prog X.w) (r := true) ya yb da db (by omega) (fun _ => hits_F (lk_run I hu) rb ra hp) ?_
  rw [show (!(va.length == vb.length && true)) = false by simp [hl]]
  exact ⟨.bl false, H, I, rfl, q⟩
end
/-- the data are alike -/
def eqKB (vs ws : List D) : Bool := match pyL vs, pyL ws with
  | some ps, some qs => decide (ps.length = qs.length) && ps.all SeqAt.shaped && qs.all SeqAt.shaped && (ps.zip qs).all fun pq => PyData.eqv pq.1 pq.2
  | _, _ => false
def oEqK (r : Bool) (a b : D) : Option R := match a, b with
  | .dct ks vs, .dct ls ws => if ks = ls ∧ eqKB vs ws = true then some (.dd (.bl r)) else none
  | _, _ => none
theorem eqKB_same {vs : List D} {ps : List PyData} (h : pyL vs = some ps) (hs : ∀ p ∈ ps, SeqAt.shaped p = true) : eqKB vs vs = true := by
  have z : ∀ qs : List PyData, (∀ p ∈ qs, SeqAt.shaped p = true) → (qs.zip qs).all (fun pq => PyData.eqv pq.1 pq.2) = true := fun qs => by
    induction qs with
    | nil => exact fun _ => rfl
    | cons q qs ih =>
      intro hq
      rw [List.zip_cons_cons, List.all_cons, ih fun p hp => hq p (List.mem_cons_of_mem _ hp), SeqAt.eqv_refl _ (SeqAt.canLay_of_shaped (hq q List.mem_cons_self))]; rfl
  have a : ps.all SeqAt.shaped = true := List.all_eq_true.mpr hs
  simp only [eqKB, h, a, z ps hs, decide_true, Bool.and_self]
theorem dget_at : ∀ {ks : List Key} {ds : List D} {i : Nat} {k : Key} {d : D}, ks.Nodup → ks[i]? = some k → ds[i]? = some d → dget ks ds k = some d
  | [], _, _, _, _, _, h, _ => by simp at h
  | _ :: _, [], _, _, _, _, _, h => by simp at h
  | k0 :: ks, d0 :: ds, 0, _, _, _, h, h' => by simp at h h'; subst h; subst h'; simp [dget]
  | k0 :: ks, d0 :: ds, i + 1, k, d, n, h, h' => by
    simp at h h'
    have hm : k ∈ ks := by obtain ⟨hh, e⟩ := List.getElem?_eq_some_iff.mp h; rw [← e]; exact List.getElem_mem hh
    have hne : k0 ≠ k := fun z => (List.nodup_cons.mp n).1 (z ▸ hm)
    have := dget_at (List.nodup_cons.mp n).2 h h'
    unfold dget
    rw [if_neg hne]; exact this
theorem pyL_get : ∀ {ds : List D} {ps : List PyData} {i : Nat} {d : D}, pyL ds = some ps → ds[i]? = some d → ∃ p, ps[i]? = some p ∧ d.py = some p
  | [], _, _, _, _, h => by simp at h
  | d :: ds, ps, i, d', e, h => by
    unfold pyL at e
    cases hd : d.py with
    | none => simp only [hd] at e; cases e
    | some p =>
      cases hs : pyL ds with
      | none => simp only [hd, hs] at e; cases e
      | some qs =>
        simp only [hd, hs, Option.some.injEq] at e; subst e
        cases i with
        | zero => simp at h; subst h; exact ⟨p, rfl, hd⟩
        | succ i => simp at h; obtain ⟨q, h1, h2⟩ := pyL_get (i := i) hs h; exact ⟨q, by simpa using h1, h2⟩
theorem pyL_len : ∀ {ds : List D} {ps : List PyData}, pyL ds = some ps → ps.length = ds.length
  | [], _, e => by cases e; rfl
  | d :: ds, ps, e => by
    unfold pyL at e
    cases hd : d.py with
    | none => simp only [hd] at e; cases e
    | some p =>
      cases hs : pyL ds with
      | none => simp only [hd, hs] at e; cases e
      | some qs => simp only [hd, hs, Option.some.injEq] at e; subst e; simp [pyL_len hs]
theorem os_eqK {K : PySem.W.Frag} {mg : Str → Option Value} {gs : List Nat} {r : Bool} : OpS K mg gs (rEqK K r) (oEqK r) := by
  intro fx vs0 Hr Hf H σ ρ a b x y z Q E ra rb e q
  cases a with
  | dct ks vs =>
    cases b with
    | dct ls ws =>
      dsimp only [oEqK] at e
      by_cases hc : ks = ls ∧ eqKB vs ws = true
      · rw [if_pos hc] at e; cases e
        obtain ⟨rfl, hb⟩ := hc
        obtain ⟨a, kvs, rfl, a1, a2, a3, a4⟩ := ra
        obtain ⟨b, lvs, rfl, b1, b2, b3, b4⟩ := rb
        unfold eqKB at hb
        cases hp : pyL vs with
        | none => simp only [hp] at hb; cases hb
        | some ps =>
          cases hq : pyL ws with
          | none => simp only [hp, hq] at hb; cases hb
          | some qs =>
            simp only [hp, hq, Bool.and_eq_true, decide_eq_true_eq] at hb
            obtain ⟨⟨⟨h1, h2⟩, h3⟩, h4⟩ := hb
            refine ⟨a, b, kvs, lvs, rfl, rfl, a1, b1, by rw [← List.length_map (f := Prod.fst) (as := kvs), a2, ← b2, List.length_map], fun p hm => ?_, E.giveD q rfl⟩
            obtain ⟨i, hi, e⟩ := List.getElem_of_mem hm
            have k1 : ks[i]? = some p.1 := by rw [← a2, List.getElem?_map, List.getElem?_eq_getElem hi, e]; rfl
            have hv : (kvs.map (·.2))[i]? = some p.2 := by rw [List.getElem?_map, List.getElem?_eq_getElem hi, e]; rfl
            obtain ⟨d, d1, d2⟩ := a4.getV hv
            obtain ⟨dp, d3, d4⟩ := pyL_get hp d1
            have hi2 : i < qs.length := by rw [← h1]; exact (List.getElem?_eq_some_iff.mp d3).1
            have hi3 : i < ws.length := by rw [← pyL_len hq]; exact hi2
            have w1 : ws[i]? = some ws[i] := List.getElem?_eq_getElem hi3
            obtain ⟨eq, w2, w3⟩ := pyL_get hq w1
            obtain ⟨u, u1, u2⟩ := dget_some (k := p.1) b2 b4 (dget_at (b2 ▸ b3 : ks.Nodup) k1 w1)
            refine ⟨u, u1, dp, eq, d2.dp E.sub d4, u2.dp E.sub w3, List.all_eq_true.mp h2 _ (List.mem_of_getElem? d3), List.all_eq_true.mp h3 _ (List.mem_of_getElem? w2), ?_⟩
            exact List.all_eq_true.mp h4 (dp, eq) (List.mem_of_getElem? (i := i) (by rw [List.getElem?_zip_eq_some]; exact ⟨d3, w2⟩))
      · rw [if_neg hc] at e; cases e
    | _ => cases e
  | _ => cases e
theorem room65 {k : Nat} {A : Around} (r : Room k A) : A.units + 65 < cLine := by have := r.un; omega
/-! ### {x: const} -/
section
variable {X : Cx} {W : WX} {pos : Pos}
def mDictV (i : Nat) (d : D) : ME := fun ρ => match ρ[i]? with
  | some (.val kd) => match kd.key with
    | some k => .ok (.ow (.ownD [k] [d])) ρ
    | none => .bad
  | _ => .bad
theorem Rep.key {K : PySem.W.Frag} {mg : Str → Option Value} {H : Hp} {d : D} {v : V} {k : Key} (h : Rep K mg H d v) (e : d.key = some k) : v = kV k := by
  cases d <;> cases e <;> exact h
theorem de_dictV {ke ve : Expr} {i : Nat} {mi : ME} (d : D) (hk : DE X W ke (tVar i) mi) (hv : PE X ve (tC (cV d))) (hc : cOk d = true) : DE X W (.Dict [some ke] [ve] pos) (tDisp [(tVar i, tC (cV d))]) (mDictV i d) := by
  refine ⟨pe_disp (pps_cons hk.pe hv pps_nil) rfl rfl (by simp) (by simp), fun fx vs0 Hr Hf H σ ρ Q E p => fun l hl => ?_⟩
  unfold mDictV at p
  cases hz : ρ[i]? with
  | none => rw [hz] at p; exact p.elim
  | some c =>
    rw [hz] at p
    cases c with
    | val kd =>
      simp only at p
      cases hq : kd.key with
      | none => rw [hq] at p; exact p.elim
      | some k =>
        rw [hq] at p
        obtain ⟨v, e, r⟩ := E.cel i _ hz
        have ev := Rep.key r hq
        subst ev
        refine ⟨_, joinEq.mp e, upd_same, [(k, cV d)], rfl, by simp, ?_⟩
        rw [upd_upd]
        exact p (.ref l) Hf _ (Ext.refl _) (E.newO hl) (E.newR hl ⟨_, rfl, rfl, by simp, ⟨cV d, [], rfl, cV_rep hc, rfl⟩⟩)
    | _ => exact p.elim
end
/-! ### all, max of a list, x.pop(k) of a dict, for k in dict -/
def oAll : D → Option R
  | .lst xs => (bools xs).map fun bs => .dd (.bl (bs.all id))
  | _ => none
theorem cs_all {K : PySem.W.Frag} {mg : Str → Option Value} {gs : List Nat} : CS1 K mg gs (rAll K) oAll := by
  intro fx vs0 Hr Hf H σ ρ a x z Q E ra e q
  cases a with
  | lst xs =>
    obtain ⟨bs, e1, rfl⟩ := Option.map_eq_some_iff.mp e
    obtain ⟨l, vs, rfl, h1, h2⟩ := ra
    have := bools_rep h2 e1
    subst this
    exact ⟨l, bs, rfl, .of h1, E.giveD q rfl⟩
  | _ => cases e
def intsD : List D → Option (List Int)
  | [] => some []
  | .int b :: ds => (intsD ds).map (b :: ·)
  | _ => none
theorem ints_rep {K : PySem.W.Frag} {mg : Str → Option Value} {Hf : Hp} : ∀ {ds : List D} {vs : List V} {bs : List Int}, RepL K mg Hf ds vs → intsD ds = some bs → vs = bs.map V.int
  | [], _, _, h, e => by have h : _ = [] := h; subst h; cases e; rfl
  | .int b :: ds, _, _, ⟨v, ws, h1, h2, h3⟩, e => by
    obtain ⟨cs, e1, rfl⟩ := Option.map_eq_some_iff.mp e
    subst h1
    rw [ints_rep h3 e1]
    cases (show v = .int b from h2)
    rfl
  | .non :: _, _, _, _, e => by cases e
  | .bl _ :: _, _, _, _, e => by cases e
  | .str _ :: _, _, _, _, e => by cases e
  | .ty _ :: _, _, _, _, e => by cases e
  | .fn _ :: _, _, _, _, e => by cases e
  | .lst _ :: _, _, _, _, e => by cases e
  | .fls _ :: _, _, _, _, e => by cases e
  | .tup _ :: _, _, _, _, e => by cases e
  | .dct _ _ :: _, _, _, _, e => by cases e
  | .fdct _ _ :: _, _, _, _, e => by cases e
def maxO (a : Int) : List Int → Int
  | [] => a
  | b :: r => maxO (if b > a then b else a) r
theorem maxO_ge : ∀ (r : List Int) (a : Int), a ≤ maxO a r ∧ (∀ y ∈ r, y ≤ maxO a r) ∧ (maxO a r = a ∨ maxO a r ∈ r)
  | [], a => ⟨Int.le_refl _, by simp, .inl rfl⟩
  | b :: r, a => by
    obtain ⟨h1, h2, h3⟩ := maxO_ge r (if b > a then b else a)
    show a ≤ maxO (if b > a then b else a) r ∧ _
    have e : maxO a (b :: r) = maxO (if b > a then b else a) r := rfl
    rw [e]
    have h4 : a ≤ (if b > a then b else a) ∧ b ≤ (if b > a then b else a) := by split <;> omega
    refine ⟨Int.le_trans h4.1 h1, fun y hy => ?_, ?_⟩
    · rcases List.mem_cons.mp hy with rfl | hy
      · exact Int.le_trans h4.2 h1
      · exact h2 y hy
    · rcases h3 with h3 | h3
      · by_cases hb : b > a
        · rw [if_pos hb] at h3 ⊢; rw [h3]; exact .inr List.mem_cons_self
        · rw [if_neg hb] at h3 ⊢; exact .inl h3
      · exact .inr (List.mem_cons_of_mem _ h3)
def oMaxL : D → Option R
  | .lst xs => match intsD xs with
    | some (a :: r) => some (.dd (.int (maxO a r)))
    | _ => none
  | _ => none
theorem cs_maxL {K : PySem.W.Frag} {mg : Str → Option Value} {gs : List Nat} : CS1 K mg gs (rMax K) oMaxL := by
  intro fx vs0 Hr Hf H σ ρ a x z Q E ra e q
  cases a with
  | lst xs =>
    unfold oMaxL at e
    cases hi : intsD xs with
    | none => simp only [hi] at e; cases e
    | some ns =>
      cases ns with
      | nil => simp only [hi] at e; cases e
      | cons m r =>
        simp only [hi] at e
        cases e
        obtain ⟨l, vs, rfl, h1, h2⟩ := ra
        have := ints_rep h2 hi
        subst this
        obtain ⟨g1, g2, g3⟩ := maxO_ge r m
        refine ⟨l, m :: r, rfl, .of h1, by simp, fun y hy hm => ?_⟩
        have : y = maxO m r := by
          have a1 : maxO m r ≤ y := by
            rcases g3 with g3 | g3
            · rw [g3]; exact hm m List.mem_cons_self
            · exact hm _ (List.mem_cons_of_mem _ g3)
          have a2 : y ≤ maxO m r := by
            rcases List.mem_cons.mp hy with rfl | hy
            · exact g1
            · exact g2 y hy
          omega
        rw [this]
        exact E.giveD q rfl
  | _ => cases e
def ddrop : List Key → List D → Key → List Key × List D
  | k' :: ks, v :: vs, k => if k' = k then ddrop ks vs k else (k' :: (ddrop ks vs k).1, v :: (ddrop ks vs k).2)
  | _, _, _ => ([], [])
theorem ddrop_ok {K : PySem.W.Frag} {mg : Str → Option Value} {Hf : Hp} {k : Key} : ∀ {kvs : List (Key × V)} {ks : List Key} {ds : List D}, kvs.map (·.1) = ks → ks.Nodup → RepL K mg Hf ds (kvs.map (·.2)) →
    (dropK kvs k).map (·.1) = (ddrop ks ds k).1 ∧ RepL K mg Hf (ddrop ks ds k).2 ((dropK kvs k).map (·.2)) ∧ ((ddrop ks ds k).1).Nodup ∧ (∀ x, x ∈ (ddrop ks ds k).1 → x ∈ ks)
  | [], _, [], h, n, r => by
    subst h
    exact ⟨rfl, rfl, by simp [ddrop], fun x hx => by simp [ddrop] at hx⟩
  | [], _, _ :: _, h, n, ⟨_, _, h1, _⟩ => by cases h1
  | p :: kvs, _, [], h, n, r => by have := r.length; simp at this
  | p :: kvs, _, d' :: ds, h, n, ⟨w, ws, h1, h2, h3⟩ => by
    subst h
    have h1 : p.2 :: kvs.map (·.2) = w :: ws := h1
    cases h1
    obtain ⟨k1, k2, k3, k4⟩ := ddrop_ok (k := k) (kvs := kvs) rfl (List.nodup_cons.mp n).2 h3
    by_cases hk : p.1 = k
    · have e : dropK (p :: kvs) k = dropK kvs k := by unfold dropK; rw [List.filter_cons, if_neg (by simp [hk])]
      rw [e]
      simp only [List.map_cons, ddrop, if_pos hk]
      exact ⟨k1, k2, k3, fun x hx => List.mem_cons_of_mem _ (k4 x hx)⟩
    · have e : dropK (p :: kvs) k = p :: dropK kvs k := by unfold dropK; rw [List.filter_cons, if_pos (by simp [hk])]
      rw [e]
      simp only [List.map_cons, ddrop, if_neg hk]
      refine ⟨by rw [k1], ⟨p.2, _, rfl, h2, k2⟩, List.nodup_cons.mpr ⟨fun z => (List.nodup_cons.mp n).1 (k4 _ z), k3⟩, fun x hx => ?_⟩
      rcases List.mem_cons.mp hx with rfl | hx
      · exact List.mem_cons_self
      · exact List.mem_cons_of_mem _ (k4 x hx)
def ownK (ρ : Env) (i : Nat) : Option (List Key × List D) := match ρ[i]? with
  | some (.ownD ks vs) => some (ks, vs)
  | _ => none
theorem ownK_some {ρ : Env} {i : Nat} {x : List Key × List D} (h : ownK ρ i = some x) : ρ[i]? = some (.ownD x.1 x.2) := by
  unfold ownK at h
  split at h
  · rename_i ks vs e; cases h; exact e
  · cases h
/-- x.pop(k) -/
def mDPop (i : Nat) (mk : ME) : ME := fun ρ => match ownK ρ i with
  | none => .bad
  | some _ => match mk ρ with
    | .ok rk ρ1 => match use rk.fix ρ1 with
      | some kd => match kd.key with
        | some k => match ownK ρ1 i with
          | some x => match dget x.1 x.2 k with
            | some d => .ok (.dd d) (ρ1.set i (.ownD (ddrop x.1 x.2 k).1 (ddrop x.1 x.2 k).2))
            | none => .bad
          | none => .bad
        | none => .bad
      | none => .bad
    | .exc x ρ1 => .exc x ρ1
    | .bad => .bad
section
variable {X : Cx} {W : WX} {o e : Expr} {te : TE} {me : ME} {apos cpos : Pos}
theorem de_dpop (i : Nat) (ho : DE X W o (tVar i) (mVar i)) (he : DE X W e te me) (hbase : attributeBase o "pop" X.env (eval o X.env) = eval o X.env := by rfl)
    (hfew : ((backTo cpos (starEach [e] X.env)).all (fun x => !x.1) && (backToKw cpos (keywordEach [] X.env)).all (fun x => x.1.isSome)
      && decide (([e] : List Expr).length + ([] : List Keyword).length + (if ([] : List Keyword).isEmpty then 0 else 1) < 30)) = true := by rfl)
    (hline : (apos.endLine == cpos.line) = true := by rfl) (ht : backTo cpos (starEach [e] X.env) = [(false, eval e X.env)] := by rfl) :
    DE X W (.Call (.Attribute o "pop" apos) [e] [] cpos) (tDPop1 (tVar i) te) (mDPop i me) := by
  refine ⟨pe_dpop1 ho.pe he.pe ⟨hbase, hfew, hline, ht⟩, fun fx vs0 Hr Hf H σ ρ Q E p => ?_⟩
  unfold mDPop at p
  cases h0 : ownK ρ i with
  | none => simp only [h0] at p; exact p.elim
  | some x0 =>
    simp only [h0] at p
    obtain ⟨a, u, s1, s2, kvs0, rfl, s3, s4, s5⟩ := E.ownAt (ownK_some h0) rfl
    refine ⟨.ref a, s1, a, rfl, ?_, he.se fx vs0 Hr Hf H σ ρ _ E ?_⟩
    · exact .inl ⟨_, .of s2⟩
    cases hm : me ρ with
    | bad => simp only [hm] at p; exact p
    | exc x ρ1 => simp only [hm] at p; exact p
    | ok rk ρ1 =>
      simp only [hm] at p
      intro vk F2 H2 e2 E3 q3
      obtain ⟨F3, e3, E4, q4⟩ := q3.fixed E3
      cases hu2 : use rk.fix ρ1 with
      | none => simp only [hu2] at p; exact p.elim
      | some kd =>
        have uk := use_ok E4 q4 hu2
        simp only [hu2] at p
        cases hkk : kd.key with
        | none => simp only [hkk] at p; exact p.elim
        | some kk =>
          simp only [hkk] at p
          cases h3 : ownK ρ1 i with
          | none => simp only [h3] at p; exact p.elim
          | some x3 =>
            simp only [h3] at p
            obtain ⟨b, u, t1, t2, kvs, rfl, t3, t4, t5⟩ := E4.ownAt (ownK_some h3) rfl
            rw [s1] at t1; cases t1
            cases hd : dget x3.1 x3.2 kk with
            | none => simp only [hd] at p; exact p.elim
            | some d =>
              simp only [hd] at p
              obtain ⟨v, g1, g2⟩ := dget_some t3 t5 hd
              obtain ⟨z1, z2, z3, _⟩ := ddrop_ok (k := kk) t3 t4 t5
              exact ⟨kvs, kk, v, t2, uk.key hkk, g1, p v F3 _ (e2.trans e3) (E4.mutate (ownK_some h3) rfl s1 ⟨_, rfl, z1, z3, z2⟩) g2⟩
end
/-! ### for k in d: the dict is locked from there on -/
section
variable {K : PySem.W.Frag} {mg : Str → Option Value} {gs : List Nat} {fx : List Bool} {vs0 : List V} {Hr Hf H : Hp} {σ : St} {ρ : Env}
theorem EnvOk.lockAt {i : Nat} {ks : List Key} {ds : List D} {a : Addr} {kvs : List (Key × V)} (E : EnvOk K mg gs fx vs0 Hr Hf H σ ρ) (hs : σ[i]? = some (some (.ref a))) (hc : ρ[i]? = some (.ownD ks ds)) (ha : H a = some (.dK kvs)) (od : Obj) :
    EnvOk K mg gs fx vs0 Hr (upd Hf a (.frz od (.dK kvs))) (upd H a (.frz od (.dK kvs))) σ (ρ.set i (.val (.fdct ks ds))) ∧ Ext Hf (upd Hf a (.frz od (.dK kvs))) := by
  obtain ⟨a', u, h1, h2, h3, h4, h5⟩ := (E.cel i _ hc).own rfl
  rw [joinEq, hs] at h1
  cases h1
  obtain ⟨kvs', e, k1, k2, k3⟩ := h3
  subst e
  rw [ha] at h2
  cases h2
  have hi : i < ρ.length := (List.getElem?_eq_some_iff.mp hc).1
  have own' : ∀ {j : Nat} {b : Addr}, OwnAt σ (ρ.set i (.val (.fdct ks ds))) j b → OwnAt σ ρ j b ∧ j ≠ i := fun {j b} ⟨⟨c', hc', ho'⟩, hs'⟩ => by
    by_cases hj : i = j
    · subst hj; rw [List.getElem?_set_self hi] at hc'; cases hc'; cases ho'
    · rw [List.getElem?_set_ne hj] at hc'
      exact ⟨⟨⟨c', hc', ho'⟩, hs'⟩, fun z => hj z.symm⟩
  refine ⟨⟨by rw [List.length_set]; exact E.len, fun b o h => ?_, fun b o h => ?_, fun b o h => ?_, fun j c' hc' => ?_, fun j k b p q => E.inj j k b (own' p).1 (own' q).1, E.fix, fun j c' hc' => ?_⟩, Ext.new h4⟩
  · by_cases hb : b = a
    · subst hb; rw [upd_same] at h ⊢; exact h
    · rw [upd_ne hb] at h ⊢; exact E.sub b o h
  · by_cases hb : b = a
    · subst hb; rw [h5] at h; cases h
    · rw [upd_ne hb]; exact E.frm b o h
  · by_cases hb : b = a
    · subst hb; rw [h5] at h; cases h
    · rw [upd_ne hb]; exact E.dis b o h
  · by_cases hj : i = j
    · subst hj
      rw [List.getElem?_set_self hi] at hc'; cases hc'
      exact ⟨_, joinEq.mpr hs, a, od, kvs, rfl, upd_same, k1, k2, k3.mono (Ext.new h4)⟩
    · rw [List.getElem?_set_ne hj] at hc'
      refine (E.cel j c' hc').step (Ext.new h4) fun ho' b o k1 k2 k3 k4 => ?_
      have : b ≠ a := fun z => by
        subst z
        exact hj (E.inj i j b ⟨⟨_, hc, rfl⟩, hs⟩ ⟨⟨c', hc', ho'⟩, joinEq.mp k1⟩)
      rw [upd_ne this, upd_ne this]; exact ⟨k2, k3, k4⟩
  · by_cases hj : i = j
    · subst hj
      rw [List.getElem?_set_self hi] at hc'; cases hc'; trivial
    · rw [List.getElem?_set_ne hj] at hc'; exact (E.lnk j c' hc').mono (Ext.new h4)
end
/-- the statement runs as it is, or with a dict locked -/
def tLk (t : TS) : TS := fun D σ H => t D σ H ∨ ∃ d u, H d = some u ∧ Mut (some u) ∧ ∀ od, t D σ (upd H d (.frz od u))
theorem ps_lk {X : Cx} {st : Stmt} {t : TS} (h : PS X st t) : PS X st (tLk t) := by
  refine ⟨fun pins s σ H D I hw => ?_⟩
  rcases hw with hw | ⟨d, u, hd, mu, hw⟩
  · exact h.run pins s σ _ _ I hw
  · obtain ⟨od, I1⟩ := I.lock hd mu
    exact h.run pins s σ _ _ I1 (hw od)
def miKeys (i : Nat) : MI := fun ρ => match ρ[i]? with
  | some (.val (.fdct ks _)) => .ok (ks.map keyD) ρ
  | _ => .bad
theorem yields_k {K : PySem.W.Frag} {mg : Str → Option Value} {Hf : Hp} {d : Addr} {o : Obj} {kvs : List (Key × V)} (h : Hf d = some (.frz o (.dK kvs))) : Yields K mg Hf (Itk d o kvs) ((kvs.map (·.1)).map keyD) := by
  refine ⟨fun H e i hi => ⟨e d _ h, by simpa using hi⟩, fun H e => ⟨e d _ h, by simp⟩, fun H e i x H' hi y => ?_⟩
  obtain ⟨e1, k, v, hk, rfl⟩ := y
  refine ⟨keyD k, by simp [hk], .inl ⟨e1, ?_⟩⟩
  cases k <;> exact rfl
section
variable {X : Cx} {W : WX} {tg e : Expr} {fx : List Bool}
theorem di_keys (i : Nat) (he : DE X W e (tVar i) (mVar i)) : DI X W tg e (iKeys (tVar i)) (miKeys i) := by
  refine ⟨pi_keys he.pe, fun fx vs0 Hr Hf H σ ρ R E q => ?_⟩
  unfold miKeys at q
  cases hc : ρ[i]? with
  | none => rw [hc] at q; exact q.elim
  | some c =>
    rw [hc] at q
    cases c with
    | val d =>
      cases d with
      | fdct ks ds =>
        obtain ⟨v, h1, a, o, kvs, rfl, h2, h3, h4, h5⟩ := E.cel i _ hc
        refine ⟨_, joinEq.mp h1, a, o, rfl, .inl ⟨kvs, E.sub a _ h2, ?_⟩⟩
        exact q _ Hf H (Ext.refl _) E (by rw [← h3]; exact yields_k h2)
      | _ => exact q.elim
    | _ => exact q.elim
def mLk (i : Nat) (m : MS) : MS := fun ρ => match ρ[i]? with
  | some (.ownD ks vs) => m (ρ.set i (.val (.fdct ks vs)))
  | _ => m ρ
theorem ds_lk {st : Stmt} {t : TS} {m : MS} (i : Nat) (h : DS X W fx st t m) : DS X W fx st (tLk t) (mLk i m) := by
  refine ⟨ps_lk h.ps, fun vs0 Hr Hf H σ ρ D E p => ?_⟩
  unfold mLk at p
  cases hc : ρ[i]? with
  | none => rw [hc] at p; exact .inl (h.ss vs0 Hr Hf H σ ρ D E p)
  | some c =>
    rw [hc] at p
    cases c with
    | ownD ks ds =>
      obtain ⟨a, u, s1, s2, kvs, rfl, s3, s4, s5⟩ := E.ownAt hc rfl
      refine .inr ⟨a, _, s2, trivial, fun od => ?_⟩
      obtain ⟨E2, e2⟩ := E.lockAt s1 hc s2 od
      exact h.ss vs0 Hr _ _ σ _ D E2 (p.mono e2)
    | _ => exact .inl (h.ss vs0 Hr Hf H σ ρ D E p)
end
/-! ### machines: slots that no name shows -/
theorem ghs_mem : ∀ {N : List Str} {k i : Nat}, i ∈ ghs k N ↔ ∃ j x, N[j]? = some x ∧ isGh x = true ∧ i = k + j
  | [], k, i => by simp [ghs]
  | y :: N, k, i => by
    unfold ghs
    have ih := ghs_mem (N := N) (k := k + 1) (i := i)
    constructor
    · intro h
      by_cases hy : isGh y = true
      · rw [if_pos hy] at h
        rcases List.mem_cons.mp h with h | h
        · exact ⟨0, y, rfl, hy, by omega⟩
        · obtain ⟨j, x, h1, h2, h3⟩ := ih.mp h
          exact ⟨j + 1, x, by simpa using h1, h2, by omega⟩
      · rw [if_neg hy] at h
        obtain ⟨j, x, h1, h2, h3⟩ := ih.mp h
        exact ⟨j + 1, x, by simpa using h1, h2, by omega⟩
    · rintro ⟨j, x, h1, h2, h3⟩
      cases j with
      | zero =>
        simp at h1; subst h1
        rw [if_pos h2]; simp [h3]
      | succ j =>
        have := ih.mpr ⟨j, x, by simpa using h1, h2, by omega⟩
        by_cases hy : isGh y = true
        · rw [if_pos hy]; exact List.mem_cons_of_mem _ this
        · rw [if_neg hy]; exact this
/-- no name of the text is one of ours -/
def noGh (sc : Scope) : Bool := sc.names.all fun p => !isGh p.1
theorem noGh_vis {sc : Scope} (h : noGh sc = true) {x : Str} (v : Vis sc x) : isGh x = false := by
  have key : ∀ k, sc.names.lookup x = some k → isGh x = false := fun k hk => by
    have := List.all_eq_true.mp h _ (lookup_mem hk)
    simpa using this
  rcases v with v | v | v <;> exact key _ v
/-- the slots agree where a name shows them -/
def Agr (X : Cx) (σ σ' : St) : Prop := σ'.length = σ.length ∧ ∀ i, i ∉ X.gs → σ'[i]? = σ[i]?
theorem Agr.inv {X : Cx} {pins : List (Addr × Obj)} {σ σ' : St} {H : Hp} {s : Shared} (a : Agr X σ σ') (hn : noGh X.env.scope = true) (I : Inv X pins σ H s) : Inv X pins σ' H s := by
  obtain ⟨m, n1, n2⟩ := I.loc
  refine { I with loc := ⟨m, n1, fun i x v hx hv hs => n2 i x v hx ?_ hs⟩, len := by rw [a.1]; exact I.len }
  rw [← a.2 i fun hm => ?_]
  · exact hv
  · obtain ⟨j, y, h1, h2, h3⟩ := ghs_mem.mp hm
    have : i = j := by omega
    subst this
    rw [hx] at h1; cases h1
    rw [noGh_vis hn hs] at h2; cases h2
def tGh (X : Cx) (t : TS) : TS := fun D σ H => ∃ σ', Agr X σ σ' ∧ t D σ' H
theorem pss_gh {X : Cx} {ss : List Stmt} {t : TS} (hn : noGh X.env.scope = true) (h : PSs X ss t) : PSs X ss (tGh X t) :=
  ⟨fun pins s σ H D I ⟨σ', a, q⟩ => h.run pins s σ' H D (a.inv hn I) q⟩
def tGp (X : Cx) (t : TS) : TS := fun D σ H => t { D with nx := fun σ1 H1 => ∃ σ2, Agr X σ1 σ2 ∧ D.nx σ2 H1 } σ H
theorem ps_gp {X : Cx} {st : Stmt} {t : TS} (hn : noGh X.env.scope = true) (h : PS X st t) : PS X st (tGp X t) := by
  refine ⟨fun pins s σ H D I q => thn (h.run pins s σ H _ I q) fun f s' hq => ?_⟩
  cases f with
  | next => obtain ⟨σ1, H1, I1, σ2, a, q2⟩ := hq; exact ⟨σ2, H1, a.inv hn I1, q2⟩
  | brk => exact hq
  | cont => exact hq
  | ret u => exact hq
/-! ### the one class -/
structure MacC (K : PySem.W.Frag) (C : Addr) : Prop where
  cl : Cls K C
  nP : NoAttr K C "_program"
  nS : NoAttr K C "stack"
  nF : NoAttr K C "frames"
  ha : PySem.W.findIn K (.ref C) "__class__" = some (some (.builtin "object.__class__"))
  hn : PySem.W.specialIn K (.builtin "object.__class__") "__get__" = some (some (.builtin "getset_descriptor.__get__"))
  htk : PySem.W.takesIn K (.builtin "object.__class__") = some true
  hm : PySem.W.mroIn K C (.type "object") = some true
  hb : PySem.W.kitOne K (.ref C) (.type "bool") = some false
structure MacT (K : PySem.W.Frag) (mg : Str → Option Value) : Prop where
  ex : ∃ C, mg "Machine" = some (.ref C) ∧ MacC K C
/-- an attribute that is a list -/
structure FldK (f : Str) (k : Nat) : Prop where
  na : ∀ {K : PySem.W.Frag} {C : Addr}, MacC K C → NoAttr K C f
  lk : ∀ vp b1 b2 : V, List.lookup f [(("_program" : Str), vp), ("stack", b1), ("frames", b2)] = some (if k = 0 then b1 else b2)
theorem fld_stack : FldK "stack" 0 := ⟨fun h => h.nS, fun vp b1 b2 => by
  have e1 : (("stack" : Str) == ("_program" : Str)) = false := by decide +kernel
  have e2 : (("stack" : Str) == ("stack" : Str)) = true := by decide +kernel
  simp only [List.lookup, e1, e2, if_true]⟩
theorem fld_frames : FldK "frames" 1 := ⟨fun h => h.nF, fun vp b1 b2 => by
  have e1 : (("frames" : Str) == ("_program" : Str)) = false := by decide +kernel
  have e2 : (("frames" : Str) == ("stack" : Str)) = false := by decide +kernel
  have e3 : (("frames" : Str) == ("frames" : Str)) = true := by decide +kernel
  simp only [List.lookup, e1, e2, e3]; rfl⟩
theorem fld_prog (vp b1 b2 : V) : List.lookup ("_program" : Str) [(("_program" : Str), vp), ("stack", b1), ("frames", b2)] = some vp := by
  have e1 : (("_program" : Str) == ("_program" : Str)) = true := by decide +kernel
  simp only [List.lookup, e1]
section
variable {K : PySem.W.Frag} {mg : Str → Option Value} {gs : List Nat} {fx : List Bool} {vs0 : List V} {Hr Hf H : Hp} {σ : St} {ρ : Env} {s j k : Nat} {p : D} {f : Str}
theorem EnvOk.macAt (E : EnvOk K mg gs fx vs0 Hr Hf H σ ρ) (hc : ρ[s]? = some (.mac j p)) : ∃ v b1 b2, σ[s]? = some (some v) ∧ MacAt K mg Hf p v b1 b2 ∧ σ[j]? = some (some b1) ∧ σ[j + 1]? = some (some b2) ∧ j ∈ gs ∧ j + 1 ∈ gs := by
  obtain ⟨⟨v, b1, b2, h1, h2, h3, h4⟩, h5, h6⟩ := E.lnk s _ hc
  exact ⟨v, b1, b2, joinEq.mp h1, h2, h3, h4, h5, h6⟩
theorem MacAt.pm {v b1 b2 : V} (h : MacAt K mg Hf p v b1 b2) : PMAt K mg Hf p v := by
  obtain ⟨a, C, dx, vp, h1, h2, h3, h4⟩ := h
  exact ⟨a, C, dx, _, vp, h1, h2, h3, fld_prog _ _ _, h4⟩
theorem EnvOk.pmAt (E : EnvOk K mg gs fx vs0 Hr Hf H σ ρ) (hc : ρ[s]? = some (.pm p)) : ∃ v, σ[s]? = some (some v) ∧ PMAt K mg Hf p v := by
  obtain ⟨⟨v, h1, h2⟩, h3⟩ := E.lnk s _ hc
  exact ⟨v, joinEq.mp h1, h2⟩
/-- self.f -/
theorem tfld_of (T : MacT K mg) (F : FldK f k) (hk : k = 0 ∨ k = 1) (E : EnvOk K mg gs fx vs0 Hr Hf H σ ρ) (hc : ρ[s]? = some (.mac j p)) {Q : VK} (h : ∀ v, σ[j + k]? = some (some v) → Q v H) : tFld K (tVar s) f σ H Q := by
  obtain ⟨v, b1, b2, h1, ⟨a, C, dx, vp, rfl, g2, g3, g4⟩, h3, h4, _⟩ := E.macAt hc
  obtain ⟨C', g5, MC⟩ := T.ex
  rw [g2] at g5; cases g5
  refine ⟨_, h1, a, C, dx, _, _, rfl, E.sub a _ g3, MC.cl, F.na MC, F.lk vp b1 b2, h _ ?_⟩
  rcases hk with rfl | rfl
  · exact h3
  · exact h4
theorem tprog_of (T : MacT K mg) (E : EnvOk K mg gs fx vs0 Hr Hf H σ ρ) {v : V} (hs : σ[s]? = some (some v)) (hp : PMAt K mg Hf p v) {Q : VK} (h : ∀ v, Rep K mg Hf p v → Q v H) : tFld K (tVar s) "_program" σ H Q := by
  obtain ⟨a, C, dx, fs, vp, rfl, g2, g3, g4, g5⟩ := hp
  obtain ⟨C', g6, MC⟩ := T.ex
  rw [g2] at g6; cases g6
  exact ⟨_, hs, a, C, dx, _, _, rfl, E.sub a _ g3, MC.cl, MC.nP, g4, h _ g5⟩
end
def mGh (s k : Nat) : ME := fun ρ => match ρ[s]? with
  | some (.mac j _) => .ok (.at (j + k)) ρ
  | _ => .bad
def mProg (s : Nat) : ME := fun ρ => match ρ[s]? with
  | some (.mac _ p) => .ok (.dd p) ρ
  | some (.pm p) => .ok (.dd p) ρ
  | _ => .bad
def mPopF (s k : Nat) : ME := fun ρ => match ρ[s]? with
  | some (.mac j _) => mPop (j + k) ρ
  | _ => .bad
def mExtF (s k : Nat) (m : ME) : ME := fun ρ => match ρ[s]? with
  | some (.mac j _) => match ownL ρ (j + k) with
    | none => .bad
    | some _ => match m ρ with
      | .ok r ρ1 => match use r.fix ρ1 with
        | some (.lst ys) => match ownL ρ1 (j + k) with
          | some xs => if xs.length + ys.length ≤ sizeLine then .ok (.dd .non) (ρ1.set (j + k) (.own (xs ++ ys))) else .bad
          | none => .bad
        | _ => .bad
      | .exc x ρ1 => .exc x ρ1
      | .bad => .bad
  | _ => .bad
section
variable {X : Cx} {W : WX} {e o : Expr} {te : TE} {me : ME} {pos apos cpos : Pos} {f : Str}
theorem de_gh (s k : Nat) (T : MacT X.K X.mg) (F : FldK f k) (he : DE X W e (tVar s) (mVar s)) (hk : k = 0 ∨ k = 1 := by decide) (hb : attributeBase e f X.env (eval e X.env) = eval e X.env := by rfl) : DE X W (.Attribute e f pos) (tFld X.K (tVar s) f) (mGh s k) := by
  refine ⟨pe_fld he.pe hb, fun fx vs0 Hr Hf H σ ρ Q E p => ?_⟩
  unfold mGh at p
  cases hc : ρ[s]? with
  | none => rw [hc] at p; exact p.elim
  | some c =>
    rw [hc] at p
    cases c with
    | mac j pr => exact tfld_of T F hk E hc fun v hv => p v Hf H (Ext.refl _) E hv
    | _ => exact p.elim
theorem de_prog (s : Nat) (T : MacT X.K X.mg) (he : DE X W e (tVar s) (mVar s)) (hb : attributeBase e "_program" X.env (eval e X.env) = eval e X.env := by rfl) : DE X W (.Attribute e "_program" pos) (tFld X.K (tVar s) "_program") (mProg s) := by
  refine ⟨pe_fld he.pe hb, fun fx vs0 Hr Hf H σ ρ Q E p => ?_⟩
  unfold mProg at p
  cases hc : ρ[s]? with
  | none => rw [hc] at p; exact p.elim
  | some c =>
    rw [hc] at p
    cases c with
    | mac j pr =>
      obtain ⟨v, b1, b2, h1, h2, _⟩ := E.macAt hc
      exact tprog_of T E h1 h2.pm fun v hv => p v Hf H (Ext.refl _) E hv
    | pm pr =>
      obtain ⟨v, h1, h2⟩ := E.pmAt hc
      exact tprog_of T E h1 h2 fun v hv => p v Hf H (Ext.refl _) E hv
    | _ => exact p.elim
theorem de_popF (s k : Nat) (T : MacT X.K X.mg) (F : FldK f k) (he : DE X W e (tVar s) (mVar s)) (hk : k = 0 ∨ k = 1 := by decide) (hb : attributeBase e f X.env (eval e X.env) = eval e X.env := by rfl)
    (hbase : attributeBase (.Attribute e f pos) "pop" X.env (eval (.Attribute e f pos) X.env) = eval (.Attribute e f pos) X.env := by rfl) (hline : (apos.endLine == cpos.line) = true := by rfl) :
    DE X W (.Call (.Attribute (.Attribute e f pos) "pop" apos) [] [] cpos) (tBM0 X.K "list" rPop (tFld X.K (tVar s) f)) (mPopF s k) := by
  refine ⟨pe_bm0 PySem.F.plainAttrs_list PySem.F.slot_list_pop PySem.F.type_list_pop mt_pop (pe_fld he.pe hb) hbase hline, fun fx vs0 Hr Hf H σ ρ Q E p => ?_⟩
  unfold mPopF at p
  cases hc : ρ[s]? with
  | none => rw [hc] at p; exact p.elim
  | some c =>
    rw [hc] at p
    cases c with
    | mac j pr =>
      simp only at p
      unfold mPop at p
      cases h0 : ownL ρ (j + k) with
      | none => simp only [h0] at p; exact p.elim
      | some xs =>
        simp only [h0] at p
        obtain ⟨a, u, s1, s2, vs, rfl, s3⟩ := E.ownAt (ownL_some h0) rfl
        cases hg : xs.getLast? with
        | none => simp only [hg] at p; exact p.elim
        | some d =>
          simp only [hg] at p
          rw [List.getLast?_eq_getElem?] at hg
          obtain ⟨v, k1, k2⟩ := s3.get hg
          refine tfld_of T F hk E hc fun w hw => ?_
          rw [s1] at hw; cases hw
          refine ⟨.inl ⟨rfl, _, .of s2⟩, a, vs, v, rfl, rfl, s2, by rw [s3.length]; exact k1, ?_⟩
          exact p v Hf _ (Ext.refl _) (E.mutate (ownL_some h0) rfl s1 ⟨_, rfl, s3.dropLast⟩) k2
    | _ => exact p.elim
theorem de_extF (s k : Nat) (T : MacT X.K X.mg) (F : FldK f k) (he : DE X W e (tVar s) (mVar s)) (hm : DE X W o te me) (hk : k = 0 ∨ k = 1 := by decide) (hb : attributeBase e f X.env (eval e X.env) = eval e X.env := by rfl)
    (hbase : attributeBase (.Attribute e f pos) "extend" X.env (eval (.Attribute e f pos) X.env) = eval (.Attribute e f pos) X.env := by rfl)
    (hfew : ((backTo cpos (starEach (o :: []) X.env)).all (fun x => !x.1) && (backToKw cpos (keywordEach [] X.env)).all (fun x => x.1.isSome)
      && decide ((o :: ([] : List Expr)).length + ([] : List Keyword).length + (if ([] : List Keyword).isEmpty then 0 else 1) < 30)) = true := by rfl)
    (hline : (apos.endLine == cpos.line) = true := by rfl) (hs : starEach (o :: []) X.env = (false, eval o X.env) :: starEach [] X.env := by rfl) (hplain : (backTo cpos (starEach [] X.env)).any (·.1) = false := by rfl) :
    DE X W (.Call (.Attribute (.Attribute e f pos) "extend" apos) [o] [] cpos) (tBM X.K "list" rExtend (tFld X.K (tVar s) f) (tCons te tNil)) (mExtF s k me) := by
  refine ⟨pe_bm PySem.F.plainAttrs_list PySem.F.slot_list_extend PySem.F.type_list_extend mt_extend (pe_fld he.pe hb) (pa_cons hm.pe pa_nil hs) hbase hfew hline hs hplain, fun fx vs0 Hr Hf H σ ρ Q E p => ?_⟩
  unfold mExtF at p
  cases hc : ρ[s]? with
  | none => rw [hc] at p; exact p.elim
  | some c =>
    rw [hc] at p
    cases c with
    | mac j pr =>
      simp only at p
      cases h00 : ownL ρ (j + k) with
      | none => simp only [h00] at p; exact p.elim
      | some xs0 =>
      simp only [h00] at p
      refine tfld_of T F hk E hc fun w hw => ?_
      obtain ⟨a0, u0, s01, s02, vs00, rfl, s03⟩ := E.ownAt (ownL_some h00) rfl
      rw [hw] at s01; cases s01
      refine ⟨.inl ⟨rfl, _, .of s02⟩, hm.se fx vs0 Hr Hf H σ ρ _ E ?_⟩
      cases hm2 : me ρ with
      | bad => simp only [hm2] at p; exact p
      | exc x ρ1 => simp only [hm2] at p; exact p
      | ok r ρ1 =>
        simp only [hm2] at p
        intro v F1 H1 e1 E1 q1
        obtain ⟨F', e', E2, q2⟩ := q1.fixed E1
        cases hu : use r.fix ρ1 with
        | none => simp only [hu] at p; exact p.elim
        | some d =>
          have u := use_ok E2 q2 hu
          simp only [hu] at p
          cases d with
          | lst ys =>
            simp only at p
            cases h0 : ownL ρ1 (j + k) with
            | none => simp only [h0] at p; exact p.elim
            | some xs =>
              simp only [h0] at p
              by_cases hz : xs.length + ys.length ≤ sizeLine
              · rw [if_pos hz] at p
                obtain ⟨a, u1, s1, s2, vs, rfl, s3⟩ := E2.ownAt (ownL_some h0) rfl
                rw [hw] at s1; cases s1
                obtain ⟨b, ws, rfl, b1, b2⟩ := u
                exact ⟨_, b, vs, ws, rfl, rfl, s2, b1, by rw [s3.length, b2.length]; exact hz, p .non F' _ (e1.trans e') (E2.mutate (ownL_some h0) rfl hw ⟨_, rfl, s3.append b2⟩) rfl⟩
              · rw [if_neg hz] at p; exact p.elim
          | _ => exact p.elim
    | _ => exact p.elim
end
/-! ### stores to a machine's lists; a machine in a name -/
def mPutF (s k : Nat) (mk me : ME) : MS := fun ρ => match me ρ with
  | .ok r ρ1 => match frz r ρ1 with
    | some (d, ρ2) => match ρ2[s]? with
      | some (.mac j _) => match mk ρ2 with
        | .ok rk ρ3 => match use rk.fix ρ3 with
          | some (.int i) => match ownL ρ3 (j + k) with
            | some xs => match ixN xs.length i with
              | some n => .nx (ρ3.set (j + k) (.own (xs.set n d)))
              | none => .bad
            | none => .bad
          | _ => .bad
        | .exc x ρ3 => .exc x ρ3
        | .bad => .bad
      | _ => .bad
    | none => .bad
  | .exc x ρ1 => .exc x ρ1
  | .bad => .bad
section
variable {X : Cx} {W : WX} {fx : List Bool} {o k e : Expr} {te tk : TE} {me mk : ME} {pos pos' apos : Pos} {f : Str}
theorem ds_putF (s n : Nat) (T : MacT X.K X.mg) (F : FldK f n) (ho : DE X W o (tVar s) (mVar s)) (hk : DE X W k tk mk) (he : DE X W e te me) (hn : n = 0 ∨ n = 1 := by decide) (hb : attributeBase o f X.env (eval o X.env) = eval o X.env := by rfl)
    (hs : swapsWithSole [.Subscript (.Attribute o f apos) k pos'] e pos.line X.env = pure false := by rfl) (hw : swappedStores [.Subscript (.Attribute o f apos) k pos'] e X.env = pure none := by rfl)
    (h1 : (assignEach [.Subscript (.Attribute o f apos) k pos'] X.env).map (·.2) = [assign (.Subscript (.Attribute o f apos) k pos') X.env] := by rfl)
    (ha : ∀ v, assign (.Subscript (.Attribute o f apos) k pos') X.env v = (do
      let ov ← holding [v] (eval (.Attribute o f apos) X.env)
      let iv ← holding [v, ov] (eval k X.env)
      standAt pos'
      holding [v, ov, iv] (setItem ov iv v)
      release [v, ov, iv] []) := by intro _; rfl) : DS X W fx (.Assign [.Subscript (.Attribute o f apos) k pos'] e pos) (tAsg te (gSub (tFld X.K (tVar s) f) tk rSetL)) (mPutF s n mk me) := by
  refine ⟨ps_asg he.pe (pg_sub (pe_fld ho.pe hb) hk.pe set_list ha) hs hw h1, fun vs0 Hr Hf H σ ρ D E p => he.se fx vs0 Hr Hf H σ ρ _ E ?_⟩
  unfold mPutF at p
  cases hm : me ρ with
  | bad => simp only [hm] at p; exact p
  | exc x ρ1 => simp only [hm] at p; exact fun C h1 F H' e E' => p C h1 σ F H' e E'
  | ok r ρ1 =>
    simp only [hm] at p
    intro v F1 H1 e1 E1 q1
    cases hz : frz r ρ1 with
    | none => simp only [hz] at p; exact p.elim
    | some x =>
      obtain ⟨d, ρ2⟩ := x
      simp only [hz] at p
      obtain ⟨F', e', E2, r2⟩ := frz_ok E1 q1 hz
      cases hc : ρ2[s]? with
      | none => simp only [hc] at p; exact p.elim
      | some c =>
        simp only [hc] at p
        cases c with
        | mac j pr =>
          simp only at p
          refine tfld_of T F hn E2 hc fun w hw => ?_
          refine hk.se fx vs0 Hr F' H1 σ ρ2 _ E2 ?_
          cases hm2 : mk ρ2 with
          | bad => simp only [hm2] at p; exact p
          | exc x ρ3 => simp only [hm2] at p; exact fun C h1 F2 H' e E' => p C h1 σ F2 H' ((e1.trans e').trans e) E'
          | ok rk ρ3 =>
            simp only [hm2] at p
            intro vk F2 H2 e2 E3 q3
            obtain ⟨F3, e3, E4, q4⟩ := q3.fixed E3
            cases hu : use rk.fix ρ3 with
            | none => simp only [hu] at p; exact p.elim
            | some dk =>
              have uk := use_ok E4 q4 hu
              simp only [hu] at p
              cases dk with
              | int i =>
                simp only at p
                cases h3 : ownL ρ3 (j + n) with
                | none => simp only [h3] at p; exact p.elim
                | some xs =>
                  simp only [h3] at p
                  cases hx : ixN xs.length i with
                  | none => simp only [hx] at p; exact p.elim
                  | some m =>
                    simp only [hx] at p
                    obtain ⟨a', u, t1, t2, vs, rfl, t3⟩ := E4.ownAt (ownL_some h3) rfl
                    rw [hw] at t1; cases t1
                    refine ⟨a', vs, i, m, rfl, uk, t2, by rw [t3.length]; exact hx, ?_⟩
                    exact p σ F3 _ (((e1.trans e').trans e2).trans e3) (E4.mutate (ownL_some h3) rfl hw ⟨_, rfl, t3.set m (r2.mono (e2.trans e3))⟩)
              | _ => exact p.elim
        | _ => exact p.elim
end
/-- an argument that is a machine's list: it is handed over -/
theorem da_gh {X : Cx} {W : WX} {e : Expr} {es : List Expr} {t : TA} {as : List AM} {apos : Pos} {f : Str} (s n : Nat) (T : MacT X.K X.mg) (F : FldK f n) (h : DE X W e (tVar s) (mVar s)) (k : DA X W es t as) (hn : n = 0 ∨ n = 1 := by decide) (hb : attributeBase e f X.env (eval e X.env) = eval e X.env := by rfl)
    (hs : starEach (.Attribute e f apos :: es) X.env = (false, eval (.Attribute e f apos) X.env) :: starEach es X.env := by rfl) : DA X W (.Attribute e f apos :: es) (tCons (tFld X.K (tVar s) f) t) (.gh s n :: as) := by
  refine ⟨pa_cons (pe_fld h.pe hb) k.pa hs, fun fx vs0 Hr Hr1 Hf H σ ρ Q kk QE E e p q => ?_⟩
  unfold mArgs at p
  cases hc : ρ[s]? with
  | none => rw [hc] at p; exact p.elim
  | some c =>
    rw [hc] at p
    cases c with
    | mac j pr =>
      simp only at p
      cases hg : ρ[j + n]? with
      | none => simp only [hg] at p; exact p.elim
      | some cg =>
        simp only [hg] at p
        cases cg with
        | own xs =>
          simp only at p
          refine tfld_of T F hn E hc fun v hv => ?_
          obtain ⟨a, u, h1, h2, h3, E1⟩ := E.handOver hg rfl
          rw [hv] at h1; cases h1
          refine k.sa fx vs0 Hr (upd Hr1 a u) Hf H σ _ _ _ QE E1 (e.trans (Ext.new h3)) p fun vs cs Hr' Hf' H' ρ' e3 E3 z p3 => ?_
          exact q (.ref a :: vs) ((.own xs, some (j + n)) :: cs) Hr' Hf' H' ρ' e3 E3 ⟨a, u, rfl, hv, h2.mono e3, h3, z⟩ p3
        | _ => exact p.elim
    | _ => exact p.elim
/-! x = a new machine: its lists come to the slots j and j + 1 -/
def okRef (j : Nat) : Cell → Bool
  | .mac l _ => l != j && l + 1 != j && l != j + 1
  | .al l => l != j && l != j + 1
  | _ => true
def mAsgM (i j : Nat) (m : ME) : MS := fun ρ => match m ρ with
  | .ok (.nw p xs fs) ρ1 => if (ρ1.set i .no).all (okRef j) = true ∧ i < ρ1.length ∧ j + 1 < ρ1.length then .nx (((ρ1.set i (.mac j p)).set j (.own xs)).set (j + 1) (.own fs)) else .bad
  | .ok r ρ1 => match tak r ρ1 with
    | some (c, ρ2) => .nx (ρ2.set i c)
    | none => .bad
  | .exc x ρ1 => .exc x ρ1
  | .bad => .bad
section
variable {K : PySem.W.Frag} {mg : Str → Option Value} {gs : List Nat} {fx : List Bool} {vs0 : List V} {Hr Hf H : Hp} {σ : St} {ρ : Env} {i j : Nat} {p : D} {v : V} {xs fs : List D}
/-- a slot of our own is told anew -/
theorem EnvOk.ghost {b : Addr} {vs : List V} (E : EnvOk K mg gs fx vs0 Hr Hf H σ ρ) (hj : j < ρ.length) (hfx : fx[j]? ≠ some true) (hl : ∀ (i : Nat) (c : Cell), ρ[i]? = some c → i ≠ j → (∀ p, c ≠ .mac j p) ∧ (∀ l p, c = .mac l p → l + 1 ≠ j) ∧ c ≠ .al j)
    (h1 : H b = some (.lst vs)) (h2 : RepL K mg Hf xs vs) (h3 : Hf b = none) (h4 : Hr b = none) (h5 : ∀ i, ¬ OwnAt σ ρ i b) : EnvOk K mg gs fx vs0 Hr Hf H (σ.set j (some (.ref b))) (ρ.set j (.own xs)) := by
  have E' : EnvOk K mg [] fx vs0 Hr Hf H σ (ρ.map fun c => if isLnk c = true then .no else c) := by
    have get : ∀ (i : Nat) (c : Cell), (ρ.map fun c => if isLnk c = true then Cell.no else c)[i]? = some c → c = .no ∨ (ρ[i]? = some c ∧ isLnk c = false) := fun i c h => by
      rw [List.getElem?_map] at h
      obtain ⟨c', e1, e2⟩ := Option.map_eq_some_iff.mp h
      by_cases hc : isLnk c' = true
      · rw [if_pos hc] at e2; exact .inl e2.symm
      · rw [if_neg hc] at e2; subst e2; exact .inr ⟨e1, by simpa using hc⟩
    have own : ∀ {i : Nat} {a : Addr}, OwnAt σ (ρ.map fun c => if isLnk c = true then Cell.no else c) i a → OwnAt σ ρ i a := fun {i a} ⟨⟨c, q1, q2⟩, q3⟩ => by
      rcases get i c q1 with rfl | ⟨q4, _⟩
      · cases q2
      · exact ⟨⟨c, q4, q2⟩, q3⟩
    refine ⟨by rw [List.length_map]; exact E.len, E.sub, E.frm, E.dis, fun i c hc => ?_, fun i k a p q => E.inj i k a (own p) (own q), E.fix, fun i c hc => ?_⟩
    · rcases get i c hc with rfl | ⟨q, _⟩
      · trivial
      · exact E.cel i c q
    · rcases get i c hc with rfl | ⟨_, q⟩
      · trivial
      · exact .free q
  have own' : ∀ {i : Nat} {a : Addr}, OwnAt σ (ρ.map fun c => if isLnk c = true then Cell.no else c) i a → OwnAt σ ρ i a := fun {i a} ⟨⟨c, q1, q2⟩, q3⟩ => by
    rw [List.getElem?_map] at q1
    obtain ⟨c', e1, e2⟩ := Option.map_eq_some_iff.mp q1
    by_cases hc : isLnk c' = true
    · rw [if_pos hc] at e2; subst e2; cases q2
    · rw [if_neg hc] at e2; subst e2; exact ⟨⟨_, e1, q2⟩, q3⟩
  have S := E'.store (i := j) (v := .ref b) (c := .own xs) hfx (.inl (by simp)) (.inr (.inr ⟨b, _, rfl, h1, ⟨vs, rfl, h2⟩, h3, h4, fun i q => h5 i (own' q)⟩))
  have lnkF : ∀ c : Cell, isLnk c = true → isOwn c = false := fun c h => by cases c <;> first | rfl | cases h
  -- the cells are the same but for the links
  have get2 : ∀ (i : Nat) (c : Cell), (ρ.set j (.own xs))[i]? = some c → isLnk c = false → ((ρ.map fun c => if isLnk c = true then Cell.no else c).set j (.own xs))[i]? = some c := fun i c h hl => by
    by_cases hi : j = i
    · subst hi
      rw [List.getElem?_set_self hj] at h
      rw [List.getElem?_set_self (by rw [List.length_map]; exact hj)]; exact h
    · rw [List.getElem?_set_ne hi] at h ⊢
      rw [List.getElem?_map, h]; simp [hl]
  have own2 : ∀ {i : Nat} {a : Addr}, OwnAt (σ.set j (some (.ref b))) (ρ.set j (.own xs)) i a → OwnAt (σ.set j (some (.ref b))) ((ρ.map fun c => if isLnk c = true then Cell.no else c).set j (.own xs)) i a := fun {i a} ⟨⟨c, q1, q2⟩, q3⟩ => by
    refine ⟨⟨c, get2 i c q1 ?_, q2⟩, q3⟩
    cases hc : isLnk c with
    | true => rw [lnkF c hc] at q2; cases q2
    | false => rfl
  refine ⟨by simp [E.len], E.sub, E.frm, E.dis, fun i c hc => ?_, fun i k a p q => S.inj i k a (own2 p) (own2 q), S.fix, fun i c hc => ?_⟩
  · cases hl2 : isLnk c with
    | true => cases c <;> first | trivial | cases hl2
    | false => exact S.cel i c (get2 i c hc hl2)
  · by_cases hi : j = i
    · subst hi
      rw [List.getElem?_set_self hj] at hc; cases hc; trivial
    · rw [List.getElem?_set_ne hi] at hc ⊢
      obtain ⟨n1, n2, n3⟩ := hl i c hc (Ne.symm hi)
      have q := E.lnk i c hc
      cases c with
      | mac l p =>
        obtain ⟨⟨w, c1, c2, k1, k2, k3, k4⟩, k5, k6⟩ := q
        refine ⟨⟨w, c1, c2, k1, k2, ?_, ?_⟩, k5, k6⟩
        · rw [List.getElem?_set_ne (fun z => n1 p (by rw [z]))]; exact k3
        · rw [List.getElem?_set_ne (fun z => n2 l p rfl z.symm)]; exact k4
      | al l =>
        obtain ⟨⟨w, k1, k2⟩, k3⟩ := q
        exact ⟨⟨w, k1, by rw [List.getElem?_set_ne (fun z => n3 (by rw [z]))]; exact k2⟩, k3⟩
      | _ => exact q
end
section
variable {K : PySem.W.Frag} {mg : Str → Option Value} {gs : List Nat} {fx : List Bool} {vs0 : List V} {Hr Hf H : Hp} {σ : St} {ρ : Env} {i j k : Nat} {p : D} {v : V} {xs fs : List D}
/-- a cell that was nothing is told as bound -/
theorem EnvOk.tell {c : Cell} (E : EnvOk K mg gs fx vs0 Hr Hf H σ ρ) (hi : ρ[i]? = some .no) (hc : isLnk c = true) (hl : LnkC K mg gs Hf σ c (σ[i]?).join) : EnvOk K mg gs fx vs0 Hr Hf H σ (ρ.set i c) := by
  have li : i < ρ.length := (List.getElem?_eq_some_iff.mp hi).1
  have no : isOwn c = false := by cases c <;> first | rfl | cases hc
  have own' : ∀ {j : Nat} {b : Addr}, OwnAt σ (ρ.set i c) j b → OwnAt σ ρ j b := fun {j b} ⟨⟨c', hc', ho'⟩, hs'⟩ => by
    by_cases hj : i = j
    · subst hj; rw [List.getElem?_set_self li] at hc'; cases hc'; rw [no] at ho'; cases ho'
    · rw [List.getElem?_set_ne hj] at hc'; exact ⟨⟨c', hc', ho'⟩, hs'⟩
  refine ⟨by rw [List.length_set]; exact E.len, E.sub, E.frm, E.dis, fun j c' hc' => ?_, fun j k b p q => E.inj j k b (own' p) (own' q), E.fix, fun j c' hc' => ?_⟩
  · by_cases hj : i = j
    · subst hj; rw [List.getElem?_set_self li] at hc'; cases hc'
      cases c <;> first | trivial | cases hc
    · rw [List.getElem?_set_ne hj] at hc'; exact E.cel j c' hc'
  · by_cases hj : i = j
    · subst hj; rw [List.getElem?_set_self li] at hc'; cases hc'; exact hl
    · rw [List.getElem?_set_ne hj] at hc'; exact E.lnk j c' hc'
theorem okRef_ok {c : Cell} (h : okRef j c = true) : ((∀ p, c ≠ .mac j p) ∧ (∀ l p, c = .mac l p → l + 1 ≠ j) ∧ c ≠ .al j) ∧ ((∀ p, c ≠ .mac (j + 1) p) ∧ (∀ l p, c = .mac l p → l + 1 ≠ j + 1) ∧ c ≠ .al (j + 1)) := by
  cases c with
  | mac l q =>
    simp only [okRef, Bool.and_eq_true, bne_iff_ne] at h
    refine ⟨⟨fun p z => ?_, fun l' p z => ?_, by simp⟩, fun p z => ?_, fun l' p z => ?_, by simp⟩
    · cases z; exact h.1.1 rfl
    · cases z; exact h.1.2
    · cases z; exact h.2 rfl
    · cases z; intro e; exact h.1.1 (by omega)
  | al l =>
    simp only [okRef, Bool.and_eq_true, bne_iff_ne] at h
    refine ⟨⟨by simp, by simp, fun z => ?_⟩, by simp, by simp, fun z => ?_⟩
    · cases z; exact h.1 rfl
    · cases z; exact h.2 rfl
  | _ => simp
theorem EnvOk.take_nw (E : EnvOk K mg gs fx vs0 Hr Hf H σ ρ) (q : ROk K mg Hr Hf H σ ρ (.nw p xs fs) v) (hi : fx[i]? ≠ some true) (hg : i ∉ gs) (il : i < ρ.length) (jl : j + 1 < ρ.length) (f1 : fx[j]? ≠ some true) (f2 : fx[j + 1]? ≠ some true) (g1 : j ∈ gs) (g2 : j + 1 ∈ gs)
    (hr : (ρ.set i .no).all (okRef j) = true) : ∃ σ2, σ2.length = σ.length ∧ (∀ l, l ≠ j → l ≠ j + 1 → σ2[l]? = (σ.set i (some v))[l]?) ∧ EnvOk K mg gs fx vs0 Hr Hf H σ2 (((ρ.set i (.mac j p)).set j (.own xs)).set (j + 1) (.own fs)) := by
  obtain ⟨b1, b2, vs, ws, M, ⟨a1, a2, a3, a4, a5⟩, ⟨c1, c2, c3, c4, c5⟩, hne⟩ := q
  have ij : i ≠ j := fun z => by subst z; exact hg g1
  have ij1 : i ≠ j + 1 := fun z => by subst z; exact hg g2
  have E1 := E.store (i := i) (v := v) (c := .no) hi (.inl hg) (.inr (.inl rfl))
  have sl : i < σ.length := by rw [E.len]; exact il
  have old : ∀ {l : Nat} {b : Addr}, OwnAt (σ.set i (some v)) (ρ.set i .no) l b → OwnAt σ ρ l b := fun {l b} ⟨⟨c, q1, q2⟩, q3⟩ => by
    by_cases hl : i = l
    · subst hl; rw [List.getElem?_set_self il] at q1; cases q1; cases q2
    · rw [List.getElem?_set_ne hl] at q1 q3; exact ⟨⟨c, q1, q2⟩, q3⟩
  have all : ∀ (l : Nat) (c : Cell), (ρ.set i .no)[l]? = some c → okRef j c = true := fun l c h => List.all_eq_true.mp hr c (List.mem_of_getElem? h)
  have E2 := E1.ghost (j := j) (xs := xs) (b := b1) (by rw [List.length_set]; omega) f1 (fun l c h _ => (okRef_ok (all l c h)).1) a1 a2 a3 a4 fun l z => a5 l (old z)
  have E3 := E2.ghost (j := j + 1) (xs := fs) (b := b2) (by rw [List.length_set, List.length_set]; omega) f2 (fun l c h hne' => by
    by_cases hl : j = l
    · subst hl; rw [List.getElem?_set_self (by rw [List.length_set]; omega)] at h; cases h; simp
    · rw [List.getElem?_set_ne hl] at h; exact (okRef_ok (all l c h)).2) c1 c2 c3 c4 fun l z => by
      obtain ⟨⟨c, q1, q2⟩, q3⟩ := z
      by_cases hl : j = l
      · subst hl
        rw [List.getElem?_set_self (by rw [List.length_set, E.len]; omega)] at q3
        cases q3; exact hne rfl
      · rw [List.getElem?_set_ne hl] at q1 q3
        exact c5 l (old ⟨⟨c, q1, q2⟩, q3⟩)
  have E4 := E3.tell (i := i) (c := .mac j p) (by rw [List.getElem?_set_ne (Ne.symm ij1), List.getElem?_set_ne (Ne.symm ij), List.getElem?_set_self il]) rfl (by
    rw [List.getElem?_set_ne (Ne.symm ij1), List.getElem?_set_ne (Ne.symm ij), List.getElem?_set_self sl]
    refine ⟨⟨v, .ref b1, .ref b2, rfl, M, ?_, ?_⟩, g1, g2⟩
    · rw [List.getElem?_set_ne (by omega), List.getElem?_set_self (by rw [List.length_set, E.len]; omega)]
    · rw [List.getElem?_set_self (by rw [List.length_set, List.length_set, E.len]; omega)])
  refine ⟨((σ.set i (some v)).set j (some (.ref b1))).set (j + 1) (some (.ref b2)), by simp, fun l h1 h2 => ?_, ?_⟩
  · rw [List.getElem?_set_ne (Ne.symm h2), List.getElem?_set_ne (Ne.symm h1)]
  · have e : ((((ρ.set i Cell.no).set j (.own xs)).set (j + 1) (.own fs)).set i (.mac j p)) = (((ρ.set i (.mac j p)).set j (.own xs)).set (j + 1) (.own fs)) := by
      rw [List.set_comm _ _ (Ne.symm ij1), List.set_comm _ _ (Ne.symm ij), List.set_set]
    rw [e] at E4; exact E4
end
section
variable {X : Cx} {W : WX} {fx : List Bool} {e : Expr} {te : TE} {me : ME} {pos : Pos}
theorem ds_setM (i j : Nat) {x : Str} {pos' : Pos} (hn : noGh X.env.scope = true) (hN : X.N.Nodup) (h : DE X W e te me) (hi : X.N[i]? = some x := by rfl) (hx : Loc X.env.scope x := by first | exact Or.inl rfl | exact Or.inr rfl) (hs : swapsWith e (some (.Name x pos')) pos.line X.env = pure false := by rfl)
    (hf : X.fn x = true ∨ X.env.scope.names.lookup x = some .local := by first | exact .inl rfl | exact .inr rfl) (hfx : fx[i]? ≠ some true := by decide) (hgs : i ∉ X.gs := by exact of_decide_eq_true (by kernel_rfl)) (f1 : fx[j]? ≠ some true := by decide) (f2 : fx[j + 1]? ≠ some true := by decide)
    (g1 : j ∈ X.gs := by exact of_decide_eq_true (by kernel_rfl)) (g2 : j + 1 ∈ X.gs := by exact of_decide_eq_true (by kernel_rfl)) : DS X W fx (.Assign [.Name x pos'] e pos) (tGp X (tAsg te (gName i))) (mAsgM i j me) := by
  refine ⟨ps_gp hn (ps_set hN hi hx h.pe hs hf), fun vs0 Hr Hf H σ ρ D E p => h.se fx vs0 Hr Hf H σ ρ _ E ?_⟩
  unfold mAsgM at p
  have rest : ∀ {r : R} {ρ1 : Env}, PostS X.K X.mg X.gs W fx vs0 Hr Hf (match tak r ρ1 with
      | some (c, ρ2) => .nx (ρ2.set i c)
      | none => .bad) D → ∀ v F H', Ext Hf F → EnvOk X.K X.mg X.gs fx vs0 Hr F H' σ ρ1 → ROk X.K X.mg Hr F H' σ ρ1 r v → ∃ σ2, Agr X (σ.set i (some v)) σ2 ∧ D.nx σ2 H' := fun {r ρ1} p v F H' e E' q => by
    cases ht : tak r ρ1 with
    | none => simp only [ht] at p; exact p.elim
    | some x =>
      obtain ⟨c, ρ2⟩ := x
      simp only [ht] at p
      obtain ⟨F', e', E2, z⟩ := tak_ok E' q ht
      refine ⟨_, ⟨rfl, fun _ _ => rfl⟩, p _ F' H' (e.trans e') (E2.store hfx (.inl hgs) ?_)⟩
      rcases z with ⟨d, rfl, z⟩ | ⟨rfl, rfl, z⟩
      · exact .inl ⟨d, rfl, z⟩
      · exact .inr (.inr z)
  cases hm : me ρ with
  | bad => rw [hm] at p; exact p
  | exc x ρ1 => rw [hm] at p; exact fun C h1 F H' e E' => p C h1 σ F H' e E'
  | ok r ρ1 =>
    rw [hm] at p
    cases r with
    | nw pr xs fs =>
      simp only at p
      by_cases hz : (ρ1.set i .no).all (okRef j) = true ∧ i < ρ1.length ∧ j + 1 < ρ1.length
      · rw [if_pos hz] at p
        intro v F H' e E' q
        obtain ⟨σ2, k1, k2, k3⟩ := E'.take_nw q hfx hgs hz.2.1 hz.2.2 f1 f2 g1 g2 hz.1
        refine ⟨σ2, ⟨by rw [k1, List.length_set], fun l hl => k2 l (fun z => hl (z ▸ g1)) (fun z => hl (z ▸ g2))⟩, p σ2 F H' e k3⟩
      · rw [if_neg hz] at p; exact p.elim
    | «at» a => exact rest p
    | dd d => exact rest p
    | ow c => exact rest p
/-! return x.f, the list of a machine: it is handed over -/
def mRetF (s k : Nat) : MS := fun ρ => match ρ[s]? with
  | some (.mac j _) => match ownL ρ (j + k) with
    | some xs => .ret (.ow (.own xs)) (ρ.set (j + k) .no)
    | none => .bad
  | _ => .bad
theorem ds_retF {o : Expr} {apos : Pos} {f : Str} (s k : Nat) (T : MacT X.K X.mg) (F : FldK f k) (he : DE X W o (tVar s) (mVar s)) (hk : k = 0 ∨ k = 1 := by decide) (hb : attributeBase o f X.env (eval o X.env) = eval o X.env := by rfl) :
    DS X W fx (.Return (some (.Attribute o f apos)) pos) (tRet (tFld X.K (tVar s) f)) (mRetF s k) := by
  refine ⟨ps_ret (pe_fld he.pe hb), fun vs0 Hr Hf H σ ρ D E p => ?_⟩
  unfold mRetF at p
  cases hc : ρ[s]? with
  | none => rw [hc] at p; exact p.elim
  | some c =>
    rw [hc] at p
    cases c with
    | mac j pr =>
      simp only at p
      cases h0 : ownL ρ (j + k) with
      | none => simp only [h0] at p; exact p.elim
      | some xs =>
        simp only [h0] at p
        have hg := ownL_some h0
        obtain ⟨a, u, h1, h2, h3, h4, h5⟩ := (E.cel _ _ hg).own rfl
        have h1 := joinEq.mp h1
        have li : j + k < ρ.length := (List.getElem?_eq_some_iff.mp hg).1
        refine tfld_of T F hk E hc fun v hv => ?_
        rw [h1] at hv; cases hv
        refine p _ σ Hf H (Ext.refl _) (E.put h1 (.inr (.inl rfl))) ⟨a, u, rfl, h2, h3, h4, h5, fun l z => ?_⟩
        obtain ⟨⟨c', q1, q2⟩, q3⟩ := z
        by_cases hl : j + k = l
        · subst hl; rw [List.getElem?_set_self li] at q1; cases q1; cases q2
        · rw [List.getElem?_set_ne hl] at q1
          exact hl (E.inj _ _ a ⟨⟨_, hg, rfl⟩, h1⟩ ⟨⟨c', q1, q2⟩, q3⟩)
    | _ => exact p.elim
/-! x = y.f: x is the same list as the slot of the machine's -/
def mAlias (i s k : Nat) : MS := fun ρ => match ρ[s]? with
  | some (.mac j _) => if i < ρ.length ∧ i ≠ s then .nx (ρ.set i (.al (j + k))) else .bad
  | _ => .bad
theorem ds_alias {o : Expr} {apos : Pos} {f : Str} (i s k : Nat) {x : Str} {pos' : Pos} (hN : X.N.Nodup) (T : MacT X.K X.mg) (F : FldK f k) (he : DE X W o (tVar s) (mVar s)) (hk : k = 0 ∨ k = 1 := by decide) (hb : attributeBase o f X.env (eval o X.env) = eval o X.env := by rfl)
    (hi : X.N[i]? = some x := by rfl) (hx : Loc X.env.scope x := by first | exact Or.inl rfl | exact Or.inr rfl) (hs : swapsWith (.Attribute o f apos) (some (.Name x pos')) pos.line X.env = pure false := by rfl)
    (hf : X.fn x = true ∨ X.env.scope.names.lookup x = some .local := by first | exact .inl rfl | exact .inr rfl) (hfx : fx[i]? ≠ some true := by decide) (hgs : i ∉ X.gs := by exact of_decide_eq_true (by kernel_rfl)) :
    DS X W fx (.Assign [.Name x pos'] (.Attribute o f apos) pos) (tAsg (tFld X.K (tVar s) f) (gName i)) (mAlias i s k) := by
  refine ⟨ps_set hN hi hx (pe_fld he.pe hb) hs hf, fun vs0 Hr Hf H σ ρ D E p => ?_⟩
  unfold mAlias at p
  cases hc : ρ[s]? with
  | none => rw [hc] at p; exact p.elim
  | some c =>
    rw [hc] at p
    cases c with
    | mac j pr =>
      simp only at p
      by_cases hz : i < ρ.length ∧ i ≠ s
      · rw [if_pos hz] at p
        obtain ⟨_, _, _, _, _, _, _, m1, m2⟩ := E.macAt hc
        have mk : j + k ∈ X.gs := by rcases hk with rfl | rfl; exact m1; exact m2
        refine tfld_of T F hk E hc fun v hv => ?_
        have E1 := E.store (i := i) (v := v) (c := .no) hfx (.inl hgs) (.inr (.inl rfl))
        have ne : i ≠ j + k := fun z => hgs (z ▸ mk)
        have E2 := E1.tell (i := i) (c := .al (j + k)) (by rw [List.getElem?_set_self hz.1]) rfl (by
          rw [List.getElem?_set_self (by rw [E.len]; exact hz.1)]
          exact ⟨⟨v, rfl, by rw [List.getElem?_set_ne ne]; exact hv⟩, mk⟩)
        rw [List.set_set] at E2
        exact p _ Hf H (Ext.refl _) E2
      · rw [if_neg hz] at p; exact p.elim
    | _ => exact p.elim
def mVarA (i : Nat) : ME := fun ρ => match ρ[i]? with
  | some (.al k) => .ok (.at k) ρ
  | _ => .bad
theorem de_varA (i : Nat) {x : Str} (hN : X.N[i]? = some x := by rfl) (hv : Vis X.env.scope x := by first | exact Or.inl rfl | exact Or.inr (Or.inl rfl) | exact Or.inr (Or.inr rfl))
    (hd : (x == ("__debug__" : Str)) = false := by decide) (hcd : (x == ("__classdict__" : Str)) = false := by decide) : DE X W (.Name x pos) (tVar i) (mVarA i) := by
  refine ⟨pe_var hN hv hd hcd, fun fx vs0 Hr Hf H σ ρ Q E h => ?_⟩
  unfold mVarA at h
  cases hc : ρ[i]? with
  | none => rw [hc] at h; exact h.elim
  | some c =>
    rw [hc] at h
    cases c with
    | al k =>
      obtain ⟨⟨v, h1, h2⟩, _⟩ := E.lnk i _ hc
      exact ⟨v, joinEq.mp h1, h v Hf H (Ext.refl _) E h2⟩
    | _ => exact h.elim
end
/-! ### defs that take a machine: on its program p, the other arguments ds, its two lists -/
abbrev FM := D → List D → MF
section
variable (K : PySem.W.Frag) (mg : Str → Option Value)
/-- the machine is the argument at pos -/
def spM (pos n : Nat) (F : FM) : Sp := fun vs H Q E => vs.length = n ∧ ∃ v w1 w2 p d1 d2 b1 b2 Hr Hf args, vs = w1 ++ v :: w2 ∧ w1.length = pos ∧ MacAt K mg Hf p v (.ref b1) (.ref b2) ∧ RepL K mg Hf d1 w1 ∧ RepL K mg Hf d2 w2 ∧
  EnvOk K mg [] [] [] Hr Hf H ([V.ref b1, V.ref b2].map some) args ∧ PostF K mg Hr Hf [.ref b1, .ref b2] (F p (d1 ++ d2) args) Q E
/-- .. of which but the program is known -/
def spB (n : Nat) (F : FM) : Sp := fun vs H Q E => vs.length = n ∧ ∃ v ws p ds Hr Hf, vs = v :: ws ∧ PMAt K mg Hf p v ∧ RepL K mg Hf ds ws ∧ EnvOk K mg [] [] [] Hr Hf H [] [] ∧ PostF K mg Hr Hf [] (F p ds []) Q E
end
def gh2 (n : Nat) (ρ : Env) : Env := match ρ[n]?, ρ[n + 1]? with
  | some (.own xs), some (.own fs) => [.own xs, .own fs]
  | _, _ => [.no, .no]
def mkM (pos n N : Nat) (m : MS) : FM := fun p ds args => if ds.length + 1 = n ∧ pos ≤ ds.length ∧ args.length = 2 then match m (pad N ((ds.take pos).map Cell.val ++ .mac n p :: ((ds.drop pos).map Cell.val ++ args))) with
  | .nx ρ => .ret (.dd .non) (gh2 n ρ)
  | .ret (.at _) _ => .bad
  | .ret r ρ => .ret r (gh2 n ρ)
  | .exc x ρ => .exc x (gh2 n ρ)
  | _ => .bad
  else .bad
def mkB (n N : Nat) (m : MS) : FM := fun p ds _ => if ds.length + 1 = n then match m (pad N (.pm p :: ds.map Cell.val)) with
  | .nx _ => .ret (.dd .non) []
  | .ret (.at _) _ => .bad
  | .ret r _ => .ret r []
  | .exc x _ => .exc x []
  | _ => .bad
  else .bad
section
variable {K : PySem.W.Frag} {mg : Str → Option Value} {gs : List Nat} {fx : List Bool} {vs0 : List V} {Hr Hf H : Hp} {σ : St} {ρ : Env} {p : D} {v b1 b2 : V}
theorem start_at {N : List Str} {vs : List V} (i : Nat) (hl : vs.length ≤ N.length) : (L2.start N vs)[i]? = if i < vs.length then (vs[i]?).map some else if i < N.length then some none else none := by
  unfold L2.start
  by_cases hi : i < vs.length
  · rw [if_pos hi, List.getElem?_append_left (by simpa using hi), List.getElem?_map]
  · rw [if_neg hi, List.getElem?_append_right (by simpa using hi), List.getElem?_replicate, List.length_map]
    by_cases h2 : i < N.length
    · rw [if_pos h2, if_pos (by omega)]
    · rw [if_neg h2, if_neg (by omega)]
theorem pad_at {N i : Nat} {ρ : Env} {c : Cell} (h : (pad N ρ)[i]? = some c) : c = .no ∨ (i < ρ.length ∧ ρ[i]? = some c) := by
  unfold pad at h
  by_cases hi : i < ρ.length
  · rw [List.getElem?_append_left hi] at h; exact .inr ⟨hi, h⟩
  · rw [List.getElem?_append_right (by omega), List.getElem?_replicate] at h
    split at h
    · cases h; exact .inl rfl
    · cases h
/-- the entry -/
theorem EnvOk.enterM {N : List Str} {pos n : Nat} {w1 w2 : List V} {d1 d2 : List D} {args : Env} (E : EnvOk K mg [] [] [] Hr Hf H ([b1, b2].map some) args) (hN : n + 2 ≤ N.length) (hn : w1.length + 1 + w2.length = n) (hg : n ∈ gs ∧ n + 1 ∈ gs)
    (M : MacAt K mg Hf p v b1 b2) (r1 : RepL K mg Hf d1 w1) (r2 : RepL K mg Hf d2 w2) :
    EnvOk K mg gs (List.replicate n false ++ [true, true]) ((w1 ++ v :: w2) ++ [b1, b2]) Hr Hf H (L2.start N ((w1 ++ v :: w2) ++ [b1, b2])) (pad N.length (d1.map Cell.val ++ .mac n p :: (d2.map Cell.val ++ args))) := by
  have la : args.length = 2 := by have := E.len; simpa using this.symm
  have l1 := r1.length
  have l2 := r2.length
  have lv : ((w1 ++ v :: w2) ++ [b1, b2]).length = n + 2 := by simp; omega
  have lr : (d1.map Cell.val ++ .mac n p :: (d2.map Cell.val ++ args)).length = n + 2 := by simp; omega
  have st : ∀ i, i < n + 2 → (L2.start N ((w1 ++ v :: w2) ++ [b1, b2]))[i]? = (((w1 ++ v :: w2) ++ [b1, b2])[i]?).map some := fun i hi => by
    rw [start_at i (by omega), lv, if_pos hi]
  have gb : ∀ k, ((w1 ++ v :: w2) ++ [b1, b2])[n + k]? = [b1, b2][k]? := fun k => by
    rw [List.getElem?_append_right (by simp; omega)]
    congr 1; simp; omega
  -- what stands at each slot
  have cell : ∀ (i : Nat) (c : Cell), (pad N.length (d1.map Cell.val ++ .mac n p :: (d2.map Cell.val ++ args)))[i]? = some c → c = .no ∨ (∃ d w, c = .val d ∧ Rep K mg Hf d w ∧ ((w1 ++ v :: w2) ++ [b1, b2])[i]? = some w ∧ i < n) ∨ (c = .mac n p ∧ i < n ∧ ((w1 ++ v :: w2) ++ [b1, b2])[i]? = some v) ∨ (∃ k, i = n + k ∧ k < 2 ∧ args[k]? = some c) := fun i c h => by
    rcases pad_at h with rfl | ⟨hi, h⟩
    · exact .inl rfl
    · rw [lr] at hi
      by_cases h1 : i < w1.length
      · rw [List.getElem?_append_left (by rw [List.length_map]; omega), List.getElem?_map] at h
        obtain ⟨d, e1, rfl⟩ := Option.map_eq_some_iff.mp h
        obtain ⟨w, e2, e3⟩ := r1.get e1
        refine .inr (.inl ⟨d, w, rfl, e3, ?_, by omega⟩)
        rw [List.append_assoc, List.getElem?_append_left h1]; exact e2
      · rw [List.getElem?_append_right (by rw [List.length_map]; omega), List.length_map] at h
        by_cases h2 : i = w1.length
        · have : i - d1.length = 0 := by omega
          rw [this] at h; simp at h; subst h
          refine .inr (.inr (.inl ⟨rfl, by omega, ?_⟩))
          rw [List.append_assoc, List.getElem?_append_right (by omega), show i - w1.length = 0 by omega]; rfl
        · obtain ⟨m, hm⟩ : ∃ m, i = w1.length + 1 + m := ⟨i - w1.length - 1, by omega⟩
          rw [show i - d1.length = m + 1 by omega, List.getElem?_cons_succ] at h
          by_cases h3 : m < w2.length
          · rw [List.getElem?_append_left (by rw [List.length_map]; omega), List.getElem?_map] at h
            obtain ⟨d, e1, rfl⟩ := Option.map_eq_some_iff.mp h
            obtain ⟨w, e2, e3⟩ := r2.get e1
            refine .inr (.inl ⟨d, w, rfl, e3, ?_, by omega⟩)
            rw [List.append_assoc, List.getElem?_append_right (by omega), show i - w1.length = m + 1 by omega, List.cons_append, List.getElem?_cons_succ, List.getElem?_append_left h3]; exact e2
          · rw [List.getElem?_append_right (by rw [List.length_map]; omega), List.length_map] at h
            exact .inr (.inr (.inr ⟨m - d2.length, by omega, by omega, h⟩))
  have own : ∀ {i : Nat} {a : Addr}, OwnAt (L2.start N ((w1 ++ v :: w2) ++ [b1, b2])) (pad N.length (d1.map Cell.val ++ .mac n p :: (d2.map Cell.val ++ args))) i a → ∃ k, i = n + k ∧ OwnAt ([b1, b2].map some) args k a := fun {i a} ⟨⟨c, q1, q2⟩, q3⟩ => by
    rcases cell i c q1 with rfl | ⟨d, w, rfl, _⟩ | ⟨rfl, _⟩ | ⟨k, rfl, hk, e⟩
    · cases q2
    · cases q2
    · cases q2
    · refine ⟨k, rfl, ⟨c, e, q2⟩, ?_⟩
      rw [st _ (by omega), gb] at q3
      rw [List.getElem?_map]; exact q3
  refine ⟨?_, E.sub, E.frm, E.dis, fun i c hc => ?_, fun i j a x y => ?_, fun i hi => ?_, fun i c hc => ?_⟩
  · simp [L2.start, pad, la]; omega
  · rcases cell i c hc with rfl | ⟨d, w, rfl, e1, e2, e3⟩ | ⟨rfl, _⟩ | ⟨k, rfl, hk, e⟩
    · trivial
    · rw [st i (by omega), e2]; exact ⟨w, rfl, e1⟩
    · trivial
    · have := E.cel k c e
      rw [st _ (by omega), gb]
      rw [List.getElem?_map] at this; exact this
  · obtain ⟨k, rfl, z1⟩ := own x
    obtain ⟨l, rfl, z2⟩ := own y
    rw [E.inj k l a z1 z2]
  · have hi' : i < n + 2 := by
      have := (List.getElem?_eq_some_iff.mp hi).1
      simpa using this
    rw [st i hi']
  · rcases cell i c hc with rfl | ⟨d, w, rfl, _⟩ | ⟨rfl, e1, e2⟩ | ⟨k, rfl, hk, e⟩
    · trivial
    · trivial
    · rw [st i (by omega), e2]
      refine ⟨⟨v, b1, b2, rfl, M, ?_, ?_⟩, hg⟩
      · rw [st n (by omega), show n = n + 0 from rfl, gb]; rfl
      · rw [st (n + 1) (by omega), gb]; rfl
    · exact .free (E.lnk k c e).no
theorem fix_replicate {n : Nat} : (List.replicate n false ++ [true, true])[n]? = some true ∧ (List.replicate n false ++ [true, true])[n + 1]? = some true := by
  constructor
  · rw [List.getElem?_append_right (by simp)]; simp
  · rw [List.getElem?_append_right (by simp)]; simp
theorem gh2_cases (n : Nat) (ρ : Env) : gh2 n ρ = [.no, .no] ∨ ∃ xs fs, ρ[n]? = some (.own xs) ∧ ρ[n + 1]? = some (.own fs) ∧ gh2 n ρ = [.own xs, .own fs] := by
  unfold gh2
  cases h1 : ρ[n]? with
  | none => exact .inl rfl
  | some c1 =>
    cases h2 : ρ[n + 1]? with
    | none => cases c1 <;> exact .inl rfl
    | some c2 => cases c1 <;> cases c2 <;> first | exact .inl rfl | exact .inr ⟨_, _, rfl, rfl, rfl⟩
/-- .. and the end -/
theorem EnvOk.leaveM {n : Nat} {ws : List V} (E : EnvOk K mg gs (List.replicate n false ++ [true, true]) (ws ++ [b1, b2]) Hr Hf H σ ρ) (hl : ws.length = n) : EnvOk K mg [] [] [] Hr Hf H ([b1, b2].map some) (gh2 n ρ) ∧ ∀ r v, ROk K mg Hr Hf H σ ρ r v → (∀ i, r ≠ .at i) → ROk K mg Hr Hf H ([b1, b2].map some) (gh2 n ρ) r v := by
  have s1 : σ[n]? = some (some b1) := by
    rw [E.fix n fix_replicate.1, List.getElem?_append_right (by omega), hl]; simp
  have s2 : σ[n + 1]? = some (some b2) := by
    rw [E.fix (n + 1) fix_replicate.2, List.getElem?_append_right (by omega), hl]; simp
  have own : ∀ {i : Nat} {a : Addr}, OwnAt ([b1, b2].map some) (gh2 n ρ) i a → OwnAt σ ρ (n + i) a ∧ i < 2 := fun {i a} ⟨⟨c, q1, q2⟩, q3⟩ => by
    rcases gh2_cases n ρ with z | ⟨xs, fs, z1, z2, z⟩
    · rw [z] at q1
      match i with
      | 0 => simp at q1; subst q1; cases q2
      | 1 => simp at q1; subst q1; cases q2
      | i + 2 => simp at q1
    · rw [z] at q1
      match i with
      | 0 => simp at q1 q3; subst q1; subst q3; exact ⟨⟨⟨_, z1, rfl⟩, s1⟩, by omega⟩
      | 1 => simp at q1 q3; subst q1; subst q3; exact ⟨⟨⟨_, z2, rfl⟩, s2⟩, by omega⟩
      | i + 2 => simp at q1
  refine ⟨⟨?_, E.sub, E.frm, E.dis, fun i c hc => ?_, fun i j a x y => ?_, fun i h => by simp at h, fun i c hc => ?_⟩, fun r v q hr => ?_⟩
  · rcases gh2_cases n ρ with z | ⟨xs, fs, z1, z2, z⟩ <;> rw [z] <;> rfl
  · rcases gh2_cases n ρ with z | ⟨xs, fs, z1, z2, z⟩
    · rw [z] at hc
      match i with
      | 0 => simp at hc; subst hc; trivial
      | 1 => simp at hc; subst hc; trivial
      | i + 2 => simp at hc
    · rw [z] at hc
      match i with
      | 0 => simp at hc; subst hc; have := E.cel n _ z1; rw [s1] at this; exact this
      | 1 => simp at hc; subst hc; have := E.cel (n + 1) _ z2; rw [s2] at this; exact this
      | i + 2 => simp at hc
  · have := E.inj _ _ a (own x).1 (own y).1
    omega
  · rcases gh2_cases n ρ with z | ⟨xs, fs, z1, z2, z⟩
    · rw [z] at hc
      match i with
      | 0 => simp at hc; subst hc; trivial
      | 1 => simp at hc; subst hc; trivial
      | i + 2 => simp at hc
    · rw [z] at hc
      match i with
      | 0 => simp at hc; subst hc; trivial
      | 1 => simp at hc; subst hc; trivial
      | i + 2 => simp at hc
  · cases r with
    | «at» i => exact (hr i rfl).elim
    | dd d => exact q
    | ow c =>
      obtain ⟨a, u, h1, h2, h3, h4, h5, h6⟩ := q
      exact ⟨a, u, h1, h2, h3, h4, h5, fun i z => h6 _ (own z).1⟩
    | nw a b c =>
      obtain ⟨x1, x2, y1, y2, h1, ⟨a1, a2, a3, a4, a5⟩, ⟨c1, c2, c3, c4, c5⟩, h4⟩ := q
      exact ⟨x1, x2, y1, y2, h1, ⟨a1, a2, a3, a4, fun i z => a5 _ (own z).1⟩, ⟨c1, c2, c3, c4, fun i z => c5 _ (own z).1⟩, h4⟩
end
section
variable {P : Program} {w : World} {K : PySem.W.Frag} {mg : Str → Option Value} {base : Heap}
/-- a def that takes a machine does what its body's function does -/
theorem fn_okM {x qual : Str} {st : Stmt} {f : Addr} {fd : FuncData} {N ps : List Str} {k pos n : Nat} {m : MS} (F : Fun K x qual st f fd) (S : FnScope N ps (defScope st)) (hn : ps.length = n) (hg : ghs 0 N = [n, n + 1]) (hv : noGh (defScope st) = true)
    (hbody : ∀ (cdv : Value) (A : Around) (outer : List PySem.Env) (s : Shared) (H : Hp) (E : XK), Room k (A.deeper (PyProof.Rows.envOfC qual (defScope st) s.heap.objs.size f cdv)) →
      ∃ t, DSs (cxOf (L2.CX P w) P w K mg base N qual (defScope st) f cdv A outer s H E) (fun cls d _ H => E cls d H) (List.replicate n false ++ [true, true]) (defBody st) t m) :
    FnOk P w K mg base (L2.CX P w) (k + 1) f fd ps (spM K mg pos n (mkM pos n N.length m)) := by
  refine F.okX S (fun vs H Q E h => by rw [hn]; exact h.1) fun cdv A outer s H vs Q E hr h => ?_
  obtain ⟨hl, v, w1, w2, p, d1, d2, b1, b2, Hr, Hf, args, rfl, hp, M, r1, r2, E0, pf⟩ := h
  obtain ⟨t, hb⟩ := hbody cdv A outer s H E hr
  have gm : n ∈ ghs 0 N ∧ n + 1 ∈ ghs 0 N := by rw [hg]; simp
  have nl : n + 2 ≤ N.length := by
    obtain ⟨j, y, h1, _, h3⟩ := ghs_mem.mp gm.2
    have := (List.getElem?_eq_some_iff.mp h1).1
    omega
  have hl' : w1.length + 1 + w2.length = n := by simp at hl; omega
  have la : args.length = 2 := by have := E0.len; simpa using this.symm
  have EE := E0.enterM (gs := ghs 0 N) (pos := pos) nl hl' gm M r1 r2
  unfold mkM at pf
  have l1 := r1.length
  have l2 := r2.length
  have tk : (d1 ++ d2).take pos = d1 := by rw [← hp, l1]; exact List.take_left
  have dk : (d1 ++ d2).drop pos = d2 := by rw [← hp, l1]; exact List.drop_left
  rw [tk, dk, if_pos ⟨by rw [List.length_append]; omega, by rw [List.length_append]; omega, la⟩] at pf
  have lw : (w1 ++ v :: w2).length = n := hl
  have agr : Agr (cxOf (L2.CX P w) P w K mg base N qual (defScope st) f cdv A outer s H E) (L2.start N (w1 ++ v :: w2)) (L2.start N ((w1 ++ v :: w2) ++ [V.ref b1, V.ref b2])) := by
    refine ⟨?_, fun i hi => ?_⟩
    · unfold L2.start
      simp; omega
    · have hi : i ∉ ghs 0 N := hi
      rw [hg] at hi
      have h1 : i ≠ n := fun z => hi (by rw [z]; simp)
      have h2 : i ≠ n + 1 := fun z => hi (by rw [z]; simp)
      rw [start_at i (by simp; omega), start_at i (by simp; omega)]
      by_cases h3 : i < n
      · rw [if_pos (by simp; omega), if_pos (by simp; omega), List.getElem?_append_left (by simp; omega)]
      · have e1 : ¬ i < (w1 ++ v :: w2).length := by simp; omega
        have e2 : ¬ i < ((w1 ++ v :: w2) ++ [V.ref b1, V.ref b2]).length := by simp; omega
        rw [if_neg e1, if_neg e2]
  have post : PostS K mg (ghs 0 N) (fun cls d _ H => E cls d H) (List.replicate n false ++ [true, true]) ((w1 ++ v :: w2) ++ [V.ref b1, V.ref b2]) Hr Hf (m (pad N.length (d1.map Cell.val ++ .mac n p :: (d2.map Cell.val ++ args)))) { nx := fun _ H' => Q .non H', rt := Q } := by
    cases hm : m (pad N.length (d1.map Cell.val ++ .mac n p :: (d2.map Cell.val ++ args))) with
    | nx ρ => rw [hm] at pf; exact fun σ F H' e E' => pf _ F H' e (E'.leaveM lw).1 rfl
    | ret r ρ =>
      rw [hm] at pf
      cases r with
      | «at» i => exact pf.elim
      | dd d => exact fun v σ F H' e E' q => pf v F H' e (E'.leaveM lw).1 ((E'.leaveM lw).2 _ v q (by intro i z; cases z))
      | ow c => exact fun v σ F H' e E' q => pf v F H' e (E'.leaveM lw).1 ((E'.leaveM lw).2 _ v q (by intro i z; cases z))
      | nw _ _ _ => exact fun v σ F H' e E' q => pf v F H' e (E'.leaveM lw).1 ((E'.leaveM lw).2 _ v q (by intro i z; cases z))
    | exc x ρ =>
      rw [hm] at pf
      exact fun C h1 σ F H' e E' => pf C h1 F H' e (E'.leaveM lw).1
    | bk ρ => rw [hm] at pf; exact pf.elim
    | ct ρ => rw [hm] at pf; exact pf.elim
    | bad => rw [hm] at pf; exact pf.elim
  have run := hb.ss _ Hr Hf H _ _ _ EE post
  exact ⟨_, pss_gh hv hb.ps, _, agr, run⟩
/-- a def of which but the machine's program matters -/
theorem fn_okB {x qual : Str} {st : Stmt} {f : Addr} {fd : FuncData} {N ps : List Str} {k n : Nat} {m : MS} (F : Fun K x qual st f fd) (S : FnScope N ps (defScope st)) (hn : ps.length = n) (hg : ghs 0 N ≠ [])
    (hbody : ∀ (cdv : Value) (A : Around) (outer : List PySem.Env) (s : Shared) (H : Hp) (E : XK), Room k (A.deeper (PyProof.Rows.envOfC qual (defScope st) s.heap.objs.size f cdv)) →
      ∃ t, DSs (cxOf (L2.CX P w) P w K mg base N qual (defScope st) f cdv A outer s H E) (fun cls d _ H => E cls d H) [] (defBody st) t m) :
    FnOk P w K mg base (L2.CX P w) (k + 1) f fd ps (spB K mg n (mkB n N.length m)) := by
  refine F.okX S (fun vs H Q E h => by rw [hn]; exact h.1) fun cdv A outer s H vs Q E hr h => ?_
  obtain ⟨hl, v, ws, p, ds, Hr, Hf, rfl, M, r1, E0, pf⟩ := h
  obtain ⟨t, hb⟩ := hbody cdv A outer s H E hr
  have l1 := r1.length
  have hl' : ws.length + 1 = n := by simpa using hl
  have nl : n ≤ N.length := by have := congrArg List.length S.pre; rw [List.length_take] at this; omega
  have EE : EnvOk K mg (ghs 0 N) [] [] Hr Hf H (L2.start N (v :: ws)) (pad N.length (.pm p :: ds.map Cell.val)) := by
    have cell : ∀ (i : Nat) (c : Cell), (pad N.length (.pm p :: ds.map Cell.val))[i]? = some c → c = .no ∨ (∃ d w, c = .val d ∧ Rep K mg Hf d w ∧ (v :: ws)[i]? = some w ∧ i < n) ∨ (c = .pm p ∧ i = 0) := fun i c h => by
      rcases pad_at h with rfl | ⟨hi, h⟩
      · exact .inl rfl
      · cases i with
        | zero => simp at h; subst h; exact .inr (.inr ⟨rfl, rfl⟩)
        | succ i =>
          rw [List.getElem?_cons_succ, List.getElem?_map] at h
          obtain ⟨d, e1, rfl⟩ := Option.map_eq_some_iff.mp h
          obtain ⟨w, e2, e3⟩ := r1.get e1
          have := (List.getElem?_eq_some_iff.mp e2).1
          exact .inr (.inl ⟨d, w, rfl, e3, by simpa using e2, by omega⟩)
    have own : ∀ {i : Nat} {a : Addr}, ¬ OwnAt (L2.start N (v :: ws)) (pad N.length (.pm p :: ds.map Cell.val)) i a := fun {i a} ⟨⟨c, q1, q2⟩, q3⟩ => by
      rcases cell i c q1 with rfl | ⟨d, w, rfl, _⟩ | ⟨rfl, _⟩ <;> cases q2
    refine ⟨?_, E0.sub, E0.frm, E0.dis, fun i c hc => ?_, fun i j a x y => (own x).elim, fun i h => by simp at h, fun i c hc => ?_⟩
    · simp [L2.start, pad]; omega
    · rcases cell i c hc with rfl | ⟨d, w, rfl, e1, e2, e3⟩ | ⟨rfl, rfl⟩
      · trivial
      · rw [start_at i (by simpa using (by omega : ws.length + 1 ≤ N.length)), if_pos (by simp; omega), e2]; exact ⟨w, rfl, e1⟩
      · trivial
    · rcases cell i c hc with rfl | ⟨d, w, rfl, _⟩ | ⟨rfl, rfl⟩
      · trivial
      · trivial
      · rw [start_at 0 (by simpa using (by omega : ws.length + 1 ≤ N.length)), if_pos (by simp)]
        exact ⟨⟨v, rfl, M⟩, hg⟩
  unfold mkB at pf
  rw [if_pos (by omega)] at pf
  have E1 : ∀ {F H' : Hp} {σ : St} {ρ : Env}, EnvOk K mg (ghs 0 N) [] [] Hr F H' σ ρ → EnvOk K mg [] [] [] Hr F H' [] [] := fun e => ⟨rfl, e.sub, e.frm, e.dis, fun i c h => by simp at h, fun i j a ⟨⟨c, h, _⟩, _⟩ => by simp at h, fun i h => by simp at h, fun i c h => by simp at h⟩
  have R1 : ∀ {F H' : Hp} {σ : St} {ρ : Env} {r : R} {v : V}, ROk K mg Hr F H' σ ρ r v → (∀ i, r ≠ .at i) → ROk K mg Hr F H' [] [] r v := fun {F H' σ ρ r v} q hr => by
    have no : ∀ (i : Nat) (b : Addr), ¬ OwnAt [] [] i b := fun i b ⟨⟨c, h, _⟩, _⟩ => by simp at h
    cases r with
    | «at» i => exact (hr i rfl).elim
    | dd d => exact q
    | ow c =>
      obtain ⟨a, u, h1, h2, h3, h4, h5, h6⟩ := q
      exact ⟨a, u, h1, h2, h3, h4, h5, fun i => no i a⟩
    | nw a b c =>
      obtain ⟨x1, x2, y1, y2, h1, ⟨a1, a2, a3, a4, a5⟩, ⟨c1, c2, c3, c4, c5⟩, h4⟩ := q
      exact ⟨x1, x2, y1, y2, h1, ⟨a1, a2, a3, a4, fun i => no i _⟩, ⟨c1, c2, c3, c4, fun i => no i _⟩, h4⟩
  have post : PostS K mg (ghs 0 N) (fun cls d _ H => E cls d H) [] [] Hr Hf (m (pad N.length (.pm p :: ds.map Cell.val))) { nx := fun _ H' => Q .non H', rt := Q } := by
    cases hm : m (pad N.length (.pm p :: ds.map Cell.val)) with
    | nx ρ => rw [hm] at pf; exact fun σ F H' e E' => pf _ F H' e (E1 E') rfl
    | ret r ρ =>
      rw [hm] at pf
      cases r with
      | «at» i => exact pf.elim
      | dd d => exact fun v σ F H' e E' q => pf v F H' e (E1 E') (R1 q (by intro i z; cases z))
      | ow c => exact fun v σ F H' e E' q => pf v F H' e (E1 E') (R1 q (by intro i z; cases z))
      | nw _ _ _ => exact fun v σ F H' e E' q => pf v F H' e (E1 E') (R1 q (by intro i z; cases z))
    | exc x ρ =>
      rw [hm] at pf
      exact fun C h1 σ F H' e E' => pf C h1 F H' e (E1 E')
    | bk ρ => rw [hm] at pf; exact pf.elim
    | ct ρ => rw [hm] at pf; exact pf.elim
    | bad => rw [hm] at pf; exact pf.elim
  have run := hb.ss _ Hr Hf H _ _ _ EE post
  exact ⟨_, hb.ps, run⟩
end
/-! ### calls that take a machine -/
structure Fs (P : Program) (w : World) (K : PySem.W.Frag) (mg : Str → Option Value) (base : Heap) (k : Nat) (x : Str) (n : Nat) (sp : Sp) : Prop where
  all : ∃ f fd ps, mg x = some (.ref f) ∧ ps.length = n ∧ FnOk P w K mg base (L2.CX P w) k f fd ps sp ∧ PySem.W.keepIn K (.ref f) = true ∧ Binds K fd ps []
/-- a method -/
structure Ms (P : Program) (w : World) (K : PySem.W.Frag) (mg : Str → Option Value) (base : Heap) (k : Nat) (m : Str) (n : Nat) (sp : Sp) : Prop where
  all : ∃ C f fd ps, mg "Machine" = some (.ref C) ∧ MacC K C ∧ Meth K C m f ∧ ps.length = n ∧ FnOk P w K mg base (L2.CX P w) k f fd ps sp ∧ Binds K fd ps []
/-- a method's text stands in the class -/
structure Md (K : PySem.W.Frag) (mg : Str → Option Value) (m qual : Str) (st : Stmt) : Prop where
  all : ∃ C f fd, mg "Machine" = some (.ref C) ∧ MacC K C ∧ Meth K C m f ∧ Fun K m qual st f fd
theorem fs_of {P : Program} {w : World} {K : PySem.W.Frag} {mg : Str → Option Value} {base : Heap} {k : Nat} {x : Str} {st : Stmt} {ps : List Str} {n : Nat} {sp : Sp} (D : Fd K mg x st) (hn : ps.length = n)
    (hb : ∀ (kV doc pm : Value) (an : Option Addr) (cdv ct : Value) (us : List Value), us.length = ps.length → bindArgs (PySem.W.fnOf x x (defArgs st) (defBody st) (defScope st) .none kV doc pm an cdv ct) ⟨us, []⟩ = pure (ps.zip us))
    (h : ∀ f fd, Fun K x x st f fd → FnOk P w K mg base (L2.CX P w) k f fd ps sp) : Fs P w K mg base k x n sp := by
  obtain ⟨f, fd, m, Fn⟩ := D.all
  exact ⟨f, fd, ps, m, hn, h f fd Fn, Fn.kp, Fn.binds hb⟩
theorem ms_of {P : Program} {w : World} {K : PySem.W.Frag} {mg : Str → Option Value} {base : Heap} {k : Nat} {x qual : Str} {st : Stmt} {ps : List Str} {n : Nat} {sp : Sp} (D : Md K mg x qual st) (hn : ps.length = n)
    (hb : ∀ (kV doc pm : Value) (an : Option Addr) (cdv ct : Value) (us : List Value), us.length = ps.length → bindArgs (PySem.W.fnOf x qual (defArgs st) (defBody st) (defScope st) .none kV doc pm an cdv ct) ⟨us, []⟩ = pure (ps.zip us))
    (h : ∀ f fd, Fun K x qual st f fd → FnOk P w K mg base (L2.CX P w) k f fd ps sp) : Ms P w K mg base k x n sp := by
  obtain ⟨C, f, fd, m1, m2, m3, Fn⟩ := D.all
  exact ⟨C, f, fd, ps, m1, m2, m3, hn, h f fd Fn, Fn.binds hb⟩
/-- the call itself, when the arguments ds are there -/
def mRunM (s : Nat) (F : FM) (ds : List D) : ME := fun ρ => match ρ[s]? with
  | some (.mac j p) => match ownL ρ j, ownL ρ (j + 1) with
    | some xs, some fs => match F p ds [.own xs, .own fs] with
      | .ret (.at _) _ => .bad
      | .ret r [c1, c2] => .ok r ((ρ.set j c1).set (j + 1) c2)
      | .exc x [c1, c2] => .exc x ((ρ.set j c1).set (j + 1) c2)
      | _ => .bad
    | _, _ => .bad
  | _ => .bad
def mCallM (s n : Nat) (F : FM) (as : List AM) : ME := fun ρ => match ρ[s]? with
  | some (.mac _ _) => mArgs as ρ fun cs ρ1 => match vals cs with
    | some ds => if ds.length + 1 = n then mRunM s F ds ρ1 else .bad
    | none => .bad
  | _ => .bad
def mRunB (s : Nat) (F : FM) (ds : List D) : ME := fun ρ => match ρ[s]? with
  | some (.mac _ p) => match F p ds [] with
    | .ret (.at _) _ => .bad
    | .ret r _ => .ok r ρ
    | .exc x _ => .exc x ρ
    | .bad => .bad
  | some (.pm p) => match F p ds [] with
    | .ret (.at _) _ => .bad
    | .ret r _ => .ok r ρ
    | .exc x _ => .exc x ρ
    | .bad => .bad
  | _ => .bad
def mCallB (s n : Nat) (F : FM) (as : List AM) : ME := fun ρ => match ρ[s]? with
  | some (.mac _ _) => mArgs as ρ fun cs ρ1 => match vals cs with
    | some ds => if ds.length + 1 = n then mRunB s F ds ρ1 else .bad
    | none => .bad
  | _ => .bad
section
variable {K : PySem.W.Frag} {mg : Str → Option Value} {gs : List Nat} {W : WX} {fx : List Bool} {vs0 : List V} {Hr Hf H : Hp} {σ : St} {ρ : Env} {s j : Nat} {p : D} {F : FM} {ds xs fs : List D}
theorem set2 (ρ : Env) (j : Nat) (c1 c2 : Cell) : ((((ρ.set j .no).set (j + 1) .no).set j c1).set (j + 1) c2) = (ρ.set j c1).set (j + 1) c2 := by
  rw [List.set_comm _ _ (show j + 1 ≠ j by omega), List.set_set, List.set_set]
theorem runM_core {Q : VK} (E : EnvOk K mg gs fx vs0 Hr Hf H σ ρ) (q : PostE K mg gs W fx vs0 Hr Hf σ (mRunM s F ds ρ) Q) :
    ∃ j p v b1 b2 xs fs Hr', ρ[s]? = some (.mac j p) ∧ σ[s]? = some (some v) ∧ MacAt K mg Hf p v (.ref b1) (.ref b2) ∧ EnvOk K mg [] [] [] Hr' Hf H ([V.ref b1, V.ref b2].map some) [.own xs, .own fs] ∧ PostF K mg Hr' Hf [.ref b1, .ref b2] (F p ds [.own xs, .own fs]) Q (WE W σ) := by
  unfold mRunM at q
  cases hc : ρ[s]? with
  | none => rw [hc] at q; exact q.elim
  | some c =>
    rw [hc] at q
    cases c with
    | mac j p =>
      simp only at q
      cases o1 : ownL ρ j with
      | none => simp only [o1] at q; exact q.elim
      | some xs =>
        cases o2 : ownL ρ (j + 1) with
        | none => simp only [o1, o2] at q; exact q.elim
        | some fs =>
          simp only [o1, o2] at q
          obtain ⟨v, c1, c2, h1, M, s1, s2, _⟩ := E.macAt hc
          have g1 := ownL_some o1
          have g2 := ownL_some o2
          obtain ⟨b1, u1, k1, w1, f1, E1⟩ := E.handOver g1 rfl
          rw [s1] at k1; cases k1
          obtain ⟨b2, u2, k2, w2, f2, E2⟩ := E1.handOver (i := j + 1) (c := .own fs) (by rw [List.getElem?_set_ne (by omega)]; exact g2) rfl
          rw [s2] at k2; cases k2
          have a : ArgsOk K mg Hf σ Hr (upd (upd Hr b1 u1) b2 u2) [.ref b1, .ref b2] [(.own xs, some j), (.own fs, some (j + 1))] := ⟨b1, u1, rfl, s1, w1, f1, b2, u2, rfl, s2, w2, f2, rfl⟩
          refine ⟨j, p, v, b1, b2, xs, fs, _, rfl, h1, M, call_enter E2 a, ?_⟩
          have lv : ∀ {F2 H2 : Hp} {os : Env}, Ext Hf F2 → EnvOk K mg [] [] [] (calleeR Hr (upd (upd Hr b1 u1) b2 u2) Hf H) F2 H2 ([V.ref b1, V.ref b2].map some) os → ∃ c1 c2, os = [c1, c2] ∧ EnvOk K mg gs fx vs0 Hr F2 H2 σ ((ρ.set j c1).set (j + 1) c2) ∧
              ∀ r v, ROk K mg (calleeR Hr (upd (upd Hr b1 u1) b2 u2) Hf H) F2 H2 ([V.ref b1, V.ref b2].map some) os r v → (∀ i, r ≠ .at i) → ROk K mg Hr F2 H2 σ ((ρ.set j c1).set (j + 1) c2) r v := fun {F2 H2 os} e2 E3 => by
            have lo : os.length = 2 := by have := E3.len; simpa using this.symm
            match os, lo with
            | [c1, c2], _ =>
              obtain ⟨z1, z2⟩ := call_leave E2 a (Ext.refl _) e2 E3
              have z : give [(.own xs, some j), (.own fs, some (j + 1))] [c1, c2] ((ρ.set j .no).set (j + 1) .no) = (ρ.set j c1).set (j + 1) c2 := by
                show ((((ρ.set j .no).set (j + 1) .no).set j c1).set (j + 1) c2) = _
                exact set2 ρ j c1 c2
              rw [z] at z1 z2
              exact ⟨c1, c2, rfl, z1, z2⟩
          cases hF : F p ds [.own xs, .own fs] with
          | bad => rw [hF] at q; exact q
          | exc x os =>
            intro C h1 F2 H2 e2 E3
            obtain ⟨c1, c2, rfl, z1, _⟩ := lv e2 E3
            rw [hF] at q
            exact q C h1 F2 H2 e2 z1
          | ret r os =>
            have go : (∀ i, r ≠ .at i) → PostF K mg (calleeR Hr (upd (upd Hr b1 u1) b2 u2) Hf H) Hf [.ref b1, .ref b2] (.ret r os) Q (WE W σ) := fun hr => by
              have g : ∀ v F2 H2, Ext Hf F2 → EnvOk K mg [] [] [] (calleeR Hr (upd (upd Hr b1 u1) b2 u2) Hf H) F2 H2 ([V.ref b1, V.ref b2].map some) os → ROk K mg (calleeR Hr (upd (upd Hr b1 u1) b2 u2) Hf H) F2 H2 ([V.ref b1, V.ref b2].map some) os r v → Q v H2 := fun v F2 H2 e2 E3 y => by
                obtain ⟨c1, c2, rfl, z1, z2⟩ := lv e2 E3
                rw [hF] at q
                cases r with
                | «at» i => exact (hr i rfl).elim
                | dd d => exact q v F2 H2 e2 z1 (z2 _ v y hr)
                | ow c => exact q v F2 H2 e2 z1 (z2 _ v y hr)
                | nw a b c => exact q v F2 H2 e2 z1 (z2 _ v y hr)
              cases r with
              | «at» i => exact (hr i rfl).elim
              | dd d => exact g
              | ow c => exact g
              | nw a b c => exact g
            cases r with
            | «at» i => rw [hF] at q; exact q.elim
            | dd d => exact go (by intro i z; cases z)
            | ow c => exact go (by intro i z; cases z)
            | nw a b c => exact go (by intro i z; cases z)
    | _ => exact q.elim
theorem runB_core {Q : VK} (E : EnvOk K mg gs fx vs0 Hr Hf H σ ρ) (q : PostE K mg gs W fx vs0 Hr Hf σ (mRunB s F ds ρ) Q) :
    ∃ p v Hr', σ[s]? = some (some v) ∧ PMAt K mg Hf p v ∧ EnvOk K mg [] [] [] Hr' Hf H [] [] ∧ PostF K mg Hr' Hf [] (F p ds []) Q (WE W σ) := by
  have a : ArgsOk K mg Hf σ Hr Hr [] [] := rfl
  have key : ∀ (p : D) (v : V), σ[s]? = some (some v) → PMAt K mg Hf p v → PostE K mg gs W fx vs0 Hr Hf σ (match F p ds [] with
      | .ret (.at _) _ => .bad
      | .ret r _ => .ok r ρ
      | .exc x _ => .exc x ρ
      | .bad => .bad) Q → ∃ p v Hr', σ[s]? = some (some v) ∧ PMAt K mg Hf p v ∧ EnvOk K mg [] [] [] Hr' Hf H [] [] ∧ PostF K mg Hr' Hf [] (F p ds []) Q (WE W σ) := fun p v h1 M q => by
    refine ⟨p, v, _, h1, M, call_enter E a, ?_⟩
    have lv : ∀ {F2 H2 : Hp} {os : Env}, Ext Hf F2 → EnvOk K mg [] [] [] (calleeR Hr Hr Hf H) F2 H2 (([] : List V).map some) os → EnvOk K mg gs fx vs0 Hr F2 H2 σ ρ ∧
        ∀ r v, ROk K mg (calleeR Hr Hr Hf H) F2 H2 (([] : List V).map some) os r v → (∀ i, r ≠ .at i) → ROk K mg Hr F2 H2 σ ρ r v := fun {F2 H2 os} e2 E3 => by
      have lo : os = [] := List.eq_nil_of_length_eq_zero (by have := E3.len; simpa using this.symm)
      subst lo
      exact call_leave E a (Ext.refl _) e2 E3
    cases hF : F p ds [] with
    | bad => rw [hF] at q; exact q
    | exc x os =>
      rw [hF] at q
      exact fun C h1 F2 H2 e2 E3 => q C h1 F2 H2 e2 (lv e2 E3).1
    | ret r os =>
      rw [hF] at q
      cases r with
      | «at» i => exact q.elim
      | dd d => exact fun v F2 H2 e2 E3 y => q v F2 H2 e2 (lv e2 E3).1 ((lv e2 E3).2 _ v y (by intro i z; cases z))
      | ow c => exact fun v F2 H2 e2 E3 y => q v F2 H2 e2 (lv e2 E3).1 ((lv e2 E3).2 _ v y (by intro i z; cases z))
      | nw _ _ _ => exact fun v F2 H2 e2 E3 y => q v F2 H2 e2 (lv e2 E3).1 ((lv e2 E3).2 _ v y (by intro i z; cases z))
  unfold mRunB at q
  cases hc : ρ[s]? with
  | none => rw [hc] at q; exact q.elim
  | some c =>
    rw [hc] at q
    cases c with
    | mac j p =>
      obtain ⟨v, b1, b2, h1, M, _⟩ := E.macAt hc
      exact key p v h1 M.pm q
    | pm p =>
      obtain ⟨v, h1, M⟩ := E.pmAt hc
      exact key p v h1 M q
    | _ => exact q.elim
end
def tMthS (C : Addr) (m : Str) (sp : Sp) (E : St → XK) (ta : TE) (t : TA) : TE := fun σ H Q => ta σ H fun x H1 => ∃ a dx fs, x = .ref a ∧ H1 a = some (.ins C dx fs) ∧ fs.lookup m = none ∧ t σ H1 fun vs H2 => sp (x :: vs) H2 Q (E σ)
section
variable {X : Cx} {k : Nat} {f C : Addr} {fd : FuncData} {ps : List Str} {sp : Sp} {E : St → XK} {m : Str} {pos apos : Pos} {e o : Expr} {es : List Expr} {ta : TE} {t : TA}
theorem pe_mthS {pl : Sem Bool} (he : PE X o ta) (c : Cls X.K C) (hm : Meth X.K C m f) (F : FnOk X.prog X.w X.K X.mg X.base (L2.CX X.prog X.w) k f fd ps sp) (hr : Room k X.A) (hb : Binds X.K fd ps []) (hx : ∀ σ, PassesAt (L2.CX X.prog X.w) X σ (E σ)) (ha : PA X (e :: es) t)
    (hst : starEach (e :: es) X.env = (false, eval e X.env) :: starEach es X.env := by rfl) (hpl : (backTo pos (starEach es X.env)).any (·.1) = false := by rfl)
    (ht : eval (.Call (.Attribute o m apos) (e :: es) [] pos) X.env = (do
      let ov ← eval o X.env
      standAt apos.atName
      let (f, first) ← holding [ov] (getMethod ov m pl)
      callWith pos f first (backTo pos (starEach (e :: es) X.env)) (backToKw pos (keywordEach [] X.env))) := by rfl) :
    PE X (.Call (.Attribute o m apos) (e :: es) [] pos) (tMthS C m sp E ta t) := by
  refine ⟨fun pins s σ H Q I h => ?_⟩
  refine PySem.W.methodCall_KW (pl := pl) (thn (he.run pins s σ H _ I h) fun u s1 ⟨x, H1, I1, rx, a, dx, fs, ex, ea, l, q⟩ => ?_) ht
  subst ex
  obtain rfl : u = Value.ref a := rx
  refine getmeth_ok I1 ea c hm l ?_
  refine PySem.W.callWith_K (first := [.ref a]) (h₀ := X.base) I.ok.mod.kin hm.kp (thn (ha.run pos pins s1 σ H1 _ I1 q) fun us s2 ⟨vs, H2, I2, r, q2⟩ => ⟨I2.kIn, ?_⟩) hst hpl
  exact run_fnS (us := .ref a :: us) (vs := .ref a :: vs) F hr hb (hx σ) I2 (.cons rfl r) q2
theorem pe_mthS0 {pl : Sem Bool} (he : PE X o ta) (c : Cls X.K C) (hm : Meth X.K C m f) (F : FnOk X.prog X.w X.K X.mg X.base (L2.CX X.prog X.w) k f fd ps sp) (hr : Room k X.A) (hb : Binds X.K fd ps []) (hx : ∀ σ, PassesAt (L2.CX X.prog X.w) X σ (E σ))
    (ht : eval (.Call (.Attribute o m apos) [] [] pos) X.env = (do
      let ov ← eval o X.env
      standAt apos.atName
      let (f, first) ← holding [ov] (getMethod ov m pl)
      callWith pos f first (backTo pos (starEach [] X.env)) (backToKw pos (keywordEach [] X.env))) := by rfl) :
    PE X (.Call (.Attribute o m apos) [] [] pos) (tMthS C m sp E ta tNil) := by
  refine ⟨fun pins s σ H Q I h => ?_⟩
  refine PySem.W.methodCall_KW (pl := pl) (thn (he.run pins s σ H _ I h) fun u s1 ⟨x, H1, I1, rx, a, dx, fs, ex, ea, l, q⟩ => ?_) ht
  subst ex
  obtain rfl : u = Value.ref a := rx
  refine getmeth_ok I1 ea c hm l ?_
  exact PySem.W.callWith_K0 (first := [.ref a]) I1.kIn hm.kp (run_fnS (us := [.ref a]) (vs := [V.ref a]) F hr hb (hx σ) I1 (.cons rfl .nil) q)
end
section
variable {X : Cx} {W : WX} {k k' n s : Nat} {F : FM} {m : Str} {pos apos : Pos} {e o : Expr} {es : List Expr} {t : TA} {as : List AM}
/-- the fields have no such name -/
def noFld (m : Str) : Prop := ∀ vp b1 b2 : V, List.lookup m [(("_program" : Str), vp), ("stack", b1), ("frames", b2)] = none
theorem noFld_mk {m : Str} (h1 : (m == ("_program" : Str)) = false) (h2 : (m == ("stack" : Str)) = false) (h3 : (m == ("frames" : Str)) = false) : noFld m := fun vp b1 b2 => by
  simp only [List.lookup, h1, h2, h3]
/-- what a method's call asks -/
theorem se_mthM {K : PySem.W.Frag} {mg : Str → Option Value} {gs : List Nat} {C : Addr} (hC : mg "Machine" = some (.ref C)) (hf : noFld m) (ha : SA K mg gs W t as) : SE K mg gs W (tMthS C m (spM K mg 0 n F) (WE W) (tVar s) t) (mCallM s n F as) := by
  intro fx vs0 Hr Hf H σ ρ Q E q
  unfold mCallM at q
  cases hc : ρ[s]? with
  | none => rw [hc] at q; exact q.elim
  | some c =>
    rw [hc] at q
    cases c with
    | mac j p =>
      simp only at q
      obtain ⟨v, b1, b2, h1, ⟨a, C', dx, vp, rfl, g2, g3, g4⟩, _⟩ := E.macAt hc
      rw [hC] at g2; cases g2
      refine ⟨_, h1, a, dx, _, rfl, E.sub a _ g3, hf _ _ _, ?_⟩
      refine ha fx vs0 Hr Hr Hf H σ ρ _ _ Q E (Ext.refl _) q fun vs cs Hr' Hf' H' ρ' e1 E1 al q1 => ?_
      cases hv : TL.vals cs with
      | none => simp only [hv] at q1; exact q1.elim
      | some ds =>
        simp only [hv] at q1
        obtain ⟨k1, k2⟩ := vals_ok al hv
        subst k1
        by_cases hn : ds.length + 1 = n
        · rw [if_pos hn] at q1
          obtain ⟨j', p', v', c1, c2, xs, fs, Hr', w1, w2, w3, w4, w5⟩ := runM_core E1 q1
          rw [h1] at w2; cases w2
          exact ⟨by simp [k2.length, hn], _, [], vs, p', [], ds, c1, c2, Hr', Hf', _, rfl, rfl, w3, rfl, k2, w4, w5⟩
        · rw [if_neg hn] at q1; exact q1.elim
    | _ => exact q.elim
theorem se_mthB {K : PySem.W.Frag} {mg : Str → Option Value} {gs : List Nat} {C : Addr} (hC : mg "Machine" = some (.ref C)) (hf : noFld m) (ha : SA K mg gs W t as) : SE K mg gs W (tMthS C m (spB K mg n F) (WE W) (tVar s) t) (mCallB s n F as) := by
  intro fx vs0 Hr Hf H σ ρ Q E q
  have go : ∀ (a dx : Addr) (fs : List (Str × V)), σ[s]? = some (some (.ref a)) → Hf a = some (.ins C dx fs) → fs.lookup m = none → PostE K mg gs W fx vs0 Hr Hf σ (mArgs as ρ fun cs ρ1 => match vals cs with
      | some ds => if ds.length + 1 = n then mRunB s F ds ρ1 else .bad
      | none => .bad) Q → tMthS C m (spB K mg n F) (WE W) (tVar s) t σ H Q := fun a dx fs h1 g3 lk q => by
    refine ⟨_, h1, a, dx, _, rfl, E.sub a _ g3, lk, ?_⟩
    refine ha fx vs0 Hr Hr Hf H σ ρ _ _ Q E (Ext.refl _) q fun vs cs Hr' Hf' H' ρ' e1 E1 al q1 => ?_
    cases hv : TL.vals cs with
    | none => simp only [hv] at q1; exact q1.elim
    | some ds =>
      simp only [hv] at q1
      obtain ⟨k1, k2⟩ := vals_ok al hv
      subst k1
      by_cases hn : ds.length + 1 = n
      · rw [if_pos hn] at q1
        obtain ⟨p', v', Hr', w2, w3, w4, w5⟩ := runB_core E1 q1
        rw [h1] at w2; cases w2
        exact ⟨by simp [k2.length, hn], _, vs, p', ds, Hr', Hf', rfl, w3, k2, w4, w5⟩
      · rw [if_neg hn] at q1; exact q1.elim
  unfold mCallB at q
  cases hc : ρ[s]? with
  | none => rw [hc] at q; exact q.elim
  | some c =>
    rw [hc] at q
    cases c with
    | mac j p =>
      obtain ⟨v, b1, b2, h1, ⟨a, C', dx, vp, rfl, g2, g3, g4⟩, _⟩ := E.macAt hc
      rw [hC] at g2; cases g2
      exact go a dx _ h1 g3 (hf _ _ _) q
    | _ => exact q.elim
end
section
variable {X : Cx} {W : WX} {k k' n s : Nat} {F : FM} {m : Str} {pos apos : Pos} {e o : Expr} {es : List Expr} {t : TA} {as : List AM}
theorem de_mthM {pl : Sem Bool} (s : Nat) (hM : Ms X.prog X.w X.K X.mg X.base k m n (spM X.K X.mg 0 n F)) (ho : DE X W o (tVar s) (mVar s)) (hf : noFld m) (hr : Room k' X.A) (tk : Takes X W) (ha : DA X W (e :: es) t as) (hk : k ≤ k' := by decide)
    (hst : starEach (e :: es) X.env = (false, eval e X.env) :: starEach es X.env := by rfl) (hpl : (backTo pos (starEach es X.env)).any (·.1) = false := by rfl)
    (ht : eval (.Call (.Attribute o m apos) (e :: es) [] pos) X.env = (do
      let ov ← eval o X.env
      standAt apos.atName
      let (f, first) ← holding [ov] (getMethod ov m pl)
      callWith pos f first (backTo pos (starEach (e :: es) X.env)) (backToKw pos (keywordEach [] X.env))) := by rfl) : DE X W (.Call (.Attribute o m apos) (e :: es) [] pos) (tE X.K X.mg X.gs W (mCallM s n F as)) (mCallM s n F as) := by
  obtain ⟨C, f, fd, ps, m1, m2, m3, m4, m5, m6⟩ := hM.all
  exact DE.can ⟨pe_mthS ho.pe m2.cl m3 m5 (hr.mono hk) m6 (passAt tk) ha.pa hst hpl ht, se_mthM m1 hf ha.sa⟩
theorem de_mthM0 {pl : Sem Bool} (s : Nat) (hM : Ms X.prog X.w X.K X.mg X.base k m n (spM X.K X.mg 0 n F)) (ho : DE X W o (tVar s) (mVar s)) (hf : noFld m) (hr : Room k' X.A) (tk : Takes X W) (hk : k ≤ k' := by decide)
    (ht : eval (.Call (.Attribute o m apos) [] [] pos) X.env = (do
      let ov ← eval o X.env
      standAt apos.atName
      let (f, first) ← holding [ov] (getMethod ov m pl)
      callWith pos f first (backTo pos (starEach [] X.env)) (backToKw pos (keywordEach [] X.env))) := by rfl) : DE X W (.Call (.Attribute o m apos) [] [] pos) (tE X.K X.mg X.gs W (mCallM s n F [])) (mCallM s n F []) := by
  obtain ⟨C, f, fd, ps, m1, m2, m3, m4, m5, m6⟩ := hM.all
  exact DE.can ⟨pe_mthS0 ho.pe m2.cl m3 m5 (hr.mono hk) m6 (passAt tk) ht, se_mthM m1 hf (da_nil (X := X)).sa⟩
theorem de_mthB {pl : Sem Bool} (s : Nat) (hM : Ms X.prog X.w X.K X.mg X.base k m n (spB X.K X.mg n F)) (ho : DE X W o (tVar s) (mVar s)) (hf : noFld m) (hr : Room k' X.A) (tk : Takes X W) (ha : DA X W (e :: es) t as) (hk : k ≤ k' := by decide)
    (hst : starEach (e :: es) X.env = (false, eval e X.env) :: starEach es X.env := by rfl) (hpl : (backTo pos (starEach es X.env)).any (·.1) = false := by rfl)
    (ht : eval (.Call (.Attribute o m apos) (e :: es) [] pos) X.env = (do
      let ov ← eval o X.env
      standAt apos.atName
      let (f, first) ← holding [ov] (getMethod ov m pl)
      callWith pos f first (backTo pos (starEach (e :: es) X.env)) (backToKw pos (keywordEach [] X.env))) := by rfl) : DE X W (.Call (.Attribute o m apos) (e :: es) [] pos) (tE X.K X.mg X.gs W (mCallB s n F as)) (mCallB s n F as) := by
  obtain ⟨C, f, fd, ps, m1, m2, m3, m4, m5, m6⟩ := hM.all
  exact DE.can ⟨pe_mthS ho.pe m2.cl m3 m5 (hr.mono hk) m6 (passAt tk) ha.pa hst hpl ht, se_mthB m1 hf ha.sa⟩
end
section
variable {X : Cx} {W : WX} {k k' n s : Nat} {F : FM} {x : Str} {p pos : Pos} {e e0 o : Expr} {es : List Expr} {te0 : TE} {m0 : ME} {t : TA} {as : List AM}
/-- f(machine, ..) -/
theorem de_fnM0 (s : Nat) (hF : Fs X.prog X.w X.K X.mg X.base k x n (spM X.K X.mg 0 n F)) (ho : DE X W o (tVar s) (mVar s)) (hr : Room k' X.A) (tk : Takes X W) (ha : DA X W es t as) (hk : k ≤ k' := by decide) (hg : Gl X x := by rfl) (hdb : (x == ("__debug__" : Str)) = false := by decide)
    (he : starEach (o :: es) X.env = (false, eval o X.env) :: starEach es X.env := by rfl) (hpl : (backTo pos (starEach es X.env)).any (·.1) = false := by rfl) :
    DE X W (.Call (.Name x p) (o :: es) [] pos) (tE X.K X.mg X.gs W (mCallM s n F as)) (mCallM s n F as) := by
  obtain ⟨f, fd, ps, m1, m2, m3, m4, m5⟩ := hF.all
  refine DE.can ⟨pe_callS m3 (hr.mono hk) hg m1 m4 m5 (passAt tk) (pa_cons ho.pe ha.pa he) hdb he hpl, ?_⟩
  intro fx vs0 Hr Hf H σ ρ Q E q
  unfold mCallM at q
  cases hc : ρ[s]? with
  | none => rw [hc] at q; exact q.elim
  | some c =>
    rw [hc] at q
    cases c with
    | mac j pr =>
      simp only at q
      obtain ⟨v, b1, b2, h1, _⟩ := E.macAt hc
      refine ⟨v, h1, ?_⟩
      refine ha.sa fx vs0 Hr Hr Hf H σ ρ _ _ Q E (Ext.refl _) q fun vs cs Hr' Hf' H' ρ' e1 E1 al q1 => ?_
      cases hv : TL.vals cs with
      | none => simp only [hv] at q1; exact q1.elim
      | some ds =>
        simp only [hv] at q1
        obtain ⟨k1, k2⟩ := vals_ok al hv
        subst k1
        by_cases hn : ds.length + 1 = n
        · rw [if_pos hn] at q1
          obtain ⟨j', p', v', c1, c2, xs, fs, Hr', w1, w2, w3, w4, w5⟩ := runM_core E1 q1
          rw [h1] at w2; cases w2
          exact ⟨by simp [k2.length, hn], _, [], vs, p', [], ds, c1, c2, Hr', Hf', _, rfl, rfl, w3, rfl, k2, w4, w5⟩
        · rw [if_neg hn] at q1; exact q1.elim
    | _ => exact q.elim
/-- f(e, machine, ..) -/
theorem de_fnM1 (s : Nat) (hF : Fs X.prog X.w X.K X.mg X.base k x n (spM X.K X.mg 1 n F)) (h0 : DE X W e0 te0 m0) (ho : DE X W o (tVar s) (mVar s)) (hr : Room k' X.A) (tk : Takes X W) (ha : DA X W es t as) (hk : k ≤ k' := by decide) (hg : Gl X x := by rfl) (hdb : (x == ("__debug__" : Str)) = false := by decide)
    (he0 : starEach (e0 :: o :: es) X.env = (false, eval e0 X.env) :: starEach (o :: es) X.env := by rfl) (he : starEach (o :: es) X.env = (false, eval o X.env) :: starEach es X.env := by rfl) (hpl : (backTo pos (starEach (o :: es) X.env)).any (·.1) = false := by rfl) :
    DE X W (.Call (.Name x p) (e0 :: o :: es) [] pos) (tE X.K X.mg X.gs W (mCallM s n F (.ex m0 :: as))) (mCallM s n F (.ex m0 :: as)) := by
  obtain ⟨f, fd, ps, m1, m2, m3, m4, m5⟩ := hF.all
  refine DE.can ⟨pe_callS m3 (hr.mono hk) hg m1 m4 m5 (passAt tk) (pa_cons h0.pe (pa_cons ho.pe ha.pa he) he0) hdb he0 hpl, ?_⟩
  intro fx vs0 Hr Hf H σ ρ Q E q
  unfold mCallM at q
  cases hc : ρ[s]? with
  | none => rw [hc] at q; exact q.elim
  | some c =>
    rw [hc] at q
    cases c with
    | mac j pr =>
      simp only at q
      obtain ⟨v, b1, b2, h1, _⟩ := E.macAt hc
      refine h0.se fx vs0 Hr Hf H σ ρ _ E ?_
      unfold mArgs at q
      cases hm : m0 ρ with
      | bad => rw [hm] at q; exact q
      | exc x ρ1 => rw [hm] at q; exact q
      | ok r ρ1 =>
        rw [hm] at q
        intro v0 F1 H1 e1 E1 q1
        cases hz : frz r ρ1 with
        | none => simp only [hz] at q; exact q.elim
        | some y =>
          obtain ⟨d, ρ2⟩ := y
          simp only [hz] at q
          obtain ⟨F', e', E2, r2⟩ := frz_ok E1 q1 hz
          refine ⟨v, h1, ?_⟩
          refine ha.sa fx vs0 Hr Hr F' H1 σ ρ2 _ _ Q E2 (Ext.refl _) (PostE.mono q (e1.trans e')) fun vs cs Hr' Hf' H' ρ' e3 E3 al q3 => ?_
          cases hv : TL.vals cs with
          | none => simp only [TL.vals, hv, Option.map_none] at q3; exact q3.elim
          | some ds =>
            simp only [TL.vals, hv, Option.map_some] at q3
            obtain ⟨k1, k2⟩ := vals_ok al hv
            subst k1
            by_cases hn : (d :: ds).length + 1 = n
            · rw [if_pos hn] at q3
              obtain ⟨j', p', v', c1, c2, xs, fs, Hr', w1, w2, w3, w4, w5⟩ := runM_core E3 q3
              rw [h1] at w2; cases w2
              exact ⟨by simp [k2.length] at hn ⊢; omega, _, [v0], vs, p', [d], ds, c1, c2, Hr', Hf', _, rfl, rfl, w3, .cons (r2.mono e3) .nil, k2, w4, w5⟩
            · rw [if_neg hn] at q3; exact q3.elim
    | _ => exact q.elim
end
/-! ### a machine is made -/
def nwOf (p : D) : Env → ER
  | [.own xs, .own fs] => .ok (.nw p xs fs) []
  | _ => .bad
theorem nwOf_cases (p : D) : ∀ os : Env, nwOf p os = .bad ∨ ∃ xs fs, os = [.own xs, .own fs]
  | [.own xs, .own fs] => .inr ⟨xs, fs, rfl⟩
  | [] => .inl rfl
  | [c] => by cases c <;> exact .inl rfl
  | [.no, _] => .inl rfl
  | [.val _, _] => .inl rfl
  | [.ownD _ _, _] => .inl rfl
  | [.mac _ _, _] => .inl rfl
  | [.al _, _] => .inl rfl
  | [.pm _, _] => .inl rfl
  | [.own _, .no] => .inl rfl
  | [.own _, .val _] => .inl rfl
  | [.own _, .ownD _ _] => .inl rfl
  | [.own _, .mac _ _] => .inl rfl
  | [.own _, .al _] => .inl rfl
  | [.own _, .pm _] => .inl rfl
  | .own _ :: .own _ :: _ :: _ => .inl rfl
  | .own _ :: .no :: _ :: _ => .inl rfl
  | .own _ :: .val _ :: _ :: _ => .inl rfl
  | .own _ :: .ownD _ _ :: _ :: _ => .inl rfl
  | .own _ :: .mac _ _ :: _ :: _ => .inl rfl
  | .own _ :: .al _ :: _ :: _ => .inl rfl
  | .own _ :: .pm _ :: _ :: _ => .inl rfl
  | .no :: _ :: _ :: _ => .inl rfl
  | .val _ :: _ :: _ :: _ => .inl rfl
  | .ownD _ _ :: _ :: _ :: _ => .inl rfl
  | .mac _ _ :: _ :: _ :: _ => .inl rfl
  | .al _ :: _ :: _ :: _ => .inl rfl
  | .pm _ :: _ :: _ :: _ => .inl rfl
def pairOf : D → Option (Str × Int)
  | .tup [.str s, .int i] => some (s, i)
  | _ => none
theorem pairOf_some {g : D} {z : Str × Int} (h : pairOf g = some z) : g = .tup [.str z.1, .int z.2] := by
  unfold pairOf at h
  split at h
  · cases h; rfl
  · cases h
/-- what __init__ does with a program p, a name d, the values ds -/
def mkI (FB FL : FM) (p d : D) (ds : List D) : ER := match FB p [d] [] with
  | .ret (.dd g) _ => match pairOf g with
    | some _ => match FL p [] [.own ds, .own [g]] with
      | .ret (.dd _) os => nwOf p os
      | .exc x _ => .exc x []
      | _ => .bad
    | none => .bad
  | .exc x _ => .exc x []
  | _ => .bad
section
variable (K : PySem.W.Frag) (mg : Str → Option Value)
def spI (FB FL : FM) : Sp := fun vs H Q E => ∃ x v1 v2 b3 C dx p d ds ys Hr Hf, vs = [.ref x, v1, v2, .ref b3] ∧ mg "Machine" = some (.ref C) ∧ H x = some (.ins C dx []) ∧ Hf x = none ∧ Hr x = none ∧ b3 ≠ x ∧ H b3 = some (.lst ys) ∧ RepL K mg Hf ds ys ∧
  Rep K mg Hf p v1 ∧ Rep K mg Hf d v2 ∧ Ext Hf H ∧ Ext Hr H ∧ (∀ a o, Hr a = some o → Hf a = none) ∧
  match mkI FB FL p d ds with
  | .ok r _ => ∀ Hf' H', Ext Hf Hf' → EnvOk K mg [] [] [] Hr Hf' H' [] [] → ROk K mg Hr Hf' H' [] [] r (.ref x) → Q .non H'
  | .exc y _ => ∀ C', mg y = some (.ref C') → ∀ Hf' H', Ext Hf Hf' → EnvOk K mg [] [] [] Hr Hf' H' [] [] → E (.ref C') none H'
  | .bad => False
end
section
variable {K : PySem.W.Frag} {mg : Str → Option Value} {Hr Hf H : Hp}
theorem EnvOk.nil (h1 : Ext Hf H) (h2 : Ext Hr H) (h3 : ∀ a o, Hr a = some o → Hf a = none) : EnvOk K mg [] [] [] Hr Hf H [] [] :=
  ⟨rfl, h1, h2, h3, fun i c h => by simp at h, fun i j a ⟨⟨c, h, _⟩, _⟩ => by simp at h, fun i h => by simp at h, fun i c h => by simp at h⟩
theorem putF_new1 (v1 b1 : V) : putF "stack" b1 [(("_program" : Str), v1)] = [(("_program" : Str), v1), ("stack", b1)] := by
  have e1 : ¬ (("_program" : Str) = "stack") := by decide +kernel
  simp only [putF, if_neg e1]
theorem putF_new2 (v1 b1 b2 : V) : putF "frames" b2 [(("_program" : Str), v1), ("stack", b1)] = [(("_program" : Str), v1), ("stack", b1), ("frames", b2)] := by
  have e1 : ¬ (("_program" : Str) = "frames") := by decide +kernel
  have e2 : ¬ (("stack" : Str) = "frames") := by decide +kernel
  simp only [putF, if_neg e1, if_neg e2]
theorem lk_begun (v1 b1 : V) : List.lookup ("_begun" : Str) [(("_program" : Str), v1), ("stack", b1)] = none := by
  have e1 : (("_begun" : Str) == ("_program" : Str)) = false := by decide +kernel
  have e2 : (("_begun" : Str) == ("stack" : Str)) = false := by decide +kernel
  simp only [List.lookup, e1, e2]
theorem lk_prog1 (v1 b1 : V) : List.lookup ("_program" : Str) [(("_program" : Str), v1), ("stack", b1)] = some v1 := by
  have e1 : (("_program" : Str) == ("_program" : Str)) = true := by decide +kernel
  simp only [List.lookup, e1]
/-- a tuple of a text and an int does not hang on an instance -/
theorem Rep.pair {Hf' : Hp} {x : Addr} {s : Str} {i : Int} {v : V} {o : HO} (h : Rep K mg Hf (.tup [.str s, .int i]) v) (hx : Hf x = some o) (ho : ∀ vs, o ≠ .tup vs ∧ ∀ ob, o ≠ .frz ob (.tup vs)) (e : ∀ a u, a ≠ x → Hf a = some u → Hf' a = some u) : Rep K mg Hf' (.tup [.str s, .int i]) v := by
  obtain ⟨a, vs, rfl, h2, w1, ws1, rfl, h3, w2, ws2, rfl, h4, h5⟩ := h
  refine ⟨a, _, rfl, ?_, w1, _, rfl, h3, w2, _, rfl, h4, h5⟩
  rcases h2 with (h2 | ⟨ob, h2⟩) | h2
  · have : a ≠ x := fun z => by subst z; rw [hx] at h2; cases h2; exact (ho _).1 rfl
    exact .inl (.inl (e a _ this h2))
  · have : a ≠ x := fun z => by subst z; rw [hx] at h2; cases h2; exact (ho _).2 _ rfl
    exact .inl (.inr ⟨ob, e a _ this h2⟩)
  · exact .inr h2
end
abbrev rLst (K : PySem.W.Frag) : List V → Hp → VK → Prop := fun xs H Q => ∃ p ys, xs = [.ref p] ∧ (SqL K H p ys ∨ SqT K H p ys) ∧ ∀ l, H l = none → Q (.ref l) (upd H l (.lst ys))
/-- __init__'s reading -/
def tInit (K : PySem.W.Frag) (mg : Str → Option Value) (C : Addr) (W : WX) (FB FL : FM) : TS :=
  tSeq (sFld K (tVar 0) (tVar 1) "_program") (tSeq (sFld K (tVar 0) (tCB (rLst K) (tCons (tVar 3) tNil)) "stack")
    (tSeq (sFld K (tVar 0) (tLst (tCons (tMthS C "_begun" (spB K mg 2 FB) (WE W) (tVar 0) (tCons (tVar 2) tNil)) tNil)) "frames") (tDrop (tMthS C "_leave" (spM K mg 0 1 FL) (WE W) (tVar 0) tNil))))
theorem tInit_ok {K : PySem.W.Frag} {mg : Str → Option Value} {C : Addr} {FB FL : FM} {H : Hp} {vs : List V} {Q : VK} {E : XK} {σ : St} (hC : mg "Machine" = some (.ref C)) (MC : MacC K C) (hl : noFld "_leave") (h : spI K mg FB FL vs H Q E) (hσ : ∀ i, i < 4 → σ[i]? = (vs[i]?).map some) :
    tInit K mg C (fun cls d _ H => E cls d H) FB FL { nx := fun _ H' => Q .non H', rt := Q } σ H := by
  obtain ⟨x, v1, v2, b3, C', dx, p, d, ds, ys, Hr, Hf, rfl, hC', hx, fx, rx, n3, h3, r3, rp, rd, eF, eR, dis, post⟩ := h
  rw [hC] at hC'; cases hC'
  have s0 : σ[0]? = some (some (.ref x)) := hσ 0 (by omega)
  have s1 : σ[1]? = some (some v1) := hσ 1 (by omega)
  have s2 : σ[2]? = some (some v2) := hσ 2 (by omega)
  have s3 : σ[3]? = some (some (.ref b3)) := hσ 3 (by omega)
  -- self._program = program
  refine ⟨v1, s1, _, s0, x, C, dx, [], rfl, hx, MC.cl, MC.nP, by show 0 < 1000; decide, ?_⟩
  -- self.stack = list(stack)
  refine ⟨_, s3, b3, ys, rfl, .inl (.of (by rw [upd_ne n3]; exact h3)), fun l1 hl1 => ?_⟩
  have nx1 : x ≠ l1 := fun z => by rw [← z, upd_same] at hl1; cases hl1
  have fl1 : H l1 = none := by rw [upd_ne (Ne.symm nx1)] at hl1; exact hl1
  refine ⟨_, s0, x, C, dx, _, rfl, by rw [upd_ne nx1, upd_same], MC.cl, MC.nS, by show 1 < 1000; decide, ?_⟩
  rw [show putF "_program" v1 ([] : List (Str × V)) = [(("_program" : Str), v1)] from rfl, putF_new1]
  -- the heap by now
  obtain ⟨H2, e2⟩ : ∃ H2, H2 = upd (upd (upd H x (.ins C dx [(("_program" : Str), v1)])) l1 (.lst ys)) x (.ins C dx [(("_program" : Str), v1), ("stack", .ref l1)]) := ⟨_, rfl⟩
  rw [← e2]
  have x2 : H2 x = some (.ins C dx [(("_program" : Str), v1), ("stack", .ref l1)]) := by rw [e2, upd_same]
  have l2 : H2 l1 = some (.lst ys) := by rw [e2, upd_ne (Ne.symm nx1), upd_same]
  have o2 : ∀ a, a ≠ x → a ≠ l1 → H2 a = H a := fun a h1 h2 => by rw [e2, upd_ne h1, upd_ne h2, upd_ne h1]
  obtain ⟨Fc, eFc⟩ : ∃ Fc, Fc = upd Hf x (.ins C dx [(("_program" : Str), v1), ("stack", .ref l1)]) := ⟨_, rfl⟩
  obtain ⟨Rc, eRc⟩ : ∃ Rc, Rc = upd Hr l1 (.lst ys) := ⟨_, rfl⟩
  have fc : Ext Hf Fc := by rw [eFc]; exact Ext.new fx
  have f1 : Hf l1 = none := eF.free fl1
  have r1 : Hr l1 = none := eR.free fl1
  have rc : Ext Hr Rc := by rw [eRc]; exact Ext.new r1
  have E2 : EnvOk K mg [] [] [] Rc Fc H2 [] [] := by
    refine EnvOk.nil (fun a o h => ?_) (fun a o h => ?_) fun a o h => ?_
    · by_cases ha : a = x
      · subst ha; rw [eFc, upd_same] at h; cases h; exact x2
      · rw [eFc, upd_ne ha] at h
        rw [o2 a ha (ne_of_none h f1)]; exact eF a o h
    · by_cases ha : a = l1
      · subst ha; rw [eRc, upd_same] at h; cases h; exact l2
      · rw [eRc, upd_ne ha] at h
        rw [o2 a (ne_of_none h rx) ha]; exact eR a o h
    · by_cases ha : a = l1
      · subst ha; rw [eFc, upd_ne (Ne.symm nx1)]; exact f1
      · rw [eRc, upd_ne ha] at h
        rw [eFc, upd_ne (ne_of_none h rx)]; exact dis a o h
  -- self._begun(name)
  refine ⟨_, s0, x, dx, _, rfl, x2, lk_begun _ _, _, s2, ?_⟩
  refine ⟨rfl, .ref x, [v2], p, [d], Rc, Fc, rfl, ⟨x, C, dx, _, v1, rfl, hC, by rw [eFc, upd_same], lk_prog1 _ _, rp.mono fc⟩, .cons (rd.mono fc) .nil, E2, ?_⟩
  unfold mkI at post
  cases hB : FB p [d] [] with
  | bad => rw [hB] at post; exact post
  | exc y os =>
    rw [hB] at post
    intro C' h1 F3 H3 e3 E3
    exact post C' h1 F3 H3 (fc.trans e3) (EnvOk.nil E3.sub (rc.trans E3.frm) fun a o h => E3.dis a o (rc a o h))
  | ret r os =>
    rw [hB] at post
    cases r with
    | «at» i => exact post.elim
    | ow c => exact post.elim
    | nw _ _ _ => exact post.elim
    | dd g =>
      simp only at post
      cases hp : pairOf g with
      | none => rw [hp] at post; exact post.elim
      | some z =>
          rw [hp] at post
          obtain ⟨sn, iz⟩ := z
          have hg := pairOf_some hp
          subst hg
          simp only at post
          intro vg F3 H3 e3 E3 rg
          have rg : Rep K mg F3 (.tup [.str sn, .int iz]) vg := rg
          have F3x : F3 x = some (.ins C dx [(("_program" : Str), v1), ("stack", .ref l1)]) := e3 x _ (by rw [eFc, upd_same])
          have H3l : H3 l1 = some (.lst ys) := E3.frm l1 _ (by rw [eRc, upd_same])
          have F3l : F3 l1 = none := E3.dis l1 _ (by rw [eRc, upd_same])
          -- [..]
          refine ⟨by show 1 ≤ sizeLine; decide, fun m2 hm2 => ?_⟩
          have nx2 : x ≠ m2 := fun z => by rw [← z, E3.sub x _ F3x] at hm2; cases hm2
          have n12 : l1 ≠ m2 := fun z => by rw [← z, H3l] at hm2; cases hm2
          refine ⟨_, s0, x, C, dx, _, rfl, by rw [upd_ne nx2]; exact E3.sub x _ F3x, MC.cl, MC.nF, by show 2 < 1000; decide, ?_⟩
          rw [putF_new2]
          obtain ⟨H4, e4⟩ : ∃ H4, H4 = upd (upd H3 m2 (.lst [vg])) x (.ins C dx [(("_program" : Str), v1), ("stack", .ref l1), ("frames", .ref m2)]) := ⟨_, rfl⟩
          obtain ⟨F4, g4⟩ : ∃ F4, F4 = upd F3 x (.ins C dx [(("_program" : Str), v1), ("stack", .ref l1), ("frames", .ref m2)]) := ⟨_, rfl⟩
          rw [← e4]
          have x4 : H4 x = some (.ins C dx [(("_program" : Str), v1), ("stack", .ref l1), ("frames", .ref m2)]) := by rw [e4, upd_same]
          have m4 : H4 m2 = some (.lst [vg]) := by rw [e4, upd_ne (Ne.symm nx2), upd_same]
          have o4 : ∀ a, a ≠ x → a ≠ m2 → H4 a = H3 a := fun a h1 h2 => by rw [e4, upd_ne h1, upd_ne h2]
          have f4 : Ext Hf F4 := fun a o h => by
            rw [g4, upd_ne (ne_of_none h fx)]; exact e3 a o (fc a o h)
          have F3m : F3 m2 = none := E3.sub.free hm2
          have Rm : Rc m2 = none := E3.frm.free hm2
          have Hm : Hr m2 = none := rc.free Rm
          have E4 : EnvOk K mg [] [] [] Hr F4 H4 ([V.ref l1, V.ref m2].map some) [.own ds, .own [.tup [.str sn, .int iz]]] := by
            have rg4 : Rep K mg F4 (.tup [.str sn, .int iz]) vg := rg.pair F3x (fun vs => ⟨by simp, by simp⟩) fun a u ha h => by rw [g4, upd_ne ha]; exact h
            have F4l : F4 l1 = none := by rw [g4, upd_ne (Ne.symm nx1)]; exact F3l
            have F4m : F4 m2 = none := by rw [g4, upd_ne (Ne.symm nx2)]; exact F3m
            refine ⟨rfl, fun a o h => ?_, fun a o h => ?_, fun a o h => ?_, fun i c hc => ?_, fun i j a y z => ?_, fun i h => by simp at h, fun i c hc => ?_⟩
            · by_cases ha : a = x
              · subst ha; rw [g4, upd_same] at h; cases h; exact x4
              · rw [g4, upd_ne ha] at h
                rw [o4 a ha (ne_of_none h F3m)]; exact E3.sub a o h
            · rw [o4 a (ne_of_none h rx) (ne_of_none h Hm)]; exact E3.frm a o (rc a o h)
            · rw [g4, upd_ne (ne_of_none h rx)]; exact E3.dis a o (rc a o h)
            · match i with
              | 0 => simp at hc; subst hc; exact ⟨l1, _, rfl, by rw [o4 l1 (Ne.symm nx1) n12]; exact H3l, ⟨_, rfl, r3.mono f4⟩, F4l, r1⟩
              | 1 => simp at hc; subst hc; exact ⟨m2, _, rfl, m4, ⟨_, rfl, .cons rg4 .nil⟩, F4m, Hm⟩
              | i + 2 => simp at hc
            · obtain ⟨⟨c, y1, y2⟩, y3⟩ := y
              obtain ⟨⟨c', z1, z2⟩, z3⟩ := z
              match i, j with
              | 0, 0 => rfl
              | 1, 1 => rfl
              | 0, 1 => simp at y3 z3; exact absurd (y3.trans z3.symm) n12
              | 1, 0 => simp at y3 z3; exact absurd (z3.trans y3.symm) n12
              | i + 2, _ => simp at y1
              | _, j + 2 => simp at z1
            · match i with
              | 0 => simp at hc; subst hc; trivial
              | 1 => simp at hc; subst hc; trivial
              | i + 2 => simp at hc
          -- self._leave()
          refine ⟨_, s0, x, dx, _, rfl, x4, hl _ _ _, ?_⟩
          refine ⟨rfl, .ref x, [], [], p, [], [], l1, m2, Hr, F4, _, rfl, rfl, ⟨x, C, dx, v1, rfl, hC, by rw [g4, upd_same], rp.mono f4⟩, .nil, .nil, E4, ?_⟩
          have nilE : ∀ {F5 H5 : Hp} {os : Env}, EnvOk K mg [] [] [] Hr F5 H5 ([V.ref l1, V.ref m2].map some) os → EnvOk K mg [] [] [] Hr F5 H5 [] [] := fun e => EnvOk.nil e.sub e.frm e.dis
          show PostF K mg Hr F4 [.ref l1, .ref m2] (FL p [] [.own ds, .own [.tup [.str sn, .int iz]]]) _ _
          cases hL : FL p [] [.own ds, .own [.tup [.str sn, .int iz]]] with
          | bad => rw [hL] at post; exact post
          | exc y os2 =>
            rw [hL] at post
            exact fun C' h1 F5 H5 e5 E5 => post C' h1 F5 H5 (f4.trans e5) (nilE E5)
          | ret r os2 =>
            rw [hL] at post
            cases r with
            | dd dr =>
              simp only at post
              intro v F5 H5 e5 E5 _
              rcases nwOf_cases p os2 with z | ⟨xs, fs, rfl⟩
              · rw [z] at post; exact post.elim
              · simp only [nwOf] at post
                obtain ⟨a1, u1, k1, k2, ⟨ws1, rfl, k3⟩, k4, k5⟩ := (E5.cel 0 (.own xs) rfl).own rfl
                obtain ⟨a2, u2, q1, q2, ⟨ws2, rfl, q3⟩, q4, q5⟩ := (E5.cel 1 (.own fs) rfl).own rfl
                cases k1; cases q1
                have no : ∀ (i : Nat) (b : Addr), ¬ OwnAt [] [] i b := fun i b ⟨⟨c, h, _⟩, _⟩ => by simp at h
                exact post F5 H5 (f4.trans e5) (nilE E5) ⟨l1, m2, ws1, ws2, ⟨x, C, dx, v1, rfl, hC, e5 x _ (by rw [g4, upd_same]), rp.mono (f4.trans e5)⟩, ⟨k2, k3, k4, k5, fun i => no i _⟩, ⟨q2, q3, q4, q5, fun i => no i _⟩, n12⟩
            | «at» i => exact post.elim
            | ow c => exact post.elim
            | nw _ _ _ => exact post.elim
/-! C(..), where what is raised passes at the slots -/
structure MkT (P : Program) (w : World) (K : PySem.W.Frag) (mg : Str → Option Value) (base : Heap) (k : Nat) (FB FL : FM) : Prop where
  all : ∃ C f fd ps, mg "Machine" = some (.ref C) ∧ L2.Mk K C f ∧ ps.length = 4 ∧ FnOk P w K mg base (L2.CX P w) k f fd ps (spI K mg FB FL) ∧ Binds K fd ps []
def tMkS (C : Addr) (sp : Sp) (E : St → XK) (t : TA) : TE := fun σ H Q => t σ H fun vs H1 => ∀ x dx, H1 x = none → H1 dx = none → dx ≠ x →
  sp (.ref x :: vs) (upd (upd H1 dx (.own x)) x (.ins C dx [])) (fun v H2 => v = .non ∧ Q (.ref x) H2) (E σ)
section
variable {X : Cx} {k : Nat} {f C : Addr} {fd : FuncData} {ps : List Str} {sp : Sp} {E : St → XK} {x : Str} {p pos : Pos} {e : Expr} {es : List Expr} {t : TA}
theorem run_mkS {pins : List (Addr × Obj)} {σ : St} {H : Hp} {s : Shared} {Q : VK} {us : List Value} {vs : List V} (M : L2.Mk X.K C f) (F : FnOk X.prog X.w X.K X.mg X.base (L2.CX X.prog X.w) k f fd ps sp) (hr : Room (k + 1) X.A) (hb : Binds X.K fd ps [])
    (hx : PassesAt (L2.CX X.prog X.w) X σ (E σ)) (I : Inv X pins σ H s) (r : Vals vs us)
    (h : ∀ x dx, H x = none → H dx = none → dx ≠ x → sp (.ref x :: vs) (upd (upd H dx (.own x)) x (.ins C dx [])) (fun v H2 => v = .non ∧ Q (.ref x) H2) (E σ)) :
    wpAny (model X.prog X.w) X.A (call (.ref C) us) (EP X pins σ Q) X.xe s := by
  have hq := h (s.heap.objs.size + 1) s.heap.objs.size (I.hok.fresh (Nat.le_succ _)) (I.hok.fresh (Nat.le_refl _)) (Nat.ne_of_lt (Nat.lt_succ_self _))
  have I2 := Inv.made (C := C) I
  have r2 : Vals (V.ref (s.heap.objs.size + 1) :: vs) (Value.ref (s.heap.objs.size + 1) :: us) := .cons rfl r
  have hl : (Value.ref (s.heap.objs.size + 1) :: us).length = ps.length := by
    have e := r2.length
    rw [F.len _ _ _ _ hq] at e
    exact e.symm
  have b := hb _ (Value.ref (s.heap.objs.size + 1) :: us) I2.kIn (by rw [List.append_nil]; exact hl)
  rw [List.append_nil] at b
  refine wpAny_call (L2.make_map (f := f) I.kIn M.makes M.init (beq_iff_eq.mp M.fn) (codeAny_mono (F.run _ X.stack _ _ ⟨Value.ref (s.heap.objs.size + 1) :: us, []⟩ (Value.ref (s.heap.objs.size + 1) :: us) _ _ (E σ) (hr.make C us [])
    (I2.env0.make C us []) b r2 hq) fun r s' hq' => ?_))
  cases r with
  | error e => exact hx pins _ _ e s' I2 hq'
  | ok fl =>
    cases fl with
    | ret u =>
      obtain ⟨v, H', I3, rv, ev, q3⟩ := I2.after hq'
      subst ev
      exact ⟨rv, ⟨V.ref (s.heap.objs.size + 1), H', I3, rfl, q3⟩⟩
    | next => exact False.elim hq'
    | brk => exact False.elim hq'
    | cont => exact False.elim hq'
theorem pe_mkS (M : L2.Mk X.K C f) (F : FnOk X.prog X.w X.K X.mg X.base (L2.CX X.prog X.w) k f fd ps sp) (hr : Room (k + 1) X.A) (hg : Gl X x) (hm : X.mg x = some (.ref C)) (hb : Binds X.K fd ps []) (hx : ∀ σ, PassesAt (L2.CX X.prog X.w) X σ (E σ))
    (ha : PA X (e :: es) t) (hdb : (x == ("__debug__" : Str)) = false := by decide) (he : starEach (e :: es) X.env = (false, eval e X.env) :: starEach es X.env := by rfl) (hpl : (backTo pos (starEach es X.env)).any (·.1) = false := by rfl) :
    PE X (.Call (.Name x p) (e :: es) [] pos) (tMkS C sp E t) := by
  refine ⟨fun pins s σ H Q I h => ?_⟩
  refine wpAny_Call_Name_kw (ld_glob I hg hm ?_ hdb)
  refine PySem.W.callWith_K (h₀ := X.base) I.ok.mod.kin M.kp (thn (ha.run pos pins s σ H _ I h) fun us s1 ⟨vs, H1, I1, r, q⟩ => ⟨I1.kIn, ?_⟩) he hpl
  exact run_mkS M F hr hb (hx σ) I1 r q
end
def mMake (FB FL : FM) (m1 m2 m3 : ME) : ME := fun ρ => match m1 ρ with
  | .ok r1 ρ1 => match frz r1 ρ1 with
    | some (p, ρ2) => match m2 ρ2 with
      | .ok r2 ρ3 => match frz r2 ρ3 with
        | some (d, ρ4) => match m3 ρ4 with
          | .ok r3 ρ5 => match use r3.fix ρ5 with
            | some (.lst ds) => match mkI FB FL p d ds with
              | .ok (.nw p' xs fs) _ => .ok (.nw p' xs fs) ρ5
              | .exc x _ => .exc x ρ5
              | _ => .bad
            | _ => .bad
          | .exc x ρ5 => .exc x ρ5
          | .bad => .bad
        | none => .bad
      | .exc x ρ3 => .exc x ρ3
      | .bad => .bad
    | none => .bad
  | .exc x ρ1 => .exc x ρ1
  | .bad => .bad
theorem mkI_nw {FB FL : FM} {p d : D} {ds : List D} {r : R} {ρ : Env} (h : mkI FB FL p d ds = .ok r ρ) : ∃ p' xs fs, r = .nw p' xs fs := by
  unfold mkI at h
  cases hB : FB p [d] [] with
  | bad => rw [hB] at h; cases h
  | exc y os => rw [hB] at h; cases h
  | ret r1 os =>
    rw [hB] at h
    cases r1 with
    | dd g =>
      simp only at h
      cases hp : pairOf g with
      | none => rw [hp] at h; cases h
      | some z =>
        rw [hp] at h
        simp only at h
        cases hL : FL p [] [.own ds, .own [g]] with
        | bad => rw [hL] at h; cases h
        | exc y os => rw [hL] at h; cases h
        | ret r2 os2 =>
          rw [hL] at h
          cases r2 with
          | dd _ =>
            simp only at h
            rcases nwOf_cases p os2 with z | ⟨xs, fs, rfl⟩
            · rw [z] at h; cases h
            · cases h; exact ⟨_, _, _, rfl⟩
          | _ => cases h
    | _ => cases h
section
variable {X : Cx} {W : WX} {k k' : Nat} {FB FL : FM} {p pos : Pos} {e1 e2 e3 : Expr} {t1 t2 t3 : TE} {m1 m2 m3 : ME}
theorem de_make (hM : MkT X.prog X.w X.K X.mg X.base k FB FL) (hr : Room k' X.A) (tk : Takes X W) (h1 : DE X W e1 t1 m1) (h2 : DE X W e2 t2 m2) (h3 : DE X W e3 t3 m3) (hk : k + 1 ≤ k' := by decide) (hg : Gl X "Machine" := by rfl)
    (he1 : starEach (e1 :: [e2, e3]) X.env = (false, eval e1 X.env) :: starEach [e2, e3] X.env := by rfl) (he2 : starEach (e2 :: [e3]) X.env = (false, eval e2 X.env) :: starEach [e3] X.env := by rfl) (he3 : starEach (e3 :: []) X.env = (false, eval e3 X.env) :: starEach [] X.env := by rfl)
    (hpl : (backTo pos (starEach [e2, e3] X.env)).any (·.1) = false := by rfl) :
    DE X W (.Call (.Name "Machine" p) [e1, e2, e3] [] pos) (tE X.K X.mg X.gs W (mMake FB FL m1 m2 m3)) (mMake FB FL m1 m2 m3) := by
  obtain ⟨C, f, fd, ps, g1, g2, g3, g4, g5⟩ := hM.all
  refine DE.can ⟨pe_mkS g2 g4 (hr.mono hk) hg g1 g5 (passAt tk) (pa_cons h1.pe (pa_cons h2.pe (pa_cons h3.pe pa_nil he3) he2) he1) (by decide) he1 hpl, ?_⟩
  intro fx vs0 Hr Hf H σ ρ Q E q
  refine h1.se fx vs0 Hr Hf H σ ρ _ E ?_
  unfold mMake at q
  cases hm1 : m1 ρ with
  | bad => rw [hm1] at q; exact q
  | exc x ρ1 => rw [hm1] at q; exact q
  | ok r1 ρ1 =>
    rw [hm1] at q
    intro w1 F1 H1 x1 E1 k1
    cases hz1 : frz r1 ρ1 with
    | none => simp only [hz1] at q; exact q.elim
    | some y1 =>
      obtain ⟨pr, ρ2⟩ := y1
      simp only [hz1] at q
      obtain ⟨F1', x1', E2, k2⟩ := frz_ok E1 k1 hz1
      refine h2.se fx vs0 Hr F1' H1 σ ρ2 _ E2 ?_
      cases hm2 : m2 ρ2 with
      | bad => rw [hm2] at q; exact q
      | exc x ρ3 => rw [hm2] at q; exact PostE.mono q (x1.trans x1')
      | ok r2 ρ3 =>
        rw [hm2] at q
        intro w2 F2 H2 x2 E3 k3
        cases hz2 : frz r2 ρ3 with
        | none => simp only [hz2] at q; exact q.elim
        | some y2 =>
          obtain ⟨d, ρ4⟩ := y2
          simp only [hz2] at q
          obtain ⟨F2', x2', E4, k4⟩ := frz_ok E3 k3 hz2
          refine h3.se fx vs0 Hr F2' H2 σ ρ4 _ E4 ?_
          cases hm3 : m3 ρ4 with
          | bad => rw [hm3] at q; exact q
          | exc x ρ5 => rw [hm3] at q; exact PostE.mono q (((x1.trans x1').trans x2).trans x2')
          | ok r3 ρ5 =>
            rw [hm3] at q
            intro w3 F3 H3 x3 E5 k5
            obtain ⟨F3', x3', E6, k6⟩ := k5.fixed E5
            cases hu : use r3.fix ρ5 with
            | none => simp only [hu] at q; exact q.elim
            | some dl =>
              have u := use_ok E6 k6 hu
              simp only [hu] at q
              cases dl with
              | lst ds =>
                simp only at q
                obtain ⟨b3, ys, rfl, u1, u2⟩ := u
                intro x dx nx ndx nex
                have a : ArgsOk X.K X.mg F3' σ Hr Hr [] [] := rfl
                have EC := call_enter E6 a
                have up : Ext H3 (upd (upd H3 dx (.own x)) x (.ins C dx [])) := fun b o h => by
                  rw [upd_ne (ne_of_none h nx), upd_ne (ne_of_none h ndx)]; exact h
                have all := (((x1.trans x1').trans x2).trans x2').trans (x3.trans x3')
                refine ⟨x, w1, w2, b3, C, dx, pr, d, ds, ys, calleeR Hr Hr F3' H3, F3', rfl, g1, upd_same, E6.sub.free nx, EC.frm.free nx, ne_of_none u1 nx, up b3 _ u1, u2, k2.mono ((x2.trans x2').trans (x3.trans x3')), k4.mono (x3.trans x3'),
                  E6.sub.trans up, EC.frm.trans up, EC.dis, ?_⟩
                have lv : ∀ {F5 H5 : Hp}, Ext F3' F5 → EnvOk X.K X.mg [] [] [] (calleeR Hr Hr F3' H3) F5 H5 [] [] → EnvOk X.K X.mg X.gs fx vs0 Hr F5 H5 σ ρ5 ∧
                    ∀ r v, ROk X.K X.mg (calleeR Hr Hr F3' H3) F5 H5 [] [] r v → (∀ i, r ≠ .at i) → ROk X.K X.mg Hr F5 H5 σ ρ5 r v := fun {F5 H5} e5 E7 => call_leave E6 a (Ext.refl _) e5 E7
                cases hI : mkI FB FL pr d ds with
                | bad => rw [hI] at q; exact q.elim
                | exc y os =>
                  rw [hI] at q
                  exact fun C' h1 F5 H5 e5 E7 => q C' h1 F5 H5 (all.trans e5) (lv e5 E7).1
                | ok r os =>
                  obtain ⟨p', xs, fs, rfl⟩ := mkI_nw hI
                  rw [hI] at q
                  exact fun F5 H5 e5 E7 y => ⟨rfl, q (.ref x) F5 H5 (all.trans e5) (lv e5 E7).1 ((lv e5 E7).2 _ _ y (by intro i z; cases z))⟩
              | _ => exact q.elim
end
/-! ### is True, is False; isinstance of a machine -/
def oIsBl (neg : Bool) : D → D → Option R
  | .bl a, .bl b => some (.dd (.bl (if neg then !decide (a = b) else decide (a = b))))
  | _, _ => none
theorem os_isBl {K : PySem.W.Frag} {mg : Str → Option Value} {gs : List Nat} : OpS K mg gs rIsB (oIsBl false) := by
  intro fx vs0 Hr Hf H σ ρ a b x y z Q E ra rb e q
  cases a with
  | bl a =>
    cases b with
    | bl b => cases e; exact ⟨a, b, ra, rb, E.giveD q rfl⟩
    | _ => cases e
  | _ => cases e
theorem os_notBl {K : PySem.W.Frag} {mg : Str → Option Value} {gs : List Nat} : OpS K mg gs rNotB (oIsBl true) := by
  intro fx vs0 Hr Hf H σ ρ a b x y z Q E ra rb e q
  cases a with
  | bl a =>
    cases b with
    | bl b => cases e; exact ⟨a, b, ra, rb, E.giveD q rfl⟩
    | _ => cases e
  | _ => cases e
def oIsiO : D → D → Option R
  | .obj, .ty n => if n = "bool" then some (.dd (.bl false)) else none
  | d, t => oIsi d t
theorem cs_isiO {K : PySem.W.Frag} {mg : Str → Option Value} {gs : List Nat} (T : MacT K mg) : CS2 K mg gs (rIsi K) oIsiO := by
  intro fx vs0 Hr Hf H σ ρ a b x y z Q E ra rb e q
  cases a with
  | obj =>
    cases b with
    | ty n =>
      unfold oIsiO at e
      simp only at e
      by_cases hn : n = "bool"
      · subst hn
        rw [if_pos rfl] at e; cases e
        cases (show y = .ty "bool" from rb)
        obtain ⟨a, C, dx, fs, rfl, h1, h2⟩ := ra
        obtain ⟨C', h3, M⟩ := T.ex
        rw [h1] at h3; cases h3
        exact ⟨_, .ty "bool", .ref C, .type "bool", false, rfl, .ty "bool", .base (.ins (E.sub a _ h2) M.cl M.ha M.hn M.htk M.hm), M.hb, E.giveD q rfl⟩
      · rw [if_neg hn] at e; cases e
    | _ => cases e
  | _ => exact cs_isi fx vs0 Hr Hf H σ ρ _ b x y z Q E ra rb e q
/-! ### the end, with the class -/
section
variable {K : PySem.W.Frag} {h : Heap} {mg : Str → Option Value} {w : World}
theorem macT_mk {C : Addr} (X : K.In h) (G : h.Ns mainGlobals mg) (a : PySem.W.nsIn K mainGlobals "Machine" = some (some (.ref C))) (pg : PySem.W.plainGet K C Str.empty = true) (hd : PySem.W.hasDictIn K C = true) (po : PySem.W.plainOver K C = true)
    (sa : PySem.W.findIn K (.ref C) "__setattr__" = some (some (.builtin "object.__setattr__"))) (nP : PySem.W.findIn K (.ref C) "_program" = some none) (nS : PySem.W.findIn K (.ref C) "stack" = some none) (nF : PySem.W.findIn K (.ref C) "frames" = some none)
    (ha : PySem.W.findIn K (.ref C) "__class__" = some (some (.builtin "object.__class__"))) (hn : PySem.W.specialIn K (.builtin "object.__class__") "__get__" = some (some (.builtin "getset_descriptor.__get__"))) (ht : PySem.W.takesIn K (.builtin "object.__class__") = some true)
    (hm : PySem.W.mroIn K C (.type "object") = some true) (hb : PySem.W.kitOne K (.ref C) (.type "bool") = some false) : MacT K mg := ⟨C, PySem.W.mg_of X G a, ⟨pg, hd, po, sa⟩, nP, nS, nF, ha, hn, ht, hm, hb⟩
theorem md_mk {m qual : Str} {st : Stmt} {C f : Addr} {oc : Value} {od an : Option Addr} {osl : Array (Option Value)} {kV doc pm cdv ct : Value} (X : K.In h) (G : h.Ns mainGlobals mg) (T : MacT K mg) (a : PySem.W.nsIn K mainGlobals "Machine" = some (some (.ref C)))
    (b : PySem.W.findIn K (.ref C) m = some (some (.ref f))) (i : PySem.W.isFn K (.ref f) = true) (l : K.lookup f = some ⟨oc, od, .func (PySem.W.fnOf m qual (defArgs st) (defBody st) (defScope st) .none kV doc pm an cdv ct), osl⟩) (c : PySem.W.codeIn K cdv qual = true) (k : PySem.W.keepIn K (.ref f) = true) : Md K mg m qual st := by
  obtain ⟨C', h1, M⟩ := T.ex
  rw [PySem.W.mg_of X G a] at h1; cases h1
  exact ⟨C, f, _, PySem.W.mg_of X G a, M, ⟨b, i, k⟩, fun_mk l c k⟩
/-- the class and its __init__ -/
structure MiT (K : PySem.W.Frag) (mg : Str → Option Value) (st : Stmt) : Prop where
  all : ∃ C f fd, mg "Machine" = some (.ref C) ∧ MacC K C ∧ L2.Mk K C f ∧ Fun K "__init__" "Machine.__init__" st f fd
theorem mi_mk {st : Stmt} {C f : Addr} {oc : Value} {od an : Option Addr} {osl : Array (Option Value)} {kV doc pm cdv ct : Value} (X : K.In h) (G : h.Ns mainGlobals mg) (T : MacT K mg) (a : PySem.W.nsIn K mainGlobals "Machine" = some (some (.ref C)))
    (mk : PySem.W.makesIn K C = true) (kc : PySem.W.keepIn K (.ref C) = true) (b : PySem.W.findIn K (.ref C) "__init__" = some (some (.ref f))) (i : PySem.W.isFn K (.ref f) = true)
    (l : K.lookup f = some ⟨oc, od, .func (PySem.W.fnOf "__init__" "Machine.__init__" (defArgs st) (defBody st) (defScope st) .none kV doc pm an cdv ct), osl⟩) (c : PySem.W.codeIn K cdv "Machine.__init__" = true) (k : PySem.W.keepIn K (.ref f) = true) : MiT K mg st := by
  obtain ⟨C', h1, M⟩ := T.ex
  rw [PySem.W.mg_of X G a] at h1; cases h1
  exact ⟨C, f, _, PySem.W.mg_of X G a, M, ⟨mk, b, i, kc⟩, fun_mk l c k⟩
end
abbrev MacTX {K : PySem.W.Frag} {h : Heap} (_ : K.In h) (mg : Str → Option Value) : Prop := MacT K mg
abbrev MdX {K : PySem.W.Frag} {h : Heap} (_ : K.In h) (mg : Str → Option Value) (m qual : Str) (st : Stmt) : Prop := Md K mg m qual st
abbrev MiTX {K : PySem.W.Frag} {h : Heap} (_ : K.In h) (mg : Str → Option Value) (st : Stmt) : Prop := MiT K mg st
/-- __init__ makes a machine -/
theorem mkt_of {P : Program} {w : World} {K : PySem.W.Frag} {mg : Str → Option Value} {base : Heap} {k kB kL : Nat} {st : Stmt} {FB FL : FM} {N : List Str} (D : MiT K mg st) (hB : Ms P w K mg base kB "_begun" 2 (spB K mg 2 FB)) (hL : Ms P w K mg base kL "_leave" 1 (spM K mg 0 1 FL)) (hl : noFld "_leave")
    (S : FnScope N ["self", "program", "name", "stack"] (defScope st)) (hN : N.length = 4) (hk : kB ≤ k ∧ kL ≤ k)
    (hb : ∀ (kV doc pm : Value) (an : Option Addr) (cdv ct : Value) (us : List Value), us.length = 4 → bindArgs (PySem.W.fnOf "__init__" "Machine.__init__" (defArgs st) (defBody st) (defScope st) .none kV doc pm an cdv ct) ⟨us, []⟩ = pure ((["self", "program", "name", "stack"] : List Str).zip us))
    (hbody : ∀ (C fB fL : Addr) (fdB fdL : FuncData) (psB psL : List Str), mg "Machine" = some (.ref C) → MacC K C → Meth K C "_begun" fB → FnOk P w K mg base (L2.CX P w) kB fB fdB psB (spB K mg 2 FB) → Binds K fdB psB [] → Meth K C "_leave" fL → FnOk P w K mg base (L2.CX P w) kL fL fdL psL (spM K mg 0 1 FL) → Binds K fdL psL [] →
      ∀ (f : Addr) (cdv : Value) (A : Around) (outer : List PySem.Env) (s : Shared) (H : Hp) (E : XK), Room k (A.deeper (PyProof.Rows.envOfC "Machine.__init__" (defScope st) s.heap.objs.size f cdv)) →
      PSs (cxOf (L2.CX P w) P w K mg base N "Machine.__init__" (defScope st) f cdv A outer s H E) (defBody st) (tInit K mg C (fun cls d _ H => E cls d H) FB FL)) :
    MkT P w K mg base (k + 1) FB FL := by
  obtain ⟨C, f, fd, g1, M, mk, Fn⟩ := D.all
  obtain ⟨C1, fB, fdB, psB, b1, b2, b3, b4, b5, b6⟩ := hB.all
  obtain ⟨C2, fL, fdL, psL, l1, l2, l3, l4, l5, l6⟩ := hL.all
  rw [g1] at b1 l1; cases b1; cases l1
  refine ⟨C, f, fd, ["self", "program", "name", "stack"], g1, mk, rfl, ?_, Fn.binds (by simpa using hb)⟩
  refine Fn.okX S (fun vs H Q E h => by obtain ⟨x, v1, v2, b3, C', dx, p, d, ds, ys, Hr, Hf, rfl, _⟩ := h; rfl) fun cdv A outer s H vs Q E hr h => ?_
  refine ⟨_, hbody C fB fL fdB fdL psB psL g1 M b3 b5 b6 l3 l5 l6 f cdv A outer s H E hr, tInit_ok g1 M hl h fun i hi => ?_⟩
  obtain ⟨x, v1, v2, b3, C', dx, p, d, ds, ys, Hr, Hf, rfl, _⟩ := h
  rw [start_at i (by simp [hN]), if_pos (by simpa using hi)]
/-! ### an own list is walked while it is kept out of reach: it comes back as it was -/
section
variable {K : PySem.W.Frag} {mg : Str → Option Value} {gs : List Nat} {Hr Hf Hf' H H' F1 H1 : Hp} {σ σ' : St} {ρ ρ' ρ1 ρ2 : Env} {vsl : List Nat} {fx : List Bool} {vs0 : List V}
theorem EnvOk.regain {a : Addr} {u : HO} {c : Cell} {i : Nat} (E : EnvOk K mg gs fx vs0 (upd Hr a u) Hf H σ ρ) (hi : i < ρ.length) (hs : σ[i]? = some (some (.ref a))) (hR : Hr a = none) (ho : OwnsO K mg Hf c u) (oc : isOwn c = true) : EnvOk K mg gs fx vs0 Hr Hf H σ (ρ.set i c) := by
  have own' : ∀ {j : Nat} {b : Addr}, OwnAt σ (ρ.set i c) j b → i ≠ j → OwnAt σ ρ j b ∧ b ≠ a := fun {j b} ⟨⟨c', hc', ho'⟩, hs'⟩ hj => by
    rw [List.getElem?_set_ne hj] at hc'
    refine ⟨⟨⟨c', hc', ho'⟩, hs'⟩, fun z => ?_⟩
    subst z
    obtain ⟨a', u', k1, k2, k3, k4, k5⟩ := (E.cel j c' hc').own ho'
    rw [joinEq, hs'] at k1; cases k1
    rw [upd_same] at k5; cases k5
  refine ⟨by rw [List.length_set]; exact E.len, E.sub, fun b o hb => ?_, fun b o hb => ?_, fun j c' hc' => ?_, fun j k b p q => ?_, E.fix, fun j c' hc' => ?_⟩
  · have : b ≠ a := ne_of_none hb hR
    exact E.frm b o (by rw [upd_ne this]; exact hb)
  · have : b ≠ a := ne_of_none hb hR
    exact E.dis b o (by rw [upd_ne this]; exact hb)
  · by_cases hj : i = j
    · subst hj
      rw [List.getElem?_set_self hi] at hc'; cases hc'
      exact CellOk.ofOwn oc ⟨a, u, joinEq.mpr hs, E.frm a u upd_same, ho, E.dis a u upd_same, hR⟩
    · have hc2 := hc'
      rw [List.getElem?_set_ne hj] at hc'
      refine (E.cel j c' hc').step (Ext.refl _) fun ho' b o k1 k2 k3 k4 => ⟨k2, k3, ?_⟩
      have : b ≠ a := fun z => by subst z; rw [upd_same] at k4; cases k4
      rw [upd_ne this] at k4; exact k4
  · by_cases hj : i = j
    · by_cases hk : i = k
      · rw [← hj, ← hk]
      · subst hj
        have := (own' q hk).2
        have p2 := p.2
        rw [hs] at p2; cases p2
        exact (this rfl).elim
    · by_cases hk : i = k
      · subst hk
        have := (own' p hj).2
        have q2 := q.2
        rw [hs] at q2; cases q2
        exact (this rfl).elim
      · exact E.inj j k b (own' p hj).1 (own' q hk).1
  · by_cases hj : i = j
    · subst hj
      rw [List.getElem?_set_self hi] at hc'; cases hc'
      cases c with
      | own _ => trivial
      | ownD _ _ => trivial
      | _ => cases oc
    · rw [List.getElem?_set_ne hj] at hc'
      exact E.lnk j c' hc'
structure YieldsR (K : PySem.W.Frag) (mg : Str → Option Value) (Hr Hf : Hp) (J : It) (ds : List D) : Prop where
  go : ∀ H, Ext Hf H → Ext Hr H → ∀ i, i < ds.length → J.go i H
  stop : ∀ H, Ext Hf H → Ext Hr H → J.stop ds.length H
  yld : ∀ H, Ext Hf H → Ext Hr H → ∀ i x H', i < ds.length → J.yld i H x H' → ∃ d, ds[i]? = some d ∧ ((H' = H ∧ Rep K mg Hf d x) ∨ ∃ p vs es, H p = none ∧ H' = upd H p (.tup vs) ∧ x = .ref p ∧ d = .tup es ∧ RepL K mg Hf es vs)
theorem yields_r2 {a : Addr} {vs : List V} {ds : List D} (h : Hr a = some (.lst vs)) (r : RepL K mg Hf ds vs) : YieldsR K mg Hr Hf (Itl K a) ds := by
  refine ⟨fun H _ e i hi => ⟨vs, vs[i]'(by rw [r.length]; exact hi), .of (e a _ h), by simp [r.length, hi]⟩, fun H _ e => ⟨vs, .of (e a _ h), by rw [r.length]; exact Nat.le_refl _⟩, fun H _ e i x H' hi y => ?_⟩
  obtain ⟨e1, y⟩ := y
  have hx := y vs (.of (e a _ h))
  obtain ⟨d, h1, h2⟩ := r.getV hx
  exact ⟨d, h1, .inl ⟨e1, h2⟩⟩
theorem lc_core (hgs : ∀ j ∈ gs, j ∉ vsl) {g : TG} {tt : TT} {te : TE} {f : MG} {mt : MT} {me : ME} (hg : SGC K mg gs vsl g f) (ht : ST K mg gs W0 tt mt) (he : SE K mg gs W0 te me) {J : It} {ds ys : List D} {Q : VK}
    (E1 : EnvOk K mg gs fx vs0 Hr F1 H1 σ ρ1) (y : YieldsR K mg Hr F1 J ds) (hno : noneOwn ρ1 vsl = true) (hl : mLcLoop vsl f mt me ds [] (wipeE ρ1 vsl) = .ok ys ρ2)
    (p : ∀ v Hf' H', Ext F1 Hf' → EnvOk K mg gs fx vs0 Hr Hf' H' σ (backE ρ1 ρ2 vsl) → ROk K mg Hr Hf' H' σ (backE ρ1 ρ2 vsl) (.ow (.own ys)) v → Q v H') :
    ∀ (D : Addr), H1 D = none → ∃ W : Nat → Nat → Hp → Prop, (∃ m, W 0 m (upd H1 D (HO.lst []))) ∧ ∀ (i m : Nat) (H : Hp), W i m H → J.stop i H ∧ Q (V.ref D) H ∨ J.go i H ∧ ∃ Nx : Hp → Prop, (∀ (H' : Hp), Nx H' → ∃ m', m' < m ∧ W (i + 1) m' H') ∧
      ∀ (x : V) (H' : Hp), J.yld i H x H' → g x (wipe σ vsl) H' fun σ2 H2 => wipe σ2 vsl = wipe σ vsl ∧ tt σ2 H2 fun b H3 => if b = true then te σ2 H3 fun y H4 => ∃ acc, H4 D = some (HO.lst acc) ∧ acc.length < sizeLine ∧ Nx (upd H4 D (HO.lst (acc ++ [y]))) else Nx H3 := by
  intro Dl hD
  -- the new list is kept out of the frame
  have E0 : EnvOk K mg gs [] [] Hr F1 (upd H1 Dl (.lst [])) (wipe σ vsl) (wipeE ρ1 vsl) := (E1.newO hD).wiped hgs rfl
  let Pv : Nat → Hp → Prop := fun i H => ∃ F ρ acc vs, Ext F1 F ∧ EnvOk K mg gs [] [] Hr F H (wipe σ vsl) ρ ∧ H Dl = some (.lst vs) ∧ RepL K mg F acc vs ∧ F Dl = none ∧ Hr Dl = none ∧ (∀ j, ¬ OwnAt (wipe σ vsl) ρ j Dl) ∧ mLcLoop vsl f mt me (ds.drop i) acc ρ = .ok ys ρ2
  refine ⟨fun i m H => m = ds.length - i ∧ i ≤ ds.length ∧ Pv i H, ⟨ds.length, by simp, Nat.zero_le _, F1, wipeE ρ1 vsl, [], [], Ext.refl _, E0, upd_same, rfl, E1.freshF hD, E1.freshR hD, fun j q => ?_, hl⟩, ?_⟩
  · obtain ⟨⟨c, q1, q2⟩, q3⟩ := q
    have hj : j ∉ vsl := fun hj => by rw [wipeE_in hj q1] at q2; cases q2
    rw [wipeE_at hj] at q1
    rw [wipe_at hj] at q3
    exact E1.freshO hD j ⟨⟨c, q1, q2⟩, q3⟩
  · rintro i m H2 ⟨rfl, hi, F, ρ3, acc, vs, e2, E2, hDl, hacc, fD, rD, oD, P2⟩
    by_cases hlt : i < ds.length
    · refine .inr ⟨y.go H2 (e2.trans E2.sub) E2.frm i hlt, Pv (i + 1), fun H' p' => ⟨ds.length - (i + 1), by omega, rfl, hlt, p'⟩, fun x H' hy => ?_⟩
      obtain ⟨d, h1, h2⟩ := y.yld H2 (e2.trans E2.sub) E2.frm i x H' hlt hy
      have hd : ds.drop i = d :: ds.drop (i + 1) := by
        rw [List.drop_eq_getElem_cons hlt]
        obtain ⟨_, h1⟩ := List.getElem?_eq_some_iff.mp h1
        rw [h1]
      rw [hd] at P2
      unfold mLcLoop at P2
      -- the list under construction is put into the frame for the turn
      have go : ∀ F3, Ext F F3 → F3 Dl = none → EnvOk K mg gs [] [] Hr F3 H' (wipe σ vsl) ρ3 → H' Dl = some (.lst vs) → Rep K mg F3 d x → g x (wipe σ vsl) H' fun σ2 H2 => wipe σ2 vsl = wipe σ vsl ∧ tt σ2 H2 fun b H3 =>
          if b = true then te σ2 H3 fun y H4 => ∃ acc, H4 Dl = some (.lst acc) ∧ acc.length < sizeLine ∧ Pv (i + 1) (upd H4 Dl (.lst (acc ++ [y]))) else Pv (i + 1) H3 := fun F3 e3 f3 E3 d3 r3 => by
        cases hf : f d ρ3 with
        | none => simp only [hf] at P2; cases P2
        | some ρ4 =>
          simp only [hf] at P2
          have E3' : EnvOk K mg gs [] [] (upd Hr Dl (.lst vs)) F3 H' (wipe σ vsl) ρ3 := by
            refine ⟨E3.len, E3.sub, fun b o hb => ?_, fun b o hb => ?_, fun j c hc => (E3.cel j c hc).step (Ext.refl _) fun ho b o k1 k2 k3 k4 => ⟨k2, k3, ?_⟩, E3.inj, fun i h => by simp at h, E3.lnk⟩
            · by_cases z : b = Dl
              · subst z; rw [upd_same] at hb; cases hb; exact d3
              · rw [upd_ne z] at hb; exact E3.frm b o hb
            · by_cases z : b = Dl
              · subst z; exact f3
              · rw [upd_ne z] at hb; exact E3.dis b o hb
            · have : b ≠ Dl := fun z => oD j ⟨⟨c, hc, ho⟩, by rw [← z]; exact joinEq.mp k1⟩
              rw [upd_ne this]; exact k4
          refine hg _ F3 H' _ ρ3 d x ρ4 _ E3' r3 hf fun σ4 E4 hw => ?_
          have hw' : wipe σ4 vsl = wipe σ vsl := by
            rw [hw]
            have : ∀ l : List Nat, ∀ s : St, wipe (wipe s vsl) l = wipe (wipe s vsl) l := fun _ _ => rfl
            exact wipe_wipe σ vsl
          refine ⟨hw', ?_⟩
          refine ht [] [] _ F3 H' σ4 ρ4 _ E4 ?_
          -- what the turn's end gives
          have fin : ∀ {F5 H5 : Hp} {ρ5 : Env} {acc' : List D} {vs' : List V}, Ext F3 F5 → EnvOk K mg gs [] [] (upd Hr Dl (.lst vs)) F5 H5 σ4 ρ5 → RepL K mg F5 acc' vs' → mLcLoop vsl f mt me (ds.drop (i + 1)) acc' (wipeE ρ5 vsl) = .ok ys ρ2 →
              Pv (i + 1) (upd H5 Dl (.lst vs')) := fun {F5 H5 ρ5 acc' vs'} e5 E5 r5 l5 => by
            have h5 : H5 Dl = some (.lst vs) := E5.frm Dl _ upd_same
            have f5 : F5 Dl = none := E5.dis Dl _ upd_same
            have o5 : ∀ {j : Nat} {b : Addr}, OwnAt σ4 ρ5 j b → b ≠ Dl := fun {j b} ⟨⟨c, q1, q2⟩, q3⟩ z => by
              subst z
              obtain ⟨a, u, k1, k2, k3, k4, k5⟩ := (E5.cel j c q1).own q2
              rw [joinEq, q3] at k1; cases k1
              rw [upd_same] at k5; cases k5
            have E6 : EnvOk K mg gs [] [] Hr F5 (upd H5 Dl (.lst vs')) σ4 ρ5 := by
              refine ⟨E5.len, fun b o hb => ?_, fun b o hb => ?_, fun b o hb => ?_, fun j c hc => (E5.cel j c hc).step (Ext.refl _) fun ho b o k1 k2 k3 k4 => ?_, E5.inj, fun i h => by simp at h, E5.lnk⟩
              · have : b ≠ Dl := ne_of_none hb f5
                rw [upd_ne this]; exact E5.sub b o hb
              · have : b ≠ Dl := ne_of_none hb rD
                rw [upd_ne this]; exact E5.frm b o (by rw [upd_ne this]; exact hb)
              · have : b ≠ Dl := ne_of_none hb rD
                exact E5.dis b o (by rw [upd_ne this]; exact hb)
              · have : b ≠ Dl := o5 ⟨⟨c, hc, ho⟩, joinEq.mp k1⟩
                rw [upd_ne this] at k4 ⊢
                exact ⟨k2, k3, k4⟩
            refine ⟨F5, wipeE ρ5 vsl, acc', vs', e2.trans (e3.trans e5), E6.wiped hgs hw', upd_same, r5, f5, rD, fun j q => ?_, l5⟩
            obtain ⟨⟨c, q1, q2⟩, q3⟩ := q
            have hj : j ∉ vsl := fun hj => by rw [wipeE_in hj q1] at q2; cases q2
            rw [wipeE_at hj] at q1
            rw [← hw', wipe_at hj] at q3
            exact o5 ⟨⟨c, q1, q2⟩, q3⟩ rfl
          cases hz : mt ρ4 with
          | bad => simp only [hz] at P2; cases P2
          | exc x ρ5 => simp only [hz] at P2; cases P2
          | ok b ρ5 =>
            intro F5 H5 e5 E5
            cases b with
            | false =>
              simp only [hz] at P2
              have q := fin e5 E5 (hacc.mono (e3.trans e5)) P2
              have h5 : H5 Dl = some (.lst vs) := E5.frm Dl _ upd_same
              have : upd H5 Dl (.lst vs) = H5 := by
                funext b; unfold upd
                by_cases z : b = Dl
                · subst z; rw [if_pos rfl, h5]
                · rw [if_neg z]
              rw [this] at q
              exact q
            | true =>
              simp only [hz] at P2
              show te σ4 H5 _
              refine he [] [] _ F5 H5 σ4 ρ5 _ E5 ?_
              cases hq : me ρ5 with
              | bad => simp only [hq] at P2; cases P2
              | exc x ρ6 => simp only [hq] at P2; cases P2
              | ok r ρ6 =>
                simp only [hq] at P2
                intro v F6 H6 e6 E6 q6
                cases hy2 : frz r ρ6 with
                | none => simp only [hy2] at P2; cases P2
                | some z =>
                  obtain ⟨y2, ρ7⟩ := z
                  simp only [hy2] at P2
                  obtain ⟨F7, e7, E7, r7⟩ := frz_ok E6 q6 hy2
                  by_cases hsz : acc.length < sizeLine
                  · simp only [if_pos hsz] at P2
                    refine ⟨vs, E7.frm Dl _ upd_same, by rw [hacc.length]; exact hsz, ?_⟩
                    exact fin ((e5.trans e6).trans e7) E7 ((hacc.mono (((e3.trans e5).trans e6).trans e7)).append (.cons r7 .nil)) P2
                  · simp only [if_neg hsz] at P2; cases P2
      rcases h2 with ⟨rfl, h2⟩ | ⟨q, ws, es, h2, rfl, rfl, rfl, h6⟩
      · exact go F (Ext.refl _) fD E2 hDl (h2.mono e2)
      · have nq : Dl ≠ q := ne_of_none hDl h2
        refine go (upd F q (.tup ws)) (Ext.new (E2.freshF h2)) (by rw [upd_ne nq]; exact fD) (E2.newF h2) (by rw [upd_ne nq]; exact hDl) ⟨q, ws, rfl, .of upd_same, (h6.mono e2).mono (Ext.new (E2.freshF h2))⟩
    · have e : i = ds.length := by omega
      subst e
      rw [List.drop_length] at P2
      simp only [mLcLoop, LR.ok.injEq] at P2
      obtain ⟨rfl, rfl⟩ := P2
      refine .inl ⟨y.stop H2 (e2.trans E2.sub) E2.frm, p (.ref Dl) F H2 e2 (E1.back hgs hno E2 e2) ⟨Dl, _, rfl, hDl, ⟨vs, rfl, hacc⟩, fD, rD, fun j q => ?_⟩⟩
      obtain ⟨⟨c, q1, q2⟩, q3⟩ := q
      have l : ρ1.length = ρ3.length := by rw [← E1.len, ← E2.len, wipe_len]
      by_cases hj : j ∈ vsl
      · have q1 := backE_in hj l q1
        have := List.all_eq_true.mp hno j hj
        rw [q1] at this
        simp [q2] at this
      · rw [backE_at hj] at q1
        exact oD j ⟨⟨c, q1, q2⟩, by rw [wipe_at hj]; exact q3⟩
theorem loop_core {W : WX} {g : TG} {tb : TS} {f : MG} {mb : MS} (hg : SG K mg gs fx g f) (hb : SS K mg gs W fx tb mb) {J : It} {ds : List D} {D : Ends} (E1 : EnvOk K mg gs fx vs0 Hr F1 H1 σ ρ1) (y : YieldsR K mg Hr F1 J ds)
    (P : PostS K mg gs W fx vs0 Hr F1 (mLoop f mb ds ρ1) D) :
    ∃ W : Nat → Nat → St → Hp → Prop, (∃ m, W 0 m σ H1) ∧ ∀ (i m : Nat) (σ : St) (H : Hp), W i m σ H → J.stop i H ∧ D.nx σ H ∨ J.go i H ∧ ∃ N : St → Hp → Prop, (∀ (σ' : St) (H' : Hp), N σ' H' → ∃ m', m' < m ∧ W (i + 1) m' σ' H') ∧
      ∀ (x : V) (H' : Hp), J.yld i H x H' → g x σ H' fun σ2 H2 => tb { nx := N, rt := D.rt, bk := D.nx, ct := N } σ2 H2 := by
  let Pv : Nat → St → Hp → Prop := fun i σ H => ∃ F ρ, Ext F1 F ∧ EnvOk K mg gs fx vs0 Hr F H σ ρ ∧ PostS K mg gs W fx vs0 Hr F (mLoop f mb (ds.drop i) ρ) D
  refine ⟨fun i m σ H => m = ds.length - i ∧ i ≤ ds.length ∧ Pv i σ H, ⟨ds.length, by simp, Nat.zero_le _, F1, ρ1, Ext.refl _, E1, P⟩, ?_⟩
  rintro i m σ2 H2 ⟨rfl, hi, F, ρ2, e2, E2, P2⟩
  by_cases hlt : i < ds.length
  · refine .inr ⟨y.go H2 (e2.trans E2.sub) E2.frm i hlt, Pv (i + 1), fun σ' H' p' => ⟨ds.length - (i + 1), by omega, rfl, hlt, p'⟩, fun x H' hy => ?_⟩
    obtain ⟨d, h1, h2⟩ := y.yld H2 (e2.trans E2.sub) E2.frm i x H' hlt hy
    have hd : ds.drop i = d :: ds.drop (i + 1) := by
      rw [List.drop_eq_getElem_cons hlt]
      obtain ⟨_, h1⟩ := List.getElem?_eq_some_iff.mp h1
      rw [h1]
    rw [hd] at P2
    unfold mLoop at P2
    -- the item is laid
    have go : ∀ F3, Ext F F3 → EnvOk K mg gs fx vs0 Hr F3 H' σ2 ρ2 → Rep K mg F3 d x → g x σ2 H' fun σ2 H2 => tb { D with nx := Pv (i + 1), ct := Pv (i + 1), bk := D.nx } σ2 H2 := fun F3 e3 E3 r3 => by
      cases hf : f d ρ2 with
      | none => simp only [hf] at P2; exact P2.elim
      | some ρ3 =>
        simp only [hf] at P2
        refine hg vs0 Hr F3 H' σ2 ρ2 d x ρ3 _ E3 r3 hf fun σ' E4 => ?_
        refine hb vs0 Hr F3 H' σ' ρ3 _ E4 ?_
        cases hz : mb ρ3 with
        | nx ρ4 => simp only [hz] at P2; exact fun σ5 F5 H5 e5 E5 => ⟨F5, ρ4, e2.trans (e3.trans e5), E5, PostS.mono P2 (e3.trans e5)⟩
        | ct ρ4 => simp only [hz] at P2; exact fun σ5 F5 H5 e5 E5 => ⟨F5, ρ4, e2.trans (e3.trans e5), E5, PostS.mono P2 (e3.trans e5)⟩
        | bk ρ4 => simp only [hz] at P2; exact fun σ5 F5 H5 e5 E5 => P2 σ5 F5 H5 (e3.trans e5) E5
        | ret r ρ4 => simp only [hz] at P2; exact fun v σ5 F5 H5 e5 E5 => P2 v σ5 F5 H5 (e3.trans e5) E5
        | exc x ρ4 => simp only [hz] at P2; exact fun C z1 σ5 F5 H5 e5 E5 => P2 C z1 σ5 F5 H5 (e3.trans e5) E5
        | bad => simp only [hz] at P2; exact P2.elim
    rcases h2 with ⟨rfl, h2⟩ | ⟨q, vs, es, h2, rfl, rfl, rfl, h6⟩
    · exact go F (Ext.refl _) E2 (h2.mono e2)
    · refine go (upd F q (.tup vs)) (Ext.new (E2.freshF h2)) (E2.newF h2) ⟨q, vs, rfl, .of upd_same, (h6.mono e2).mono (Ext.new (E2.freshF h2))⟩
  · have e : i = ds.length := by omega
    subst e
    rw [List.drop_length] at P2
    exact .inl ⟨y.stop H2 (e2.trans E2.sub) E2.frm, P2 σ2 F H2 (Ext.refl _) E2⟩
end
/-! ### a comprehension, a loop over an own list -/
def mLcL (vsl : List Nat) (m : ME) (f : MG) (mt : MT) (me : ME) : ME := fun ρ => match m ρ with
  | .ok (.at i) ρ1 => match ρ1[i]? with
    | some (.own ds) => if noneOwn (ρ1.set i .no) vsl = true then match mLcLoop vsl f mt me ds [] (wipeE (ρ1.set i .no) vsl) with
        | .ok ys ρ2 => .ok (.ow (.own ys)) ((backE (ρ1.set i .no) ρ2 vsl).set i (.own ds))
        | _ => .bad
      else .bad
    | _ => .bad
  | .exc x ρ1 => .exc x ρ1
  | _ => .bad
def mForL (gi : Nat) (m : ME) (f : MG) (mb : MS) : MS := fun ρ => match m ρ with
  | .ok (.at i) ρ1 => if i = gi then match ρ1[gi]? with
      | some (.own ds) => match mLoop f mb ds (ρ1.set gi .no) with
        | .nx ρ2 => .nx (ρ2.set gi (.own ds))
        | .ret (.dd d) ρ2 => .ret (.dd d) (ρ2.set gi (.own ds))
        | .exc x ρ2 => .exc x (ρ2.set gi (.own ds))
        | _ => .bad
      | _ => .bad
    else .bad
  | .exc x ρ1 => .exc x ρ1
  | _ => .bad
section
variable {K : PySem.W.Frag} {mg : Str → Option Value} {gs : List Nat} {vsl : List Nat} {fx : List Bool}
theorem SE.lcL {W : WX} (hgs : ∀ j ∈ gs, j ∉ vsl) {g : TG} {tt : TT} {tl te : TE} {m : ME} {f : MG} {mt : MT} {me : ME} (h : SE K mg gs W tl m) (hg : SGC K mg gs vsl g f) (ht : ST K mg gs W0 tt mt) (he : SE K mg gs W0 te me) : SE K mg gs W (tLc (iSeq K tl) g tt te vsl) (mLcL vsl m f mt me) := by
  intro fx vs0 Hr Hf H σ ρ Q E p
  refine h fx vs0 Hr Hf H σ ρ _ E ?_
  unfold mLcL at p
  cases hm : m ρ with
  | bad => rw [hm] at p; exact p
  | exc x ρ1 => rw [hm] at p; exact p
  | ok r ρ1 =>
    rw [hm] at p
    intro v F1 H1 e1 E1 q1
    cases r with
    | dd d => exact p.elim
    | ow c => exact p.elim
    | nw _ _ _ => exact p.elim
    | «at» i =>
      simp only at p
      cases hi : ρ1[i]? with
      | none => simp only [hi] at p; exact p.elim
      | some c =>
        simp only [hi] at p
        cases c with
        | own ds =>
          simp only at p
          by_cases hno : noneOwn (ρ1.set i .no) vsl = true
          · simp only [if_pos hno] at p
            cases hl : mLcLoop vsl f mt me ds [] (wipeE (ρ1.set i .no) vsl) with
            | bad => simp only [hl] at p; exact p.elim
            | exc x ρ2 => simp only [hl] at p; exact p.elim
            | ok ys ρ2 =>
              simp only [hl] at p
              obtain ⟨a, u, h1, ho, hR, E2⟩ := E1.handOver hi rfl
              have q1 : σ[i]? = some (some v) := q1
              rw [h1] at q1; cases q1
              obtain ⟨vs, rfl, hr⟩ := ho
              refine ⟨a, rfl, .inl ⟨vs, .of (E2.frm a _ upd_same), lc_core hgs hg ht he E2 (yields_r2 upd_same hr) hno hl fun v F2 H2 e2 E3 q3 => ?_⟩⟩
              have hlen : i < (backE (ρ1.set i .no) ρ2 vsl).length := by
                rw [← E3.len]; exact (List.getElem?_eq_some_iff.mp h1).1
              refine p v F2 H2 (e1.trans e2) (E3.regain hlen h1 hR (OwnsO.mono e2 (c := .own ds) ⟨vs, rfl, hr⟩) rfl) ?_
              obtain ⟨b, w, rfl, k2, k3, k4, k5, k6⟩ := q3
              have nb : b ≠ a := fun z => by subst z; rw [upd_same] at k5; cases k5
              refine ⟨b, w, rfl, k2, k3, k4, by rw [upd_ne nb] at k5; exact k5, fun j q => ?_⟩
              by_cases hj : i = j
              · subst hj
                have q2 := q.2
                rw [h1] at q2; cases q2
                exact nb rfl
              · obtain ⟨⟨c, q1, q2⟩, q3⟩ := q
                rw [List.getElem?_set_ne hj] at q1
                exact k6 j ⟨⟨c, q1, q2⟩, q3⟩
          · simp only [if_neg hno] at p; exact p.elim
        | _ => exact p.elim
theorem SS.loopL {W : WX} (gi : Nat) {tl : TE} {g : TG} {tb : TS} {m : ME} {f : MG} {mb : MS} (h : SE K mg gs W tl m) (hg : SG K mg gs fx g f) (hb : SS K mg gs W fx tb mb) (hfx : fx[gi]? = some true) : SS K mg gs W fx (tFor (iSeq K tl) g tb) (mForL gi m f mb) := by
  intro vs0 Hr Hf H σ ρ D E p
  refine h fx vs0 Hr Hf H σ ρ _ E ?_
  unfold mForL at p
  cases hm : m ρ with
  | bad => rw [hm] at p; exact p
  | exc x ρ1 => rw [hm] at p; exact fun C h1 F H' e E' => p C h1 σ F H' e E'
  | ok r ρ1 =>
    rw [hm] at p
    intro v F1 H1 e1 E1 q1
    cases r with
    | dd d => exact p.elim
    | ow c => exact p.elim
    | nw _ _ _ => exact p.elim
    | «at» i =>
      simp only at p
      by_cases hig : i = gi
      · subst hig
        simp only [if_true] at p
        cases hi : ρ1[i]? with
        | none => simp only [hi] at p; exact p.elim
        | some c =>
          simp only [hi] at p
          cases c with
          | own ds =>
            simp only at p
            obtain ⟨a, u, h1, ho, hR, E2⟩ := E1.handOver hi rfl
            have q1 : σ[i]? = some (some v) := q1
            rw [h1] at q1; cases q1
            obtain ⟨vs, rfl, hr⟩ := ho
            -- slot i stays as it is
            have fixd : ∀ {σ' : St} {F' H' : Hp} {ρ' : Env} {Hr' : Hp}, EnvOk K mg gs fx vs0 Hr' F' H' σ' ρ' → σ'[i]? = some (some (.ref a)) := fun E' => by
              rw [E'.fix i hfx, ← E1.fix i hfx, h1]
            have re : ∀ {σ' : St} {F' H' : Hp} {ρ' : Env}, Ext F1 F' → EnvOk K mg gs fx vs0 (upd Hr a (.lst vs)) F' H' σ' ρ' → EnvOk K mg gs fx vs0 Hr F' H' σ' (ρ'.set i (.own ds)) := fun e' E' =>
              E'.regain (by rw [← E'.len]; exact (List.getElem?_eq_some_iff.mp (fixd E')).1) (fixd E') hR (OwnsO.mono e' (c := .own ds) ⟨vs, rfl, hr⟩) rfl
            have P : PostS K mg gs W fx vs0 (upd Hr a (.lst vs)) F1 (mLoop f mb ds (ρ1.set i .no)) D := by
              cases hl : mLoop f mb ds (ρ1.set i .no) with
              | nx ρ2 =>
                simp only [hl] at p
                exact fun σ' F' H' e' E' => p σ' F' H' (e1.trans e') (re e' E')
              | exc x ρ2 =>
                simp only [hl] at p
                exact fun C gC σ' F' H' e' E' => p C gC σ' F' H' (e1.trans e') (re e' E')
              | ret r ρ2 =>
                simp only [hl] at p
                cases r with
                | dd d => exact fun v σ' F' H' e' E' q' => p v σ' F' H' (e1.trans e') (re e' E') q'
                | _ => exact p.elim
              | _ => simp only [hl] at p; exact p.elim
            exact ⟨a, rfl, .inl ⟨vs, .of (E2.frm a _ upd_same), loop_core hg hb E2 (yields_r2 upd_same hr) P⟩⟩
          | _ => exact p.elim
      · simp only [if_neg hig] at p; exact p.elim
end
section
variable {X : Cx} {W : WX} {fx : List Bool} {elt tg iter : Expr} {ifs : List Expr} {scope : Scope} {pos : Pos} {g : TG} {tl : TE} {m : ME} {f : MG} {mt : MT} {me : ME}
theorem de_lcL (own : List (Str × Nat)) (hc : X.calm = true) (hN : X.N.Nodup) (hi : DE X W iter tl m) (ok : BlkOk X.N X.env.scope scope own)
    (hg : ∀ (s : Shared) (H : Hp) (C : Addr) (cl : List (Str × Addr)) (fp : List Addr), PG (X.blk s H scope (compEnvC scope cl C X.env) fp) tg g) (sg : SGC X.K X.mg X.gs (own.map (·.2)) g f)
    (ht : ∀ (s : Shared) (H : Hp) (C : Addr) (cl : List (Str × Addr)) (fp : List Addr), ∃ t, DTs (X.blk s H scope (compEnvC scope cl C X.env) fp) W0 ifs t mt)
    (he : ∀ (s : Shared) (H : Hp) (C : Addr) (cl : List (Str × Addr)) (fp : List Addr), ∃ t, DE (X.blk s H scope (compEnvC scope cl C X.env) fp) W0 elt t me) (hs : ∀ x, foldedSetIterable iter X.env x = pure x := by intro _; rfl) (hgs : ∀ j ∈ X.gs, j ∉ own.map (·.2) := by exact of_decide_eq_true (by kernel_rfl)) :
    DE X W (.ListComp elt [⟨tg, iter, ifs, 0⟩] scope pos) (tLc (iSeq X.K tl) g (tTs X.K X.mg X.gs W0 mt) (tE X.K X.mg X.gs W0 me) (own.map (·.2))) (mLcL (own.map (·.2)) m f mt me) :=
  ⟨pe_lc hc hN (pi_seq hi.pe) ok hg (fun s H C cl fp => (ht s H C cl fp).choose_spec.can.pts) (fun s H C cl fp => (he s H C cl fp).choose_spec.can.pe) hs,
    SE.lcL hgs hi.se sg (ht X.s_0 X.H_0 0 [] []).choose_spec.can.st (he X.s_0 X.H_0 0 [] []).choose_spec.can.se⟩
theorem ds_forL {body : List Stmt} {tb : TS} {mb : MS} (gi : Nat) (hp : PassesOwn (model X.prog X.w) X.A X.env X.xe) (hc : X.calm = true) (hi : DE X W iter tl m)
    (hg : DG X fx tg g f) (hb : DSs X W fx body tb mb) (hfx : fx[gi]? = some true := by decide) (hs : ∀ x, foldedSetIterable iter X.env x = pure x := by intro _; rfl) : DS X W fx (.For tg iter body [] pos) (tFor (iSeq X.K tl) g tb) (mForL gi m f mb) :=
  ⟨ps_for hp hc (pi_seq hi.pe) hg.pg hb.ps hs, SS.loopL gi hi.se hg.sg hb.ss hfx⟩
end
/-! ### try: .. except S as e: return isinstance(e, ValueError) -/
structure IsvT (K : PySem.W.Frag) (mg : Str → Option Value) (nS : Str) (tbl : List (Str × Bool)) : Prop where
  all : ∃ cS, mg nS = some (.ref cS) ∧ mg "isinstance" = none ∧ mg "ValueError" = none ∧
    ∀ p ∈ tbl, ∃ C, mg p.1 = some (.ref C) ∧ ExcC K C ∧ PySem.W.exmOne K (.ref C) (.ref cS) = some true ∧ PySem.W.kitOne K (.ref C) (.type "ValueError") = some p.2
def mIsV (ie : Nat) (tbl : List (Str × Bool)) (mb : MS) : MS := fun ρ => match mb ρ with
  | .exc x ρ1 => match tbl.lookup x with
    | some r => if ie < ρ1.length then .ret (.dd (.bl r)) (ρ1.set ie .no) else .bad
    | none => .bad
  | r => r
def tIsv (K : PySem.W.Frag) (ie : Nat) : Addr → Value → Option Addr → TS := fun a cls d D σ H => ∃ C, cls = .ref C ∧ d = none ∧ ExcC K C ∧ tRet (tIsE K C a ie (.ty "ValueError")) D σ H
section
variable {X : Cx} {W : WX} {fx : List Bool} {body : List Stmt}
theorem ds_isv {nS : Str} {tbl : List (Str × Bool)} (ie : Nat) {n : Str} (tb : WX → TS) {mb : MS} {Wout : WX} (T : IsvT X.K X.mg nS tbl)
    {np p' pos e6 i6 q6 r6 c3p : Pos}
    (hst : X.stack = X.env :: X.outer) (hfr : X.env.frame = some X.env.locals) (hN : X.N.Nodup) (tk : Takes X Wout)
    (hb : ∀ (W : WX) (pn : List (Addr × Obj)) (xe : Value → Shared → Prop), Takes (X.tr pn xe) W → DSs (X.tr pn xe) W fx body (tb W) mb)
    (hgS : Gl X nS := by rfl) (hgi : Gl X "isinstance" := by rfl) (hgv : Gl X "ValueError" := by rfl)
    (hi : X.N[ie]? = some n := by rfl) (hln : X.env.kindOf n = some .local := by rfl) (hfi : fx[ie]? ≠ some true := by decide) (hgi1 : ie ∉ X.gs := by exact of_decide_eq_true (by kernel_rfl))
    (dS : (nS == ("__debug__" : Str)) = false := by decide)
    (dn : (n == ("__debug__" : Str)) = false := by decide) (dn2 : (n == ("__classdict__" : Str)) = false := by decide)
    (hs2 : ∀ a p1 p2, starEach (.Name a p1 :: p2) X.env = (false, eval (.Name a p1) X.env) :: starEach p2 X.env := by intros; rfl)
    (hpl : ∀ a p1 pos, (backTo pos (starEach [.Name a p1] X.env)).any (·.1) = false := by intros; rfl) :
    DS X Wout fx (.Try body [.ExceptHandler (some (.Name nS np)) (some n)
      [.Return (some (.Call (.Name "isinstance" i6) [.Name n e6, .Name "ValueError" q6] [] r6)) c3p] p'] [] [] pos)
      (fun D σ H => ∃ cS, X.mg nS = some (.ref cS) ∧ tb (wAs X.K (.ref cS) ie (tIsv X.K ie) Wout D) D σ H) (mIsV ie tbl mb) := by
  have hbS : ∀ W, SS X.K X.mg X.gs W fx (tb W) mb := fun W => (hb W [] (fun _ _ => True) fun _ _ _ => trivial).ss
  obtain ⟨cS, gS, gi, gv, hall⟩ := T.all
  refine ⟨⟨fun pins s σ H D I q => ?_⟩, fun vs0 Hr Hf H σ ρ D E p => ?_⟩
  · obtain ⟨cS', z0, q⟩ := q
    rw [gS] at z0; cases z0
    refine (ps_try_as (i := ie) (tb := tb) (ts := tIsv X.K ie) (Wout := Wout) hst hfr hN hi hln ⟨hgS, dS, .inl gS⟩ tk (fun W pn xe tk _ => (hb W pn xe tk).ps) (fun a oe cls d pn hz hf => ?_)).run pins s σ H D I q
    refine pss_pre (fun D σ H => tIsv X.K ie a cls d D σ H) (fun D σ H h => ?_) fun _ _ _ h => h
    obtain ⟨C, rfl, rfl, hC, h⟩ := h
    refine ⟨_, ?_, h⟩
    have ve : ∀ pe, PE (X.suite a ((a, oe) :: pn)) (.Name n pe) (tVar ie) := fun pe => pe_var hi (.inl hln) dn dn2
    exact pss_one (ps_ret (pe_isE hC hz hf gi hgi (ve _) (pe_bltn hgv gv (by decide +kernel) rfl (by decide) (by decide)) (hs2 _ _ _) (hs2 _ _ _) (hpl _ _ _)))
  · refine ⟨cS, gS, hbS _ vs0 Hr Hf H σ ρ D E ?_⟩
    unfold mIsV at p
    cases hm : mb ρ with
    | exc x ρ1 =>
      rw [hm] at p
      intro C gC σ1 F1 H1 e1 E1
      cases hl : tbl.lookup x with
      | none => simp only [hl] at p; exact p.elim
      | some r =>
        simp only [hl] at p
        obtain ⟨C', gC', ec, ex, kv⟩ := hall _ (lookup_mem hl)
        rw [gC] at gC'; cases gC'
        refine ⟨true, ex, fun _ a ha => ⟨C, rfl, rfl, ec, ?_⟩, fun z => by cases z⟩
        by_cases hl : ie < ρ1.length
        · simp only [if_pos hl] at p
          have E2 := E1.store hfi (v := .ref a) (c := .no) (.inl hgi1) (.inr (.inl rfl))
          have m1 : ie < σ1.length := by rw [E1.len]; exact hl
          have hse : (σ1.set ie (some (V.ref a)))[ie]? = some (some (V.ref a)) := by rw [List.getElem?_set_self m1]
          refine ⟨_, hse, .ty "ValueError", .type "ValueError", r, rfl, fun _ r => r, kv, ?_⟩
          exact p (.bl r) _ F1 _ e1 E2 rfl
        · simp only [if_neg hl] at p; exact p.elim
    | _ => rw [hm] at p; exact p
end
/-! the facts -/
section
variable {K : PySem.W.Frag} {h : Heap} {mg : Str → Option Value}
theorem isv_mk {nS : Str} {cS : Addr} {tbl : List (Str × Bool)} (X : K.In h) (G : h.Ns mainGlobals mg) (aS : PySem.W.nsIn K mainGlobals nS = some (some (.ref cS))) (ai : mg "isinstance" = none) (av : PySem.W.nsIn K mainGlobals "ValueError" = some none)
    (t : ∀ p ∈ tbl, ∃ C, mg p.1 = some (.ref C) ∧ ExcC K C ∧ PySem.W.exmOne K (.ref C) (.ref cS) = some true ∧ PySem.W.kitOne K (.ref C) (.type "ValueError") = some p.2) : IsvT K mg nS tbl :=
  ⟨cS, PySem.W.mg_of X G aS, ai, PySem.W.mg_none_of X G av, t⟩
theorem isv_nil {cS : Addr} : ∀ p ∈ ([] : List (Str × Bool)), ∃ C, mg p.1 = some (.ref C) ∧ ExcC K C ∧ PySem.W.exmOne K (.ref C) (.ref cS) = some true ∧ PySem.W.kitOne K (.ref C) (.type "ValueError") = some p.2 := fun p hp => by cases hp
theorem isv_cons {x : Str} {C cS : Addr} {r : Bool} {ps : List (Str × Bool)} (X : K.In h) (G : h.Ns mainGlobals mg) (a : PySem.W.nsIn K mainGlobals x = some (some (.ref C)))
    (hg : PySem.W.findIn K (.ref C) "__getattribute__" = some (some (.builtin "BaseException.__getattribute__"))) (hk : PySem.W.findIn K (.ref C) "__getattr__" = some none) (hs : PySem.W.subIn K (.ref C) (.type "BaseException") = some true) (hd : PySem.W.hasDictIn K C = true)
    (ha : PySem.W.findIn K (.ref C) "__class__" = some (some (.builtin "object.__class__"))) (hn : PySem.W.specialIn K (.builtin "object.__class__") "__get__" = some (some (.builtin "getset_descriptor.__get__"))) (ht : PySem.W.takesIn K (.builtin "object.__class__") = some true) (hm : PySem.W.mroIn K C (.type "object") = some true)
    (e : PySem.W.exmOne K (.ref C) (.ref cS) = some true) (kv : PySem.W.kitOne K (.ref C) (.type "ValueError") = some r)
    (t : ∀ p ∈ ps, ∃ C, mg p.1 = some (.ref C) ∧ ExcC K C ∧ PySem.W.exmOne K (.ref C) (.ref cS) = some true ∧ PySem.W.kitOne K (.ref C) (.type "ValueError") = some p.2) : ∀ p ∈ (x, r) :: ps, ∃ C, mg p.1 = some (.ref C) ∧ ExcC K C ∧ PySem.W.exmOne K (.ref C) (.ref cS) = some true ∧ PySem.W.kitOne K (.ref C) (.type "ValueError") = some p.2 := fun p hp => by
  rcases List.mem_cons.mp hp with rfl | hp
  · exact ⟨C, PySem.W.mg_of X G a, ⟨hg, hk, hs, hd, ha, hn, ht, hm⟩, e, kv⟩
  · exact t p hp
end
abbrev IsvTX {K : PySem.W.Frag} {h : Heap} (_ : K.In h) (mg : Str → Option Value) (nS : Str) (tbl : List (Str × Bool)) : Prop := IsvT K mg nS tbl
/-! ### reckoning -/
end TL

set_option maxHeartbeats 0
namespace LW
open PySem L2 TL
def tbl_NEW_KIND : List (Str × Option D) := [("num", some (.str "num")), ("text", some (.str "text")), ("add", some (.str "num")), ("mul", some (.str "num")), ("less", some (.str "num")), ("join", some (.str "text")), ("long", some (.str "num")), ("show", some (.str "text")), ("swap", none), ("drop", none), ("copy", none), ("call", none), ("if", none)]
def tbl_PUT : List (Str × Option D) := [("add", some (.fn "added")), ("mul", some (.fn "multiplied")), ("less", some (.fn "compared")), ("join", some (.fn "joined")), ("long", some (.fn "measured")), ("show", some (.fn "shown")), ("swap", some (.fn "swapped")), ("drop", some (.fn "dropped")), ("copy", some (.fn "copied")), ("num", none), ("text", none), ("call", none), ("if", none)]
def tbl_TOLD : List (Str × Option D) := [("add", some (.str "num")), ("mul", some (.str "num")), ("less", some (.str "num")), ("join", some (.str "text")), ("long", some (.str "text")), ("show", some (.str "num")), ("if", some (.str "num")), ("num", none), ("text", none), ("swap", none), ("drop", none), ("copy", none), ("call", none)]
def tbl_WANTED : List (Str × Option D) := [("num", some (.int 0)), ("text", some (.int 0)), ("add", some (.int 2)), ("mul", some (.int 2)), ("less", some (.int 2)), ("join", some (.int 2)), ("long", some (.int 1)), ("show", some (.int 1)), ("swap", some (.int 2)), ("drop", some (.int 1)), ("if", some (.int 1)), ("copy", none), ("call", none)]
def hdt_Apart : List (Str × Bool) := [("Empty", false), ("WrongKind", false), ("NoBlock", false), ("Apart", true), ("Dry", false)]
def hdt_Dry : List (Str × Bool) := [("Empty", false), ("WrongKind", false), ("NoBlock", false), ("Apart", false), ("Dry", true)]
def hdt_Empty : List (Str × Bool) := [("Empty", true), ("WrongKind", false), ("NoBlock", false), ("Apart", false), ("Dry", false)]
def hdt_NoBlock : List (Str × Bool) := [("Empty", false), ("WrongKind", false), ("NoBlock", true), ("Apart", false), ("Dry", false)]
def hdt_WrongKind : List (Str × Bool) := [("Empty", false), ("WrongKind", true), ("NoBlock", false), ("Apart", false), ("Dry", false)]
def B_law_draw_1 : MS := mAsg 3 (m2 oMod (m2 oAdd (m2 oMul (mVar 3) (mC (.int 131))) (mVar 4)) (mC (.int 1000003)))
def M_law_draw : MS := mSeq (mPut 1 (mC (.int 0)) (m2 oAdd (m2 oIx (mVar 1) (mC (.int 0))) (mC (.int 1))))
 (mSeq (mIfS (mTest D.bool (m2 oLe (m2 oIx (mVar 1) (mC (.int 0))) (m1 oLen (mVar 0)))) (mRet (m2 oMod (m2 oIx (mVar 0) (m2 oSub (m2 oIx (mVar 1) (mC (.int 0))) (mC (.int 1)))) (mVar 2))) (mNx))
 (mSeq (mAsg 3 (m1 oLen (mVar 0)))
 (mSeq (mFor (miSeq (mSl (mVar 0) none (some (mC (.int 4))))) (mgName 4) (B_law_draw_1))
 (mRet (m2 oMod (m2 oMod (m2 oMul (m2 oAdd (mVar 3) (mC (.int 7))) (m2 oAdd (m2 oMul (m2 oIx (mVar 1) (mC (.int 0))) (m2 oIx (mVar 1) (mC (.int 0)))) (mC (.int 48271)))) (mC (.int 1000003))) (mVar 2))))))
def F_law_draw : MF := mkF [true, true, true] 5 M_law_draw
def E_law_words_1 : ME := m2 oIx (mVar 2) (m2 oMod (m2 oAdd (m2 oDiv (mVar 0) (m2 oAdd (mVar 3) (mC (.int 1)))) (m2 oMul (mC (.int 5)) (mVar 3))) (mC (.int 94)))
def M_law_words : MS := mSeq (mAsg 2 (mC (.str "abcdefghijklmnopqrstuvwxyzABCDEFGHIJKLMNOPQRSTUVWXYZ0123456789")))
 (mSeq (mAsg 2 (m2 oAdd (mVar 2) (mC (.str " .,;:!?'\"()[]{}<>+-*/=&|^~_#$@\\`"))))
 (mRet (mJoin (mC (.str "")) (mLc [3] (miRange (mVar 1)) (mgName 3) (mYes) (E_law_words_1)))))
def F_law_words : MF := mkF [true, true] 4 M_law_words
def M_law_value : MS := mSeq (mAsg 3 (mCall 3 F_law_draw [.ln 0, .ln 1, .ex (mC (.int 1000000000))]))
 (mSeq (mAsg 4 (mCall 3 F_law_draw [.ln 0, .ln 1, .ex (mC (.int 6))]))
 (mSeq (mIfS (mTest D.bool (m2 oEq (mVar 2) (mC (.str "text")))) (mSeq (mIfS (mTest D.bool (m2 oEq (mVar 4) (mC (.int 0)))) (mRet (mCall 2 F_law_words [.ln 3, .ex (m2 oAdd (mC (.int 58)) (m2 oMod (mVar 3) (mC (.int 3))))])) (mNx))
 (mRet (mCall 2 F_law_words [.ln 3, .ex (m2 oMod (m2 oDiv (mVar 3) (mC (.int 94))) (mC (.int 8)))]))) (mNx))
 (mSeq (mIfS (mTest D.bool (m2 oEq (mVar 4) (mC (.int 0)))) (mRet (m2 oSub (mC (.int 999999999)) (m2 oMod (mVar 3) (mC (.int 3))))) (mNx))
 (mSeq (mIfS (mTest D.bool (m2 oLt (mVar 4) (mC (.int 3)))) (mRet (m2 oMod (mVar 3) (mC (.int 4)))) (mNx))
 (mRetV 3)))))
def F_law_value : MF := mkF [true, true, true] 5 M_law_value
def E_law_program_1 : ME := m2 oAdd (m2 oAdd (mVar 4) (mVar 10)) (mVar 4)
def M_law_program : MS := mSeq (mAsg 4 (mCall 2 F_law_words [.ex (mCall 3 F_law_draw [.ln 0, .ln 1, .ex (mC (.int 1000000))]), .ex (m2 oIx (mSeqD (fun ds => .ow (.own ds)) [.ex (mC (.int 0)), .ex (mC (.int 1)), .ex (mC (.int 50))]) (mCall 3 F_law_draw [.ln 0, .ln 1, .ex (mC (.int 3))]))]))
 (mSeq (mAsg 5 (mLc [10] (miSeq (mSeqD (fun ds => .ow (.own ds)) [.ex (mC (.str "X")), .ex (mC (.str "Y")), .ex (mC (.str "Z"))])) (mgName 10) (mYes) (E_law_program_1)))
 (mSeq (mAsg 6 (mSeqD (fun ds => .dd (.tup ds)) [.ex (mC (.str "num"))]))
 (mSeq (mAsg 7 (mSeqD (fun ds => .ow (.own ds)) [.ex (mSeqD (fun ds => .dd (.tup ds)) [.ex (mC (.str "copy")), .ex (mC (.int 0))]), .ex (mSeqD (fun ds => .dd (.tup ds)) [.ex (mC (.str "if")), .ex (m2 oIx (mVar 5) (mC (.int 1))), .ex (m2 oIx (mVar 5) (mC (.int 2)))])]))
 (mSeq (mAsg 8 (mSeqD (fun ds => .ow (.own ds)) [.ex (mSeqD (fun ds => .dd (.tup ds)) [.ex (mC (.str "num")), .ex (mC (.int 999999999))]), .ex (mSeqD (fun ds => .dd (.tup ds)) [.ex (mC (.str "add"))]), .ex (mSeqD (fun ds => .dd (.tup ds)) [.ex (mC (.str "call")), .ex (m2 oIx (mVar 5) (mC (.int 0)))]), .ex (mSeqD (fun ds => .dd (.tup ds)) [.ex (mC (.str "num")), .ex (mVar 2)]), .ex (mSeqD (fun ds => .dd (.tup ds)) [.ex (mC (.str "add"))])]))
 (mSeq (mIfS (mTest D.tru (mVar 3)) (mAsg 8 (mSeqD (fun ds => .ow (.own ds)) [.ex (mSeqD (fun ds => .dd (.tup ds)) [.ex (mC (.str "copy")), .ex (mC (.int 0))]), .ex (mSeqD (fun ds => .dd (.tup ds)) [.ex (mC (.str "num")), .ex (mC (.int 999999999))]), .ex (mSeqD (fun ds => .dd (.tup ds)) [.ex (mC (.str "add"))]), .ex (mSeqD (fun ds => .dd (.tup ds)) [.ex (mC (.str "call")), .ex (m2 oIx (mVar 5) (mC (.int 0)))]), .ex (mSeqD (fun ds => .dd (.tup ds)) [.ex (mC (.str "add"))])])) (mNx))
 (mSeq (mAsg 9 (mDict0))
 (mSeq (mPut 9 (m2 oIx (mVar 5) (mC (.int 2))) (mSeqD (fun ds => .dd (.tup ds)) [.ex (mVar 6), .ex (mVar 6), .ex (mSeqD (fun ds => .ow (.own ds)) [])]))
 (mSeq (mPut 9 (m2 oIx (mVar 5) (mC (.int 0))) (mSeqD (fun ds => .dd (.tup ds)) [.ex (mVar 6), .ex (mVar 6), .ex (mVar 7)]))
 (mSeq (mPut 9 (m2 oIx (mVar 5) (mC (.int 1))) (mSeqD (fun ds => .dd (.tup ds)) [.ex (mVar 6), .ex (mVar 6), .ex (mVar 8)]))
 (mRet (mSeqD (fun ds => .dd (.tup ds)) [.ex (mVar 9), .ex (mVar 5)])))))))))))
def F_law_program : MF := mkF [true, true, true, true] 11 M_law_program
def M_names_in : MS := mSeq (mIfS (mTest D.bool (m2 (oIn false) (m2 oIx (mVar 0) (mC (.int 0))) (mSeqD (fun ds => .dd (.tup ds)) [.ex (mC (.str "call")), .ex (mC (.str "if"))]))) (mRet (mSl (mVar 0) (some (mC (.int 1))) none)) (mNx))
 (mRet (mSeqD (fun ds => .dd (.tup ds)) []))
def F_names_in : MF := mkF [true] 1 M_names_in
def B_named_by_1 : MS := mPut 2 (mVar 4) (mC (.bl true))
def B_named_by_2 : MS := mFor (miSeq (mCall 1 F_names_in [.nm 3])) (mgName 4) (B_named_by_1)
def M_named_by : MS := mSeq (mAsg 2 (mDict0))
 (mSeq (mIfS (mTest D.bool (m2 (oIn false) (mVar 1) (mVar 0))) (mFor (miSeq (m2 oIx (m2 oIx (mVar 0) (mVar 1)) (mC (.int 2)))) (mgName 3) (B_named_by_2)) (mNx))
 (mRet (m1 oList (mVar 2))))
def F_named_by : MF := mkF [true, true] 5 M_named_by
def B_reach_1 : MS := mIfS (mTest D.bool (m2 (oIn true) (mVar 5) (mVar 2))) (mSeq (mPut 2 (mVar 5) (mC (.bl true)))
 (mExpr (mApp 3 (mVar 5)))) (mNx)
def T_reach_2 : MT := mTest D.tru (mVar 3)
def B_reach_3 : MS := mSeq (mAsg 4 (mPop 3))
 (mFor (miSeq (mCall 2 F_named_by [.nm 0, .nm 4])) (mgName 5) (B_reach_1))
def M_reach : MS := mSeq (mAsg 2 (mDictV 1 (D.bl true)))
 (mSeq (mAsg 3 (mSeqD (fun ds => .ow (.own ds)) [.ex (mVar 1)]))
 (mSeq (mWhile (T_reach_2) (B_reach_3) whileMost)
 (mRet (m1 oList (mVar 2)))))
def F_reach : MF := mkF [true, true] 6 M_reach
def X_block_of_1 : MS := mRaise "NoBlock" (mJs [mC (.str "there is no block "), m1 D.fmt (mVar 1)] Str.empty)
def M_block_of : MS := mSeq (mIfS (mTest D.bool (m2 (oIn true) (mVar 1) (mVar 0))) (X_block_of_1) (mNx))
 (mRet (m2 oIx (mVar 0) (mVar 1)))
def F_block_of : MF := mkF [true, true] 2 M_block_of
def X_lead_call_1 : MS := mRaise "Empty" (mJs [m1 D.fmt (mVar 2), mC (.str " wants "), m1 D.fmt (m1 oLen (mVar 4)), mC (.str " values and there are "), m1 D.fmt (m1 oLen (mVar 1))] Str.empty)
def X_lead_call_2 : MS := mRaise "WrongKind" (mJs [m1 D.fmt (mVar 2), mC (.str " takes values of other kinds")] Str.empty)
def M_lead_call : MS := mSeq (mAsg 3 (mCall 2 F_block_of [.nm 0, .nm 2]))
 (mSeq (mAsg 4 (m1 oList (m2 oIx (mVar 3) (mC (.int 0)))))
 (mSeq (mAsg 5 (m2 oSub (m1 oLen (mVar 1)) (m1 oLen (mVar 4))))
 (mSeq (mIfS (mTest D.bool (m2 oLt (mVar 5) (mC (.int 0)))) (X_lead_call_1) (mNx))
 (mSeq (mIfS (mTest D.bool (m2 oNe (mSl (mVar 1) (some (mVar 5)) none) (mVar 4))) (X_lead_call_2) (mNx))
 (mPutSl 1 (mVar 5) (m1 oList (m2 oIx (mVar 3) (mC (.int 1)))))))))
def F_lead_call : MF := mkF [true, true, true] 6 M_lead_call
def M_wanted : MS := mSeq (mAsg 1 (m2 oIx (mVar 0) (mC (.int 0))))
 (mSeq (mIfS (mTest D.bool (m2 oEq (mVar 1) (mC (.str "copy")))) (mRet (m2 oAdd (m2 oIx (mVar 0) (mC (.int 1))) (mC (.int 1)))) (mNx))
 (mRet (mKGet tbl_WANTED (mVar 1))))
def F_wanted : MF := mkF [true] 2 M_wanted
def X_check_1 : MS := mRaise "Empty" (mJs [m1 D.fmt (mVar 2), mC (.str " wants "), m1 D.fmt (mCall 1 F_wanted [.nm 0]), mC (.str " values and there are "), m1 D.fmt (m1 oLen (mVar 1))] Str.empty)
def X_check_2 : MS := mRaise "WrongKind" (mJs [m1 D.fmt (mVar 2), mC (.str " takes values of the kind "), m1 D.fmt (mKGet tbl_TOLD (mVar 2)), mC (.str " alone")] Str.empty)
def B_check_3 : MS := mIfS (mTest D.bool (m2 oNe (mVar 3) (mKGet tbl_TOLD (mVar 2)))) (X_check_2) (mNx)
def M_check : MS := mSeq (mAsg 2 (m2 oIx (mVar 0) (mC (.int 0))))
 (mSeq (mIfS (mTest D.bool (m2 oLt (m1 oLen (mVar 1)) (mCall 1 F_wanted [.nm 0]))) (X_check_1) (mNx))
 (mSeq (mIfS (mTest D.bool (mKIn tbl_TOLD true (mVar 2))) (mRetN) (mNx))
 (mFor (miSeq (mVar 1)) (mgName 3) (B_check_3))))
def F_check : MF := mkF [true, true] 4 M_check
def X_lead_if_1 : MS := mRaise "Apart" (mJs [m1 D.fmt (m2 oIx (mVar 2) (mC (.int 1))), mC (.str " and "), m1 D.fmt (m2 oIx (mVar 2) (mC (.int 2))), mC (.str " do not tell the same ins and outs")] Str.empty)
def M_lead_if : MS := mSeq (mExpr (mCall 2 F_check [.ln 2, .ex (mSl (mVar 1) (some (m1 oNeg (mC (.int 1)))) none)]))
 (mSeq (mAsg 3 (mCall 2 F_block_of [.ln 0, .ex (m2 oIx (mVar 2) (mC (.int 1)))]))
 (mSeq (mAsg 4 (mCall 2 F_block_of [.ln 0, .ex (m2 oIx (mVar 2) (mC (.int 2)))]))
 (mSeq (mIfS (tmOr (mTest D.bool (m2 oNe (m2 oIx (mVar 3) (mC (.int 0))) (m2 oIx (mVar 4) (mC (.int 0))))) (mTest D.bool (m2 oNe (m2 oIx (mVar 3) (mC (.int 1))) (m2 oIx (mVar 4) (mC (.int 1)))))) (X_lead_if_1) (mNx))
 (mSeq (mExpr (mPop 1))
 (mExpr (mCall 3 F_lead_call [.ln 0, .ln 1, .ex (m2 oIx (mVar 2) (mC (.int 1)))]))))))
def F_lead_if : MF := mkF [true, true, true] 5 M_lead_if
def M_added : MS := mSeq (mAsgG (mgSeq [1, 2]) (mVar 0))
 (mRet (mSeqD (fun ds => .ow (.own ds)) [.ex (m2 oMod (m2 oAdd (mVar 1) (mVar 2)) (mC (.int 1000000000)))]))
def F_added : MF := mkF [true] 3 M_added
def M_multiplied : MS := mSeq (mAsgG (mgSeq [1, 2]) (mVar 0))
 (mRet (mSeqD (fun ds => .ow (.own ds)) [.ex (m2 oMod (m2 oMul (mVar 1) (mVar 2)) (mC (.int 1000000000)))]))
def F_multiplied : MF := mkF [true] 3 M_multiplied
def M_compared : MS := mSeq (mAsgG (mgSeq [1, 2]) (mVar 0))
 (mRet (mSeqD (fun ds => .ow (.own ds)) [.ex (mIf (mTest D.bool (m2 oLt (mVar 1) (mVar 2))) (mC (.int 1)) (mC (.int 0)))]))
def F_compared : MF := mkF [true] 3 M_compared
def M_joined : MS := mSeq (mAsgG (mgSeq [1, 2]) (mVar 0))
 (mRet (mSeqD (fun ds => .ow (.own ds)) [.ex (mSl (m2 oAdd (mVar 1) (mVar 2)) none (some (mC (.int 60))))]))
def F_joined : MF := mkF [true] 3 M_joined
def M_measured : MS := mRet (mSeqD (fun ds => .ow (.own ds)) [.ex (m1 oLen (m2 oIx (mVar 0) (mC (.int 0))))])
def F_measured : MF := mkF [true] 1 M_measured
def M_shown : MS := mRet (mSeqD (fun ds => .ow (.own ds)) [.ex (m1 oStr (m2 oIx (mVar 0) (mC (.int 0))))])
def F_shown : MF := mkF [true] 1 M_shown
def M_swapped : MS := mSeq (mAsgG (mgSeq [1, 2]) (mVar 0))
 (mRet (mSeqD (fun ds => .ow (.own ds)) [.ex (mVar 2), .ex (mVar 1)]))
def F_swapped : MF := mkF [true] 3 M_swapped
def M_dropped : MS := mRet (mSeqD (fun ds => .ow (.own ds)) [])
def F_dropped : MF := mkF [true] 1 M_dropped
def M_copied : MS := mRet (m2 oAdd (mVar 0) (mSl (mVar 0) none (some (mC (.int 1)))))
def F_copied : MF := mkF [true] 1 M_copied
def tbv_put_by_put : List (Str × Nat × MF) := [("added", 1, F_added), ("multiplied", 1, F_multiplied), ("compared", 1, F_compared), ("joined", 1, F_joined), ("measured", 1, F_measured), ("shown", 1, F_shown), ("swapped", 1, F_swapped), ("dropped", 1, F_dropped), ("copied", 1, F_copied)]
def M_put_by : MS := mSeq (mAsg 2 (m2 oIx (mVar 0) (mC (.int 0))))
 (mSeq (mIfS (mTest D.bool (m2 (oIn false) (mVar 2) (mSeqD (fun ds => .dd (.tup ds)) [.ex (mC (.str "num")), .ex (mC (.str "text"))]))) (mRet (mSeqD (fun ds => .ow (.own ds)) [.ex (m2 oIx (mVar 0) (mC (.int 1)))])) (mNx))
 (mSeq (mAsg 3 (mKGet tbl_PUT (mVar 2)))
 (mRet (mCallV 3 tbv_put_by_put [.nm 1]))))
def F_put_by : MF := mkF [true, true] 4 M_put_by
def M_kinds_put : MS := mSeq (mAsg 2 (m2 oIx (mVar 0) (mC (.int 0))))
 (mSeq (mIfS (mTest D.bool (mKIn tbl_NEW_KIND false (mVar 2))) (mRet (mSeqD (fun ds => .ow (.own ds)) [.ex (mKGet tbl_NEW_KIND (mVar 2))])) (mNx))
 (mRet (mCall 2 F_put_by [.nm 0, .nm 1])))
def F_kinds_put : MF := mkF [true, true] 3 M_kinds_put
def M_lead_plain : MS := mSeq (mAsg 2 (m2 oMax (mC (.int 0)) (m2 oSub (m1 oLen (mVar 0)) (mCall 1 F_wanted [.nm 1]))))
 (mSeq (mAsg 3 (mSl (mVar 0) (some (mVar 2)) none))
 (mSeq (mExpr (mCall 2 F_check [.nm 1, .nm 3]))
 (mPutSl 0 (mVar 2) (mCall 2 F_kinds_put [.nm 1, .nm 3]))))
def F_lead_plain : MF := mkF [true, true] 4 M_lead_plain
def M_lead : MS := mSeq (mAsg 3 (m2 oIx (mVar 2) (mC (.int 0))))
 (mIfS (mTest D.bool (m2 oEq (mVar 3) (mC (.str "call")))) (mExpr (mCall 3 F_lead_call [.ln 0, .ln 1, .ex (m2 oIx (mVar 2) (mC (.int 1)))])) (mIfS (mTest D.bool (m2 oEq (mVar 3) (mC (.str "if")))) (mExpr (mCall 3 F_lead_if [.nm 0, .nm 1, .nm 2])) (mExpr (mCall 2 F_lead_plain [.nm 1, .nm 2]))))
def F_lead : MF := mkF [true, true, true] 4 M_lead
def M_refusal : MS := mSeq (mTry (mExpr (mCall 3 F_lead [.nm 0, .nm 1, .nm 2])) [(fun y => hdt_Empty.lookup y, mRet (mC (.str "empty"))), (fun y => hdt_WrongKind.lookup y, mRet (mC (.str "kind"))), (fun y => hdt_NoBlock.lookup y, mRet (mC (.str "block"))), (fun y => hdt_Apart.lookup y, mRet (mC (.str "apart")))])
 (mRet (mC .non))
def F_refusal : MF := mkF [true, true, true] 3 M_refusal
def B_fault_1 : MS := mSeq (mAsg 8 (mCall 3 F_refusal [.nm 0, .nm 5, .nm 7]))
 (mIfS (mTest D.bool (m2 (oIsN true) (mVar 8) (mC .non))) (mRet (mSeqD (fun ds => .dd (.tup ds)) [.ex (mVar 6), .ex (mVar 8)])) (mNx))
def M_fault : MS := mSeq (mAsgG (mgSeq [2, 3, 4]) (mCall 2 F_block_of [.nm 0, .nm 1]))
 (mSeq (mAsg 5 (m1 oList (mVar 2)))
 (mSeq (mFor (miEnum (mVar 4)) (mgSeq [6, 7]) (B_fault_1))
 (mSeq (mIfS (mTest D.bool (m2 oNe (m1 oTuple (mVar 5)) (mVar 3))) (mRet (mSeqD (fun ds => .dd (.tup ds)) [.ex (m1 oLen (mVar 4)), .ex (mC (.str "end"))])) (mNx))
 (mRet (mC .non)))))
def F_fault : MF := mkF [true, true] 9 M_fault
def B_let_by_1 : MS := mIfS (tmOr (mTest D.bool (m2 (oIn true) (mVar 2) (mVar 0))) (mTest D.bool (m2 (oIsN true) (mCall 2 F_fault [.nm 0, .nm 2]) (mC .non)))) (mRet (mC (.bl false))) (mNx)
def M_let_by : MS := mSeq (mFor (miSeq (mCall 2 F_reach [.nm 0, .nm 1])) (mgName 2) (B_let_by_1))
 (mRet (mC (.bl true)))
def F_let_by : MF := mkF [true, true] 3 M_let_by
def E_ready_ones_1 : ME := m2 (oIn false) (mVar 4) (mVar 1)
def B_ready_ones_2 : MS := mIfS (tmAnd (mTest D.bool (m2 (oIn true) (mVar 3) (mVar 1))) (mTest D.tru (m1 oAll (mLc [4] (miSeq (m2 oIx (mVar 0) (mVar 3))) (mgName 4) (mYes) (E_ready_ones_1))))) (mExpr (mApp 2 (mVar 3))) (mNx)
def M_ready_ones : MS := mSeq (mAsg 2 (mSeqD (fun ds => .ow (.own ds)) []))
 (mSeq (mLk 0 (mFor (miKeys 0) (mgName 3) (B_ready_ones_2)))
 (mRetV 2))
def F_ready_ones : MF := mkF [true, true] 5 M_ready_ones
def E_height_within_1 : ME := m2 oIx (mVar 3) (mVar 7)
def M_height_within : MS := mSeq (mAsg 4 (mCall 1 F_names_in [.nm 2]))
 (mSeq (mIfS (tmNot (mTest D.tru (mVar 4))) (mRet (mC (.int 0))) (mNx))
 (mSeq (mAsg 5 (mIf (mTest D.bool (m2 oEq (m2 oIx (mVar 2) (mC (.int 0))) (mC (.str "if")))) (mC (.int 1)) (mC (.int 0))))
 (mSeq (mAsg 6 (m2 oSub (m2 oSub (mVar 1) (mVar 5)) (m1 oLen (m2 oIx (mCall 2 F_block_of [.ln 0, .ex (m2 oIx (mVar 4) (mC (.int 0)))]) (mC (.int 0))))))
 (mRet (m2 oAdd (mVar 6) (m1 oMaxL (mLc [7] (miSeq (mVar 4)) (mgName 7) (mYes) (E_height_within_1))))))))
def F_height_within : MF := mkF [true, true, true, true] 8 M_height_within
def B_height_by_1 : MS := mSeq (mAsg 5 (m2 oMax (mVar 5) (mCall 4 F_height_within [.ln 0, .ex (m1 oLen (mVar 4)), .ln 6, .ln 2])))
 (mSeq (mExpr (mCall 3 F_lead [.nm 0, .nm 4, .nm 6]))
 (mAsg 5 (m2 oMax (mVar 5) (m1 oLen (mVar 4)))))
def M_height_by : MS := mSeq (mAsg 3 (mCall 2 F_block_of [.nm 0, .nm 1]))
 (mSeq (mAsg 4 (m1 oList (m2 oIx (mVar 3) (mC (.int 0)))))
 (mSeq (mAsg 5 (m1 oLen (mVar 4)))
 (mSeq (mFor (miSeq (m2 oIx (mVar 3) (mC (.int 2)))) (mgName 6) (B_height_by_1))
 (mRetV 5))))
def F_height_by : MF := mkF [true, true, true] 7 M_height_by
def B_height_1 : MS := mPut 2 (mVar 3) (mCall 2 F_named_by [.nm 0, .nm 3])
def B_height_2 : MS := mPut 4 (mVar 3) (mCall 3 F_height_by [.nm 0, .nm 3, .nm 4])
def T_height_3 : MT := mTest D.bool (m2 (oIn true) (mVar 1) (mVar 4))
def B_height_4 : MS := mSeq (mAsg 5 (mCall 2 F_ready_ones [.nm 2, .nm 4]))
 (mSeq (mIfS (tmNot (mTest D.tru (mVar 5))) (mRet (mC .non)) (mNx))
 (mFor (miSeq (mVar 5)) (mgName 3) (B_height_2)))
def M_height : MS := mSeq (mAsg 2 (mDict0))
 (mSeq (mFor (miSeq (mCall 2 F_reach [.nm 0, .nm 1])) (mgName 3) (B_height_1))
 (mSeq (mAsg 4 (mDict0))
 (mSeq (mWhile (T_height_3) (B_height_4) whileMost)
 (mRet (m2 oIx (mVar 4) (mVar 1))))))
def F_height : MF := mkF [true, true] 6 M_height
def M_M_begun : MS := mSeq (mExpr (mCall 2 F_block_of [.ex (mProg 0), .ln 1]))
 (mRet (mSeqD (fun ds => .dd (.tup ds)) [.ex (mVar 1), .ex (mC (.int 0))]))
def F_M_begun : FM := mkB 2 3 M_M_begun
def M_M_has_ended : MS := mSeq (mAsgG (mgSeq [3, 4]) (mVar 1))
 (mRet (m2 oEq (mVar 4) (m1 oLen (m2 oIx (mCall 2 F_block_of [.ex (mProg 0), .ln 3]) (mC (.int 2))))))
def F_M_has_ended : FM := mkB 2 5 M_M_has_ended
def T_M_leave_1 : MT := tmAnd (mTest D.tru (mGh 0 1)) (mTest D.tru (mCallB 0 2 F_M_has_ended [.ex (m2 oIx (mGh 0 1) (m1 oNeg (mC (.int 1))))]))
def B_M_leave_2 : MS := mExpr (mPopF 0 1)
def M_M_leave : MS := mWhile (T_M_leave_1) (B_M_leave_2) whileMost
def F_M_leave : FM := mkM 0 1 3 M_M_leave
def M_Mover : MS := mRet (m2 oEq (m1 oLen (mGh 0 1)) (mC (.int 0)))
def F_Mover : FM := mkM 0 1 3 M_Mover
def M_kind_of : MS := mRet (mIf (mTest D.tru (m2 oIsi (mVar 0) (mC (.ty "str")))) (mC (.str "text")) (mC (.str "num")))
def F_kind_of : MF := mkF [true] 1 M_kind_of
def E_kinds_of_1 : ME := mCall 1 F_kind_of [.nm 1]
def M_kinds_of : MS := mRet (m1 oTuple (mLc [1] (miSeq (mVar 0)) (mgName 1) (mYes) (E_kinds_of_1)))
def F_kinds_of : MF := mkF [true] 2 M_kinds_of
def M_M_chosen : MS := mSeq (mExpr (mCall 2 F_check [.ln 1, .ex (mCall 1 F_kinds_of [.ex (mSl (mGh 0 0) (some (m1 oNeg (mC (.int 1)))) none)])]))
 (mSeq (mAsg 4 (mCallB 0 2 F_M_begun [.ex (mIf (mTest D.bool (m2 oNe (m2 oIx (mGh 0 0) (m1 oNeg (mC (.int 1)))) (mC (.int 0)))) (m2 oIx (mVar 1) (mC (.int 1))) (m2 oIx (mVar 1) (mC (.int 2))))]))
 (mSeq (mExpr (mPopF 0 0))
 (mRetV 4)))
def F_M_chosen : FM := mkM 0 2 5 M_M_chosen
def M_do : MS := mSeq (mAsg 2 (m2 oMax (mC (.int 0)) (m2 oSub (m1 oLen (mVar 0)) (mCall 1 F_wanted [.nm 1]))))
 (mSeq (mAsg 3 (mSl (mVar 0) (some (mVar 2)) none))
 (mSeq (mExpr (mCall 2 F_check [.ln 1, .ex (mCall 1 F_kinds_of [.nm 3])]))
 (mPutSl 0 (mVar 2) (mCall 2 F_put_by [.nm 1, .nm 3]))))
def F_do : MF := mkF [true, true] 4 M_do
def M_M_do : MS := mSeq (mAsg 4 (m2 oIx (mVar 1) (mC (.int 0))))
 (mSeq (mIfS (mTest D.bool (m2 oEq (mVar 4) (mC (.str "call")))) (mRet (mSeqD (fun ds => .ow (.own ds)) [.ex (mCallB 0 2 F_M_begun [.ex (m2 oIx (mVar 1) (mC (.int 1)))])])) (mNx))
 (mSeq (mIfS (mTest D.bool (m2 oEq (mVar 4) (mC (.str "if")))) (mRet (mSeqD (fun ds => .ow (.own ds)) [.ex (mCallM 0 2 F_M_chosen [.ex (mVar 1)])])) (mNx))
 (mSeq (mExpr (mCall 2 F_do [.gh 0 0, .ln 1]))
 (mRet (mSeqD (fun ds => .ow (.own ds)) [])))))
def F_M_do : FM := mkM 0 2 5 M_M_do
def M_Mstep : MS := mSeq (mIfS (mTest D.tru (mCallM 0 1 F_Mover [])) (mRetN) (mNx))
 (mSeq (mAsgG (mgSeq [3, 4]) (m2 oIx (mGh 0 1) (m1 oNeg (mC (.int 1)))))
 (mSeq (mAsg 5 (m2 oIx (m2 oIx (mCall 2 F_block_of [.ex (mProg 0), .ln 3]) (mC (.int 2))) (mVar 4)))
 (mSeq (mAsg 6 (mCallM 0 2 F_M_do [.ex (mVar 5)]))
 (mSeq (mPutF 0 1 (m1 oNeg (mC (.int 1))) (mSeqD (fun ds => .dd (.tup ds)) [.ex (mVar 3), .ex (m2 oAdd (mVar 4) (mC (.int 1)))]))
 (mSeq (mExpr (mExtF 0 1 (mVar 6)))
 (mExpr (mCallM 0 1 F_M_leave [])))))))
def F_Mstep : FM := mkM 0 1 7 M_Mstep
def B_run_1 : MS := mSeq (mIfS (mTest D.tru (mCallM 4 1 F_Mover [])) (mBk) (mNx))
 (mExpr (mCallM 4 1 F_Mstep []))
def X_run_2 : MS := mRaise "Dry" (mJs [m1 D.fmt (mVar 1), mC (.str " is not over behind "), m1 D.fmt (mVar 3), mC (.str " steps")] Str.empty)
def M_run : MS := mSeq (mAsgM 4 6 (mMake F_M_begun F_M_leave (mVar 0) (mVar 1) (mVar 2)))
 (mSeq (mFor (miRange (mVar 3)) (mgName 5) (B_run_1))
 (mSeq (mIfS (tmNot (mTest D.tru (mCallM 4 1 F_Mover []))) (X_run_2) (mNx))
 (mRetF 4 0)))
def F_run : MF := mkF [false, false, false, false] 8 M_run
def M_law_run : MS := mTry (mRet (mCall 4 F_run [.ex (mVar 0), .ex (mVar 1), .ex (mVar 2), .ex (mVar 3)])) [(fun y => hdt_Dry.lookup y, mRet (mC (.str "dry")))]
def F_law_run : MF := mkF [true, true, true, true] 4 M_law_run
def B_law_alike_1 : MS := mSeq (mIfS (mTest D.bool (m2 oNe (m2 oIsi (m2 oIx (mVar 1) (mVar 2)) (mC (.ty "str"))) (m2 oIsi (m2 oIx (mVar 0) (mVar 2)) (mC (.ty "str"))))) (mRet (mC (.bl false))) (mNx))
 (mIfS (tmAnd (tmNot (mTest D.tru (m2 oIsi (m2 oIx (mVar 1) (mVar 2)) (mC (.ty "str"))))) (tmOr (mTest D.tru (m2 oIsi (m2 oIx (mVar 0) (mVar 2)) (mC (.ty "bool")))) (tmNot (mTest D.tru (m2 oIsi (m2 oIx (mVar 0) (mVar 2)) (mC (.ty "int"))))))) (mRet (mC (.bl false))) (mNx))
def M_law_alike : MS := mSeq (mIfS (tmOr (tmNot (mTest D.tru (m2 oIsi (mVar 0) (mC (.ty "list"))))) (mTest D.bool (m2 oNe (m1 oLen (mVar 0)) (m1 oLen (mVar 1))))) (mRet (mC (.bl false))) (mNx))
 (mSeq (mFor (miRange (m1 oLen (mVar 1))) (mgName 2) (B_law_alike_1))
 (mRet (m2 oEq (mVar 0) (mVar 1))))
def F_law_alike : MF := mkF [true, true] 3 M_law_alike
def B_law_deep_1 : MS := mSeq (mExpr (mCallM 6 1 F_Mstep []))
 (mIfS (mTest D.bool (m2 oEq (m2 oMod (mVar 9) (mC (.int 3))) (mC (.int 0)))) (mExpr (mCallM 7 1 F_Mstep [])) (mNx))
def B_law_deep_2 : MS := mExpr (mCallM 7 1 F_Mstep [])
def E_law_deep_3 : ME := m2 oSub (mVar 3) (mVar 9)
def M_law_deep : MS := mSeq (mAsgM 6 11 (mMake F_M_begun F_M_leave (mVar 0) (m2 oIx (mVar 1) (mC (.int 0))) (m2 oAdd (mVar 2) (mSeqD (fun ds => .ow (.own ds)) [.ex (mVar 3)]))))
 (mSeq (mAsgM 7 13 (mMake F_M_begun F_M_leave (mVar 0) (m2 oIx (mVar 1) (mC (.int 0))) (m2 oAdd (mVar 2) (mSeqD (fun ds => .ow (.own ds)) [.ex (mC (.int 1))]))))
 (mSeq (mAsg 8 (mSeqD (fun ds => .ow (.own ds)) []))
 (mSeq (mFor (miRange (m2 oMul (m2 oAdd (mC (.int 5)) (m1 oInt (mVar 4))) (mVar 3))) (mgName 9) (B_law_deep_1))
 (mSeq (mFor (miRange (mC (.int 9))) (mgName 9) (B_law_deep_2))
 (mSeq (mIfS (tmOr (tmNot (mTest D.tru (mCallM 7 1 F_Mover []))) (tmNot (mTest D.tru (mCall 2 F_law_alike [.gh 7 0, .ex (m2 oAdd (mVar 2) (mSeqD (fun ds => .ow (.own ds)) [.ex (m2 oIx (mSeqD (fun ds => .ow (.own ds)) [.ex (mVar 5), .ex (mC (.int 1))]) (m1 oInt (mVar 4)))]))])))) (mRet (mC (.bl false))) (mNx))
 (mSeq (mIfS (mTest D.tru (mVar 4)) (mAsg 8 (mLc [9] (miRange (mVar 3)) (mgName 9) (mYes) (E_law_deep_3))) (mNx))
 (mSeq (mAsg 10 (m2 oAdd (m2 oMul (mSeqD (fun ds => .ow (.own ds)) [.ex (mSeqD (fun ds => .dd (.tup ds)) [.ex (m2 oIx (mVar 1) (mC (.int 0))), .ex (mC (.int 2))]), .ex (mSeqD (fun ds => .dd (.tup ds)) [.ex (m2 oIx (mVar 1) (mC (.int 1))), .ex (m2 oAdd (mC (.int 3)) (m1 oInt (mVar 4)))])]) (mVar 3)) (mSeqD (fun ds => .ow (.own ds)) [.ex (mSeqD (fun ds => .dd (.tup ds)) [.ex (m2 oIx (mVar 1) (mC (.int 0))), .ex (mC (.int 0))])])))
 (mRet (mAndV (m2 oEq (mGh 6 1) (mVar 10)) (mAndV (mNotV (mCallM 6 1 F_Mover [])) (mCall 2 F_law_alike [.gh 6 0, .ex (m2 oAdd (m2 oAdd (mVar 2) (mVar 8)) (mSeqD (fun ds => .ow (.own ds)) [.ex (mC (.int 0))]))])))))))))))
def F_law_deep : MF := mkF [false, false, false, false, false, false] 15 M_law_deep
def B_law_1 : MS := mExpr (mApp 8 (mCall 3 F_law_value [.ln 0, .ln 1, .ex (m2 oIx (mSeqD (fun ds => .ow (.own ds)) [.ex (mC (.str "num")), .ex (mC (.str "text"))]) (mCall 3 F_law_draw [.ln 0, .ln 1, .ex (mC (.int 2))]))]))
def M_law : MS := mSeq (mAsg 1 (mSeqD (fun ds => .ow (.own ds)) [.ex (mC (.int 0))]))
 (mSeq (mAsg 2 (mCall 3 F_law_value [.ln 0, .ln 1, .ex (mC (.str "num"))]))
 (mSeq (mAsg 3 (mCall 3 F_law_draw [.ln 0, .ln 1, .ex (mC (.int 12))]))
 (mSeq (mIfS (mTest D.bool (m2 oEq (mCall 3 F_law_draw [.ln 0, .ln 1, .ex (mC (.int 6))]) (mC (.int 1)))) (mAsg 3 (m2 oAdd (mCall 3 F_law_draw [.ln 0, .ln 1, .ex (mC (.int 91))]) (m2 oMul (mC (.int 300)) (m1 oInt (m2 oEq (mCall 3 F_law_draw [.ln 0, .ln 1, .ex (mC (.int 4))]) (mC (.int 1))))))) (mNx))
 (mSeq (mAsg 4 (mCall 3 F_law_draw [.ln 0, .ln 1, .ex (mC (.int 3))]))
 (mSeq (mAsg 5 (m2 oEq (mCall 3 F_law_draw [.ln 0, .ln 1, .ex (mC (.int 2))]) (mC (.int 0))))
 (mSeq (mAsgG (mgSeq [6, 7]) (mCall 4 F_law_program [.nm 0, .nm 1, .nm 2, .nm 5]))
 (mSeq (mAsg 8 (mSeqD (fun ds => .ow (.own ds)) []))
 (mSeq (mFor (miRange (m2 oAdd (mCall 3 F_law_draw [.ln 0, .ln 1, .ex (mC (.int 4))]) (m2 oIx (mSeqD (fun ds => .ow (.own ds)) [.ex (mC (.int 0)), .ex (mC (.int 0)), .ex (mC (.int 0)), .ex (mC (.int 0)), .ex (mC (.int 0)), .ex (mC (.int 60))]) (mCall 3 F_law_draw [.ln 0, .ln 1, .ex (mC (.int 6))])))) (mgName 9) (B_law_1))
 (mSeq (mAsg 10 (m2 oAdd (m2 oMul (mC (.int 7)) (mVar 3)) (mC (.int 2))))
 (mSeq (mIfS (tmOr (mTest D.bool (m2 (oIsBl true) (mCall 2 F_let_by [.ln 6, .ex (m2 oIx (mVar 7) (mC (.int 0)))]) (mC (.bl true)))) (mTest D.bool (m2 (oIsN true) (mCall 2 F_height [.ln 6, .ex (m2 oIx (mVar 7) (mC (.int 0)))]) (mC .non)))) (mRet (mC (.bl false))) (mNx))
 (mSeq (mAsg 11 (mVar 10))
 (mSeq (mIfS (mTest D.bool (m2 oEq (mVar 4) (mC (.int 1)))) (mAsg 11 (mCall 3 F_law_draw [.nm 0, .nm 1, .nm 10])) (mNx))
 (mSeq (mIfS (mTest D.bool (m2 oEq (mVar 4) (mC (.int 2)))) (mAsg 11 (m2 oAdd (m2 oAdd (mVar 10) (mC (.int 1))) (mCall 3 F_law_draw [.ln 0, .ln 1, .ex (mC (.int 1000))]))) (mNx))
 (mSeq (mAsg 12 (mCall 4 F_law_run [.ln 6, .ex (m2 oIx (mVar 7) (mC (.int 0))), .ex (m2 oAdd (mVar 8) (mSeqD (fun ds => .ow (.own ds)) [.ex (mVar 3)])), .ln 11]))
 (mSeq (mIfS (mTest D.bool (m2 oLt (mVar 11) (mVar 10))) (mRet (mAndV (m2 oIsi (mVar 12) (mC (.ty "str"))) (m2 oEq (mVar 12) (mC (.str "dry"))))) (mNx))
 (mSeq (mAsg 13 (m2 oMod (m2 oMul (mVar 3) (mVar 2)) (m2 oPow (mC (.int 10)) (mC (.int 9)))))
 (mSeq (mIfS (mTest D.tru (mVar 5)) (mAsg 13 (m2 oDiv (m2 oMul (mVar 3) (m2 oAdd (mVar 3) (mC (.int 1)))) (mC (.int 2)))) (mNx))
 (mRet (mAndV (mCall 2 F_law_alike [.ln 12, .ex (m2 oAdd (mVar 8) (mSeqD (fun ds => .ow (.own ds)) [.ex (mVar 13)]))]) (mCall 6 F_law_deep [.ex (mVar 6), .ex (mVar 7), .ex (mVar 8), .ex (mVar 3), .ex (mVar 5), .ex (mVar 2)]))))))))))))))))))))
def F_law : MF := mkF [true] 14 M_law

local macro_rules | `(tactic| simp_arith [$ls,*]) => `(tactic| simp only [mkF, pad, outs, mSeq, mAsg, mAsgG, mExpr, mRet, mRetV, mRetN, mIfS, mIf, mNx, mTest, tmNot, tmAnd, tmOr, mVar, mC, mB, TL.m1, TL.m2, opt, use, R.fix, frz, tak, Cell.dat, mSeqD, mArgs, vals, mSl, mPart, mgSeq, setAll, D.items, mCall, give, mPut, mApp, mPop, mIns, ownL, mFor, miSeq, miRange, mAndV, mOrV, mNotV, D.bool, D.tru, mKGet, mKIn, mCallV, mRaise, mTry, mHands, mAny, mJoin, mLc, mLcL, mForL, mIsV, mGh, mProg, mPopF, mExtF, mPutF, mAsgM, mRetF, mAlias, mVarA, mCallM, mRunM, mCallB, mRunB, mMake, mkI, pairOf, nwOf, mkM, mkB, gh2, okRef, oIsBl, oIsiO, isOwn, isLnk, ownL, oAdd, oSub, oMul, oDiv, oMod, oPow, oNeg, oCmp, oIx, oSl, oLen, oList, oTuple, oStr, oInt, oMax, oMin, oIn, List.getElem?_cons_zero, List.getElem?_cons_succ, List.getElem?_nil, List.set_cons_zero, List.set_cons_succ, List.length_cons, List.length_nil, List.cons_append, List.nil_append, List.append_nil, List.replicate, List.map_cons, List.map_nil, Option.map_some, Option.map_none, Option.bind_some, Option.bind_none, if_true, if_false, reduceIte, ↓reduceIte, Nat.reduceAdd, Nat.reduceSub, Nat.reduceLeDiff, Nat.reduceLT, Nat.reduceEqDiff, Int.reduceLT, Int.reduceLE, Bool.not_true, Bool.not_false, Bool.false_eq_true, sz0, sz1, sz2, sz3, sz4, sz5, sz6, sz7, sz8, sz9, sz10, sz11, sz12, sz13, sz14, sz15, $ls,*])

def fS (ns : List Int) : Cell := .val (.fls (ns.map D.int))
theorem draw_loop (sc tp my c : Cell) : ∀ (cs : List Int) (s : Int), 0 ≤ s → s < 1000003 → ∀ c : Cell, ∃ s' c', 0 ≤ s' ∧ s' < 1000003 ∧
    mLoop (mgName 4) B_law_draw_1 (cs.map D.int) [sc, tp, my, .val (.int s), c] = .nx [sc, tp, my, .val (.int s'), c']
  | [], s, h0, h1, c => ⟨s, c, h0, h1, rfl⟩
  | x :: cs, s, h0, h1, c => by
    obtain ⟨s', c', k1, k2, k3⟩ := draw_loop sc tp my c cs ((s * 131 + x) % 1000003) (by omega) (by omega) (.val (.int x))
    refine ⟨s', c', k1, k2, ?_⟩
    have hm : CMul s 131 := .inr (by decide)
    rw [List.map_cons]
    unfold mLoop B_law_draw_1
    have z : (0 : Int) < 1000003 := by decide
    simp_arith [hm, mgName, z]
    exact k3
theorem draw_ok (ns : List Int) (t m : Int) (h0 : 0 ≤ t) (h1 : t < 1000000) (hm : 0 < m) (hn : ns.length ≤ 63) : ∃ v, 0 ≤ v ∧ v < m ∧ F_law_draw [fS ns, .own [.int t], .val (.int m)] = .ret (.dd (.int v)) [fS ns, .own [.int (t + 1)], .val (.int m)] := by
  by_cases hc : t + 1 ≤ (ns.length : Int)
  · obtain ⟨x, _, hx⟩ := atI_lt ns (t + 1 - 1) (by omega) (by omega)
    have hx' : atI (ns.map D.int) (t + 1 - 1) = some (.int x) := by
      rw [atI_nat _ _ (by omega) (by simp; omega)]
      rw [atI_nat _ _ (by omega) (by omega)] at hx
      rw [List.getElem?_map, hx]; rfl
    refine ⟨x % m, Int.emod_nonneg _ (by omega), Int.emod_lt_of_pos _ hm, ?_⟩
    have e0 : atI [D.int t] 0 = some (.int t) := rfl
    have e1 : atI [D.int (t + 1)] 0 = some (.int (t + 1)) := rfl
    have ei : ixN 1 0 = some 0 := rfl
    unfold F_law_draw M_law_draw fS
    simp_arith [e0, e1, ei, hx', hc, hm, List.length_map, decide_true]
  · obtain ⟨s', c', k1, k2, k3⟩ := draw_loop (fS ns) (.own [.int (t + 1)]) (.val (.int m)) .no (cut ns none (some 4)) (ns.length : Int) (by omega) (by omega) .no
    have e0 : atI [D.int t] 0 = some (.int t) := rfl
    have e1 : atI [D.int (t + 1)] 0 = some (.int (t + 1)) := rfl
    have ei : ixN 1 0 = some 0 := rfl
    have m1 : CMul (t + 1) (t + 1) := .inl (by omega)
    have m2 : CMul (s' + 7) ((t + 1) * (t + 1) + 48271) := .inl (by omega)
    have z : (0 : Int) < 1000003 := by decide
    refine ⟨(s' + 7) * ((t + 1) * (t + 1) + 48271) % 1000003 % m, Int.emod_nonneg _ (by omega), Int.emod_lt_of_pos _ hm, ?_⟩
    unfold F_law_draw M_law_draw
    unfold fS at k3 ⊢
    simp_arith [e0, e1, ei, hc, hm, List.length_map, decide_false, cut_map, k3, m1, m2, z]
/-- a text that the laws make -/
def gS (s : Str) : Prop := s.length ≤ 60 ∧ PyData.strOk s = true
theorem strOk_of {s : Str} (h : ∀ c ∈ s.cps.toList, c < 1114112) : PyData.strOk s = true := by
  unfold PyData.strOk
  rw [Array.all_eq_true']
  intro c hc
  simpa using h c (by simpa using hc)
theorem strOk_mem {s : Str} (h : PyData.strOk s = true) : ∀ c ∈ s.cps.toList, c < 1114112 := by
  unfold PyData.strOk at h
  rw [Array.all_eq_true'] at h
  intro c hc
  simpa using h c (by simpa using hc)
def signs : Str := ("abcdefghijklmnopqrstuvwxyzABCDEFGHIJKLMNOPQRSTUVWXYZ0123456789" : Str) ++ (" .,;:!?'\"()[]{}<>+-*/=&|^~_#$@\\`" : Str)
theorem signs_len : signs.length = 94 := by decide +kernel
theorem signs_ok : ∀ c ∈ signs.cps.toList, c < 1114112 := by decide +kernel
theorem words_loop (cell size : Int) (hc : 0 ≤ cell) : ∀ (ks : List Nat) (acc : List D) (c : Cell), (∀ k ∈ ks, k ≤ 1000) → acc.length + ks.length ≤ 1000 → (∃ ys : List Nat, acc = ys.map (fun y => D.str ⟨#[y]⟩) ∧ ∀ y ∈ ys, y < 1114112) →
    ∃ ys : List Nat, (∀ y ∈ ys, y < 1114112) ∧ ys.length = acc.length + ks.length ∧ mLcLoop [3] (mgName 3) mYes E_law_words_1 (ks.map fun (k : Nat) => .int k) acc
      [.val (.int cell), .val (.int size), .val (.str signs), .no] = .ok (ys.map fun y => D.str ⟨#[y]⟩) [.val (.int cell), .val (.int size), .val (.str signs), .no]
  | [], acc, c, _, _, ⟨ys, h1, h2⟩ => ⟨ys, h2, by rw [h1]; simp, by rw [h1]; rfl⟩
  | k :: ks, acc, c, hk, hl, ⟨ys, h1, h2⟩ => by
    have hk0 := hk k List.mem_cons_self
    have d1 : CDiv cell ((k : Int) + 1) := ⟨by omega, by omega⟩
    have d2 : CMul 5 (k : Int) := .inl (by decide)
    have z : (0 : Int) < 94 := by decide
    obtain ⟨y, y1, y2⟩ := atI_lt signs.cps.toList ((cell / ((k : Int) + 1) + 5 * (k : Int)) % 94) (by omega) (by have := signs_len; unfold Str.length at this; rw [Array.length_toList, this]; omega)
    obtain ⟨zs, z1, z2, z3⟩ := words_loop cell size hc ks (acc ++ [.str ⟨#[y]⟩]) c (fun x hx => hk x (List.mem_cons_of_mem _ hx)) (by simp at hl ⊢; omega) ⟨ys ++ [y], by rw [h1]; simp, fun x hx => by
      rcases List.mem_append.mp hx with hx | hx
      · exact h2 x hx
      · simp at hx; subst hx; exact signs_ok _ y1⟩
    refine ⟨zs, z1, by rw [z2]; simp; omega, ?_⟩
    rw [List.map_cons]
    unfold mLcLoop E_law_words_1
    have sl : signs.length ≤ sizeLine := by rw [signs_len]; decide
    have al : acc.length < sizeLine := Nat.lt_of_le_of_lt (by simp at hl; omega) (show 1000 < sizeLine by decide)
    simp_arith [d1, d2, z, y2, sl, al, mgName, mYes, wipeE]
    exact z3
theorem strOk_ofString (s : String) : PyData.strOk (Str.ofString s) = true := by
  refine strOk_of fun c hc => ?_
  rw [Str.ofString_eq_toList] at hc
  simp only [List.mem_map] at hc
  obtain ⟨ch, _, rfl⟩ := hc
  have := ch.valid
  unfold UInt32.isValidChar Nat.isValidChar at this
  show ch.val.toNat < _
  omega
theorem strOk_app {a b : Str} (ha : PyData.strOk a = true) (hb : PyData.strOk b = true) : PyData.strOk (a ++ b) = true := by
  refine strOk_of fun c hc => ?_
  rw [Str.cps_append, Array.toList_append, List.mem_append] at hc
  rcases hc with h | h
  · exact strOk_mem ha c h
  · exact strOk_mem hb c h
theorem strOk_cut {a : Str} (ha : PyData.strOk a = true) (lo hi : Option Int) : PyData.strOk (cutS a lo hi) = true := by
  refine strOk_of fun c hc => strOk_mem ha c ?_
  unfold cutS at hc
  exact List.mem_of_mem_drop (List.mem_of_mem_take hc)
theorem glue_fold : ∀ (ys : List Nat) (acc : Array Nat), ((ys.map fun y => (⟨#[y]⟩ : Str)).foldl (fun acc p => acc ++ (Str.ofString "").cps ++ p.cps) acc).toList = acc.toList ++ ys
  | [], acc => by simp
  | y :: ys, acc => by
    rw [List.map_cons, List.foldl_cons, glue_fold ys]
    have : (Str.ofString "").cps = #[] := by decide +kernel
    rw [this]
    simp
theorem glue_chars (ys : List Nat) : (Txt.join (Str.ofString "") (ys.map fun y => (⟨#[y]⟩ : Str))).cps.toList = ys := by
  unfold Txt.join PySem.Builtin.Str.glued
  cases ys with
  | nil => decide +kernel
  | cons y ys =>
    rw [List.map_cons, List.drop_succ_cons, List.drop_zero]
    have := glue_fold ys #[y]
    simpa using this
theorem strL_chars : ∀ ys : List Nat, strL (ys.map fun y => D.str ⟨#[y]⟩) = some (ys.map fun y => (⟨#[y]⟩ : Str))
  | [] => rfl
  | y :: ys => by rw [List.map_cons]; unfold strL; rw [strL_chars ys]; rfl
theorem sum_chars : ∀ ys : List Nat, ((ys.map fun y => (⟨#[y]⟩ : Str)).map (·.length)).sum = ys.length
  | [] => rfl
  | y :: ys => by rw [List.map_cons, List.map_cons, List.sum_cons, sum_chars ys]; simp [Str.length]; omega
theorem words_ok (cell size : Int) (hc : 0 ≤ cell) (h0 : 0 ≤ size) (h1 : size ≤ 60) : ∃ s, gS s ∧ F_law_words [.val (.int cell), .val (.int size)] = .ret (.dd (.str s)) [.val (.int cell), .val (.int size)] := by
  obtain ⟨ys, y1, y2, y3⟩ := words_loop cell size hc (List.range size.toNat) [] .no (fun k hk => by rw [List.mem_range] at hk; omega) (by simp; omega) ⟨[], rfl, by simp⟩
  rw [List.length_range] at y2
  simp only [List.length_nil, Nat.zero_add] at y2
  refine ⟨Txt.join (Str.ofString "") (ys.map fun y => (⟨#[y]⟩ : Str)), ⟨?_, strOk_of fun c hc => y1 c (by rw [glue_chars] at hc; exact hc)⟩, ?_⟩
  · unfold Str.length; rw [← Array.length_toList, glue_chars]; omega
  have hz : (Str.ofString "abcdefghijklmnopqrstuvwxyzABCDEFGHIJKLMNOPQRSTUVWXYZ0123456789").length + (Str.ofString " .,;:!?'\"()[]{}<>+-*/=&|^~_#$@\\`").length ≤ sizeLine := by decide +kernel
  have hr1 : size.natAbs < 2 ^ 62 := by omega
  have hl : (ys.length + (ys.map fun y => (⟨#[y]⟩ : Str)).length * (Str.ofString "").length) ≤ 16777216 := by
    have : (Str.ofString "").length = 0 := by decide +kernel
    rw [this]; omega
  unfold signs at y3
  unfold F_law_words M_law_words
  simp_arith [hz, hr1, y3, wipeE, backE, noneOwn, List.all_cons, List.all_nil, isOwn, Bool.and_true, strL_chars, sum_chars, hl]
theorem txt_ne : ¬ (Str.ofString "num" = Str.ofString "text") := by decide +kernel
theorem oEq_str (a b : Str) : oEq (.str a) (.str b) = some (.dd (.bl (decide (a = b)))) := by
  show some (R.dd (.bl (decide (V.str a = V.str b)))) = _
  congr 3
  exact decide_eq_decide.mpr ⟨fun h => by cases h; rfl, fun h => by rw [h]⟩
theorem oEq_int (a b : Int) : oEq (.int a) (.int b) = some (.dd (.bl (decide (a = b)))) := by
  show some (R.dd (.bl (decide (V.int a = V.int b)))) = _
  congr 3
  exact decide_eq_decide.mpr ⟨fun h => by cases h; rfl, fun h => by rw [h]⟩
/-- a value that the laws make -/
inductive IsVal : D → Prop where
  | int (i : Int) (h0 : 0 ≤ i) (h1 : i < 1000000000) : IsVal (.int i)
  | str (s : Str) (h : gS s) : IsVal (.str s)
def kOf : D → Str
  | .str _ => Str.ofString "text"
  | _ => Str.ofString "num"



theorem n_num_text : (Str.ofString "num" = Str.ofString "text") = False := eq_false (by decide +kernel)
theorem n_num_add : (Str.ofString "num" = Str.ofString "add") = False := eq_false (by decide +kernel)
theorem n_num_mul : (Str.ofString "num" = Str.ofString "mul") = False := eq_false (by decide +kernel)
theorem n_num_less : (Str.ofString "num" = Str.ofString "less") = False := eq_false (by decide +kernel)
theorem n_num_join : (Str.ofString "num" = Str.ofString "join") = False := eq_false (by decide +kernel)
theorem n_num_long : (Str.ofString "num" = Str.ofString "long") = False := eq_false (by decide +kernel)
theorem n_num_show : (Str.ofString "num" = Str.ofString "show") = False := eq_false (by decide +kernel)
theorem n_num_swap : (Str.ofString "num" = Str.ofString "swap") = False := eq_false (by decide +kernel)
theorem n_num_drop : (Str.ofString "num" = Str.ofString "drop") = False := eq_false (by decide +kernel)
theorem n_num_copy : (Str.ofString "num" = Str.ofString "copy") = False := eq_false (by decide +kernel)
theorem n_num_call : (Str.ofString "num" = Str.ofString "call") = False := eq_false (by decide +kernel)
theorem n_num_if : (Str.ofString "num" = Str.ofString "if") = False := eq_false (by decide +kernel)
theorem n_num_e : (Str.ofString "num" = Str.ofString "") = False := eq_false (by decide +kernel)
theorem n_num_empty : (Str.ofString "num" = Str.ofString "empty") = False := eq_false (by decide +kernel)
theorem n_num_kind : (Str.ofString "num" = Str.ofString "kind") = False := eq_false (by decide +kernel)
theorem n_num_block : (Str.ofString "num" = Str.ofString "block") = False := eq_false (by decide +kernel)
theorem n_num_apart : (Str.ofString "num" = Str.ofString "apart") = False := eq_false (by decide +kernel)
theorem n_num_end : (Str.ofString "num" = Str.ofString "end") = False := eq_false (by decide +kernel)
theorem n_text_num : (Str.ofString "text" = Str.ofString "num") = False := eq_false (by decide +kernel)
theorem n_text_add : (Str.ofString "text" = Str.ofString "add") = False := eq_false (by decide +kernel)
theorem n_text_mul : (Str.ofString "text" = Str.ofString "mul") = False := eq_false (by decide +kernel)
theorem n_text_less : (Str.ofString "text" = Str.ofString "less") = False := eq_false (by decide +kernel)
theorem n_text_join : (Str.ofString "text" = Str.ofString "join") = False := eq_false (by decide +kernel)
theorem n_text_long : (Str.ofString "text" = Str.ofString "long") = False := eq_false (by decide +kernel)
theorem n_text_show : (Str.ofString "text" = Str.ofString "show") = False := eq_false (by decide +kernel)
theorem n_text_swap : (Str.ofString "text" = Str.ofString "swap") = False := eq_false (by decide +kernel)
theorem n_text_drop : (Str.ofString "text" = Str.ofString "drop") = False := eq_false (by decide +kernel)
theorem n_text_copy : (Str.ofString "text" = Str.ofString "copy") = False := eq_false (by decide +kernel)
theorem n_text_call : (Str.ofString "text" = Str.ofString "call") = False := eq_false (by decide +kernel)
theorem n_text_if : (Str.ofString "text" = Str.ofString "if") = False := eq_false (by decide +kernel)
theorem n_text_e : (Str.ofString "text" = Str.ofString "") = False := eq_false (by decide +kernel)
theorem n_text_empty : (Str.ofString "text" = Str.ofString "empty") = False := eq_false (by decide +kernel)
theorem n_text_kind : (Str.ofString "text" = Str.ofString "kind") = False := eq_false (by decide +kernel)
theorem n_text_block : (Str.ofString "text" = Str.ofString "block") = False := eq_false (by decide +kernel)
theorem n_text_apart : (Str.ofString "text" = Str.ofString "apart") = False := eq_false (by decide +kernel)
theorem n_text_end : (Str.ofString "text" = Str.ofString "end") = False := eq_false (by decide +kernel)
theorem n_add_num : (Str.ofString "add" = Str.ofString "num") = False := eq_false (by decide +kernel)
theorem n_add_text : (Str.ofString "add" = Str.ofString "text") = False := eq_false (by decide +kernel)
theorem n_add_mul : (Str.ofString "add" = Str.ofString "mul") = False := eq_false (by decide +kernel)
theorem n_add_less : (Str.ofString "add" = Str.ofString "less") = False := eq_false (by decide +kernel)
theorem n_add_join : (Str.ofString "add" = Str.ofString "join") = False := eq_false (by decide +kernel)
theorem n_add_long : (Str.ofString "add" = Str.ofString "long") = False := eq_false (by decide +kernel)
theorem n_add_show : (Str.ofString "add" = Str.ofString "show") = False := eq_false (by decide +kernel)
theorem n_add_swap : (Str.ofString "add" = Str.ofString "swap") = False := eq_false (by decide +kernel)
theorem n_add_drop : (Str.ofString "add" = Str.ofString "drop") = False := eq_false (by decide +kernel)
theorem n_add_copy : (Str.ofString "add" = Str.ofString "copy") = False := eq_false (by decide +kernel)
theorem n_add_call : (Str.ofString "add" = Str.ofString "call") = False := eq_false (by decide +kernel)
theorem n_add_if : (Str.ofString "add" = Str.ofString "if") = False := eq_false (by decide +kernel)
theorem n_add_e : (Str.ofString "add" = Str.ofString "") = False := eq_false (by decide +kernel)
theorem n_add_empty : (Str.ofString "add" = Str.ofString "empty") = False := eq_false (by decide +kernel)
theorem n_add_kind : (Str.ofString "add" = Str.ofString "kind") = False := eq_false (by decide +kernel)
theorem n_add_block : (Str.ofString "add" = Str.ofString "block") = False := eq_false (by decide +kernel)
theorem n_add_apart : (Str.ofString "add" = Str.ofString "apart") = False := eq_false (by decide +kernel)
theorem n_add_end : (Str.ofString "add" = Str.ofString "end") = False := eq_false (by decide +kernel)
theorem n_mul_num : (Str.ofString "mul" = Str.ofString "num") = False := eq_false (by decide +kernel)
theorem n_mul_text : (Str.ofString "mul" = Str.ofString "text") = False := eq_false (by decide +kernel)
theorem n_mul_add : (Str.ofString "mul" = Str.ofString "add") = False := eq_false (by decide +kernel)
theorem n_mul_less : (Str.ofString "mul" = Str.ofString "less") = False := eq_false (by decide +kernel)
theorem n_mul_join : (Str.ofString "mul" = Str.ofString "join") = False := eq_false (by decide +kernel)
theorem n_mul_long : (Str.ofString "mul" = Str.ofString "long") = False := eq_false (by decide +kernel)
theorem n_mul_show : (Str.ofString "mul" = Str.ofString "show") = False := eq_false (by decide +kernel)
theorem n_mul_swap : (Str.ofString "mul" = Str.ofString "swap") = False := eq_false (by decide +kernel)
theorem n_mul_drop : (Str.ofString "mul" = Str.ofString "drop") = False := eq_false (by decide +kernel)
theorem n_mul_copy : (Str.ofString "mul" = Str.ofString "copy") = False := eq_false (by decide +kernel)
theorem n_mul_call : (Str.ofString "mul" = Str.ofString "call") = False := eq_false (by decide +kernel)
theorem n_mul_if : (Str.ofString "mul" = Str.ofString "if") = False := eq_false (by decide +kernel)
theorem n_mul_e : (Str.ofString "mul" = Str.ofString "") = False := eq_false (by decide +kernel)
theorem n_mul_empty : (Str.ofString "mul" = Str.ofString "empty") = False := eq_false (by decide +kernel)
theorem n_mul_kind : (Str.ofString "mul" = Str.ofString "kind") = False := eq_false (by decide +kernel)
theorem n_mul_block : (Str.ofString "mul" = Str.ofString "block") = False := eq_false (by decide +kernel)
theorem n_mul_apart : (Str.ofString "mul" = Str.ofString "apart") = False := eq_false (by decide +kernel)
theorem n_mul_end : (Str.ofString "mul" = Str.ofString "end") = False := eq_false (by decide +kernel)
theorem n_less_num : (Str.ofString "less" = Str.ofString "num") = False := eq_false (by decide +kernel)
theorem n_less_text : (Str.ofString "less" = Str.ofString "text") = False := eq_false (by decide +kernel)
theorem n_less_add : (Str.ofString "less" = Str.ofString "add") = False := eq_false (by decide +kernel)
theorem n_less_mul : (Str.ofString "less" = Str.ofString "mul") = False := eq_false (by decide +kernel)
theorem n_less_join : (Str.ofString "less" = Str.ofString "join") = False := eq_false (by decide +kernel)
theorem n_less_long : (Str.ofString "less" = Str.ofString "long") = False := eq_false (by decide +kernel)
theorem n_less_show : (Str.ofString "less" = Str.ofString "show") = False := eq_false (by decide +kernel)
theorem n_less_swap : (Str.ofString "less" = Str.ofString "swap") = False := eq_false (by decide +kernel)
theorem n_less_drop : (Str.ofString "less" = Str.ofString "drop") = False := eq_false (by decide +kernel)
theorem n_less_copy : (Str.ofString "less" = Str.ofString "copy") = False := eq_false (by decide +kernel)
theorem n_less_call : (Str.ofString "less" = Str.ofString "call") = False := eq_false (by decide +kernel)
theorem n_less_if : (Str.ofString "less" = Str.ofString "if") = False := eq_false (by decide +kernel)
theorem n_less_e : (Str.ofString "less" = Str.ofString "") = False := eq_false (by decide +kernel)
theorem n_less_empty : (Str.ofString "less" = Str.ofString "empty") = False := eq_false (by decide +kernel)
theorem n_less_kind : (Str.ofString "less" = Str.ofString "kind") = False := eq_false (by decide +kernel)
theorem n_less_block : (Str.ofString "less" = Str.ofString "block") = False := eq_false (by decide +kernel)
theorem n_less_apart : (Str.ofString "less" = Str.ofString "apart") = False := eq_false (by decide +kernel)
theorem n_less_end : (Str.ofString "less" = Str.ofString "end") = False := eq_false (by decide +kernel)
theorem n_join_num : (Str.ofString "join" = Str.ofString "num") = False := eq_false (by decide +kernel)
theorem n_join_text : (Str.ofString "join" = Str.ofString "text") = False := eq_false (by decide +kernel)
theorem n_join_add : (Str.ofString "join" = Str.ofString "add") = False := eq_false (by decide +kernel)
theorem n_join_mul : (Str.ofString "join" = Str.ofString "mul") = False := eq_false (by decide +kernel)
theorem n_join_less : (Str.ofString "join" = Str.ofString "less") = False := eq_false (by decide +kernel)
theorem n_join_long : (Str.ofString "join" = Str.ofString "long") = False := eq_false (by decide +kernel)
theorem n_join_show : (Str.ofString "join" = Str.ofString "show") = False := eq_false (by decide +kernel)
theorem n_join_swap : (Str.ofString "join" = Str.ofString "swap") = False := eq_false (by decide +kernel)
theorem n_join_drop : (Str.ofString "join" = Str.ofString "drop") = False := eq_false (by decide +kernel)
theorem n_join_copy : (Str.ofString "join" = Str.ofString "copy") = False := eq_false (by decide +kernel)
theorem n_join_call : (Str.ofString "join" = Str.ofString "call") = False := eq_false (by decide +kernel)
theorem n_join_if : (Str.ofString "join" = Str.ofString "if") = False := eq_false (by decide +kernel)
theorem n_join_e : (Str.ofString "join" = Str.ofString "") = False := eq_false (by decide +kernel)
theorem n_join_empty : (Str.ofString "join" = Str.ofString "empty") = False := eq_false (by decide +kernel)
theorem n_join_kind : (Str.ofString "join" = Str.ofString "kind") = False := eq_false (by decide +kernel)
theorem n_join_block : (Str.ofString "join" = Str.ofString "block") = False := eq_false (by decide +kernel)
theorem n_join_apart : (Str.ofString "join" = Str.ofString "apart") = False := eq_false (by decide +kernel)
theorem n_join_end : (Str.ofString "join" = Str.ofString "end") = False := eq_false (by decide +kernel)
theorem n_long_num : (Str.ofString "long" = Str.ofString "num") = False := eq_false (by decide +kernel)
theorem n_long_text : (Str.ofString "long" = Str.ofString "text") = False := eq_false (by decide +kernel)
theorem n_long_add : (Str.ofString "long" = Str.ofString "add") = False := eq_false (by decide +kernel)
theorem n_long_mul : (Str.ofString "long" = Str.ofString "mul") = False := eq_false (by decide +kernel)
theorem n_long_less : (Str.ofString "long" = Str.ofString "less") = False := eq_false (by decide +kernel)
theorem n_long_join : (Str.ofString "long" = Str.ofString "join") = False := eq_false (by decide +kernel)
theorem n_long_show : (Str.ofString "long" = Str.ofString "show") = False := eq_false (by decide +kernel)
theorem n_long_swap : (Str.ofString "long" = Str.ofString "swap") = False := eq_false (by decide +kernel)
theorem n_long_drop : (Str.ofString "long" = Str.ofString "drop") = False := eq_false (by decide +kernel)
theorem n_long_copy : (Str.ofString "long" = Str.ofString "copy") = False := eq_false (by decide +kernel)
theorem n_long_call : (Str.ofString "long" = Str.ofString "call") = False := eq_false (by decide +kernel)
theorem n_long_if : (Str.ofString "long" = Str.ofString "if") = False := eq_false (by decide +kernel)
theorem n_long_e : (Str.ofString "long" = Str.ofString "") = False := eq_false (by decide +kernel)
theorem n_long_empty : (Str.ofString "long" = Str.ofString "empty") = False := eq_false (by decide +kernel)
theorem n_long_kind : (Str.ofString "long" = Str.ofString "kind") = False := eq_false (by decide +kernel)
theorem n_long_block : (Str.ofString "long" = Str.ofString "block") = False := eq_false (by decide +kernel)
theorem n_long_apart : (Str.ofString "long" = Str.ofString "apart") = False := eq_false (by decide +kernel)
theorem n_long_end : (Str.ofString "long" = Str.ofString "end") = False := eq_false (by decide +kernel)
theorem n_show_num : (Str.ofString "show" = Str.ofString "num") = False := eq_false (by decide +kernel)
theorem n_show_text : (Str.ofString "show" = Str.ofString "text") = False := eq_false (by decide +kernel)
theorem n_show_add : (Str.ofString "show" = Str.ofString "add") = False := eq_false (by decide +kernel)
theorem n_show_mul : (Str.ofString "show" = Str.ofString "mul") = False := eq_false (by decide +kernel)
theorem n_show_less : (Str.ofString "show" = Str.ofString "less") = False := eq_false (by decide +kernel)
theorem n_show_join : (Str.ofString "show" = Str.ofString "join") = False := eq_false (by decide +kernel)
theorem n_show_long : (Str.ofString "show" = Str.ofString "long") = False := eq_false (by decide +kernel)
theorem n_show_swap : (Str.ofString "show" = Str.ofString "swap") = False := eq_false (by decide +kernel)
theorem n_show_drop : (Str.ofString "show" = Str.ofString "drop") = False := eq_false (by decide +kernel)
theorem n_show_copy : (Str.ofString "show" = Str.ofString "copy") = False := eq_false (by decide +kernel)
theorem n_show_call : (Str.ofString "show" = Str.ofString "call") = False := eq_false (by decide +kernel)
theorem n_show_if : (Str.ofString "show" = Str.ofString "if") = False := eq_false (by decide +kernel)
theorem n_show_e : (Str.ofString "show" = Str.ofString "") = False := eq_false (by decide +kernel)
theorem n_show_empty : (Str.ofString "show" = Str.ofString "empty") = False := eq_false (by decide +kernel)
theorem n_show_kind : (Str.ofString "show" = Str.ofString "kind") = False := eq_false (by decide +kernel)
theorem n_show_block : (Str.ofString "show" = Str.ofString "block") = False := eq_false (by decide +kernel)
theorem n_show_apart : (Str.ofString "show" = Str.ofString "apart") = False := eq_false (by decide +kernel)
theorem n_show_end : (Str.ofString "show" = Str.ofString "end") = False := eq_false (by decide +kernel)
theorem n_swap_num : (Str.ofString "swap" = Str.ofString "num") = False := eq_false (by decide +kernel)
theorem n_swap_text : (Str.ofString "swap" = Str.ofString "text") = False := eq_false (by decide +kernel)
theorem n_swap_add : (Str.ofString "swap" = Str.ofString "add") = False := eq_false (by decide +kernel)
theorem n_swap_mul : (Str.ofString "swap" = Str.ofString "mul") = False := eq_false (by decide +kernel)
theorem n_swap_less : (Str.ofString "swap" = Str.ofString "less") = False := eq_false (by decide +kernel)
theorem n_swap_join : (Str.ofString "swap" = Str.ofString "join") = False := eq_false (by decide +kernel)
theorem n_swap_long : (Str.ofString "swap" = Str.ofString "long") = False := eq_false (by decide +kernel)
theorem n_swap_show : (Str.ofString "swap" = Str.ofString "show") = False := eq_false (by decide +kernel)
theorem n_swap_drop : (Str.ofString "swap" = Str.ofString "drop") = False := eq_false (by decide +kernel)
theorem n_swap_copy : (Str.ofString "swap" = Str.ofString "copy") = False := eq_false (by decide +kernel)
theorem n_swap_call : (Str.ofString "swap" = Str.ofString "call") = False := eq_false (by decide +kernel)
theorem n_swap_if : (Str.ofString "swap" = Str.ofString "if") = False := eq_false (by decide +kernel)
theorem n_swap_e : (Str.ofString "swap" = Str.ofString "") = False := eq_false (by decide +kernel)
theorem n_swap_empty : (Str.ofString "swap" = Str.ofString "empty") = False := eq_false (by decide +kernel)
theorem n_swap_kind : (Str.ofString "swap" = Str.ofString "kind") = False := eq_false (by decide +kernel)
theorem n_swap_block : (Str.ofString "swap" = Str.ofString "block") = False := eq_false (by decide +kernel)
theorem n_swap_apart : (Str.ofString "swap" = Str.ofString "apart") = False := eq_false (by decide +kernel)
theorem n_swap_end : (Str.ofString "swap" = Str.ofString "end") = False := eq_false (by decide +kernel)
theorem n_drop_num : (Str.ofString "drop" = Str.ofString "num") = False := eq_false (by decide +kernel)
theorem n_drop_text : (Str.ofString "drop" = Str.ofString "text") = False := eq_false (by decide +kernel)
theorem n_drop_add : (Str.ofString "drop" = Str.ofString "add") = False := eq_false (by decide +kernel)
theorem n_drop_mul : (Str.ofString "drop" = Str.ofString "mul") = False := eq_false (by decide +kernel)
theorem n_drop_less : (Str.ofString "drop" = Str.ofString "less") = False := eq_false (by decide +kernel)
theorem n_drop_join : (Str.ofString "drop" = Str.ofString "join") = False := eq_false (by decide +kernel)
theorem n_drop_long : (Str.ofString "drop" = Str.ofString "long") = False := eq_false (by decide +kernel)
theorem n_drop_show : (Str.ofString "drop" = Str.ofString "show") = False := eq_false (by decide +kernel)
theorem n_drop_swap : (Str.ofString "drop" = Str.ofString "swap") = False := eq_false (by decide +kernel)
theorem n_drop_copy : (Str.ofString "drop" = Str.ofString "copy") = False := eq_false (by decide +kernel)
theorem n_drop_call : (Str.ofString "drop" = Str.ofString "call") = False := eq_false (by decide +kernel)
theorem n_drop_if : (Str.ofString "drop" = Str.ofString "if") = False := eq_false (by decide +kernel)
theorem n_drop_e : (Str.ofString "drop" = Str.ofString "") = False := eq_false (by decide +kernel)
theorem n_drop_empty : (Str.ofString "drop" = Str.ofString "empty") = False := eq_false (by decide +kernel)
theorem n_drop_kind : (Str.ofString "drop" = Str.ofString "kind") = False := eq_false (by decide +kernel)
theorem n_drop_block : (Str.ofString "drop" = Str.ofString "block") = False := eq_false (by decide +kernel)
theorem n_drop_apart : (Str.ofString "drop" = Str.ofString "apart") = False := eq_false (by decide +kernel)
theorem n_drop_end : (Str.ofString "drop" = Str.ofString "end") = False := eq_false (by decide +kernel)
theorem n_copy_num : (Str.ofString "copy" = Str.ofString "num") = False := eq_false (by decide +kernel)
theorem n_copy_text : (Str.ofString "copy" = Str.ofString "text") = False := eq_false (by decide +kernel)
theorem n_copy_add : (Str.ofString "copy" = Str.ofString "add") = False := eq_false (by decide +kernel)
theorem n_copy_mul : (Str.ofString "copy" = Str.ofString "mul") = False := eq_false (by decide +kernel)
theorem n_copy_less : (Str.ofString "copy" = Str.ofString "less") = False := eq_false (by decide +kernel)
theorem n_copy_join : (Str.ofString "copy" = Str.ofString "join") = False := eq_false (by decide +kernel)
theorem n_copy_long : (Str.ofString "copy" = Str.ofString "long") = False := eq_false (by decide +kernel)
theorem n_copy_show : (Str.ofString "copy" = Str.ofString "show") = False := eq_false (by decide +kernel)
theorem n_copy_swap : (Str.ofString "copy" = Str.ofString "swap") = False := eq_false (by decide +kernel)
theorem n_copy_drop : (Str.ofString "copy" = Str.ofString "drop") = False := eq_false (by decide +kernel)
theorem n_copy_call : (Str.ofString "copy" = Str.ofString "call") = False := eq_false (by decide +kernel)
theorem n_copy_if : (Str.ofString "copy" = Str.ofString "if") = False := eq_false (by decide +kernel)
theorem n_copy_e : (Str.ofString "copy" = Str.ofString "") = False := eq_false (by decide +kernel)
theorem n_copy_empty : (Str.ofString "copy" = Str.ofString "empty") = False := eq_false (by decide +kernel)
theorem n_copy_kind : (Str.ofString "copy" = Str.ofString "kind") = False := eq_false (by decide +kernel)
theorem n_copy_block : (Str.ofString "copy" = Str.ofString "block") = False := eq_false (by decide +kernel)
theorem n_copy_apart : (Str.ofString "copy" = Str.ofString "apart") = False := eq_false (by decide +kernel)
theorem n_copy_end : (Str.ofString "copy" = Str.ofString "end") = False := eq_false (by decide +kernel)
theorem n_call_num : (Str.ofString "call" = Str.ofString "num") = False := eq_false (by decide +kernel)
theorem n_call_text : (Str.ofString "call" = Str.ofString "text") = False := eq_false (by decide +kernel)
theorem n_call_add : (Str.ofString "call" = Str.ofString "add") = False := eq_false (by decide +kernel)
theorem n_call_mul : (Str.ofString "call" = Str.ofString "mul") = False := eq_false (by decide +kernel)
theorem n_call_less : (Str.ofString "call" = Str.ofString "less") = False := eq_false (by decide +kernel)
theorem n_call_join : (Str.ofString "call" = Str.ofString "join") = False := eq_false (by decide +kernel)
theorem n_call_long : (Str.ofString "call" = Str.ofString "long") = False := eq_false (by decide +kernel)
theorem n_call_show : (Str.ofString "call" = Str.ofString "show") = False := eq_false (by decide +kernel)
theorem n_call_swap : (Str.ofString "call" = Str.ofString "swap") = False := eq_false (by decide +kernel)
theorem n_call_drop : (Str.ofString "call" = Str.ofString "drop") = False := eq_false (by decide +kernel)
theorem n_call_copy : (Str.ofString "call" = Str.ofString "copy") = False := eq_false (by decide +kernel)
theorem n_call_if : (Str.ofString "call" = Str.ofString "if") = False := eq_false (by decide +kernel)
theorem n_call_e : (Str.ofString "call" = Str.ofString "") = False := eq_false (by decide +kernel)
theorem n_call_empty : (Str.ofString "call" = Str.ofString "empty") = False := eq_false (by decide +kernel)
theorem n_call_kind : (Str.ofString "call" = Str.ofString "kind") = False := eq_false (by decide +kernel)
theorem n_call_block : (Str.ofString "call" = Str.ofString "block") = False := eq_false (by decide +kernel)
theorem n_call_apart : (Str.ofString "call" = Str.ofString "apart") = False := eq_false (by decide +kernel)
theorem n_call_end : (Str.ofString "call" = Str.ofString "end") = False := eq_false (by decide +kernel)
theorem n_if_num : (Str.ofString "if" = Str.ofString "num") = False := eq_false (by decide +kernel)
theorem n_if_text : (Str.ofString "if" = Str.ofString "text") = False := eq_false (by decide +kernel)
theorem n_if_add : (Str.ofString "if" = Str.ofString "add") = False := eq_false (by decide +kernel)
theorem n_if_mul : (Str.ofString "if" = Str.ofString "mul") = False := eq_false (by decide +kernel)
theorem n_if_less : (Str.ofString "if" = Str.ofString "less") = False := eq_false (by decide +kernel)
theorem n_if_join : (Str.ofString "if" = Str.ofString "join") = False := eq_false (by decide +kernel)
theorem n_if_long : (Str.ofString "if" = Str.ofString "long") = False := eq_false (by decide +kernel)
theorem n_if_show : (Str.ofString "if" = Str.ofString "show") = False := eq_false (by decide +kernel)
theorem n_if_swap : (Str.ofString "if" = Str.ofString "swap") = False := eq_false (by decide +kernel)
theorem n_if_drop : (Str.ofString "if" = Str.ofString "drop") = False := eq_false (by decide +kernel)
theorem n_if_copy : (Str.ofString "if" = Str.ofString "copy") = False := eq_false (by decide +kernel)
theorem n_if_call : (Str.ofString "if" = Str.ofString "call") = False := eq_false (by decide +kernel)
theorem n_if_e : (Str.ofString "if" = Str.ofString "") = False := eq_false (by decide +kernel)
theorem n_if_empty : (Str.ofString "if" = Str.ofString "empty") = False := eq_false (by decide +kernel)
theorem n_if_kind : (Str.ofString "if" = Str.ofString "kind") = False := eq_false (by decide +kernel)
theorem n_if_block : (Str.ofString "if" = Str.ofString "block") = False := eq_false (by decide +kernel)
theorem n_if_apart : (Str.ofString "if" = Str.ofString "apart") = False := eq_false (by decide +kernel)
theorem n_if_end : (Str.ofString "if" = Str.ofString "end") = False := eq_false (by decide +kernel)
theorem n_e_num : (Str.ofString "" = Str.ofString "num") = False := eq_false (by decide +kernel)
theorem n_e_text : (Str.ofString "" = Str.ofString "text") = False := eq_false (by decide +kernel)
theorem n_e_add : (Str.ofString "" = Str.ofString "add") = False := eq_false (by decide +kernel)
theorem n_e_mul : (Str.ofString "" = Str.ofString "mul") = False := eq_false (by decide +kernel)
theorem n_e_less : (Str.ofString "" = Str.ofString "less") = False := eq_false (by decide +kernel)
theorem n_e_join : (Str.ofString "" = Str.ofString "join") = False := eq_false (by decide +kernel)
theorem n_e_long : (Str.ofString "" = Str.ofString "long") = False := eq_false (by decide +kernel)
theorem n_e_show : (Str.ofString "" = Str.ofString "show") = False := eq_false (by decide +kernel)
theorem n_e_swap : (Str.ofString "" = Str.ofString "swap") = False := eq_false (by decide +kernel)
theorem n_e_drop : (Str.ofString "" = Str.ofString "drop") = False := eq_false (by decide +kernel)
theorem n_e_copy : (Str.ofString "" = Str.ofString "copy") = False := eq_false (by decide +kernel)
theorem n_e_call : (Str.ofString "" = Str.ofString "call") = False := eq_false (by decide +kernel)
theorem n_e_if : (Str.ofString "" = Str.ofString "if") = False := eq_false (by decide +kernel)
theorem n_e_empty : (Str.ofString "" = Str.ofString "empty") = False := eq_false (by decide +kernel)
theorem n_e_kind : (Str.ofString "" = Str.ofString "kind") = False := eq_false (by decide +kernel)
theorem n_e_block : (Str.ofString "" = Str.ofString "block") = False := eq_false (by decide +kernel)
theorem n_e_apart : (Str.ofString "" = Str.ofString "apart") = False := eq_false (by decide +kernel)
theorem n_e_end : (Str.ofString "" = Str.ofString "end") = False := eq_false (by decide +kernel)
theorem n_empty_num : (Str.ofString "empty" = Str.ofString "num") = False := eq_false (by decide +kernel)
theorem n_empty_text : (Str.ofString "empty" = Str.ofString "text") = False := eq_false (by decide +kernel)
theorem n_empty_add : (Str.ofString "empty" = Str.ofString "add") = False := eq_false (by decide +kernel)
theorem n_empty_mul : (Str.ofString "empty" = Str.ofString "mul") = False := eq_false (by decide +kernel)
theorem n_empty_less : (Str.ofString "empty" = Str.ofString "less") = False := eq_false (by decide +kernel)
theorem n_empty_join : (Str.ofString "empty" = Str.ofString "join") = False := eq_false (by decide +kernel)
theorem n_empty_long : (Str.ofString "empty" = Str.ofString "long") = False := eq_false (by decide +kernel)
theorem n_empty_show : (Str.ofString "empty" = Str.ofString "show") = False := eq_false (by decide +kernel)
theorem n_empty_swap : (Str.ofString "empty" = Str.ofString "swap") = False := eq_false (by decide +kernel)
theorem n_empty_drop : (Str.ofString "empty" = Str.ofString "drop") = False := eq_false (by decide +kernel)
theorem n_empty_copy : (Str.ofString "empty" = Str.ofString "copy") = False := eq_false (by decide +kernel)
theorem n_empty_call : (Str.ofString "empty" = Str.ofString "call") = False := eq_false (by decide +kernel)
theorem n_empty_if : (Str.ofString "empty" = Str.ofString "if") = False := eq_false (by decide +kernel)
theorem n_empty_e : (Str.ofString "empty" = Str.ofString "") = False := eq_false (by decide +kernel)
theorem n_empty_kind : (Str.ofString "empty" = Str.ofString "kind") = False := eq_false (by decide +kernel)
theorem n_empty_block : (Str.ofString "empty" = Str.ofString "block") = False := eq_false (by decide +kernel)
theorem n_empty_apart : (Str.ofString "empty" = Str.ofString "apart") = False := eq_false (by decide +kernel)
theorem n_empty_end : (Str.ofString "empty" = Str.ofString "end") = False := eq_false (by decide +kernel)
theorem n_kind_num : (Str.ofString "kind" = Str.ofString "num") = False := eq_false (by decide +kernel)
theorem n_kind_text : (Str.ofString "kind" = Str.ofString "text") = False := eq_false (by decide +kernel)
theorem n_kind_add : (Str.ofString "kind" = Str.ofString "add") = False := eq_false (by decide +kernel)
theorem n_kind_mul : (Str.ofString "kind" = Str.ofString "mul") = False := eq_false (by decide +kernel)
theorem n_kind_less : (Str.ofString "kind" = Str.ofString "less") = False := eq_false (by decide +kernel)
theorem n_kind_join : (Str.ofString "kind" = Str.ofString "join") = False := eq_false (by decide +kernel)
theorem n_kind_long : (Str.ofString "kind" = Str.ofString "long") = False := eq_false (by decide +kernel)
theorem n_kind_show : (Str.ofString "kind" = Str.ofString "show") = False := eq_false (by decide +kernel)
theorem n_kind_swap : (Str.ofString "kind" = Str.ofString "swap") = False := eq_false (by decide +kernel)
theorem n_kind_drop : (Str.ofString "kind" = Str.ofString "drop") = False := eq_false (by decide +kernel)
theorem n_kind_copy : (Str.ofString "kind" = Str.ofString "copy") = False := eq_false (by decide +kernel)
theorem n_kind_call : (Str.ofString "kind" = Str.ofString "call") = False := eq_false (by decide +kernel)
theorem n_kind_if : (Str.ofString "kind" = Str.ofString "if") = False := eq_false (by decide +kernel)
theorem n_kind_e : (Str.ofString "kind" = Str.ofString "") = False := eq_false (by decide +kernel)
theorem n_kind_empty : (Str.ofString "kind" = Str.ofString "empty") = False := eq_false (by decide +kernel)
theorem n_kind_block : (Str.ofString "kind" = Str.ofString "block") = False := eq_false (by decide +kernel)
theorem n_kind_apart : (Str.ofString "kind" = Str.ofString "apart") = False := eq_false (by decide +kernel)
theorem n_kind_end : (Str.ofString "kind" = Str.ofString "end") = False := eq_false (by decide +kernel)
theorem n_block_num : (Str.ofString "block" = Str.ofString "num") = False := eq_false (by decide +kernel)
theorem n_block_text : (Str.ofString "block" = Str.ofString "text") = False := eq_false (by decide +kernel)
theorem n_block_add : (Str.ofString "block" = Str.ofString "add") = False := eq_false (by decide +kernel)
theorem n_block_mul : (Str.ofString "block" = Str.ofString "mul") = False := eq_false (by decide +kernel)
theorem n_block_less : (Str.ofString "block" = Str.ofString "less") = False := eq_false (by decide +kernel)
theorem n_block_join : (Str.ofString "block" = Str.ofString "join") = False := eq_false (by decide +kernel)
theorem n_block_long : (Str.ofString "block" = Str.ofString "long") = False := eq_false (by decide +kernel)
theorem n_block_show : (Str.ofString "block" = Str.ofString "show") = False := eq_false (by decide +kernel)
theorem n_block_swap : (Str.ofString "block" = Str.ofString "swap") = False := eq_false (by decide +kernel)
theorem n_block_drop : (Str.ofString "block" = Str.ofString "drop") = False := eq_false (by decide +kernel)
theorem n_block_copy : (Str.ofString "block" = Str.ofString "copy") = False := eq_false (by decide +kernel)
theorem n_block_call : (Str.ofString "block" = Str.ofString "call") = False := eq_false (by decide +kernel)
theorem n_block_if : (Str.ofString "block" = Str.ofString "if") = False := eq_false (by decide +kernel)
theorem n_block_e : (Str.ofString "block" = Str.ofString "") = False := eq_false (by decide +kernel)
theorem n_block_empty : (Str.ofString "block" = Str.ofString "empty") = False := eq_false (by decide +kernel)
theorem n_block_kind : (Str.ofString "block" = Str.ofString "kind") = False := eq_false (by decide +kernel)
theorem n_block_apart : (Str.ofString "block" = Str.ofString "apart") = False := eq_false (by decide +kernel)
theorem n_block_end : (Str.ofString "block" = Str.ofString "end") = False := eq_false (by decide +kernel)
theorem n_apart_num : (Str.ofString "apart" = Str.ofString "num") = False := eq_false (by decide +kernel)
theorem n_apart_text : (Str.ofString "apart" = Str.ofString "text") = False := eq_false (by decide +kernel)
theorem n_apart_add : (Str.ofString "apart" = Str.ofString "add") = False := eq_false (by decide +kernel)
theorem n_apart_mul : (Str.ofString "apart" = Str.ofString "mul") = False := eq_false (by decide +kernel)
theorem n_apart_less : (Str.ofString "apart" = Str.ofString "less") = False := eq_false (by decide +kernel)
theorem n_apart_join : (Str.ofString "apart" = Str.ofString "join") = False := eq_false (by decide +kernel)
theorem n_apart_long : (Str.ofString "apart" = Str.ofString "long") = False := eq_false (by decide +kernel)
theorem n_apart_show : (Str.ofString "apart" = Str.ofString "show") = False := eq_false (by decide +kernel)
theorem n_apart_swap : (Str.ofString "apart" = Str.ofString "swap") = False := eq_false (by decide +kernel)
theorem n_apart_drop : (Str.ofString "apart" = Str.ofString "drop") = False := eq_false (by decide +kernel)
theorem n_apart_copy : (Str.ofString "apart" = Str.ofString "copy") = False := eq_false (by decide +kernel)
theorem n_apart_call : (Str.ofString "apart" = Str.ofString "call") = False := eq_false (by decide +kernel)
theorem n_apart_if : (Str.ofString "apart" = Str.ofString "if") = False := eq_false (by decide +kernel)
theorem n_apart_e : (Str.ofString "apart" = Str.ofString "") = False := eq_false (by decide +kernel)
theorem n_apart_empty : (Str.ofString "apart" = Str.ofString "empty") = False := eq_false (by decide +kernel)
theorem n_apart_kind : (Str.ofString "apart" = Str.ofString "kind") = False := eq_false (by decide +kernel)
theorem n_apart_block : (Str.ofString "apart" = Str.ofString "block") = False := eq_false (by decide +kernel)
theorem n_apart_end : (Str.ofString "apart" = Str.ofString "end") = False := eq_false (by decide +kernel)
theorem n_end_num : (Str.ofString "end" = Str.ofString "num") = False := eq_false (by decide +kernel)
theorem n_end_text : (Str.ofString "end" = Str.ofString "text") = False := eq_false (by decide +kernel)
theorem n_end_add : (Str.ofString "end" = Str.ofString "add") = False := eq_false (by decide +kernel)
theorem n_end_mul : (Str.ofString "end" = Str.ofString "mul") = False := eq_false (by decide +kernel)
theorem n_end_less : (Str.ofString "end" = Str.ofString "less") = False := eq_false (by decide +kernel)
theorem n_end_join : (Str.ofString "end" = Str.ofString "join") = False := eq_false (by decide +kernel)
theorem n_end_long : (Str.ofString "end" = Str.ofString "long") = False := eq_false (by decide +kernel)
theorem n_end_show : (Str.ofString "end" = Str.ofString "show") = False := eq_false (by decide +kernel)
theorem n_end_swap : (Str.ofString "end" = Str.ofString "swap") = False := eq_false (by decide +kernel)
theorem n_end_drop : (Str.ofString "end" = Str.ofString "drop") = False := eq_false (by decide +kernel)
theorem n_end_copy : (Str.ofString "end" = Str.ofString "copy") = False := eq_false (by decide +kernel)
theorem n_end_call : (Str.ofString "end" = Str.ofString "call") = False := eq_false (by decide +kernel)
theorem n_end_if : (Str.ofString "end" = Str.ofString "if") = False := eq_false (by decide +kernel)
theorem n_end_e : (Str.ofString "end" = Str.ofString "") = False := eq_false (by decide +kernel)
theorem n_end_empty : (Str.ofString "end" = Str.ofString "empty") = False := eq_false (by decide +kernel)
theorem n_end_kind : (Str.ofString "end" = Str.ofString "kind") = False := eq_false (by decide +kernel)
theorem n_end_block : (Str.ofString "end" = Str.ofString "block") = False := eq_false (by decide +kernel)
theorem n_end_apart : (Str.ofString "end" = Str.ofString "apart") = False := eq_false (by decide +kernel)
theorem lW_num : tbl_WANTED.lookup (Str.ofString "num") = some (some (.int 0)) := by kernel_rfl
theorem lW_text : tbl_WANTED.lookup (Str.ofString "text") = some (some (.int 0)) := by kernel_rfl
theorem lW_add : tbl_WANTED.lookup (Str.ofString "add") = some (some (.int 2)) := by kernel_rfl
theorem lW_mul : tbl_WANTED.lookup (Str.ofString "mul") = some (some (.int 2)) := by kernel_rfl
theorem lW_less : tbl_WANTED.lookup (Str.ofString "less") = some (some (.int 2)) := by kernel_rfl
theorem lW_join : tbl_WANTED.lookup (Str.ofString "join") = some (some (.int 2)) := by kernel_rfl
theorem lW_long : tbl_WANTED.lookup (Str.ofString "long") = some (some (.int 1)) := by kernel_rfl
theorem lW_show : tbl_WANTED.lookup (Str.ofString "show") = some (some (.int 1)) := by kernel_rfl
theorem lW_swap : tbl_WANTED.lookup (Str.ofString "swap") = some (some (.int 2)) := by kernel_rfl
theorem lW_drop : tbl_WANTED.lookup (Str.ofString "drop") = some (some (.int 1)) := by kernel_rfl
theorem lW_copy : tbl_WANTED.lookup (Str.ofString "copy") = some (none) := by kernel_rfl
theorem lW_call : tbl_WANTED.lookup (Str.ofString "call") = some (none) := by kernel_rfl
theorem lW_if : tbl_WANTED.lookup (Str.ofString "if") = some (some (.int 1)) := by kernel_rfl
theorem lT_num : tbl_TOLD.lookup (Str.ofString "num") = some (none) := by kernel_rfl
theorem lT_text : tbl_TOLD.lookup (Str.ofString "text") = some (none) := by kernel_rfl
theorem lT_add : tbl_TOLD.lookup (Str.ofString "add") = some (some (.str (Str.ofString "num"))) := by kernel_rfl
theorem lT_mul : tbl_TOLD.lookup (Str.ofString "mul") = some (some (.str (Str.ofString "num"))) := by kernel_rfl
theorem lT_less : tbl_TOLD.lookup (Str.ofString "less") = some (some (.str (Str.ofString "num"))) := by kernel_rfl
theorem lT_join : tbl_TOLD.lookup (Str.ofString "join") = some (some (.str (Str.ofString "text"))) := by kernel_rfl
theorem lT_long : tbl_TOLD.lookup (Str.ofString "long") = some (some (.str (Str.ofString "text"))) := by kernel_rfl
theorem lT_show : tbl_TOLD.lookup (Str.ofString "show") = some (some (.str (Str.ofString "num"))) := by kernel_rfl
theorem lT_swap : tbl_TOLD.lookup (Str.ofString "swap") = some (none) := by kernel_rfl
theorem lT_drop : tbl_TOLD.lookup (Str.ofString "drop") = some (none) := by kernel_rfl
theorem lT_copy : tbl_TOLD.lookup (Str.ofString "copy") = some (none) := by kernel_rfl
theorem lT_call : tbl_TOLD.lookup (Str.ofString "call") = some (none) := by kernel_rfl
theorem lT_if : tbl_TOLD.lookup (Str.ofString "if") = some (some (.str (Str.ofString "num"))) := by kernel_rfl
theorem lP_num : tbl_PUT.lookup (Str.ofString "num") = some (none) := by kernel_rfl
theorem lP_text : tbl_PUT.lookup (Str.ofString "text") = some (none) := by kernel_rfl
theorem lP_add : tbl_PUT.lookup (Str.ofString "add") = some (some (.fn (Str.ofString "added"))) := by kernel_rfl
theorem lP_mul : tbl_PUT.lookup (Str.ofString "mul") = some (some (.fn (Str.ofString "multiplied"))) := by kernel_rfl
theorem lP_less : tbl_PUT.lookup (Str.ofString "less") = some (some (.fn (Str.ofString "compared"))) := by kernel_rfl
theorem lP_join : tbl_PUT.lookup (Str.ofString "join") = some (some (.fn (Str.ofString "joined"))) := by kernel_rfl
theorem lP_long : tbl_PUT.lookup (Str.ofString "long") = some (some (.fn (Str.ofString "measured"))) := by kernel_rfl
theorem lP_show : tbl_PUT.lookup (Str.ofString "show") = some (some (.fn (Str.ofString "shown"))) := by kernel_rfl
theorem lP_swap : tbl_PUT.lookup (Str.ofString "swap") = some (some (.fn (Str.ofString "swapped"))) := by kernel_rfl
theorem lP_drop : tbl_PUT.lookup (Str.ofString "drop") = some (some (.fn (Str.ofString "dropped"))) := by kernel_rfl
theorem lP_copy : tbl_PUT.lookup (Str.ofString "copy") = some (some (.fn (Str.ofString "copied"))) := by kernel_rfl
theorem lP_call : tbl_PUT.lookup (Str.ofString "call") = some (none) := by kernel_rfl
theorem lP_if : tbl_PUT.lookup (Str.ofString "if") = some (none) := by kernel_rfl
theorem lN_num : tbl_NEW_KIND.lookup (Str.ofString "num") = some (some (.str (Str.ofString "num"))) := by kernel_rfl
theorem lN_text : tbl_NEW_KIND.lookup (Str.ofString "text") = some (some (.str (Str.ofString "text"))) := by kernel_rfl
theorem lN_add : tbl_NEW_KIND.lookup (Str.ofString "add") = some (some (.str (Str.ofString "num"))) := by kernel_rfl
theorem lN_mul : tbl_NEW_KIND.lookup (Str.ofString "mul") = some (some (.str (Str.ofString "num"))) := by kernel_rfl
theorem lN_less : tbl_NEW_KIND.lookup (Str.ofString "less") = some (some (.str (Str.ofString "num"))) := by kernel_rfl
theorem lN_join : tbl_NEW_KIND.lookup (Str.ofString "join") = some (some (.str (Str.ofString "text"))) := by kernel_rfl
theorem lN_long : tbl_NEW_KIND.lookup (Str.ofString "long") = some (some (.str (Str.ofString "num"))) := by kernel_rfl
theorem lN_show : tbl_NEW_KIND.lookup (Str.ofString "show") = some (some (.str (Str.ofString "text"))) := by kernel_rfl
theorem lN_swap : tbl_NEW_KIND.lookup (Str.ofString "swap") = some (none) := by kernel_rfl
theorem lN_drop : tbl_NEW_KIND.lookup (Str.ofString "drop") = some (none) := by kernel_rfl
theorem lN_copy : tbl_NEW_KIND.lookup (Str.ofString "copy") = some (none) := by kernel_rfl
theorem lN_call : tbl_NEW_KIND.lookup (Str.ofString "call") = some (none) := by kernel_rfl
theorem lN_if : tbl_NEW_KIND.lookup (Str.ofString "if") = some (none) := by kernel_rfl
theorem lF_added : tbv_put_by_put.lookup (Str.ofString "added") = some (1, F_added) := by kernel_rfl
theorem lF_multiplied : tbv_put_by_put.lookup (Str.ofString "multiplied") = some (1, F_multiplied) := by kernel_rfl
theorem lF_compared : tbv_put_by_put.lookup (Str.ofString "compared") = some (1, F_compared) := by kernel_rfl
theorem lF_joined : tbv_put_by_put.lookup (Str.ofString "joined") = some (1, F_joined) := by kernel_rfl
theorem lF_measured : tbv_put_by_put.lookup (Str.ofString "measured") = some (1, F_measured) := by kernel_rfl
theorem lF_shown : tbv_put_by_put.lookup (Str.ofString "shown") = some (1, F_shown) := by kernel_rfl
theorem lF_swapped : tbv_put_by_put.lookup (Str.ofString "swapped") = some (1, F_swapped) := by kernel_rfl
theorem lF_dropped : tbv_put_by_put.lookup (Str.ofString "dropped") = some (1, F_dropped) := by kernel_rfl
theorem lF_copied : tbv_put_by_put.lookup (Str.ofString "copied") = some (1, F_copied) := by kernel_rfl
theorem lI_num : oInB (.str (Str.ofString "num")) (.tup [.str (Str.ofString "num"), .str (Str.ofString "text")]) = some true := by kernel_rfl
theorem lI_text : oInB (.str (Str.ofString "text")) (.tup [.str (Str.ofString "num"), .str (Str.ofString "text")]) = some true := by kernel_rfl
theorem lI_add : oInB (.str (Str.ofString "add")) (.tup [.str (Str.ofString "num"), .str (Str.ofString "text")]) = some false := by kernel_rfl
theorem lI_mul : oInB (.str (Str.ofString "mul")) (.tup [.str (Str.ofString "num"), .str (Str.ofString "text")]) = some false := by kernel_rfl
theorem lI_less : oInB (.str (Str.ofString "less")) (.tup [.str (Str.ofString "num"), .str (Str.ofString "text")]) = some false := by kernel_rfl
theorem lI_join : oInB (.str (Str.ofString "join")) (.tup [.str (Str.ofString "num"), .str (Str.ofString "text")]) = some false := by kernel_rfl
theorem lI_long : oInB (.str (Str.ofString "long")) (.tup [.str (Str.ofString "num"), .str (Str.ofString "text")]) = some false := by kernel_rfl
theorem lI_show : oInB (.str (Str.ofString "show")) (.tup [.str (Str.ofString "num"), .str (Str.ofString "text")]) = some false := by kernel_rfl
theorem lI_swap : oInB (.str (Str.ofString "swap")) (.tup [.str (Str.ofString "num"), .str (Str.ofString "text")]) = some false := by kernel_rfl
theorem lI_drop : oInB (.str (Str.ofString "drop")) (.tup [.str (Str.ofString "num"), .str (Str.ofString "text")]) = some false := by kernel_rfl
theorem lI_copy : oInB (.str (Str.ofString "copy")) (.tup [.str (Str.ofString "num"), .str (Str.ofString "text")]) = some false := by kernel_rfl
theorem lI_call : oInB (.str (Str.ofString "call")) (.tup [.str (Str.ofString "num"), .str (Str.ofString "text")]) = some false := by kernel_rfl
theorem lI_if : oInB (.str (Str.ofString "if")) (.tup [.str (Str.ofString "num"), .str (Str.ofString "text")]) = some false := by kernel_rfl
theorem lJ_num : oInB (.str (Str.ofString "num")) (.tup [.str (Str.ofString "call"), .str (Str.ofString "if")]) = some false := by kernel_rfl
theorem lJ_text : oInB (.str (Str.ofString "text")) (.tup [.str (Str.ofString "call"), .str (Str.ofString "if")]) = some false := by kernel_rfl
theorem lJ_add : oInB (.str (Str.ofString "add")) (.tup [.str (Str.ofString "call"), .str (Str.ofString "if")]) = some false := by kernel_rfl
theorem lJ_mul : oInB (.str (Str.ofString "mul")) (.tup [.str (Str.ofString "call"), .str (Str.ofString "if")]) = some false := by kernel_rfl
theorem lJ_less : oInB (.str (Str.ofString "less")) (.tup [.str (Str.ofString "call"), .str (Str.ofString "if")]) = some false := by kernel_rfl
theorem lJ_join : oInB (.str (Str.ofString "join")) (.tup [.str (Str.ofString "call"), .str (Str.ofString "if")]) = some false := by kernel_rfl
theorem lJ_long : oInB (.str (Str.ofString "long")) (.tup [.str (Str.ofString "call"), .str (Str.ofString "if")]) = some false := by kernel_rfl
theorem lJ_show : oInB (.str (Str.ofString "show")) (.tup [.str (Str.ofString "call"), .str (Str.ofString "if")]) = some false := by kernel_rfl
theorem lJ_swap : oInB (.str (Str.ofString "swap")) (.tup [.str (Str.ofString "call"), .str (Str.ofString "if")]) = some false := by kernel_rfl
theorem lJ_drop : oInB (.str (Str.ofString "drop")) (.tup [.str (Str.ofString "call"), .str (Str.ofString "if")]) = some false := by kernel_rfl
theorem lJ_copy : oInB (.str (Str.ofString "copy")) (.tup [.str (Str.ofString "call"), .str (Str.ofString "if")]) = some false := by kernel_rfl
theorem lJ_call : oInB (.str (Str.ofString "call")) (.tup [.str (Str.ofString "call"), .str (Str.ofString "if")]) = some true := by kernel_rfl
theorem lJ_if : oInB (.str (Str.ofString "if")) (.tup [.str (Str.ofString "call"), .str (Str.ofString "if")]) = some true := by kernel_rfl
theorem lH_Empty_Empty : hdt_Empty.lookup (Str.ofString "Empty") = some true := by kernel_rfl
theorem lH_WrongKind_Empty : hdt_WrongKind.lookup (Str.ofString "Empty") = some false := by kernel_rfl
theorem lH_NoBlock_Empty : hdt_NoBlock.lookup (Str.ofString "Empty") = some false := by kernel_rfl
theorem lH_Apart_Empty : hdt_Apart.lookup (Str.ofString "Empty") = some false := by kernel_rfl
theorem lH_Dry_Empty : hdt_Dry.lookup (Str.ofString "Empty") = some false := by kernel_rfl
theorem lH_Empty_WrongKind : hdt_Empty.lookup (Str.ofString "WrongKind") = some false := by kernel_rfl
theorem lH_WrongKind_WrongKind : hdt_WrongKind.lookup (Str.ofString "WrongKind") = some true := by kernel_rfl
theorem lH_NoBlock_WrongKind : hdt_NoBlock.lookup (Str.ofString "WrongKind") = some false := by kernel_rfl
theorem lH_Apart_WrongKind : hdt_Apart.lookup (Str.ofString "WrongKind") = some false := by kernel_rfl
theorem lH_Dry_WrongKind : hdt_Dry.lookup (Str.ofString "WrongKind") = some false := by kernel_rfl
theorem lH_Empty_NoBlock : hdt_Empty.lookup (Str.ofString "NoBlock") = some false := by kernel_rfl
theorem lH_WrongKind_NoBlock : hdt_WrongKind.lookup (Str.ofString "NoBlock") = some false := by kernel_rfl
theorem lH_NoBlock_NoBlock : hdt_NoBlock.lookup (Str.ofString "NoBlock") = some true := by kernel_rfl
theorem lH_Apart_NoBlock : hdt_Apart.lookup (Str.ofString "NoBlock") = some false := by kernel_rfl
theorem lH_Dry_NoBlock : hdt_Dry.lookup (Str.ofString "NoBlock") = some false := by kernel_rfl
theorem lH_Empty_Apart : hdt_Empty.lookup (Str.ofString "Apart") = some false := by kernel_rfl
theorem lH_WrongKind_Apart : hdt_WrongKind.lookup (Str.ofString "Apart") = some false := by kernel_rfl
theorem lH_NoBlock_Apart : hdt_NoBlock.lookup (Str.ofString "Apart") = some false := by kernel_rfl
theorem lH_Apart_Apart : hdt_Apart.lookup (Str.ofString "Apart") = some true := by kernel_rfl
theorem lH_Dry_Apart : hdt_Dry.lookup (Str.ofString "Apart") = some false := by kernel_rfl
theorem lH_Empty_Dry : hdt_Empty.lookup (Str.ofString "Dry") = some false := by kernel_rfl
theorem lH_WrongKind_Dry : hdt_WrongKind.lookup (Str.ofString "Dry") = some false := by kernel_rfl
theorem lH_NoBlock_Dry : hdt_NoBlock.lookup (Str.ofString "Dry") = some false := by kernel_rfl
theorem lH_Apart_Dry : hdt_Apart.lookup (Str.ofString "Dry") = some false := by kernel_rfl
theorem lH_Dry_Dry : hdt_Dry.lookup (Str.ofString "Dry") = some true := by kernel_rfl
local macro_rules | `(tactic| simp_arith! [$ls,*]) => `(tactic| simp_arith [oEq_str, oEq_int, oNe_str, oNe_int, decide_false, decide_true, and_self, n_num_text, n_num_add, n_num_mul, n_num_less, n_num_join, n_num_long, n_num_show, n_num_swap, n_num_drop, n_num_copy, n_num_call, n_num_if, n_num_e, n_num_empty, n_num_kind, n_num_block, n_num_apart, n_num_end, n_text_num, n_text_add, n_text_mul, n_text_less, n_text_join, n_text_long, n_text_show, n_text_swap, n_text_drop, n_text_copy, n_text_call, n_text_if, n_text_e, n_text_empty, n_text_kind, n_text_block, n_text_apart, n_text_end, n_add_num, n_add_text, n_add_mul, n_add_less, n_add_join, n_add_long, n_add_show, n_add_swap, n_add_drop, n_add_copy, n_add_call, n_add_if, n_add_e, n_add_empty, n_add_kind, n_add_block, n_add_apart, n_add_end, n_mul_num, n_mul_text, n_mul_add, n_mul_less, n_mul_join, n_mul_long, n_mul_show, n_mul_swap, n_mul_drop, n_mul_copy, n_mul_call, n_mul_if, n_mul_e, n_mul_empty, n_mul_kind, n_mul_block, n_mul_apart, n_mul_end, n_less_num, n_less_text, n_less_add, n_less_mul, n_less_join, n_less_long, n_less_show, n_less_swap, n_less_drop, n_less_copy, n_less_call, n_less_if, n_less_e, n_less_empty, n_less_kind, n_less_block, n_less_apart, n_less_end, n_join_num, n_join_text, n_join_add, n_join_mul, n_join_less, n_join_long, n_join_show, n_join_swap, n_join_drop, n_join_copy, n_join_call, n_join_if, n_join_e, n_join_empty, n_join_kind, n_join_block, n_join_apart, n_join_end, n_long_num, n_long_text, n_long_add, n_long_mul, n_long_less, n_long_join, n_long_show, n_long_swap, n_long_drop, n_long_copy, n_long_call, n_long_if, n_long_e, n_long_empty, n_long_kind, n_long_block, n_long_apart, n_long_end, n_show_num, n_show_text, n_show_add, n_show_mul, n_show_less, n_show_join, n_show_long, n_show_swap, n_show_drop, n_show_copy, n_show_call, n_show_if, n_show_e, n_show_empty, n_show_kind, n_show_block, n_show_apart, n_show_end, n_swap_num, n_swap_text, n_swap_add, n_swap_mul, n_swap_less, n_swap_join, n_swap_long, n_swap_show, n_swap_drop, n_swap_copy, n_swap_call, n_swap_if, n_swap_e, n_swap_empty, n_swap_kind, n_swap_block, n_swap_apart, n_swap_end, n_drop_num, n_drop_text, n_drop_add, n_drop_mul, n_drop_less, n_drop_join, n_drop_long, n_drop_show, n_drop_swap, n_drop_copy, n_drop_call, n_drop_if, n_drop_e, n_drop_empty, n_drop_kind, n_drop_block, n_drop_apart, n_drop_end, n_copy_num, n_copy_text, n_copy_add, n_copy_mul, n_copy_less, n_copy_join, n_copy_long, n_copy_show, n_copy_swap, n_copy_drop, n_copy_call, n_copy_if, n_copy_e, n_copy_empty, n_copy_kind, n_copy_block, n_copy_apart, n_copy_end, n_call_num, n_call_text, n_call_add, n_call_mul, n_call_less, n_call_join, n_call_long, n_call_show, n_call_swap, n_call_drop, n_call_copy, n_call_if, n_call_e, n_call_empty, n_call_kind, n_call_block, n_call_apart, n_call_end, n_if_num, n_if_text, n_if_add, n_if_mul, n_if_less, n_if_join, n_if_long, n_if_show, n_if_swap, n_if_drop, n_if_copy, n_if_call, n_if_e, n_if_empty, n_if_kind, n_if_block, n_if_apart, n_if_end, n_e_num, n_e_text, n_e_add, n_e_mul, n_e_less, n_e_join, n_e_long, n_e_show, n_e_swap, n_e_drop, n_e_copy, n_e_call, n_e_if, n_e_empty, n_e_kind, n_e_block, n_e_apart, n_e_end, n_empty_num, n_empty_text, n_empty_add, n_empty_mul, n_empty_less, n_empty_join, n_empty_long, n_empty_show, n_empty_swap, n_empty_drop, n_empty_copy, n_empty_call, n_empty_if, n_empty_e, n_empty_kind, n_empty_block, n_empty_apart, n_empty_end, n_kind_num, n_kind_text, n_kind_add, n_kind_mul, n_kind_less, n_kind_join, n_kind_long, n_kind_show, n_kind_swap, n_kind_drop, n_kind_copy, n_kind_call, n_kind_if, n_kind_e, n_kind_empty, n_kind_block, n_kind_apart, n_kind_end, n_block_num, n_block_text, n_block_add, n_block_mul, n_block_less, n_block_join, n_block_long, n_block_show, n_block_swap, n_block_drop, n_block_copy, n_block_call, n_block_if, n_block_e, n_block_empty, n_block_kind, n_block_apart, n_block_end, n_apart_num, n_apart_text, n_apart_add, n_apart_mul, n_apart_less, n_apart_join, n_apart_long, n_apart_show, n_apart_swap, n_apart_drop, n_apart_copy, n_apart_call, n_apart_if, n_apart_e, n_apart_empty, n_apart_kind, n_apart_block, n_apart_end, n_end_num, n_end_text, n_end_add, n_end_mul, n_end_less, n_end_join, n_end_long, n_end_show, n_end_swap, n_end_drop, n_end_copy, n_end_call, n_end_if, n_end_e, n_end_empty, n_end_kind, n_end_block, n_end_apart, lW_num, lW_text, lW_add, lW_mul, lW_less, lW_join, lW_long, lW_show, lW_swap, lW_drop, lW_copy, lW_call, lW_if, lT_num, lT_text, lT_add, lT_mul, lT_less, lT_join, lT_long, lT_show, lT_swap, lT_drop, lT_copy, lT_call, lT_if, lP_num, lP_text, lP_add, lP_mul, lP_less, lP_join, lP_long, lP_show, lP_swap, lP_drop, lP_copy, lP_call, lP_if, lN_num, lN_text, lN_add, lN_mul, lN_less, lN_join, lN_long, lN_show, lN_swap, lN_drop, lN_copy, lN_call, lN_if, lF_added, lF_multiplied, lF_compared, lF_joined, lF_measured, lF_shown, lF_swapped, lF_dropped, lF_copied, lI_num, lI_text, lI_add, lI_mul, lI_less, lI_join, lI_long, lI_show, lI_swap, lI_drop, lI_copy, lI_call, lI_if, lJ_num, lJ_text, lJ_add, lJ_mul, lJ_less, lJ_join, lJ_long, lJ_show, lJ_swap, lJ_drop, lJ_copy, lJ_call, lJ_if, lH_Empty_Empty, lH_WrongKind_Empty, lH_NoBlock_Empty, lH_Apart_Empty, lH_Dry_Empty, lH_Empty_WrongKind, lH_WrongKind_WrongKind, lH_NoBlock_WrongKind, lH_Apart_WrongKind, lH_Dry_WrongKind, lH_Empty_NoBlock, lH_WrongKind_NoBlock, lH_NoBlock_NoBlock, lH_Apart_NoBlock, lH_Dry_NoBlock, lH_Empty_Apart, lH_WrongKind_Apart, lH_NoBlock_Apart, lH_Apart_Apart, lH_Dry_Apart, lH_Empty_Dry, lH_WrongKind_Dry, lH_NoBlock_Dry, lH_Apart_Dry, lH_Dry_Dry, $ls,*])


theorem value_ok (ns : List Int) (t : Int) (k : Str) (hk : k = Str.ofString "num" ∨ k = Str.ofString "text") (h0 : 0 ≤ t) (h1 : t < 999000) (hn : ns.length ≤ 63) :
    ∃ d, IsVal d ∧ kOf d = k ∧ F_law_value [fS ns, .own [.int t], .val (.str k)] = .ret (.dd d) [fS ns, .own [.int (t + 2)], .val (.str k)] := by
  obtain ⟨v, v0, v1, e1⟩ := draw_ok ns t 1000000000 h0 (by omega) (by decide) hn
  obtain ⟨u, u0, u1, e2⟩ := draw_ok ns (t + 1) 6 (by omega) (by omega) (by decide) hn
  have et : t + 1 + 1 = t + 2 := by omega
  rw [et] at e2
  have z3 : (0 : Int) < 3 := by decide
  have z4 : (0 : Int) < 4 := by decide
  have z8 : (0 : Int) < 8 := by decide
  have zd : CDiv v 94 := ⟨by decide, by decide⟩
  unfold fS at *
  rcases hk with rfl | rfl
  · by_cases c0 : u = 0
    · refine ⟨.int (999999999 - v % 3), .int _ (by omega) (by omega), rfl, ?_⟩
      unfold F_law_value M_law_value
      simp_arith [e1, e2, oEq_str, oEq_int, txt_ne, decide_false, c0, decide_true, z3]
    · by_cases c3 : u < 3
      · refine ⟨.int (v % 4), .int _ (by omega) (by omega), rfl, ?_⟩
        unfold F_law_value M_law_value
        simp_arith [e1, e2, oEq_str, oEq_int, txt_ne, decide_false, c0, decide_true, c3, z4]
      · refine ⟨.int v, .int _ (by omega) (by omega), rfl, ?_⟩
        unfold F_law_value M_law_value
        simp_arith [e1, e2, oEq_str, oEq_int, txt_ne, decide_false, c0, decide_true, c3]
  · by_cases c0 : u = 0
    · obtain ⟨s, s1, s2⟩ := words_ok v (58 + v % 3) v0 (by omega) (by omega)
      refine ⟨.str s, .str s s1, rfl, ?_⟩
      unfold F_law_value M_law_value
      simp_arith [e1, e2, oEq_str, oEq_int, decide_false, c0, decide_true, z3, s2]
    · obtain ⟨s, s1, s2⟩ := words_ok v (v / 94 % 8) v0 (by omega) (by omega)
      refine ⟨.str s, .str s s1, rfl, ?_⟩
      unfold F_law_value M_law_value
      simp_arith [e1, e2, oEq_str, oEq_int, decide_false, c0, decide_true, z8, zd, s2]



inductive Row : D → List D → Prop where
  | num (i : Int) (h0 : 0 ≤ i) (h1 : i < 1000000000) : Row (.tup [.str "num", .int i]) []
  | text (s : Str) (h : gS s) : Row (.tup [.str "text", .str s]) []
  | copy (n : Int) (h0 : 0 ≤ n) (h1 : n ≤ 60) : Row (.tup [.str "copy", .int n]) (List.replicate (n + 1).toNat (.str ""))
  | add : Row (.tup [.str "add"]) [.str "num", .str "num"]
  | mul : Row (.tup [.str "mul"]) [.str "num", .str "num"]
  | less : Row (.tup [.str "less"]) [.str "num", .str "num"]
  | join : Row (.tup [.str "join"]) [.str "text", .str "text"]
  | swap : Row (.tup [.str "swap"]) [.str "", .str ""]
  | long : Row (.tup [.str "long"]) [.str "text"]
  | shw : Row (.tup [.str "show"]) [.str "num"]
  | drop : Row (.tup [.str "drop"]) [.str ""]



theorem pick (v : Int) (h0 : 0 ≤ v) (h1 : v < 13) : ∃ w : Str, atI [D.str (Str.ofString "num"), D.str (Str.ofString "text"), D.str (Str.ofString "add"), D.str (Str.ofString "mul"), D.str (Str.ofString "less"), D.str (Str.ofString "join"), D.str (Str.ofString "long"), D.str (Str.ofString "show"), D.str (Str.ofString "swap"), D.str (Str.ofString "drop"), D.str (Str.ofString "copy"), D.str (Str.ofString "copy"), D.str (Str.ofString "copy")] v = some (.str w) ∧
    (w = "num" ∨ w = "text" ∨ w = "copy" ∨ ((w = "num") = False ∧ (w = "text") = False ∧ (w = "copy") = False ∧ ∃ W, Row (.tup [.str w]) W)) := by
  have : v = 0 ∨ v = 1 ∨ v = 2 ∨ v = 3 ∨ v = 4 ∨ v = 5 ∨ v = 6 ∨ v = 7 ∨ v = 8 ∨ v = 9 ∨ v = 10 ∨ v = 11 ∨ v = 12 := by omega
  rcases this with rfl | rfl | rfl | rfl | rfl | rfl | rfl | rfl | rfl | rfl | rfl | rfl | rfl
  · exact ⟨_, rfl, .inl rfl⟩
  · exact ⟨_, rfl, .inr (.inl rfl)⟩
  · exact ⟨_, rfl, .inr (.inr (.inr ⟨n_add_num, n_add_text, n_add_copy, _, .add⟩))⟩
  · exact ⟨_, rfl, .inr (.inr (.inr ⟨n_mul_num, n_mul_text, n_mul_copy, _, .mul⟩))⟩
  · exact ⟨_, rfl, .inr (.inr (.inr ⟨n_less_num, n_less_text, n_less_copy, _, .less⟩))⟩
  · exact ⟨_, rfl, .inr (.inr (.inr ⟨n_join_num, n_join_text, n_join_copy, _, .join⟩))⟩
  · exact ⟨_, rfl, .inr (.inr (.inr ⟨n_long_num, n_long_text, n_long_copy, _, .long⟩))⟩
  · exact ⟨_, rfl, .inr (.inr (.inr ⟨n_show_num, n_show_text, n_show_copy, _, .shw⟩))⟩
  · exact ⟨_, rfl, .inr (.inr (.inr ⟨n_swap_num, n_swap_text, n_swap_copy, _, .swap⟩))⟩
  · exact ⟨_, rfl, .inr (.inr (.inr ⟨n_drop_num, n_drop_text, n_drop_copy, _, .drop⟩))⟩
  · exact ⟨_, rfl, .inr (.inr (.inl rfl))⟩
  · exact ⟨_, rfl, .inr (.inr (.inl rfl))⟩
  · exact ⟨_, rfl, .inr (.inr (.inl rfl))⟩
theorem pick8 (v a : Int) (h0 : 0 ≤ v) (h1 : v < 8) (a0 : 0 ≤ a) (a1 : a < 61) : ∃ n : Int, 0 ≤ n ∧ n ≤ 60 ∧ atI [D.int 0, D.int 0, D.int 1, D.int 1, D.int 2, D.int 3, D.int a, D.int 60] v = some (.int n) := by
  have : v = 0 ∨ v = 1 ∨ v = 2 ∨ v = 3 ∨ v = 4 ∨ v = 5 ∨ v = 6 ∨ v = 7 := by omega
  rcases this with rfl | rfl | rfl | rfl | rfl | rfl | rfl | rfl
  · exact ⟨0, by decide, by decide, rfl⟩
  · exact ⟨0, by decide, by decide, rfl⟩
  · exact ⟨1, by decide, by decide, rfl⟩
  · exact ⟨1, by decide, by decide, rfl⟩
  · exact ⟨2, by decide, by decide, rfl⟩
  · exact ⟨3, by decide, by decide, rfl⟩
  · exact ⟨a, a0, by omega, rfl⟩
  · exact ⟨60, by decide, by decide, rfl⟩



theorem mSeq_nx {m k : MS} {ρ ρ1 : TL.Env} (h : m ρ = .nx ρ1) : mSeq m k ρ = k ρ1 := by unfold mSeq; rw [h]
theorem mFor_ok {mi : MI} {f : MG} {mb : MS} {ds : List D} {ρ ρ1 : TL.Env} (h : mi ρ = .ok ds ρ1) : mFor mi f mb ρ = mLoop f mb ds ρ1 := by unfold mFor; rw [h]
theorem rng_len (i : Nat) (xs : List D) (ρ : TL.Env) (hi : (ρ[i]?).bind Cell.dat = some (.lst xs)) (hl : xs.length < 1000000) : miRange (m1 oLen (mVar i)) ρ = .ok ((List.range xs.length).map fun (k : Nat) => .int k) ρ := by
  have hv : mVar i ρ = .ok (.at i) ρ := by
    unfold mVar
    cases hc : ρ[i]? with
    | none => rw [hc] at hi; cases hi
    | some c => rw [hc] at hi; cases c <;> first | rfl | cases hi
  have hm : m1 oLen (mVar i) ρ = .ok (.dd (.int xs.length)) ρ := by
    unfold m1 mB
    simp only [hv, R.fix, use, hi, oLen, opt]
  unfold miRange
  simp only [hm, R.fix, use]
  rw [if_pos (by omega), Int.toNat_natCast]
/-! lack -/
def lc (q : Bool) (xs : List D) : Cell := if q then .own xs else .val (.lst xs)



def AllV (xs : List D) : Prop := ∀ d ∈ xs, IsVal d
theorem AllV.app {xs : List D} {d : D} (h : AllV xs) (k : IsVal d) : AllV (xs ++ [d]) := fun x hx => by
  rcases List.mem_append.mp hx with hx | hx
  · exact h x hx
  · simp at hx; subst hx; exact k
theorem pick2 (v : Int) (h0 : 0 ≤ v) (h1 : v < 2) : ∃ k : Str, (k = "num" ∨ k = "text") ∧ atI [D.str (Str.ofString "num"), D.str (Str.ofString "text")] v = some (.str k) := by
  have : v = 0 ∨ v = 1 := by omega
  rcases this with rfl | rfl
  · exact ⟨_, .inl rfl, rfl⟩
  · exact ⟨_, .inr rfl, rfl⟩
def KS (W : List D) : Prop := ∀ d ∈ W, d = .str "" ∨ d = .str "num" ∨ d = .str "text"
theorem Row.ks {r : D} {W : List D} (h : Row r W) : KS W ∧ W.length ≤ 61 := by
  cases h with
  | copy n h0 h1 => exact ⟨fun d hd => .inl (List.eq_of_mem_replicate hd), by rw [List.length_replicate]; omega⟩
  | _ => exact ⟨by intro d hd; simp at hd <;> (subst hd; simp), by decide⟩
theorem AllV.set {xs : List D} {d : D} (h : AllV xs) (k : IsVal d) (i : Nat) : AllV (xs.set i d) := fun x hx => by
  rcases List.mem_or_eq_of_mem_set hx with hx | rfl
  · exact h x hx
  · exact k
theorem cut_from {α : Type} (xs : List α) (p : Int) (h0 : 0 ≤ p) (h1 : p ≤ xs.length) : cut xs (some p) none = xs.drop p.toNat := by
  unfold cut HT.sIx
  simp only [if_neg (show ¬ p < 0 by omega)]
  have : min p.toNat xs.length = p.toNat := by omega
  simp only [this]
  rw [List.take_of_length_le (by simp)]
theorem cut_to {α : Type} (xs : List α) (p : Int) (h0 : 0 ≤ p) : cut xs none (some p) = xs.take p.toNat := by
  unfold cut HT.sIx
  simp only [if_neg (show ¬ p < 0 by omega), List.drop_zero, Nat.sub_zero]
  rcases Nat.le_total p.toNat xs.length with h | h
  · rw [Nat.min_eq_left h]
  · rw [Nat.min_eq_right h, List.take_length, List.take_of_length_le h]
theorem AllV.drop {xs : List D} (h : AllV xs) (n : Nat) : AllV (xs.drop n) := fun x hx => h x (List.mem_of_mem_drop hx)



theorem mLc_map {vsl : List Nat} {f : MG} {me : ME} (g : D → D) (ρ : TL.Env) : ∀ (ds acc : List D), (∀ d ∈ ds, ∃ ρ1 ρ4, f d ρ = some ρ1 ∧ me ρ1 = .ok (.dd (g d)) ρ4 ∧ wipeE ρ4 vsl = ρ) → acc.length + ds.length ≤ 1000000 → mLcLoop vsl f mYes me ds acc ρ = .ok (acc ++ ds.map g) ρ
  | [], acc, _, _ => by simp [mLcLoop]
  | d :: ds, acc, h, hl => by
    simp only [List.length_cons] at hl
    obtain ⟨ρ1, ρ4, h1, h2, h3⟩ := h d List.mem_cons_self
    have ih := mLc_map g ρ ds (acc ++ [g d]) (fun x hx => h x (List.mem_cons_of_mem _ hx)) (by simp; omega)
    have la : acc.length < sizeLine := Nat.lt_of_lt_of_le (show acc.length < 2000000 by omega) (by decide)
    rw [mLcLoop]
    simp only [h1, mYes, h2, frz, if_pos la, h3]
    rw [ih]; simp
theorem atI_zero {α : Type} (x : α) (xs : List α) : atI (x :: xs) 0 = some x := by
  rw [atI_nat _ _ (by decide) (by simp)]; rfl
def kD (d : D) : D := .str (kOf d)
theorem num_len (i : Int) (h0 : 0 ≤ i) (h1 : i < 1000000000) : (Str.ofString (toString i)).length ≤ 1000 := by
  obtain ⟨n, rfl⟩ := Int.eq_ofNat_of_zero_le h0
  have e : (toString (n : Int)) = n.repr := rfl
  have h : n.repr.length ≤ 9 := (Nat.length_repr_le_iff (by decide)).mpr (by omega)
  have l : (Str.ofString n.repr).length = n.repr.length := by
    rw [Str.ofString_eq_toList]
    unfold Str.length
    rw [List.size_toArray, List.length_map, String.length_toList]
  rw [e, l]
  omega
theorem num_log (i : Int) (h0 : 0 ≤ i) (h1 : i < 2 ^ 64) : i.natAbs.log2 < 1920 := by
  by_cases hz : i.natAbs = 0
  · rw [hz]; decide
  · have h2 : i.natAbs < 2 ^ 1920 := Nat.lt_of_lt_of_le (show i.natAbs < 2 ^ 64 by omega) (Nat.pow_le_pow_right (by decide) (by decide))
    exact (Nat.log2_lt hz).mpr h2
theorem fmt_int (i : Int) (h0 : 0 ≤ i) (h1 : i < 1000000000) : ∃ y : Str, y.length ≤ 1000 ∧ D.fmt (.int i) = some (.dd (.str y)) := by
  refine ⟨_, num_len i h0 h1, ?_⟩
  unfold D.fmt
  exact if_pos (num_log i h0 (by omega))
/-- the row's word -/
theorem Row.word {r : D} {W : List D} (h : Row r W) : ∃ (w : Str) (rest : List D), r = .tup (.str w :: rest) ∧ w.length ≤ 10 := by
  cases h <;> exact ⟨_, _, rfl, by decide +kernel⟩
theorem wanted_ok {r : D} {W : List D} (h : Row r W) : F_wanted [.val r] = .ret (.dd (.int W.length)) [.val r] := by
  cases h with
  | copy n h0 h1 =>
    have e0 : atI [D.str (Str.ofString "copy"), D.int n] 0 = some (.str "copy") := rfl
    have e1 : atI [D.str (Str.ofString "copy"), D.int n] 1 = some (.int n) := rfl
    have e2 : ((n + 1).toNat : Int) = n + 1 := by omega
    unfold F_wanted M_wanted
    simp_arith! [e0, e1, List.length_replicate, e2]
  | _ => kernel_rfl
theorem x1_ok {r : D} {W : List D} (h : Row r W) (ks : List D) (hk : ks.length ≤ 200) (w : Str) (hw : w.length ≤ 10) (c : Cell) : X_check_1 [.val r, .val (.tup ks), .val (.str w), c] = .exc "Empty" [.val r, .val (.tup ks), .val (.str w), c] := by
  have hW := wanted_ok h
  obtain ⟨_, hWl⟩ := h.ks
  obtain ⟨y1, l1, e1⟩ := fmt_int (W.length : Int) (by omega) (by omega)
  obtain ⟨y2, l2, e2⟩ := fmt_int (ks.length : Int) (by omega) (by omega)
  obtain ⟨s, hs⟩ := js_all [.val r, .val (.tup ks), .val (.str w), c] [m1 D.fmt (mVar 2), mC (.str " wants "), m1 D.fmt (mCall 1 F_wanted [.nm 0]), mC (.str " values and there are "), m1 D.fmt (m1 oLen (mVar 1))] Str.empty (by decide) (fun m hm => by
    simp only [List.mem_cons, List.not_mem_nil, or_false] at hm
    rcases hm with rfl | rfl | rfl | rfl | rfl
    · have e3 : D.fmt (.str w) = some (.dd (.str w)) := if_pos (le_sz (by omega))
      refine ⟨w, by omega, ?_⟩
      simp_arith [e3]
    · exact ⟨_, by decide +kernel, rfl⟩
    · refine ⟨y1, l1, ?_⟩
      simp_arith [hW, e1]
    · exact ⟨_, by decide +kernel, rfl⟩
    · refine ⟨y2, l2, ?_⟩
      simp_arith [e2])
  unfold X_check_1 mRaise
  simp only [hs]
theorem x2_ok (r ks : Cell) (w t : Str) (hw : w.length ≤ 10) (ht : t.length ≤ 10) (hl : tbl_TOLD.lookup w = some (some (.str t))) (c : Cell) : X_check_2 [r, ks, .val (.str w), c] = .exc "WrongKind" [r, ks, .val (.str w), c] := by
  obtain ⟨s, hs⟩ := js_all [r, ks, .val (.str w), c] [m1 D.fmt (mVar 2), mC (.str " takes values of the kind "), m1 D.fmt (mKGet tbl_TOLD (mVar 2)), mC (.str " alone")] Str.empty (by decide) (fun m hm => by
    simp only [List.mem_cons, List.not_mem_nil, or_false] at hm
    rcases hm with rfl | rfl | rfl | rfl
    · have e3 : D.fmt (.str w) = some (.dd (.str w)) := if_pos (le_sz (by omega))
      refine ⟨w, by omega, ?_⟩
      simp_arith [e3]
    · exact ⟨_, by decide +kernel, rfl⟩
    · have e3 : D.fmt (.str t) = some (.dd (.str t)) := if_pos (le_sz (by omega))
      refine ⟨t, by omega, ?_⟩
      simp_arith [hl, e3]
    · exact ⟨_, by decide +kernel, rfl⟩)
  unfold X_check_2 mRaise
  simp only [hs]
/-- too few -/
theorem check_few {r : D} {W : List D} (h : Row r W) (ks : List D) (hk : ks.length < W.length) : F_check [.val r, .val (.tup ks)] = .exc "Empty" [.val r, .val (.tup ks)] := by
  have hW := wanted_ok h
  obtain ⟨w, rest, rfl, hw⟩ := h.word
  have hx := x1_ok h ks (by have := h.ks.2; omega) w hw .no
  have e0 : atI (D.str w :: rest) 0 = some (.str w) := atI_zero _ _
  have hc : (ks.length : Int) < W.length := by omega
  unfold F_check M_check
  simp_arith! [e0, hW, hc, hx]
/-- no kind is told -/
theorem check_free {r : D} {W : List D} (h : Row r W) (ks : List D) (hk : ks.length = W.length) (hf : ∀ w rest, r = .tup (.str w :: rest) → tbl_TOLD.lookup w = some none) : F_check [.val r, .val (.tup ks)] = .ret (.dd .non) [.val r, .val (.tup ks)] := by
  have hW := wanted_ok h
  obtain ⟨w, rest, rfl, hw⟩ := h.word
  have hl := hf w rest rfl
  have e0 : atI (D.str w :: rest) 0 = some (.str w) := atI_zero _ _
  have hc : ¬ (ks.length : Int) < W.length := by omega
  unfold F_check M_check
  simp_arith! [e0, hW, hc, hl, Option.isSome_none]
theorem check_told {r : D} {W : List D} (h : Row r W) (ks : List Str) (hk : ks.length = W.length) (w : Str) (rest : List D) (hr : r = .tup (.str w :: rest)) (t : Str) (ht : t.length ≤ 10) (hl : tbl_TOLD.lookup w = some (some (.str t))) :
    F_check [.val r, .val (.tup (ks.map D.str))] = if (∀ k ∈ ks, k = t) then .ret (.dd .non) [.val r, .val (.tup (ks.map D.str))] else .exc "WrongKind" [.val r, .val (.tup (ks.map D.str))] := by
  have hW := wanted_ok h
  obtain ⟨w', rest', hr', hw⟩ := h.word
  rw [hr] at hr'; cases hr'
  subst hr
  have e0 : atI (D.str w :: rest) 0 = some (.str w) := atI_zero _ _
  have hc : ¬ ((ks.map D.str).length : Int) < W.length := by rw [List.length_map]; omega
  have loop : ∀ (js : List Str) (c : Cell), ∃ c', mLoop (mgName 3) B_check_3 (js.map D.str) [.val (.tup (.str w :: rest)), .val (.tup (ks.map D.str)), .val (.str w), c] =
      if (∀ k ∈ js, k = t) then .nx [.val (.tup (.str w :: rest)), .val (.tup (ks.map D.str)), .val (.str w), c'] else .exc "WrongKind" [.val (.tup (.str w :: rest)), .val (.tup (ks.map D.str)), .val (.str w), c'] := by
    intro js
    induction js with
    | nil => intro c; exact ⟨c, by simp [mLoop]⟩
    | cons k js ih =>
      intro c
      by_cases hkt : k = t
      · obtain ⟨c', e⟩ := ih (.val (.str k))
        refine ⟨c', ?_⟩
        rw [List.map_cons, mLoop_nx (ρ2 := [.val (.tup (.str w :: rest)), .val (.tup (ks.map D.str)), .val (.str w), .val (.str k)]) rfl, e]
        · subst hkt; simp
        · unfold B_check_3
          simp_arith! [hl, hkt]
      · refine ⟨.val (.str k), ?_⟩
        rw [if_neg (fun z => hkt (z k List.mem_cons_self)), List.map_cons]
        refine mLoop_exc rfl ?_
        have hx := x2_ok (.val (.tup (.str w :: rest))) (.val (.tup (ks.map D.str))) w t hw ht hl (.val (.str k))
        unfold B_check_3
        simp_arith! [hl, hkt, hx]
  obtain ⟨c', e⟩ := loop ks .no
  by_cases hall : ∀ k ∈ ks, k = t
  · rw [if_pos hall] at e ⊢
    unfold F_check M_check
    simp_arith! [e0, hW, hc, hl, Option.isSome_some, e]
  · rw [if_neg hall] at e ⊢
    unfold F_check M_check
    simp_arith! [e0, hW, hc, hl, Option.isSome_some, e]



theorem kind_of_ok {d : D} (h : IsVal d) : F_kind_of [.val d] = .ret (.dd (kD d)) [.val d] := by
  cases h <;> kernel_rfl
theorem kinds_of_ok (xs : List D) (h : AllV xs) (hl : xs.length ≤ 1000000) : F_kinds_of [.own xs] = .ret (.dd (.tup (xs.map kD))) [.val (.lst xs)] := by
  have e := mLc_map (vsl := [1]) (f := mgName 1) (me := E_kinds_of_1) kD [.val (.lst xs), .no] xs [] (fun d hd => by
    have hk := kind_of_ok (h d hd)
    refine ⟨_, [.val (.lst xs), .val d], rfl, ?_, rfl⟩
    unfold E_kinds_of_1
    simp_arith [mgName, hk]) (by simpa using hl)
  rw [List.nil_append] at e
  unfold F_kinds_of M_kinds_of
  simp_arith [noneOwn, List.all_cons, List.all_nil, isOwn, Bool.and_true, wipeE, e, backE]



/-- what a row puts for what it takes -/
inductive Put : D → List D → List D → Prop where
  | num (i : Int) : Put (.tup [.str "num", .int i]) [] [.int i]
  | text (s : Str) : Put (.tup [.str "text", .str s]) [] [.str s]
  | copy (n : Int) (x : D) (xs : List D) (h : (x :: xs).length ≤ 100) : Put (.tup [.str "copy", .int n]) (x :: xs) (x :: xs ++ [x])
  | add (a b : Int) : Put (.tup [.str "add"]) [.int a, .int b] [.int ((a + b) % 1000000000)]
  | mul (a b : Int) (h : CMul a b) : Put (.tup [.str "mul"]) [.int a, .int b] [.int (a * b % 1000000000)]
  | less (a b : Int) : Put (.tup [.str "less"]) [.int a, .int b] [.int (if a < b then 1 else 0)]
  | join (a b : Str) (ha : a.length ≤ 60) (hb : b.length ≤ 60) : Put (.tup [.str "join"]) [.str a, .str b] [.str (cutS (a ++ b) none (some 60))]
  | swap (a b : D) : Put (.tup [.str "swap"]) [a, b] [b, a]
  | long (a : Str) (ha : a.length ≤ 60) : Put (.tup [.str "long"]) [.str a] [.int a.length]
  | shw (a : Int) (h0 : 0 ≤ a) (h1 : a < 1000000000) : Put (.tup [.str "show"]) [.int a] [.str (Str.ofString (toString a))]
  | drop (a : D) : Put (.tup [.str "drop"]) [a] []
theorem put_ok {r : D} {tk out : List D} (h : Put r tk out) : F_put_by [.val r, .val (.lst tk)] = .ret (.ow (.own out)) [.val r, .val (.lst tk)] := by
  cases h with
  | num i => kernel_rfl
  | text i => kernel_rfl
  | copy n x xs h =>
    have e0 : atI [D.str (Str.ofString "copy"), D.int n] 0 = some (.str "copy") := rfl
    have e1 : cut (x :: xs) none (some 1) = [x] := by rw [cut_to _ _ (by decide)]; simp
    have hl : (xs.length + 1) + 1 ≤ sizeLine := le_sz (by simp at h; omega)
    unfold F_put_by M_put_by
    simp_arith! [e0]
    unfold F_copied M_copied
    simp_arith! [e1, hl]
  | add a b => kernel_rfl
  | mul a b h =>
    have e0 : atI [D.str (Str.ofString "mul")] 0 = some (.str "mul") := rfl
    have z : (0 : Int) < 1000000000 := by decide
    unfold F_put_by M_put_by
    simp_arith! [e0]
    unfold F_multiplied M_multiplied
    simp_arith! [h, z]
  | less a b =>
    have e0 : atI [D.str (Str.ofString "less")] 0 = some (.str "less") := rfl
    by_cases hc : a < b
    all_goals
      unfold F_put_by M_put_by
      simp_arith! [e0]
      unfold F_compared M_compared
      simp_arith! [hc]
  | join a b ha hb =>
    have e0 : atI [D.str (Str.ofString "join")] 0 = some (.str "join") := rfl
    have h1 : a.length + b.length ≤ sizeLine := le_sz (by omega)
    have h2 : (a ++ b).length ≤ sizeLine := by rw [Str.length_append]; exact h1
    unfold F_put_by M_put_by
    simp_arith! [e0]
    unfold F_joined M_joined
    simp_arith! [h1, h2]
  | swap a b => kernel_rfl
  | long a ha =>
    have e0 : atI [D.str (Str.ofString "long")] 0 = some (.str "long") := rfl
    have e1 : atI [D.str a] 0 = some (.str a) := rfl
    have h1 : a.length ≤ sizeLine := le_sz (by omega)
    unfold F_put_by M_put_by
    simp_arith! [e0]
    unfold F_measured M_measured
    simp_arith! [e1, h1]
  | shw a h0 h1 =>
    have e0 : atI [D.str (Str.ofString "show")] 0 = some (.str "show") := rfl
    have e1 : atI [D.int a] 0 = some (.int a) := rfl
    have h1 := num_log a h0 (by omega)
    unfold F_put_by M_put_by
    simp_arith! [e0]
    unfold F_shown M_shown
    simp_arith! [e1, h1]
  | drop a => kernel_rfl



/-- do, by the check's answer -/
theorem do_exc {r : D} {W : List D} (h : Row r W) (xs : List D) (hx : AllV xs) (hl : xs.length ≤ 5000) (x : Str) (hc : F_check [.val r, .val (.tup ((xs.drop (xs.length - W.length)).map kD))] = .exc x [.val r, .val (.tup ((xs.drop (xs.length - W.length)).map kD))]) :
    F_do [.own xs, .val r] = .exc x [.own xs, .val r] := by
  have hW := wanted_ok h
  have hk := kinds_of_ok (xs.drop (xs.length - W.length)) (hx.drop _) (by rw [List.length_drop]; omega)
  have hp : (if ((xs.length : Int) - W.length) > 0 then ((xs.length : Int) - W.length) else 0) = ((xs.length - W.length : Nat) : Int) := by
    split <;> omega
  have e1 : cut xs (some ((xs.length - W.length : Nat) : Int)) none = xs.drop (xs.length - W.length) := by
    rw [cut_from _ _ (by omega) (by omega), Int.toNat_natCast]
  unfold F_do M_do
  simp_arith! [hW, hp, e1, hk, hc]
theorem do_ok {r : D} {W : List D} (h : Row r W) (xs : List D) (hx : AllV xs) (hl : xs.length ≤ 5000) (out : List D) (ho : out.length ≤ 1000)
    (hc : F_check [.val r, .val (.tup ((xs.drop (xs.length - W.length)).map kD))] = .ret (.dd .non) [.val r, .val (.tup ((xs.drop (xs.length - W.length)).map kD))])
    (hq : F_put_by [.val r, .val (.lst (xs.drop (xs.length - W.length)))] = .ret (.ow (.own out)) [.val r, .val (.lst (xs.drop (xs.length - W.length)))]) :
    F_do [.own xs, .val r] = .ret (.dd .non) [.own (xs.take (xs.length - W.length) ++ out), .val r] := by
  have hW := wanted_ok h
  have hk := kinds_of_ok (xs.drop (xs.length - W.length)) (hx.drop _) (by rw [List.length_drop]; omega)
  have hp : (if ((xs.length : Int) - W.length) > 0 then ((xs.length : Int) - W.length) else 0) = ((xs.length - W.length : Nat) : Int) := by
    split <;> omega
  have e1 : cut xs (some ((xs.length - W.length : Nat) : Int)) none = xs.drop (xs.length - W.length) := by
    rw [cut_from _ _ (by omega) (by omega), Int.toNat_natCast]
  have c1 : (0 : Int) ≤ ((xs.length - W.length : Nat) : Int) := by omega
  have c2 : (((xs.length - W.length : Nat) : Int)).natAbs = xs.length - W.length := by omega
  have c3 : xs.length - W.length ≤ xs.length := by omega
  have c4 : xs.length + out.length ≤ sizeLine := le_sz (by omega)
  unfold F_do M_do
  simp_arith! [hW, hp, e1, hk, hc, hq, mPutSl, c1, c2, c3, c4, and_self]



inductive OkD : D → Prop where
  | int (i : Int) : OkD (.int i)
  | str (s : Str) (h : PyData.strOk s = true) : OkD (.str s)
def AllOk (xs : List D) : Prop := ∀ d ∈ xs, OkD d
theorem IsVal.ok {d : D} (h : IsVal d) : OkD d := by
  cases h with
  | int i _ _ => exact .int i
  | str s h => exact .str s h.2
theorem pyL_ok : ∀ {xs : List D}, AllOk xs → ∃ ps, pyL xs = some ps ∧ PyData.canLayAll0 ps = true ∧ PyData.depthAll ps = 0 ∧ PyData.eqvAll ps ps = true
  | [], _ => ⟨[], rfl, rfl, rfl, rfl⟩
  | d :: ds, h => by
    obtain ⟨ps, h1, h2, h3, h4⟩ := pyL_ok (xs := ds) fun x hx => h x (List.mem_cons_of_mem _ hx)
    cases h d List.mem_cons_self with
    | int i => exact ⟨.int i :: ps, by unfold pyL; rw [h1]; rfl, by simp [PyData.canLayAll0, PyData.canLay0, h2], by simp [PyData.depthAll, PyData.depth, h3], by simp [PyData.eqvAll, PyData.eqv, h4]⟩
    | str s hs => exact ⟨.str s :: ps, by unfold pyL; rw [h1]; rfl, by simp [PyData.canLayAll0, PyData.canLay0, h2, hs], by simp [PyData.depthAll, PyData.depth, h3], by simp [PyData.eqvAll, PyData.eqv, h4]⟩
theorem oEq_same {xs : List D} (h : AllOk xs) : oEq (.lst xs) (.lst xs) = some (.dd (.bl true)) := by
  obtain ⟨ps, h1, h2, h3, h4⟩ := pyL_ok h
  have e : D.py (.lst xs) = some (.list ps) := by unfold D.py; rw [h1]; rfl
  have s : SeqAt.shaped (.list ps) = true := by simp [SeqAt.shaped, PyData.canLay0, h2, PyData.depth, h3]
  have q : PyData.eqv (.list ps) (.list ps) = true := by simp [PyData.eqv, h4]
  unfold oEq oEqB
  simp only [D.scal, e, s, and_self, if_true, q, Option.map_some]
theorem strOk_lit (s : String) : PyData.strOk (Str.ofString s) = true := strOk_ofString s
theorem AllV.allOk {xs : List D} (h : AllV xs) : AllOk xs := fun d hd => (h d hd).ok
theorem AllOk.app {xs ys : List D} (h : AllOk xs) (k : AllOk ys) : AllOk (xs ++ ys) := fun d hd => by
  rcases List.mem_append.mp hd with hd | hd
  · exact h d hd
  · exact k d hd
theorem Put.ok {r : D} {tk out : List D} (h : Put r tk out) (hv : AllOk tk) (ht : ∀ s : Str, r = .tup [.str "text", .str s] → PyData.strOk s = true) : AllOk out ∧ out.length ≤ tk.length + 1 := by
  cases h with
  | num i => exact ⟨fun d hd => by simp at hd; subst hd; exact .int _, by simp⟩
  | text s => exact ⟨fun d hd => by simp at hd; subst hd; exact .str _ (ht s rfl), by simp⟩
  | copy n x xs h => exact ⟨hv.app fun d hd => by simp at hd; subst hd; exact hv d List.mem_cons_self, by simp⟩
  | add a b => exact ⟨fun d hd => by simp at hd; subst hd; exact .int _, by simp⟩
  | mul a b h => exact ⟨fun d hd => by simp at hd; subst hd; exact .int _, by simp⟩
  | less a b => exact ⟨fun d hd => by simp at hd; subst hd; exact .int _, by simp⟩
  | join a b ha hb =>
    refine ⟨fun d hd => by
      simp at hd; subst hd
      have h1 : PyData.strOk a = true := by
        have := hv (.str a) (by simp)
        cases this; assumption
      have h2 : PyData.strOk b = true := by
        have := hv (.str b) (by simp)
        cases this; assumption
      exact .str _ (strOk_cut (strOk_app h1 h2) _ _), by simp⟩
  | swap a b => exact ⟨fun d hd => hv d (by simp at hd ⊢; exact hd.symm), by simp⟩
  | long a ha => exact ⟨fun d hd => by simp at hd; subst hd; exact .int _, by simp⟩
  | shw a h0 h1 => exact ⟨fun d hd => by simp at hd; subst hd; exact .str _ (strOk_ofString _), by simp⟩
  | drop a => exact ⟨fun d hd => (by cases hd), by simp⟩



/-! ### kinds, rows, what is behind a row: as plain functions -/
inductive Kd where
  | n | t
deriving DecidableEq
def Kd.s : Kd → Str
  | .n => Str.ofString "num"
  | .t => Str.ofString "text"
theorem Kd.inj {a b : Kd} : a.s = b.s ↔ a = b := by
  cases a <;> cases b <;> simp [Kd.s, n_num_text, n_text_num]
def kd (k : Kd) : D := .str k.s
def kds (ks : List Kd) : List D := ks.map kd
theorem kds_len (ks : List Kd) : (kds ks).length = ks.length := List.length_map ..
theorem kds_app (a b : List Kd) : kds (a ++ b) = kds a ++ kds b := List.map_append
theorem kds_take (a : List Kd) (n : Nat) : (kds a).take n = kds (a.take n) := (List.map_take).symm
theorem kds_drop (a : List Kd) (n : Nat) : (kds a).drop n = kds (a.drop n) := (List.map_drop).symm
theorem kds_strs (ks : List Kd) : kds ks = (ks.map Kd.s).map D.str := by unfold kds kd; rw [List.map_map]; rfl
def kpy (k : Kd) : PyData := .str k.s
theorem kd_ok (k : Kd) : PyData.strOk k.s = true := by cases k <;> exact strOk_ofString _
theorem pyL_kds : ∀ ks : List Kd, pyL (kds ks) = some (ks.map kpy)
  | [] => rfl
  | k :: ks => by
    show pyL (kd k :: kds ks) = _
    unfold pyL; rw [pyL_kds ks]; rfl
theorem lay_kds : ∀ ks : List Kd, PyData.canLayAll0 (ks.map kpy) = true ∧ PyData.depthAll (ks.map kpy) = 0
  | [] => ⟨rfl, rfl⟩
  | k :: ks => by
    obtain ⟨h1, h2⟩ := lay_kds ks
    refine ⟨?_, ?_⟩
    · rw [List.map_cons]; unfold PyData.canLayAll0; rw [h1]; unfold kpy PyData.canLay0; rw [kd_ok]; rfl
    · rw [List.map_cons]; unfold PyData.depthAll; rw [h2]; rfl
theorem eqv_kds : ∀ a b : List Kd, PyData.eqvAll (a.map kpy) (b.map kpy) = decide (a = b)
  | [], [] => rfl
  | [], _ :: _ => rfl
  | _ :: _, [] => rfl
  | x :: a, y :: b => by
    rw [List.map_cons, List.map_cons]; unfold PyData.eqvAll
    rw [eqv_kds a b]
    have : PyData.eqv (kpy x) (kpy y) = decide (x = y) := by
      unfold kpy PyData.eqv
      by_cases h : x = y
      · subst h; simp
      · have : ¬ x.s = y.s := fun z => h (Kd.inj.mp z)
        simp [h, this]
    rw [this]
    by_cases h : x = y <;> by_cases h2 : a = b <;> simp [h, h2]
theorem py_tup (ks : List Kd) : D.py (.tup (kds ks)) = some (.tuple (ks.map kpy)) := by unfold D.py; rw [pyL_kds]; rfl
theorem py_lst (ks : List Kd) : D.py (.lst (kds ks)) = some (.list (ks.map kpy)) := by unfold D.py; rw [pyL_kds]; rfl
theorem shp_tup (ks : List Kd) : SeqAt.shaped (.tuple (ks.map kpy)) = true := by
  obtain ⟨h1, h2⟩ := lay_kds ks
  simp [SeqAt.shaped, PyData.canLay0, h1, PyData.depth, h2]
theorem shp_lst (ks : List Kd) : SeqAt.shaped (.list (ks.map kpy)) = true := by
  obtain ⟨h1, h2⟩ := lay_kds ks
  simp [SeqAt.shaped, PyData.canLay0, h1, PyData.depth, h2]
theorem oEqB_tup (a b : List Kd) : oEqB (.tup (kds a)) (.tup (kds b)) = some (decide (a = b)) := by
  unfold oEqB
  simp only [D.scal, py_tup, shp_tup, and_self, if_true]
  unfold PyData.eqv
  rw [eqv_kds]
theorem oEqB_lst (a b : List Kd) : oEqB (.lst (kds a)) (.lst (kds b)) = some (decide (a = b)) := by
  unfold oEqB
  simp only [D.scal, py_lst, shp_lst, and_self, if_true]
  unfold PyData.eqv
  rw [eqv_kds]
theorem oEq_tup (a b : List Kd) : oEq (.tup (kds a)) (.tup (kds b)) = some (.dd (.bl (decide (a = b)))) := by unfold oEq; rw [oEqB_tup]; rfl
theorem oNe_tup (a b : List Kd) : oNe (.tup (kds a)) (.tup (kds b)) = some (.dd (.bl (!decide (a = b)))) := by unfold oNe; rw [oEqB_tup]; rfl
theorem oEq_lst (a b : List Kd) : oEq (.lst (kds a)) (.lst (kds b)) = some (.dd (.bl (decide (a = b)))) := by unfold oEq; rw [oEqB_lst]; rfl
theorem oNe_lst (a b : List Kd) : oNe (.lst (kds a)) (.lst (kds b)) = some (.dd (.bl (!decide (a = b)))) := by unfold oNe; rw [oEqB_lst]; rfl
/-- a plain row -/
inductive PR where
  | num (i : Int) | text (s : Str) | add | mul | less | join | long | shw | swap | drop | copy (n : Nat)
def PR.d : PR → D
  | .num i => .tup [.str "num", .int i]
  | .text s => .tup [.str "text", .str s]
  | .add => .tup [.str "add"]
  | .mul => .tup [.str "mul"]
  | .less => .tup [.str "less"]
  | .join => .tup [.str "join"]
  | .long => .tup [.str "long"]
  | .shw => .tup [.str "show"]
  | .swap => .tup [.str "swap"]
  | .drop => .tup [.str "drop"]
  | .copy n => .tup [.str "copy", .int (n : Int)]
def PR.ok : PR → Prop
  | .num i => 0 ≤ i ∧ i < 1000000000
  | .text s => gS s
  | .copy n => n ≤ 60
  | _ => True
def PR.want : PR → List (Option Kd)
  | .add => [some .n, some .n]
  | .mul => [some .n, some .n]
  | .less => [some .n, some .n]
  | .join => [some .t, some .t]
  | .long => [some .t]
  | .shw => [some .n]
  | .swap => [none, none]
  | .drop => [none]
  | .copy n => List.replicate (n + 1) none
  | _ => []
def wD : Option Kd → D
  | none => .str ""
  | some k => kd k
theorem PR.row {r : PR} (h : r.ok) : Row r.d (r.want.map wD) := by
  cases r with
  | num i => exact .num i h.1 h.2
  | text s => exact .text s h
  | copy n =>
    have : (PR.copy n).want.map wD = List.replicate ((n : Int) + 1).toNat (.str "") := by
      show (List.replicate (n + 1) none).map wD = _
      rw [List.map_replicate, show ((n : Int) + 1).toNat = n + 1 by omega]; rfl
    rw [this]
    exact .copy n (by omega) (by have : n ≤ 60 := h; omega)
  | add => exact .add
  | mul => exact .mul
  | less => exact .less
  | join => exact .join
  | long => exact .long
  | shw => exact .shw
  | swap => exact .swap
  | drop => exact .drop
theorem PR.of_row {r : D} {W : List D} (h : Row r W) : ∃ p : PR, p.ok ∧ r = p.d ∧ W = p.want.map wD := by
  cases h with
  | num i h0 h1 => exact ⟨.num i, ⟨h0, h1⟩, rfl, rfl⟩
  | text s h => exact ⟨.text s, h, rfl, rfl⟩
  | copy n h0 h1 =>
    refine ⟨.copy n.toNat, show n.toNat ≤ 60 by omega, ?_, ?_⟩
    · show D.tup _ = D.tup [_, .int (n.toNat : Int)]
      rw [Int.toNat_of_nonneg h0]
    · show _ = (List.replicate (n.toNat + 1) none).map wD
      rw [List.map_replicate, show (n + 1).toNat = n.toNat + 1 by omega]; rfl
  | add => exact ⟨.add, trivial, rfl, rfl⟩
  | mul => exact ⟨.mul, trivial, rfl, rfl⟩
  | less => exact ⟨.less, trivial, rfl, rfl⟩
  | join => exact ⟨.join, trivial, rfl, rfl⟩
  | swap => exact ⟨.swap, trivial, rfl, rfl⟩
  | long => exact ⟨.long, trivial, rfl, rfl⟩
  | shw => exact ⟨.shw, trivial, rfl, rfl⟩
  | drop => exact ⟨.drop, trivial, rfl, rfl⟩
theorem PR.want_len {r : PR} (h : r.ok) : r.want.length ≤ 61 := by
  cases r with
  | copy n => have : n ≤ 60 := h; show (List.replicate (n + 1) none).length ≤ 61; rw [List.length_replicate]; omega
  | _ => simp [PR.want]
/-- the kinds that a plain row puts for those that it takes -/
def PR.putK : PR → List Kd → List Kd
  | .num _, _ => [.n]
  | .text _, _ => [.t]
  | .add, _ => [.n]
  | .mul, _ => [.n]
  | .less, _ => [.n]
  | .join, _ => [.t]
  | .long, _ => [.n]
  | .shw, _ => [.t]
  | .swap, tk => tk.reverse
  | .drop, _ => []
  | .copy _, tk => tk ++ tk.take 1
def fits : List (Option Kd) → List Kd → Bool
  | [], _ => true
  | none :: W, _ :: ks => fits W ks
  | some w :: W, k :: ks => decide (w = k) && fits W ks
  | _ :: _, [] => false
inductive Er where
  | empty | kind | block | apart
deriving DecidableEq
def Er.w : Er → Str
  | .empty => Str.ofString "empty"
  | .kind => Str.ofString "kind"
  | .block => Str.ofString "block"
  | .apart => Str.ofString "apart"
def Er.x : Er → Str
  | .empty => Str.ofString "Empty"
  | .kind => Str.ofString "WrongKind"
  | .block => Str.ofString "NoBlock"
  | .apart => Str.ofString "Apart"
/-- what a row lacks -/
def lackK (ks : List Kd) (W : List (Option Kd)) : Option Er :=
  if ks.length < W.length then some .empty else if fits W (ks.drop (ks.length - W.length)) = true then none else some .kind
def plainK (ks : List Kd) (r : PR) : Except Er (List Kd) := match lackK ks r.want with
  | some e => .error e
  | none => .ok (ks.take (ks.length - r.want.length) ++ r.putK (ks.drop (ks.length - r.want.length)))
theorem fits_at : ∀ (W : List (Option Kd)) (ks : List Kd), W.length = ks.length → (fits W ks = true ↔ ∀ j, j < W.length → W[j]? = some none ∨ W[j]? = (ks[j]?).map some)
  | [], _, _ => by simp [fits]
  | w :: W, [], h => by simp at h
  | w :: W, k :: ks, h => by
    have ih := fits_at W ks (by simpa using h)
    have e : fits (w :: W) (k :: ks) = true ↔ (w = none ∨ w = some k) ∧ fits W ks = true := by
      cases w with
      | none => simp [fits]
      | some x => simp [fits]
    rw [e, ih]
    constructor
    · rintro ⟨h1, h2⟩ j hj
      cases j with
      | zero => simpa using h1
      | succ j => simpa using h2 j (by simpa using hj)
    · intro hh
      refine ⟨by simpa using hh 0 (by simp), fun j hj => by simpa using hh (j + 1) (by simpa using hj)⟩
def wS : Option Kd → Str
  | none => Str.ofString ""
  | some k => k.s
theorem wD_s (W : List (Option Kd)) : W.map wD = (W.map wS).map D.str := by
  rw [List.map_map]; apply List.map_congr_left; intro w _; cases w <;> rfl
theorem wS_e (w : Option Kd) : wS w = Str.ofString "" ↔ w = none := by
  cases w with
  | none => simp [wS]
  | some k => cases k <;> simp [wS, Kd.s, n_num_e, n_text_e]
theorem wS_k (w : Option Kd) (k : Kd) : wS w = k.s ↔ w = some k := by
  cases w with
  | none => cases k <;> simp [wS, Kd.s, n_e_num, n_e_text]
  | some x => simp [wS, Kd.inj]



/-! ### the program's check over any list, tuple of kinds; rows by kinds -/
/-- how a sequence stands -/
inductive Sq where
  | o | l | t
def Sq.c : Sq → List D → Cell
  | .o, xs => .own xs
  | .l, xs => .val (.lst xs)
  | .t, xs => .val (.tup xs)
def Sq.f : Sq → List D → Cell
  | .t, xs => .val (.tup xs)
  | _, xs => .val (.lst xs)
/-- a row that check takes: its word, how many, of which kind -/
structure CkRow (r : D) (w : Str) (n : Nat) (t : Option Kd) : Prop where
  at0 : ∃ rest, r = .tup (.str w :: rest)
  lw : w.length ≤ 10
  want : F_wanted [.val r] = .ret (.dd (.int n)) [.val r]
  le : n ≤ 61
  told : tbl_TOLD.lookup w = some (t.map kd)
theorem js_fmt (w : Str) (hw : w.length ≤ 1000) : D.fmt (.str w) = some (.dd (.str w)) := if_pos (le_sz (by omega))
theorem kdl (k : Kd) : k.s.length ≤ 10 := by cases k <;> decide +kernel
theorem kds_len' (ks : List Kd) : ((kds ks).length : Int) = ks.length := by rw [kds_len]
theorem x1_gen {r : D} {w : Str} {n : Nat} {t : Option Kd} (h : CkRow r w n t) (q : Sq) (ks : List D) (hk : ks.length ≤ 500000) (c : Cell) : X_check_1 [.val r, q.c ks, .val (.str w), c] = .exc "Empty" [.val r, q.c ks, .val (.str w), c] := by
  have hW := h.want
  obtain ⟨y1, l1, e1⟩ := fmt_int (n : Int) (by omega) (by have := h.le; omega)
  obtain ⟨y2, l2, e2⟩ := fmt_int (ks.length : Int) (by omega) (by omega)
  obtain ⟨s, hs⟩ := js_all [.val r, q.c ks, .val (.str w), c] [TL.m1 D.fmt (mVar 2), mC (.str " wants "), TL.m1 D.fmt (mCall 1 F_wanted [.nm 0]), mC (.str " values and there are "), TL.m1 D.fmt (TL.m1 oLen (mVar 1))] Str.empty (by decide) (fun m hm => by
    simp only [List.mem_cons, List.not_mem_nil, or_false] at hm
    rcases hm with rfl | rfl | rfl | rfl | rfl
    · have e3 := js_fmt w (by have := h.lw; omega)
      refine ⟨w, by have := h.lw; omega, ?_⟩
      simp_arith [e3]
    · exact ⟨_, by decide +kernel, rfl⟩
    · refine ⟨y1, l1, ?_⟩
      cases q <;> simp_arith [hW, e1, Sq.c]
    · exact ⟨_, by decide +kernel, rfl⟩
    · refine ⟨y2, l2, ?_⟩
      cases q <;> simp_arith [e2, Sq.c])
  unfold X_check_1 mRaise
  simp only [hs]
theorem x2_gen (r ks : Cell) (w : Str) (t : Kd) (hw : w.length ≤ 10) (hl : tbl_TOLD.lookup w = some (some (kd t))) (c : Cell) : X_check_2 [r, ks, .val (.str w), c] = .exc "WrongKind" [r, ks, .val (.str w), c] :=
  x2_ok r ks w t.s hw (kdl t) hl c
def ckT (t : Option Kd) (ks : List Kd) (a b c : FR) : FR := match t with
  | none => a
  | some t => if ∀ k ∈ ks, k = t then b else c
theorem check_gen {r : D} {w : Str} {n : Nat} {t : Option Kd} (h : CkRow r w n t) (q : Sq) (ks : List Kd) (hk : ks.length ≤ 500000) :
    F_check [.val r, q.c (kds ks)] = if ks.length < n then .exc "Empty" [.val r, q.c (kds ks)] else
      ckT t ks (.ret (.dd .non) [.val r, q.c (kds ks)]) (.ret (.dd .non) [.val r, q.f (kds ks)]) (.exc "WrongKind" [.val r, q.f (kds ks)]) := by
  have hW := h.want
  have ht := h.told
  have hlw := h.lw
  have hx := fun c => x1_gen h q (kds ks) (by rw [kds_len]; exact hk) c
  obtain ⟨rest, rfl⟩ := h.at0
  have e0 : atI (D.str w :: rest) 0 = some (.str w) := atI_zero _ _
  by_cases hf : ks.length < n
  · rw [if_pos hf]
    have hc : (ks.length : Int) < n := by omega
    have hx := hx .no
    unfold F_check M_check
    cases q
    all_goals
      unfold Sq.c at hx ⊢
      simp_arith! [e0, hW, kds_len', hc, hx]
  · rw [if_neg hf]
    have hc : ¬ (ks.length : Int) < n := by omega
    cases t with
    | none =>
      have ht : tbl_TOLD.lookup w = some none := ht
      unfold ckT F_check M_check
      cases q
      all_goals
        unfold Sq.c
        simp_arith! [e0, hW, kds_len', hc, ht, Option.isSome_none]
    | some t =>
      have ht : tbl_TOLD.lookup w = some (some (kd t)) := ht
      have loop : ∀ (js : List Kd) (c : Cell), ∃ c', mLoop (mgName 3) B_check_3 (kds js) [.val (.tup (.str w :: rest)), q.f (kds ks), .val (.str w), c] =
          if (∀ k ∈ js, k = t) then .nx [.val (.tup (.str w :: rest)), q.f (kds ks), .val (.str w), c'] else .exc "WrongKind" [.val (.tup (.str w :: rest)), q.f (kds ks), .val (.str w), c'] := by
        intro js
        induction js with
        | nil => intro c; exact ⟨c, by simp [mLoop, kds]⟩
        | cons k js ih =>
          intro c
          by_cases hkt : k = t
          · obtain ⟨c', e⟩ := ih (.val (kd k))
            refine ⟨c', ?_⟩
            show mLoop (mgName 3) B_check_3 (kd k :: kds js) _ = _
            rw [mLoop_nx (ρ2 := [.val (.tup (.str w :: rest)), q.f (kds ks), .val (.str w), .val (kd k)]) rfl, e]
            · subst hkt; simp
            · subst hkt
              unfold B_check_3
              have hz : oNe (kd k) (kd k) = some (.dd (.bl false)) := by unfold kd; rw [oNe_str]; simp
              cases q <;> simp_arith! [ht, Sq.f, hz]
          · refine ⟨.val (kd k), ?_⟩
            rw [if_neg (fun z => hkt (z k List.mem_cons_self))]
            refine mLoop_exc (ρ1 := [.val (.tup (.str w :: rest)), q.f (kds ks), .val (.str w), .val (kd k)]) rfl ?_
            have hx2 := x2_gen (.val (.tup (.str w :: rest))) (q.f (kds ks)) w t hlw ht (.val (kd k))
            have hz : oNe (kd k) (kd t) = some (.dd (.bl true)) := by
              unfold kd; rw [oNe_str]
              have : ¬ k.s = t.s := fun z => hkt (Kd.inj.mp z)
              simp [this]
            unfold B_check_3
            cases q
            all_goals
              unfold Sq.f at hx2 ⊢
              simp_arith! [ht, hz, hx2]
      obtain ⟨c', e⟩ := loop ks .no
      by_cases hall : ∀ k ∈ ks, k = t
      · rw [if_pos hall] at e
        unfold ckT
        simp only [if_pos hall]
        unfold F_check M_check
        cases q
        all_goals
          unfold Sq.f at e ⊢
          unfold Sq.c
          simp_arith! [e0, hW, kds_len', hc, ht, Option.isSome_some, e]
      · rw [if_neg hall] at e
        unfold ckT
        simp only [if_neg hall]
        unfold F_check M_check
        cases q
        all_goals
          unfold Sq.f at e ⊢
          unfold Sq.c
          simp_arith! [e0, hW, kds_len', hc, ht, Option.isSome_some, e]
def PR.w : PR → Str
  | .num _ => Str.ofString "num"
  | .text _ => Str.ofString "text"
  | .add => Str.ofString "add"
  | .mul => Str.ofString "mul"
  | .less => Str.ofString "less"
  | .join => Str.ofString "join"
  | .long => Str.ofString "long"
  | .shw => Str.ofString "show"
  | .swap => Str.ofString "swap"
  | .drop => Str.ofString "drop"
  | .copy _ => Str.ofString "copy"
def PR.told : PR → Option Kd
  | .add => some .n
  | .mul => some .n
  | .less => some .n
  | .join => some .t
  | .long => some .t
  | .shw => some .n
  | _ => none
theorem PR.lw (r : PR) : r.w.length ≤ 10 := by
  have h : ∀ w ∈ [Str.ofString "num", Str.ofString "text", Str.ofString "add", Str.ofString "mul", Str.ofString "less", Str.ofString "join", Str.ofString "long", Str.ofString "show", Str.ofString "swap", Str.ofString "drop", Str.ofString "copy"], w.length ≤ 10 := by decide +kernel
  apply h
  cases r <;> simp [PR.w]
theorem PR.ck {r : PR} (h : r.ok) : CkRow r.d r.w r.want.length r.told := by
  have hw := wanted_ok (PR.row h)
  rw [List.length_map] at hw
  have hl := PR.want_len h
  cases r with
  | num i => exact ⟨⟨_, rfl⟩, PR.lw _, hw, hl, lT_num⟩
  | text i => exact ⟨⟨_, rfl⟩, PR.lw _, hw, hl, lT_text⟩
  | add => exact ⟨⟨_, rfl⟩, PR.lw _, hw, hl, lT_add⟩
  | mul => exact ⟨⟨_, rfl⟩, PR.lw _, hw, hl, lT_mul⟩
  | less => exact ⟨⟨_, rfl⟩, PR.lw _, hw, hl, lT_less⟩
  | join => exact ⟨⟨_, rfl⟩, PR.lw _, hw, hl, lT_join⟩
  | long => exact ⟨⟨_, rfl⟩, PR.lw _, hw, hl, lT_long⟩
  | shw => exact ⟨⟨_, rfl⟩, PR.lw _, hw, hl, lT_show⟩
  | swap => exact ⟨⟨_, rfl⟩, PR.lw _, hw, hl, lT_swap⟩
  | drop => exact ⟨⟨_, rfl⟩, PR.lw _, hw, hl, lT_drop⟩
  | copy n => exact ⟨⟨_, rfl⟩, PR.lw _, hw, hl, lT_copy⟩
/-- fits says what check says -/
theorem PR.fits_told {r : PR} {tk : List Kd} (hl : tk.length = r.want.length) : fits r.want tk = true ↔ (match r.told with | none => True | some t => ∀ k ∈ tk, k = t) := by
  cases r with
  | copy n =>
    have : ∀ (m : Nat) (tk : List Kd), tk.length = m → fits (List.replicate m none) tk = true := by
      intro m
      induction m with
      | zero => intro tk _; rfl
      | succ m ih => intro tk h; cases tk with
        | nil => simp at h
        | cons k tk => rw [List.replicate_succ]; exact ih tk (by simpa using h)
    simp only [PR.told, iff_true]
    exact this _ _ (by simpa [PR.want] using hl)
  | num i => simp [PR.want, fits, PR.told]
  | text i => simp [PR.want, fits, PR.told]
  | _ =>
    match tk, hl with
    | [], hl => simp [PR.want] at hl
    | [a], hl => first | (exfalso; simp [PR.want] at hl; done) | (clear hl; revert a; intro a; cases a <;> simp [PR.want, fits, PR.told]; done) | (cases a <;> cases b <;> simp [PR.want, fits, PR.told])
    | [a, b], hl => first | (exfalso; simp [PR.want] at hl; done) | (clear hl; revert a; intro a; cases a <;> simp [PR.want, fits, PR.told]; done) | (cases a <;> cases b <;> simp [PR.want, fits, PR.told])
    | a :: b :: c :: r, hl => simp [PR.want] at hl
theorem kds_cons (k : Kd) (ks : List Kd) : kds (k :: ks) = kd k :: kds ks := rfl
theorem kds_nil : kds [] = [] := rfl
theorem kinds_put_ok {r : PR} (h : r.ok) {tk : List Kd} (hl : tk.length = r.want.length) (c : Cell) (hc : c = .own (kds tk) ∨ c = .val (.lst (kds tk))) : ∃ c', F_kinds_put [.val r.d, c] = .ret (.ow (.own (kds (r.putK tk)))) [.val r.d, c'] := by
  have nm : ∀ {c : Cell}, c = .own (kds tk) ∨ c = .val (.lst (kds tk)) → c ≠ .no := by rintro _ (rfl | rfl) <;> (intro z; cases z)
  cases r with
  | copy n =>
    have e0 : atI [D.str (Str.ofString "copy"), D.int (n : Int)] 0 = some (.str "copy") := rfl
    have e1 : cut (kds tk) none (some 1) = (kds tk).take 1 := by rw [cut_to _ _ (by decide)]; rfl
    have hn : n ≤ 60 := h
    have hl : tk.length = n + 1 := by rw [hl]; show (List.replicate (n + 1) none).length = _; rw [List.length_replicate]
    have hs : (kds tk).length + ((kds tk).take 1).length ≤ sizeLine := le_sz (by rw [List.length_take, kds_len]; omega)
    have e2 : kds tk ++ (kds tk).take 1 = kds (tk ++ tk.take 1) := by rw [kds_take, kds_app]
    refine ⟨c, ?_⟩
    rcases hc with rfl | rfl
    all_goals
      unfold F_kinds_put M_kinds_put PR.d PR.putK
      simp_arith! [e0, Option.isSome_none]
      unfold F_put_by M_put_by
      simp_arith! [e0]
      unfold F_copied M_copied
      simp_arith! [e1, hs, e2]
  | swap =>
    obtain ⟨a, b, rfl⟩ : ∃ a b, tk = [a, b] := by
      match tk, hl with
      | [], hl => simp [PR.want] at hl
      | [a], hl => simp [PR.want] at hl
      | [a, b], _ => exact ⟨a, b, rfl⟩
      | a :: b :: c :: r, hl => simp [PR.want] at hl
    rcases hc with rfl | rfl
    · exact ⟨.val (.lst (kds [a, b])), by kernel_rfl⟩
    · exact ⟨.val (.lst (kds [a, b])), by kernel_rfl⟩
  | drop =>
    obtain ⟨a, rfl⟩ : ∃ a, tk = [a] := by
      match tk, hl with
      | [], hl => simp [PR.want] at hl
      | [a], _ => exact ⟨a, rfl⟩
      | a :: b :: r, hl => simp [PR.want] at hl
    rcases hc with rfl | rfl
    · exact ⟨.own (kds [a]), by kernel_rfl⟩
    · exact ⟨.val (.lst (kds [a])), by kernel_rfl⟩
  | num i =>
    have e0 : atI [D.str (Str.ofString "num"), D.int i] 0 = some (.str "num") := rfl
    refine ⟨c, ?_⟩
    rcases hc with rfl | rfl <;> unfold F_kinds_put M_kinds_put PR.d PR.putK <;> simp_arith! [e0, Option.isSome_some] <;> rfl
  | text i =>
    have e0 : atI [D.str (Str.ofString "text"), D.str i] 0 = some (.str "text") := rfl
    refine ⟨c, ?_⟩
    rcases hc with rfl | rfl <;> unfold F_kinds_put M_kinds_put PR.d PR.putK <;> simp_arith! [e0, Option.isSome_some] <;> rfl
  | _ =>
    refine ⟨c, ?_⟩
    rcases hc with rfl | rfl <;> kernel_rfl



theorem plainK_len {ks ks' : List Kd} {r : PR} (hr : r.ok) (h : plainK ks r = .ok ks') : ks'.length ≤ ks.length + 1 := by
  unfold plainK at h
  cases hk : lackK ks r.want with
  | some e => rw [hk] at h; cases h
  | none =>
    rw [hk] at h
    simp only [Except.ok.injEq] at h
    subst h
    rw [List.length_append, List.length_take]
    unfold lackK at hk
    by_cases hf : ks.length < r.want.length
    · rw [if_pos hf] at hk; cases hk
    have hd : (ks.drop (ks.length - r.want.length)).length = r.want.length := by rw [List.length_drop]; omega
    cases r with
    | copy n => simp only [PR.putK, List.length_append, List.length_take]; omega
    | swap => simp only [PR.putK, List.length_reverse]; omega
    | drop => simp only [PR.putK, List.length_nil]; omega
    | _ => simp only [PR.putK, List.length_cons, List.length_nil]; omega
/-- check on the uppermost kinds says what lackK says -/
theorem check_lack {r : PR} (hr : r.ok) (q : Sq) (ks : List Kd) (hk : ks.length ≤ 500000) :
    ∃ c, (c = q.c (kds (ks.drop (ks.length - r.want.length))) ∨ c = q.f (kds (ks.drop (ks.length - r.want.length)))) ∧
      F_check [.val r.d, q.c (kds (ks.drop (ks.length - r.want.length)))] = match lackK ks r.want with
      | some e => .exc e.x [.val r.d, c]
      | none => .ret (.dd .non) [.val r.d, c] := by
  have hc := check_gen (PR.ck hr) q (ks.drop (ks.length - r.want.length)) (by rw [List.length_drop]; omega)
  rw [hc]
  unfold lackK
  by_cases hf : ks.length < r.want.length
  · rw [if_pos hf, if_pos (by rw [List.length_drop]; omega)]
    exact ⟨_, .inl rfl, rfl⟩
  · have hd : (ks.drop (ks.length - r.want.length)).length = r.want.length := by rw [List.length_drop]; omega
    rw [if_neg hf, if_neg (by rw [hd]; omega)]
    have ft := PR.fits_told hd
    unfold ckT
    cases ht : r.told with
    | none =>
      rw [ht] at ft
      rw [if_pos (ft.mpr trivial)]
      exact ⟨_, .inl rfl, rfl⟩
    | some t =>
      rw [ht] at ft
      by_cases hall : ∀ k ∈ ks.drop (ks.length - r.want.length), k = t
      · simp only [if_pos hall, if_pos (ft.mpr hall)]
        exact ⟨_, .inr rfl, rfl⟩
      · have : ¬ fits r.want (ks.drop (ks.length - r.want.length)) = true := fun z => hall (ft.mp z)
        simp only [if_neg hall, if_neg this]
        exact ⟨_, .inr rfl, rfl⟩
theorem lead_plain_ok {r : PR} (hr : r.ok) (ks : List Kd) (hk : ks.length ≤ 500000) :
    F_lead_plain [.own (kds ks), .val r.d] = match plainK ks r with
      | .ok ks' => .ret (.dd .non) [.own (kds ks'), .val r.d]
      | .error e => .exc e.x [.own (kds ks), .val r.d] := by
  have hW := (PR.ck hr).want
  have hp : (if ((ks.length : Int) - r.want.length) > 0 then ((ks.length : Int) - r.want.length) else 0) = ((ks.length - r.want.length : Nat) : Int) := by
    split <;> omega
  have e1 : cut (kds ks) (some ((ks.length - r.want.length : Nat) : Int)) none = kds (ks.drop (ks.length - r.want.length)) := by
    rw [cut_from _ _ (by omega) (by rw [kds_len]; omega), Int.toNat_natCast, kds_drop]
  obtain ⟨c, hc, ck⟩ := check_lack hr .o ks hk
  unfold Sq.c at ck hc
  unfold Sq.f at hc
  unfold plainK
  cases hl : lackK ks r.want with
  | some e =>
    rw [hl] at ck
    unfold F_lead_plain M_lead_plain
    rcases hc with rfl | rfl <;> simp_arith! [hW, kds_len', hp, e1, ck]
  | none =>
    rw [hl] at ck
    have hf : ¬ ks.length < r.want.length := fun z => by unfold lackK at hl; rw [if_pos z] at hl; cases hl
    have hd : (ks.drop (ks.length - r.want.length)).length = r.want.length := by rw [List.length_drop]; omega
    obtain ⟨c', kp⟩ := kinds_put_ok hr hd c hc
    have kl := plainK_len (ks := ks) (r := r) hr (by unfold plainK; rw [hl])
    have c1 : (0 : Int) ≤ ((ks.length - r.want.length : Nat) : Int) := by omega
    have c2 : (((ks.length - r.want.length : Nat) : Int)).natAbs = ks.length - r.want.length := by omega
    have c3 : ks.length - r.want.length ≤ (kds ks).length := by rw [kds_len]; omega
    have c4 : (kds ks).length + (kds (r.putK (ks.drop (ks.length - r.want.length)))).length ≤ sizeLine := le_sz (by
      rw [List.length_append, List.length_take] at kl
      rw [kds_len, kds_len]; omega)
    have c5 : (kds ks).take (ks.length - r.want.length) ++ kds (r.putK (ks.drop (ks.length - r.want.length))) = kds (ks.take (ks.length - r.want.length) ++ r.putK (ks.drop (ks.length - r.want.length))) := by rw [kds_take, kds_app]
    unfold F_lead_plain M_lead_plain
    rcases hc with rfl | rfl <;> simp_arith! [hW, kds_len', hp, e1, ck, kp, mPutSl, c1, c2, c3, c4, c5, and_self]
theorem PR.at0 (r : PR) : ∃ rest, r.d = .tup (.str r.w :: rest) := by cases r <;> exact ⟨_, rfl⟩
theorem PR.nw (r : PR) : (r.w = Str.ofString "call") = False ∧ (r.w = Str.ofString "if") = False := by
  cases r <;> (unfold PR.w; constructor) <;> first | exact n_num_call | exact n_num_if | exact n_text_call | exact n_text_if | exact n_add_call | exact n_add_if | exact n_mul_call | exact n_mul_if | exact n_less_call | exact n_less_if | exact n_join_call | exact n_join_if | exact n_long_call | exact n_long_if | exact n_show_call | exact n_show_if | exact n_swap_call | exact n_swap_if | exact n_drop_call | exact n_drop_if | exact n_copy_call | exact n_copy_if
/-! ### programs: names, their blocks by ins, outs and what else stands there -/
structure Bk where
  i : List Kd
  o : List Kd
  rest : List D
def Bk.d (b : Bk) : D := .tup (.tup (kds b.i) :: .tup (kds b.o) :: b.rest)
abbrev Pg := List (Str × Bk)
def Pg.ks (p : Pg) : List Key := p.map fun x => .inr x.1
def Pg.vs (p : Pg) : List D := p.map fun x => x.2.d
def Pg.d (p : Pg) : D := .dct (Pg.ks p) (Pg.vs p)
def pc (q : Bool) (p : Pg) : Cell := if q then .ownD (Pg.ks p) (Pg.vs p) else .val (.dct (Pg.ks p) (Pg.vs p))
def look : Pg → Str → Option Bk
  | [], _ => none
  | (n, b) :: p, x => if n = x then some b else look p x
theorem dget_look (x : Str) : ∀ p : Pg, dget (Pg.ks p) (Pg.vs p) (.inr x) = (look p x).map Bk.d
  | [] => rfl
  | (n, b) :: p => by
    show dget (.inr n :: Pg.ks p) (b.d :: Pg.vs p) (.inr x) = _
    unfold dget look
    by_cases h : n = x
    · rw [if_pos (by rw [h]), if_pos h]; rfl
    · rw [if_neg (by intro z; cases z; exact h rfl), if_neg h]; exact dget_look x p
/-- what lead does, by the kinds behind: where it is refused the list is of no more use -/
def leadR (P : Cell) (row : D) (ks2 : List Kd) : Except Er (List Kd) → FR
  | .ok ks' => .ret (.dd .non) [P, .own (kds ks'), .val row]
  | .error e => .exc e.x [P, .own (kds ks2), .val row]
def behR (P : Cell) (row : D) (ks : List Kd) : Except Er (List Kd) → FR
  | .ok ks' => .ret (.dd (.tup (kds ks'))) [P, .val (.tup (kds ks)), .val row]
  | .error e => .exc e.x [P, .val (.tup (kds ks)), .val row]
theorem lead_p {r : PR} (hr : r.ok) (q : Bool) (p : Pg) (ks : List Kd) (hk : ks.length ≤ 500000) :
    F_lead [pc q p, .own (kds ks), .val r.d] = leadR (pc q p) r.d ks (plainK ks r) := by
  have hl := lead_plain_ok hr ks hk
  obtain ⟨rest, hd⟩ := r.at0
  obtain ⟨n1, n2⟩ := r.nw
  have e0 : atI (D.str r.w :: rest) 0 = some (.str r.w) := atI_zero _ _
  rw [hd] at hl ⊢
  cases hp : plainK ks r with
  | ok ks' =>
    rw [hp] at hl
    unfold F_lead M_lead leadR pc
    cases q <;> simp_arith! [e0, n1, n2, hl]
  | error e =>
    rw [hp] at hl
    unfold F_lead M_lead leadR pc
    cases q <;> simp_arith! [e0, n1, n2, hl]



/-! ### values and their kinds -/
def kdOf : D → Kd
  | .str _ => .t
  | _ => .n
theorem kD_kd (d : D) : kD d = kd (kdOf d) := by cases d <;> rfl
theorem kDs (xs : List D) : xs.map kD = kds (xs.map kdOf) := by
  unfold kds; rw [List.map_map]; exact List.map_congr_left fun d _ => kD_kd d
theorem isN {d : D} (h : IsVal d) (e : kdOf d = .n) : ∃ i, d = .int i ∧ 0 ≤ i ∧ i < 1000000000 := by
  cases h with
  | int i h0 h1 => exact ⟨i, rfl, h0, h1⟩
  | str s h => cases e
theorem isT {d : D} (h : IsVal d) (e : kdOf d = .t) : ∃ s, d = .str s ∧ gS s := by
  cases h with
  | int i h0 h1 => cases e
  | str s h => exact ⟨s, rfl, h⟩
theorem two {α : Type} {xs : List α} (h : xs.length = 2) : ∃ a b, xs = [a, b] := by
  match xs, h with
  | [a, b], _ => exact ⟨a, b, rfl⟩
theorem one {α : Type} {xs : List α} (h : xs.length = 1) : ∃ a, xs = [a] := by
  match xs, h with
  | [a], _ => exact ⟨a, rfl⟩
theorem put_ex {r : PR} (hr : r.ok) {tk : List D} (hv : AllV tk) (hl : tk.length = r.want.length) (hf : fits r.want (tk.map kdOf) = true) : ∃ out, Put r.d tk out ∧ out.map kdOf = r.putK (tk.map kdOf) := by
  have i2 : ∀ (a b : D), tk = [a, b] → (some Kd.n, some Kd.n) = (r.want[0]?.join, r.want[1]?.join) → r.want.length = 2 → ∃ i j : Int, a = .int i ∧ b = .int j ∧ 0 ≤ i ∧ i < 1000000000 ∧ 0 ≤ j ∧ j < 1000000000 := fun a b e hw hw2 => by
    subst e
    obtain ⟨w1, w2, ew⟩ := two hw2
    rw [ew] at hf hw
    simp at hw
    obtain ⟨rfl, rfl⟩ := hw
    simp [fits] at hf
    obtain ⟨i, rfl, i0, i1⟩ := isN (hv a (by simp)) hf.1.symm
    obtain ⟨j, rfl, j0, j1⟩ := isN (hv b (by simp)) hf.2.symm
    exact ⟨i, j, rfl, rfl, i0, i1, j0, j1⟩
  cases r with
  | num i =>
    obtain rfl : tk = [] := List.length_eq_zero_iff.mp hl
    exact ⟨_, .num i, rfl⟩
  | text s =>
    obtain rfl : tk = [] := List.length_eq_zero_iff.mp hl
    exact ⟨_, .text s, rfl⟩
  | copy n =>
    have hl : tk.length = n + 1 := by rw [hl]; show (List.replicate (n + 1) none).length = _; rw [List.length_replicate]
    have hn : n ≤ 60 := hr
    match tk, hl with
    | x :: xs, hl => exact ⟨_, .copy (n : Int) x xs (by omega), by simp [PR.putK]⟩
  | add =>
    obtain ⟨a, b, rfl⟩ := two hl
    obtain ⟨i, j, rfl, rfl, _⟩ := i2 a b rfl rfl rfl
    exact ⟨_, .add i j, rfl⟩
  | mul =>
    obtain ⟨a, b, rfl⟩ := two hl
    obtain ⟨i, j, rfl, rfl, i0, i1, _⟩ := i2 a b rfl rfl rfl
    exact ⟨_, .mul i j (.inl ⟨by omega, by omega⟩), rfl⟩
  | less =>
    obtain ⟨a, b, rfl⟩ := two hl
    obtain ⟨i, j, rfl, rfl, _⟩ := i2 a b rfl rfl rfl
    exact ⟨_, .less i j, rfl⟩
  | join =>
    obtain ⟨a, b, rfl⟩ := two hl
    simp [fits, PR.want] at hf
    obtain ⟨i, rfl, i1⟩ := isT (hv a (by simp)) hf.1.symm
    obtain ⟨j, rfl, j1⟩ := isT (hv b (by simp)) hf.2.symm
    exact ⟨_, .join i j i1.1 j1.1, rfl⟩
  | swap =>
    obtain ⟨a, b, rfl⟩ := two hl
    exact ⟨_, .swap a b, rfl⟩
  | long =>
    obtain ⟨a, rfl⟩ := one hl
    simp [fits, PR.want] at hf
    obtain ⟨i, rfl, i1⟩ := isT (hv a (by simp)) hf.symm
    exact ⟨_, .long i i1.1, rfl⟩
  | shw =>
    obtain ⟨a, rfl⟩ := one hl
    simp [fits, PR.want] at hf
    obtain ⟨i, rfl, i0, i1⟩ := isN (hv a (by simp)) hf.symm
    exact ⟨_, .shw i i0 i1, rfl⟩
  | drop =>
    obtain ⟨a, rfl⟩ := one hl
    exact ⟨_, .drop a, rfl⟩
theorem out_ok {r : PR} (hr : r.ok) {tk out : List D} (h : Put r.d tk out) (hv : AllV tk) : AllOk out :=
  (h.ok (fun d hd => (hv d hd).ok) fun s e => by
    cases r with
    | text x => cases e; exact hr.2
    | _ => cases e).1
/-! ### the law's kinds behind a row -/
theorem atI_neg {α : Type} (xs : List α) (m : Nat) (h0 : 0 < m) (h : m ≤ xs.length) : atI xs (-(m : Int)) = xs[xs.length - m]? := by
  unfold atI ixN
  rw [if_neg (by omega), if_pos (by omega), show (-(m : Int) + xs.length).toNat = xs.length - m by omega]
  rfl



def callK (p : Pg) (ks : List Kd) (x : Str) : Except Er (List Kd) := match look p x with
  | none => .error .block
  | some b => if ks.length < b.i.length then .error .empty else if ks.drop (ks.length - b.i.length) = b.i then .ok (ks.take (ks.length - b.i.length) ++ b.o) else .error .kind
def ifK (p : Pg) (ks : List Kd) (a b : Str) : Except Er (List Kd) := match lackK ks [some .n] with
  | some e => .error e
  | none => match look p a, look p b with
    | some x, some y => if x.i = y.i ∧ x.o = y.o then callK p ks.dropLast a else .error .apart
    | _, _ => .error .block
inductive RS where
  | p (r : PR) | call (x : Str) | ife (a b : Str)
def RS.d : RS → D
  | .p r => r.d
  | .call x => .tup [.str "call", .str x]
  | .ife a b => .tup [.str "if", .str a, .str b]
def RS.ok : RS → Prop
  | .p r => r.ok
  | .call x => x.length ≤ 600 ∧ PyData.strOk x = true
  | .ife a b => (a.length ≤ 600 ∧ PyData.strOk a = true) ∧ b.length ≤ 600 ∧ PyData.strOk b = true
def nextK (p : Pg) (ks : List Kd) : RS → Except Er (List Kd)
  | .p r => plainK ks r
  | .call x => callK p ks x
  | .ife a b => ifK p ks a b
/-- the blocks' ins and outs are not too long -/
def PgOk (p : Pg) : Prop := ∀ x b, look p x = some b → b.i.length ≤ 100 ∧ b.o.length ≤ 100
theorem key_str (x : Str) : D.key (.str x) = some (.inr x) := rfl
theorem at_i (b : Bk) : atI (.tup (kds b.i) :: .tup (kds b.o) :: b.rest) 0 = some (.tup (kds b.i)) := atI_zero _ _
theorem at_o (b : Bk) : atI (.tup (kds b.i) :: .tup (kds b.o) :: b.rest) 1 = some (.tup (kds b.o)) := by
  rw [atI_nat _ _ (by decide) (by simp; omega)]; rfl
theorem xb_ok (q : Bool) (p : Pg) (x : Str) (hx : x.length ≤ 600) : X_block_of_1 [pc q p, .val (.str x)] = .exc "NoBlock" [pc q p, .val (.str x)] := by
  obtain ⟨s, hs⟩ := js_all [pc q p, .val (.str x)] [mC (.str "there is no block "), TL.m1 D.fmt (mVar 1)] Str.empty (by decide) (fun m hm => by
    simp only [List.mem_cons, List.not_mem_nil, or_false] at hm
    rcases hm with rfl | rfl
    · exact ⟨_, by decide +kernel, rfl⟩
    · have e3 := js_fmt x (by omega)
      refine ⟨x, by omega, ?_⟩
      unfold pc
      cases q <;> simp_arith [e3])
  unfold X_block_of_1 mRaise
  simp only [hs]
def bkR (P : Cell) (x : Str) : Option Bk → FR
  | some b => .ret (.dd (.tup (.tup (kds b.i) :: .tup (kds b.o) :: b.rest))) [P, .val (.str x)]
  | none => .exc (Str.ofString "NoBlock") [P, .val (.str x)]
theorem pc_t (p : Pg) : pc true p = .ownD (Pg.ks p) (Pg.vs p) := rfl
theorem pc_f (p : Pg) : pc false p = .val (.dct (Pg.ks p) (Pg.vs p)) := rfl
theorem block_of_ok (q : Bool) (p : Pg) (x : Str) (hx : x.length ≤ 600) : F_block_of [pc q p, .val (.str x)] = bkR (pc q p) x (look p x) := by
  have hg := dget_look x p
  have hb := xb_ok q p x hx
  cases hl : look p x with
  | none =>
    rw [hl] at hg
    have hg : dget (Pg.ks p) (Pg.vs p) (.inr x) = none := hg
    unfold F_block_of M_block_of
    cases q
    all_goals
      simp only [bkR, pc_t, pc_f] at hb ⊢
      simp_arith! [hb, oInB, key_str, hg, Option.isSome_none]
  | some b =>
    rw [hl] at hg
    have hg : dget (Pg.ks p) (Pg.vs p) (.inr x) = some b.d := hg
    unfold F_block_of M_block_of
    cases q
    all_goals
      simp only [bkR, pc_t, pc_f]
      simp_arith! [oInB, key_str, hg, Option.isSome_some, Bk.d]
theorem xc1_ok (P : Cell) (ks ins : List Kd) (x : Str) (b p : Cell) (hx : x.length ≤ 600) (hk : ks.length ≤ 500000) (hi : ins.length ≤ 500000) : X_lead_call_1 [P, .own (kds ks), .val (.str x), b, .own (kds ins), p] = .exc "Empty" [P, .own (kds ks), .val (.str x), b, .own (kds ins), p] := by
  obtain ⟨y1, l1, e1⟩ := fmt_int (ins.length : Int) (by omega) (by omega)
  obtain ⟨y2, l2, e2⟩ := fmt_int (ks.length : Int) (by omega) (by omega)
  obtain ⟨s, hs⟩ := js_all [P, .own (kds ks), .val (.str x), b, .own (kds ins), p] [TL.m1 D.fmt (mVar 2), mC (.str " wants "), TL.m1 D.fmt (TL.m1 oLen (mVar 4)), mC (.str " values and there are "), TL.m1 D.fmt (TL.m1 oLen (mVar 1))] Str.empty (by decide) (fun m hm => by
    simp only [List.mem_cons, List.not_mem_nil, or_false] at hm
    rcases hm with rfl | rfl | rfl | rfl | rfl
    · have e3 := js_fmt x (by omega)
      refine ⟨x, by omega, ?_⟩
      simp_arith [e3]
    · exact ⟨_, by decide +kernel, rfl⟩
    · refine ⟨y1, l1, ?_⟩
      simp_arith [kds_len', e1]
    · exact ⟨_, by decide +kernel, rfl⟩
    · refine ⟨y2, l2, ?_⟩
      simp_arith [kds_len', e2])
  unfold X_lead_call_1 mRaise
  simp only [hs]
theorem xc2_ok (P k : Cell) (x : Str) (b i p : Cell) (hx : x.length ≤ 600) : X_lead_call_2 [P, k, .val (.str x), b, i, p] = .exc "WrongKind" [P, k, .val (.str x), b, i, p] := by
  obtain ⟨s, hs⟩ := js_all [P, k, .val (.str x), b, i, p] [TL.m1 D.fmt (mVar 2), mC (.str " takes values of other kinds")] Str.empty (by decide) (fun m hm => by
    simp only [List.mem_cons, List.not_mem_nil, or_false] at hm
    rcases hm with rfl | rfl
    · have e3 := js_fmt x (by omega)
      refine ⟨x, by omega, ?_⟩
      simp_arith [e3]
    · exact ⟨_, by decide +kernel, rfl⟩)
  unfold X_lead_call_2 mRaise
  simp only [hs]
theorem lead_call_ok (q : Bool) (p : Pg) (hp : PgOk p) (ks : List Kd) (hk : ks.length ≤ 500000) (x : Str) (hx : x.length ≤ 600) :
    F_lead_call [pc q p, .own (kds ks), .val (.str x)] = leadR (pc q p) (.str x) ks (callK p ks x) := by
  have hb := block_of_ok q p x hx
  unfold callK
  cases hl : look p x with
  | none =>
    rw [hl] at hb
    unfold F_lead_call M_lead_call
    cases q
    all_goals
      simp only [leadR, Er.x, bkR, pc_t, pc_f] at hb ⊢
      simp_arith! [hb]
  | some b =>
    obtain ⟨hi, ho⟩ := hp x b hl
    rw [hl] at hb
    have a0 := at_i b
    have a1 := at_o b
    have x1 := fun P c1 c2 => xc1_ok P ks b.i x c1 c2 hx hk (by omega)
    have x2 := fun P c1 c2 c3 c4 => xc2_ok P c1 x c2 c3 c4 hx
    by_cases hf : ks.length < b.i.length
    · have hc : (ks.length : Int) - b.i.length < 0 := by omega
      simp only [if_pos hf]
      unfold F_lead_call M_lead_call
      cases q
      all_goals
        simp only [leadR, Er.x, bkR, pc_t, pc_f] at hb ⊢
        simp_arith! [hb, a0, kds_len', hc, x1]
    · have hc : ¬ (ks.length : Int) - b.i.length < 0 := by omega
      have e1 : cut (kds ks) (some ((ks.length : Int) - b.i.length)) none = kds (ks.drop (ks.length - b.i.length)) := by
        rw [cut_from _ _ (by omega) (by rw [kds_len]; omega), show ((ks.length : Int) - b.i.length).toNat = ks.length - b.i.length by omega, kds_drop]
      have hn := oNe_lst (ks.drop (ks.length - b.i.length)) b.i
      by_cases hm : ks.drop (ks.length - b.i.length) = b.i
      · have c1 : (0 : Int) ≤ (ks.length : Int) - b.i.length := by omega
        have c2 : ((ks.length : Int) - b.i.length).natAbs = ks.length - b.i.length := by omega
        have c3 : ks.length - b.i.length ≤ (kds ks).length := by rw [kds_len]; omega
        have c4 : (kds ks).length + (kds b.o).length ≤ sizeLine := le_sz (by rw [kds_len, kds_len]; omega)
        have c5 : (kds ks).take (ks.length - b.i.length) ++ kds b.o = kds (ks.take (ks.length - b.i.length) ++ b.o) := by rw [kds_take, kds_app]
        rw [hm] at hn e1
        simp only [if_neg hf, if_pos hm]
        unfold F_lead_call M_lead_call
        cases q
        all_goals
          simp only [leadR, Er.x, bkR, pc_t, pc_f] at hb ⊢
          simp_arith! [hb, a0, a1, kds_len', hc, e1, hn, mPutSl, c1, c2, c3, c4, c5, and_self]
      · simp only [if_neg hf, if_neg hm]
        unfold F_lead_call M_lead_call
        cases q
        all_goals
          simp only [leadR, Er.x, bkR, pc_t, pc_f] at hb ⊢
          simp_arith! [hb, a0, kds_len', hc, e1, hn, hm, x2]



theorem cut_neg {α : Type} (xs : List α) (m : Nat) (h0 : 0 < m) : cut xs (some (-(m : Int))) none = xs.drop (xs.length - m) := by
  unfold cut HT.sIx
  simp only [if_pos (show -(m : Int) < 0 by omega)]
  have : (max 0 (-(m : Int) + xs.length)).toNat = xs.length - m := by omega
  first
    | (rw [List.take_of_length_le (by simp)]; congr 1; omega)
    | skip
theorem CkIf (a b : Str) : CkRow (RS.ife a b).d (Str.ofString "if") 1 (some .n) := by
  refine ⟨⟨_, rfl⟩, by decide +kernel, ?_, by decide, lT_if⟩
  have e0 : atI [D.str (Str.ofString "if"), D.str a, D.str b] 0 = some (.str "if") := rfl
  unfold RS.d F_wanted M_wanted
  simp_arith! [e0, lW_if]
  rfl
theorem check_if (a b : Str) (ks : List Kd) (hk : ks.length ≤ 500000) : F_check [.val (RS.ife a b).d, .val (.lst (kds (ks.drop (ks.length - 1))))] = match lackK ks [some .n] with
    | some e => .exc e.x [.val (RS.ife a b).d, .val (.lst (kds (ks.drop (ks.length - 1))))]
    | none => .ret (.dd .non) [.val (RS.ife a b).d, .val (.lst (kds (ks.drop (ks.length - 1))))] := by
  have hc := check_gen (CkIf a b) .l (ks.drop (ks.length - 1)) (by rw [List.length_drop]; omega)
  unfold Sq.c Sq.f at hc
  simp only [] at hc
  rw [hc]
  unfold lackK ckT
  by_cases hf : ks.length < 1
  · rw [if_pos (by rw [List.length_drop]; omega)]
    simp only [List.length_cons, List.length_nil, if_pos (show ks.length < 0 + 1 by omega)]
    rfl
  · rw [if_neg (by rw [List.length_drop]; omega)]
    simp only [List.length_cons, List.length_nil, if_neg (show ¬ ks.length < 0 + 1 by omega)]
    obtain ⟨k, hk1⟩ := one (xs := ks.drop (ks.length - 1)) (by rw [List.length_drop]; omega)
    have hk2 : ks.drop (ks.length - (0 + 1)) = [k] := hk1
    simp only [hk1, hk2]
    cases k
    · simp [fits]
    · simp [fits, Er.x]
theorem xi_ok (P k : Cell) (a b : Str) (c d : Cell) (ha : a.length ≤ 600) (hb : b.length ≤ 600) : X_lead_if_1 [P, k, .val (RS.ife a b).d, c, d] = .exc "Apart" [P, k, .val (RS.ife a b).d, c, d] := by
  have e1 : atI [D.str (Str.ofString "if"), D.str a, D.str b] 1 = some (.str a) := rfl
  have e2 : atI [D.str (Str.ofString "if"), D.str a, D.str b] 2 = some (.str b) := rfl
  obtain ⟨s, hs⟩ := js_all [P, k, .val (RS.ife a b).d, c, d] [TL.m1 D.fmt (m2 oIx (mVar 2) (mC (.int 1))), mC (.str " and "), TL.m1 D.fmt (m2 oIx (mVar 2) (mC (.int 2))), mC (.str " do not tell the same ins and outs")] Str.empty (by decide) (fun m hm => by
    simp only [List.mem_cons, List.not_mem_nil, or_false] at hm
    rcases hm with rfl | rfl | rfl | rfl
    · have e3 := js_fmt a (by omega)
      refine ⟨a, by omega, ?_⟩
      unfold RS.d
      simp_arith [e1, e3]
    · exact ⟨_, by decide +kernel, rfl⟩
    · have e3 := js_fmt b (by omega)
      refine ⟨b, by omega, ?_⟩
      unfold RS.d
      simp_arith [e2, e3]
    · exact ⟨_, by decide +kernel, rfl⟩)
  unfold X_lead_if_1 mRaise
  simp only [hs]
theorem lackK_one {ks : List Kd} (h : lackK ks [some .n] = none) : ∃ l, ks = l ++ [.n] := by
  unfold lackK at h
  simp only [List.length_cons, List.length_nil, Nat.zero_add] at h
  by_cases hf : ks.length < 1
  · simp only [if_pos hf] at h; cases h
  · simp only [if_neg hf] at h
    obtain ⟨k, hk⟩ := one (xs := ks.drop (ks.length - 1)) (by rw [List.length_drop]; omega)
    have e : ks = ks.take (ks.length - 1) ++ [k] := by rw [← hk, List.take_append_drop]
    simp only [hk] at h
    cases k with
    | n => exact ⟨_, e⟩
    | t => simp [fits] at h
theorem lead_if_ok (q : Bool) (p : Pg) (hp : PgOk p) (ks : List Kd) (hk : ks.length ≤ 500000) (a b : Str) (ha : a.length ≤ 600) (hb : b.length ≤ 600) :
    ∃ ks2, F_lead_if [pc q p, .own (kds ks), .val (RS.ife a b).d] = leadR (pc q p) (RS.ife a b).d ks2 (ifK p ks a b) := by
  have hck := check_if a b ks hk
  have e1 : cut (kds ks) (some (-1)) none = kds (ks.drop (ks.length - 1)) := by
    have := cut_neg (kds ks) 1 (by decide)
    rw [kds_len, kds_drop] at this
    exact this
  have n1 : oNeg (.int 1) = some (.dd (.int (-1))) := rfl
  have a1 : atI [D.str (Str.ofString "if"), D.str a, D.str b] 1 = some (.str a) := rfl
  have a2 : atI [D.str (Str.ofString "if"), D.str a, D.str b] 2 = some (.str b) := rfl
  have ba := block_of_ok q p a ha
  have bb := block_of_ok q p b hb
  unfold ifK
  cases hl : lackK ks [some .n] with
  | some e =>
    rw [hl] at hck
    refine ⟨ks, ?_⟩
    unfold F_lead_if M_lead_if
    cases q
    all_goals
      simp only [leadR, RS.d, pc_t, pc_f] at hck ⊢
      simp_arith! [e1, n1, hck]
  | none =>
    rw [hl] at hck
    obtain ⟨l, rfl⟩ := lackK_one hl
    cases hx : look p a with
    | none =>
      rw [hx] at ba
      refine ⟨l ++ [.n], ?_⟩
      unfold F_lead_if M_lead_if
      cases q
      all_goals
        simp only [leadR, RS.d, bkR, Er.x, pc_t, pc_f] at hck ba ⊢
        simp_arith! [e1, n1, hck, a1, ba]
    | some x =>
      rw [hx] at ba
      cases hy : look p b with
      | none =>
        rw [hy] at bb
        refine ⟨l ++ [.n], ?_⟩
        unfold F_lead_if M_lead_if
        cases q
        all_goals
          simp only [leadR, RS.d, bkR, Er.x, pc_t, pc_f] at hck ba bb ⊢
          simp_arith! [e1, n1, hck, a1, a2, ba, bb]
      | some y =>
        rw [hy] at bb
        have x0 := at_i x
        have x1 := at_o x
        have y0 := at_i y
        have y1 := at_o y
        have t0 := oNe_tup x.i y.i
        have t1 := oNe_tup x.o y.o
        have hx2 := fun c d => xi_ok (pc q p) (.own (kds (l ++ [.n]))) a b c d ha hb
        have hlc := lead_call_ok q p hp l (by simp at hk; omega) a ha
        have g1 : (kds (l ++ [.n])).getLast? = some (kd .n) := by rw [kds_app]; simp [kds]
        have g2 : (kds (l ++ [.n])).dropLast = kds l := by rw [kds_app]; simp [kds]
        have g3 : (l ++ [Kd.n]).dropLast = l := by simp
        by_cases h1 : x.i = y.i
        · by_cases h2 : x.o = y.o
          · simp only [if_pos (And.intro h1 h2)]
            have t0 : oNe (.tup (kds x.i)) (.tup (kds y.i)) = some (.dd (.bl false)) := by rw [t0]; simp [h1]
            have t1 : oNe (.tup (kds x.o)) (.tup (kds y.o)) = some (.dd (.bl false)) := by rw [t1]; simp [h2]
            refine ⟨l, ?_⟩
            rw [g3]
            unfold F_lead_if M_lead_if
            cases hr : callK p l a with
            | ok ks' =>
              rw [hr] at hlc
              cases q
              all_goals
                simp only [leadR, RS.d, bkR, Er.x, pc_t, pc_f] at hck ba bb hlc ⊢
                simp_arith! [e1, n1, hck, a1, a2, ba, bb, x0, x1, y0, y1, t0, t1, g1, g2, hlc]
            | error e =>
              rw [hr] at hlc
              cases q
              all_goals
                simp only [leadR, RS.d, bkR, pc_t, pc_f] at hck ba bb hlc ⊢
                simp_arith! [e1, n1, hck, a1, a2, ba, bb, x0, x1, y0, y1, t0, t1, g1, g2, hlc]
          · simp only [if_neg (fun z : x.i = y.i ∧ x.o = y.o => h2 z.2)]
            have t0 : oNe (.tup (kds x.i)) (.tup (kds y.i)) = some (.dd (.bl false)) := by rw [t0]; simp [h1]
            have t1 : oNe (.tup (kds x.o)) (.tup (kds y.o)) = some (.dd (.bl true)) := by rw [t1]; simp [h2]
            refine ⟨l ++ [.n], ?_⟩
            unfold F_lead_if M_lead_if
            cases q
            all_goals
              simp only [leadR, RS.d, bkR, Er.x, pc_t, pc_f] at hck ba bb hx2 ⊢
              simp_arith! [e1, n1, hck, a1, a2, ba, bb, x0, x1, y0, y1, t0, t1, hx2]
        · simp only [if_neg (fun z : x.i = y.i ∧ x.o = y.o => h1 z.1)]
          refine ⟨l ++ [.n], ?_⟩
          unfold F_lead_if M_lead_if
          cases q
          all_goals
            simp only [leadR, RS.d, bkR, Er.x, pc_t, pc_f] at hck ba bb hx2 ⊢
            simp_arith! [e1, n1, hck, a1, a2, ba, bb, x0, x1, y0, y1, t0, t1, h1, hx2]
/-- lead, by any row -/
theorem lead_ok (q : Bool) (p : Pg) (hp : PgOk p) (ks : List Kd) (hk : ks.length ≤ 500000) (r : RS) (hr : r.ok) :
    ∃ ks2, F_lead [pc q p, .own (kds ks), .val r.d] = leadR (pc q p) r.d ks2 (nextK p ks r) := by
  cases r with
  | p r => exact ⟨ks, lead_p hr q p ks hk⟩
  | call x =>
    have h := lead_call_ok q p hp ks hk x hr.1
    refine ⟨ks, ?_⟩
    have a0 : atI [D.str (Str.ofString "call"), D.str x] 0 = some (.str "call") := rfl
    have a1 : atI [D.str (Str.ofString "call"), D.str x] 1 = some (.str x) := rfl
    rw [show nextK p ks (.call x) = callK p ks x from rfl]
    unfold F_lead M_lead
    cases hc : callK p ks x with
    | ok ks' =>
      rw [hc] at h
      cases q
      all_goals
        simp only [leadR, RS.d, pc_t, pc_f] at h ⊢
        simp_arith! [a0, a1, h]
    | error e =>
      rw [hc] at h
      cases q
      all_goals
        simp only [leadR, RS.d, pc_t, pc_f] at h ⊢
        simp_arith! [a0, a1, h]
  | ife a b =>
    obtain ⟨ks2, h⟩ := lead_if_ok q p hp ks hk a b hr.1.1 hr.2.1
    refine ⟨ks2, ?_⟩
    have a0 : atI [D.str (Str.ofString "if"), D.str a, D.str b] 0 = some (.str "if") := rfl
    rw [show nextK p ks (.ife a b) = ifK p ks a b from rfl]
    unfold F_lead M_lead
    cases hc : ifK p ks a b with
    | ok ks' =>
      rw [hc] at h
      cases q
      all_goals
        simp only [leadR, RS.d, pc_t, pc_f] at h ⊢
        simp_arith! [a0, h]
    | error e =>
      rw [hc] at h
      cases q
      all_goals
        simp only [leadR, RS.d, pc_t, pc_f] at h ⊢
        simp_arith! [a0, h]



/-! ### the law's own kinds behind a row -/
def wordOf : Except Er (List Kd) → Str
  | .ok _ => Str.ofString ""
  | .error e => e.w
theorem fits_some : ∀ (W tk : List Kd), W.length = tk.length → fits (W.map some) tk = decide (tk = W)
  | [], [], _ => rfl
  | [], _ :: _, h => by simp at h
  | _ :: _, [], h => by simp at h
  | w :: W, k :: tk, h => by
    have ih := fits_some W tk (by simpa using h)
    show (decide (w = k) && fits (W.map some) tk) = _
    rw [ih]
    by_cases h1 : w = k
    · subst h1; simp
    · simp [h1, Ne.symm h1]
theorem lack_ins (ks ins : List Kd) : lackK ks (ins.map some) = if ks.length < ins.length then some .empty else if ks.drop (ks.length - ins.length) = ins then none else some .kind := by
  unfold lackK
  rw [List.length_map]
  by_cases hf : ks.length < ins.length
  · rw [if_pos hf, if_pos hf]
  · rw [if_neg hf, if_neg hf, fits_some _ _ (by rw [List.length_drop]; omega)]
    by_cases h : ks.drop (ks.length - ins.length) = ins <;> simp [h]
theorem wD_some (ins : List Kd) : (ins.map some).map wD = kds ins := by rw [List.map_map]; rfl
theorem lc_t (xs : List D) : lc true xs = .own xs := rfl
theorem lc_f (xs : List D) : lc false xs = .val (.lst xs) := rfl
def nxR (P : Cell) (k : Cell) (r : D) (w : Str) (ks : List Kd) : FR := .ret (.dd (.tup [.str w, .lst (kds ks)])) [P, k, .val r]
theorem Er.ne (e : Er) : (e.w = Str.ofString "") = False := by cases e <;> first | exact n_empty_e | exact n_kind_e | exact n_block_e | exact n_apart_e



/-! ### what the laws make: kinds, names, dicts by names -/
theorem pickK (v : Int) (h0 : 0 ≤ v) (h1 : v < 2) : ∃ k : Kd, atI [D.str (Str.ofString "num"), D.str (Str.ofString "text")] v = some (kd k) := by
  have : v = 0 ∨ v = 1 := by omega
  rcases this with rfl | rfl
  · exact ⟨.n, rfl⟩
  · exact ⟨.t, rfl⟩
/-- a name that the laws make -/
def NmOk (x : Str) : Prop := 0 < x.length ∧ x.length ≤ 200 ∧ PyData.strOk x = true
def put : Pg → Str → Bk → Pg
  | [], x, b => [(x, b)]
  | (n, c) :: p, x, b => if n = x then (n, b) :: p else (n, c) :: put p x b
theorem put_d (x : Str) (b : Bk) : ∀ p : Pg, dput (Pg.ks p) (Pg.vs p) (.inr x) b.d = (Pg.ks (put p x b), Pg.vs (put p x b))
  | [] => rfl
  | (n, c) :: p => by
    show dput (.inr n :: Pg.ks p) (c.d :: Pg.vs p) (.inr x) b.d = _
    unfold dput put
    by_cases h : n = x
    · rw [if_pos (by rw [h]), if_pos h]; rfl
    · rw [if_neg (by intro z; cases z; exact h rfl), if_neg h, put_d x b p]; rfl
theorem put_mem {p : Pg} {x : Str} {b : Bk} {e : Str × Bk} (h : e ∈ put p x b) : e ∈ p ∨ e = (x, b) := by
  induction p with
  | nil => simp [put] at h; exact .inr h
  | cons a p ih =>
    obtain ⟨n, c⟩ := a
    unfold put at h
    by_cases hn : n = x
    · rw [if_pos hn] at h
      rcases List.mem_cons.mp h with h | h
      · subst hn; exact .inr h
      · exact .inl (List.mem_cons_of_mem _ h)
    · rw [if_neg hn] at h
      rcases List.mem_cons.mp h with h | h
      · exact .inl (by rw [h]; exact List.mem_cons_self)
      · rcases ih h with h | h
        · exact .inl (List.mem_cons_of_mem _ h)
        · exact .inr h
theorem put_keys {x : Str} {b : Bk} : ∀ {p : Pg}, (put p x b).map (·.1) = if x ∈ p.map (·.1) then p.map (·.1) else p.map (·.1) ++ [x]
  | [] => by simp [put]
  | (n, c) :: p => by
    unfold put
    by_cases h : n = x
    · rw [if_pos h]; subst h; simp
    · rw [if_neg h, List.map_cons, put_keys (p := p)]
      have : ¬ x = n := fun z => h z.symm
      by_cases hm : x ∈ p.map (·.1)
      · rw [if_pos hm, if_pos (by simp only [List.map_cons]; exact List.mem_cons_of_mem _ hm)]; rfl
      · rw [if_neg hm, if_neg (by simp only [List.map_cons, List.mem_cons, not_or]; exact ⟨this, hm⟩)]; rfl
theorem put_nodup {p : Pg} {x : Str} {b : Bk} (h : (p.map (·.1)).Nodup) : ((put p x b).map (·.1)).Nodup := by
  rw [put_keys]
  by_cases hm : x ∈ p.map (·.1)
  · rw [if_pos hm]; exact h
  · rw [if_neg hm, List.nodup_append]
    exact ⟨h, by simp, fun a ha c hc => by simp at hc; subst hc; exact fun z => hm (z ▸ ha)⟩
theorem put_len {p : Pg} {x : Str} {b : Bk} : (put p x b).length ≤ p.length + 1 := by
  have := congrArg List.length (put_keys (x := x) (b := b) (p := p))
  rw [List.length_map] at this
  rw [this]
  split
  · rw [List.length_map]; omega
  · simp
theorem put_pos {p : Pg} {x : Str} {b : Bk} : 0 < (put p x b).length := by
  cases p with
  | nil => simp [put]
  | cons a p => obtain ⟨n, c⟩ := a; unfold put; split <;> simp
theorem look_mem {p : Pg} {x : Str} {b : Bk} (h : look p x = some b) : (x, b) ∈ p := by
  induction p with
  | nil => cases h
  | cons a p ih =>
    obtain ⟨n, c⟩ := a
    unfold look at h
    by_cases hn : n = x
    · rw [if_pos hn] at h; cases h; subst hn; exact List.mem_cons_self
    · rw [if_neg hn] at h; exact List.mem_cons_of_mem _ (ih h)
theorem mem_look {p : Pg} {x : Str} {b : Bk} (hn : (p.map (·.1)).Nodup) (h : (x, b) ∈ p) : look p x = some b := by
  induction p with
  | nil => cases h
  | cons a p ih =>
    obtain ⟨n, c⟩ := a
    unfold look
    rcases List.mem_cons.mp h with h | h
    · cases h; rw [if_pos rfl]
    · have : n ≠ x := fun z => by
        subst z
        have hm : (n, b).1 ∈ p.map Prod.fst := List.mem_map_of_mem h
        exact (List.nodup_cons.mp hn).1 hm
      rw [if_neg this]
      exact ih (List.nodup_cons.mp hn).2 h
theorem ks_len (p : Pg) : (Pg.ks p).length = p.length := List.length_map ..
theorem ks_D (p : Pg) : (Pg.ks p).map keyD = (p.map (·.1)).map D.str := by unfold Pg.ks; rw [List.map_map, List.map_map]; rfl
/-- one of a list, by a number drawn -/
theorem pickL {α : Type} (xs : List α) (v : Int) (h0 : 0 ≤ v) (h1 : 0 < xs.length) : ∃ x ∈ xs, atI xs (v % (xs.length : Int)) = some x := by
  obtain ⟨x, h2, h3⟩ := atI_lt xs (v % (xs.length : Int)) (Int.emod_nonneg _ (by omega)) (Int.emod_lt_of_pos _ (by omega))
  exact ⟨x, h2, h3⟩
theorem letters (k : Nat) (h : k < 12) : ∃ c : Nat, atI (Str.ofString "abcdefghijkl").cps.toList (k : Int) = some c ∧ PyData.strOk ⟨#[c]⟩ = true := by
  have : (Str.ofString "abcdefghijkl").cps.toList.length = 12 := by decide +kernel
  obtain ⟨c, h2, h3⟩ := atI_lt (Str.ofString "abcdefghijkl").cps.toList (k : Int) (by omega) (by omega)
  exact ⟨c, h3, strOk_of fun x hx => by simp at hx; subst hx; exact strOk_mem (strOk_ofString "abcdefghijkl") _ h2⟩
theorem letters_sz : (Str.ofString "abcdefghijkl").length ≤ sizeLine := by decide +kernel
theorem one_len (c : Nat) : (⟨#[c]⟩ : Str).length = 1 := rfl
theorem oAdd_str {a b : Str} (h : a.length + b.length ≤ 1000) : a.length + b.length ≤ sizeLine := le_sz (by omega)



/-! ### a dict of blocks is like itself; a name with a sign exchanged -/
structure PyR (rest : List D) : Prop where
  ex : ∃ ps, pyL rest = some ps ∧ PyData.canLayAll0 ps = true ∧ PyData.depthAll ps ≤ 10
theorem PyR.bk {b : Bk} (h : PyR b.rest) : ∃ q, D.py b.d = some q ∧ SeqAt.shaped q = true := by
  obtain ⟨ps, h1, h2, h3⟩ := h.ex
  obtain ⟨i1, i2⟩ := lay_kds b.i
  obtain ⟨o1, o2⟩ := lay_kds b.o
  refine ⟨.tuple (.tuple (b.i.map kpy) :: .tuple (b.o.map kpy) :: ps), ?_, ?_⟩
  · unfold Bk.d D.py pyL
    rw [py_tup]
    unfold pyL
    rw [py_tup, h1]
    rfl
  · simp only [SeqAt.shaped, PyData.canLay0, PyData.canLayAll0, i1, o1, h2, PyData.depth, PyData.depthAll, i2, o2, Bool.and_self, Bool.true_and, decide_eq_true_eq]
    omega
theorem vs_py : ∀ {p : Pg}, (∀ e ∈ p, PyR e.2.rest) → ∃ qs, pyL (Pg.vs p) = some qs ∧ ∀ q ∈ qs, SeqAt.shaped q = true
  | [], _ => ⟨[], rfl, fun q h => by cases h⟩
  | (n, b) :: p, h => by
    obtain ⟨qs, h1, h2⟩ := vs_py (p := p) fun e he => h e (List.mem_cons_of_mem _ he)
    obtain ⟨q, h3, h4⟩ := PyR.bk (b := b) (h (n, b) List.mem_cons_self)
    refine ⟨q :: qs, ?_, fun x hx => ?_⟩
    · show pyL (b.d :: Pg.vs p) = _
      unfold pyL; rw [h3, h1]
    · rcases List.mem_cons.mp hx with rfl | hx
      · exact h4
      · exact h2 x hx
theorem eqK_self {p : Pg} (h : ∀ e ∈ p, PyR e.2.rest) (r : Bool) : oEqK r (.dct (Pg.ks p) (Pg.vs p)) (.dct (Pg.ks p) (Pg.vs p)) = some (.dd (.bl r)) := by
  obtain ⟨qs, h1, h2⟩ := vs_py h
  show (if Pg.ks p = Pg.ks p ∧ eqKB (Pg.vs p) (Pg.vs p) = true then _ else _) = _
  rw [if_pos ⟨rfl, eqKB_same h1 h2⟩]
theorem put_new {x : Str} {b : Bk} : ∀ {p : Pg}, x ∉ p.map (·.1) → put p x b = p ++ [(x, b)]
  | [], _ => rfl
  | (n, c) :: p, h => by
    unfold put
    simp only [List.map_cons, List.mem_cons, not_or] at h
    rw [if_neg fun z => h.1 z.symm, put_new h.2]; rfl
theorem put_same {x : Str} {b : Bk} : ∀ {p : Pg}, look p x = some b → put p x b = p
  | [], h => by cases h
  | (n, c) :: p, h => by
    unfold look at h
    unfold put
    by_cases hn : n = x
    · rw [if_pos hn] at h ⊢; cases h; rfl
    · rw [if_neg hn] at h ⊢; rw [put_same h]
theorem cutS_len (s : Str) (lo hi : Option Int) : (cutS s lo hi).length ≤ s.length := by
  unfold cutS Str.length
  rw [List.size_toArray, ← Array.length_toList (xs := s.cps)]
  rw [List.length_take, List.length_drop]
  omega



/-! ### blocks with rows; the kinds ahead of each row -/
structure TBk where
  i : List Kd
  o : List Kd
  rs : List RS
def TBk.b (t : TBk) : Bk := ⟨t.i, t.o, [.lst (t.rs.map RS.d)]⟩
structure TBk.ok (t : TBk) : Prop where
  li : t.i.length ≤ 100
  lo : t.o.length ≤ 100
  lr : t.rs.length ≤ 3900
  rk : ∀ r ∈ t.rs, r.ok
abbrev PT := List (Str × TBk)
def PT.p (P : PT) : Pg := P.map fun x => (x.1, x.2.b)
def lookT : PT → Str → Option TBk
  | [], _ => none
  | (n, b) :: p, x => if n = x then some b else lookT p x
theorem look_p (x : Str) : ∀ P : PT, look (PT.p P) x = (lookT P x).map TBk.b
  | [] => rfl
  | (n, b) :: P => by
    show look ((n, b.b) :: PT.p P) x = _
    unfold look lookT
    by_cases h : n = x
    · rw [if_pos h, if_pos h]; rfl
    · rw [if_neg h, if_neg h]; exact look_p x P
structure PTok (P : PT) : Prop where
  nd : (P.map (·.1)).Nodup
  bl : ∀ e ∈ P, NmOk e.1 ∧ e.2.ok
  ln : P.length ≤ 100
theorem lookT_mem {P : PT} {x : Str} {b : TBk} (h : lookT P x = some b) : (x, b) ∈ P := by
  induction P with
  | nil => cases h
  | cons a p ih =>
    obtain ⟨n, c⟩ := a
    unfold lookT at h
    by_cases hn : n = x
    · rw [if_pos hn] at h; cases h; subst hn; exact List.mem_cons_self
    · rw [if_neg hn] at h; exact List.mem_cons_of_mem _ (ih h)
theorem mem_lookT {P : PT} {x : Str} {b : TBk} (hn : (P.map (·.1)).Nodup) (h : (x, b) ∈ P) : lookT P x = some b := by
  induction P with
  | nil => cases h
  | cons a p ih =>
    obtain ⟨n, c⟩ := a
    unfold lookT
    rcases List.mem_cons.mp h with h | h
    · cases h; rw [if_pos rfl]
    · have : n ≠ x := fun z => by
        subst z
        have hm : (n, b).1 ∈ p.map Prod.fst := List.mem_map_of_mem h
        exact (List.nodup_cons.mp hn).1 hm
      rw [if_neg this]
      exact ih (List.nodup_cons.mp hn).2 h
theorem PTok.pg {P : PT} (h : PTok P) : PgOk (PT.p P) := fun x b hl => by
  rw [look_p] at hl
  obtain ⟨t, h1, rfl⟩ := Option.map_eq_some_iff.mp hl
  obtain ⟨_, h2⟩ := h.bl _ (lookT_mem h1)
  exact ⟨h2.li, h2.lo⟩
theorem p_keys (P : PT) : (PT.p P).map (·.1) = P.map (·.1) := by unfold PT.p; rw [List.map_map]; rfl
theorem p_len (P : PT) : (PT.p P).length = P.length := List.length_map ..
def walkK (p : Pg) : List Kd → List RS → List (List Kd) × Option Er
  | ks, [] => ([ks], none)
  | ks, r :: rs => match nextK p ks r with
    | .error e => ([ks], some e)
    | .ok ks' => (ks :: (walkK p ks' rs).1, (walkK p ks' rs).2)
theorem walk_ne (p : Pg) (ks : List Kd) (rs : List RS) : (walkK p ks rs).1 ≠ [] := by
  cases rs with
  | nil => simp [walkK]
  | cons r rs => unfold walkK; cases nextK p ks r <;> simp
/-- the last kinds -/
def lastK (t : List (List Kd)) : List Kd := t.getLast?.getD []
theorem last_cons (ks : List Kd) {t : List (List Kd)} (h : t ≠ []) : lastK (ks :: t) = lastK t := by
  unfold lastK; rw [List.getLast?_cons]
  cases hg : t.getLast? with
  | none => rw [List.getLast?_eq_none_iff] at hg; exact (h hg).elim
  | some x => rfl
theorem walk_len (p : Pg) : ∀ (rs : List RS) (ks : List Kd), (walkK p ks rs).2 = none → (walkK p ks rs).1.length = rs.length + 1
  | [], ks, _ => rfl
  | r :: rs, ks, h => by
    unfold walkK at h ⊢
    cases hn : nextK p ks r with
    | error e => rw [hn] at h; cases h
    | ok ks' => rw [hn] at h; simp only at h ⊢; rw [List.length_cons, walk_len p rs ks' h, List.length_cons]
theorem walk_le (p : Pg) : ∀ (rs : List RS) (ks : List Kd), (walkK p ks rs).1.length ≤ rs.length + 1
  | [], ks => by simp [walkK]
  | r :: rs, ks => by
    unfold walkK
    cases hn : nextK p ks r with
    | error e => simp
    | ok ks' => simp only [List.length_cons]; have := walk_le p rs ks'; omega
theorem callK_len {p : Pg} (hp : PgOk p) {ks ks' : List Kd} {x : Str} (h : callK p ks x = .ok ks') : ks'.length ≤ ks.length + 100 := by
  unfold callK at h
  cases hy : look p x with
  | none => rw [hy] at h; cases h
  | some b =>
    rw [hy] at h
    have := (hp x b hy).2
    by_cases h1 : ks.length < b.i.length
    · simp only [if_pos h1] at h; cases h
    · by_cases h2 : ks.drop (ks.length - b.i.length) = b.i
      · simp only [if_neg h1, if_pos h2, Except.ok.injEq] at h
        subst h
        rw [List.length_append, List.length_take]; omega
      · simp only [if_neg h1, if_neg h2] at h; cases h
theorem nextK_len {p : Pg} (hp : PgOk p) {ks ks' : List Kd} {r : RS} (hr : r.ok) (h : nextK p ks r = .ok ks') : ks'.length ≤ ks.length + 100 := by
  cases r with
  | p r => have := plainK_len hr h; omega
  | call x => exact callK_len hp h
  | ife a b =>
    have h : ifK p ks a b = .ok ks' := h
    unfold ifK at h
    cases hl : lackK ks [some .n] with
    | some e => rw [hl] at h; cases h
    | none =>
      rw [hl] at h
      cases hx : look p a with
      | none => rw [hx] at h; cases h
      | some bx =>
        cases hy : look p b with
        | none => rw [hx, hy] at h; cases h
        | some by' =>
          simp only [hx, hy] at h
          by_cases hio : bx.i = by'.i ∧ bx.o = by'.o
          · rw [if_pos hio] at h
            have := callK_len hp h
            simp only [List.length_dropLast] at this
            omega
          · rw [if_neg hio] at h; cases h
/-- a block's fault -/
def faultW (p : Pg) (t : TBk) : Option Str := match (walkK p t.i t.rs).2 with
  | some e => some e.w
  | none => if lastK (walkK p t.i t.rs).1 = t.o then none else some (Str.ofString "end")
def faultP (p : Pg) (t : TBk) : Nat := (walkK p t.i t.rs).1.length - 1
def faultD (p : Pg) (t : TBk) : D := match faultW p t with
  | some w => .tup [.int (faultP p t : Nat), .str w]
  | none => .non
def tupk (ks : List Kd) : D := .tup (kds ks)



/-! the program's -/
theorem refusal_ok (q : Bool) (p : Pg) (hp : PgOk p) (ks : List Kd) (hk : ks.length ≤ 500000) (r : RS) (hr : r.ok) :
    ∃ ks2, F_refusal [pc q p, .own (kds ks), .val r.d] = .ret (.dd (match nextK p ks r with | .ok _ => .non | .error e => .str e.w)) [pc q p, .own (kds ks2), .val r.d] ∧ ∀ ks', nextK p ks r = .ok ks' → ks2 = ks' := by
  obtain ⟨ks2, h⟩ := lead_ok q p hp ks hk r hr
  cases hn : nextK p ks r with
  | ok ks' =>
    rw [hn] at h
    refine ⟨ks', ?_, fun k z => by cases z; rfl⟩
    unfold F_refusal M_refusal
    cases q
    all_goals
      simp only [leadR, pc_t, pc_f] at h ⊢
      simp_arith! [h]
  | error e =>
    rw [hn] at h
    refine ⟨ks2, ?_, fun k z => by cases z⟩
    unfold F_refusal M_refusal
    cases e <;> cases q
    all_goals
      simp only [leadR, pc_t, pc_f, Er.x, Er.w] at h ⊢
      simp_arith! [h]
theorem fault_loop (q : Bool) (p : Pg) (hp : PgOk p) (x ins outs rows : Cell) : ∀ (rs : List RS) (n : Nat) (ks : List Kd) (c6 c7 c8 : Cell), (∀ r ∈ rs, r.ok) → ks.length + 100 * rs.length ≤ 500000 →
    ∃ (ks2 : List Kd) (d6 d7 d8 : Cell), mLoop (mgSeq [6, 7]) B_fault_1 (enumD n (rs.map RS.d)) [pc q p, x, ins, outs, rows, .own (kds ks), c6, c7, c8] = match (walkK p ks rs).2 with
      | some e => .ret (.dd (.tup [.int ((n + ((walkK p ks rs).1.length - 1) : Nat) : Int), .str e.w])) [pc q p, x, ins, outs, rows, .own (kds ks2), d6, d7, d8]
      | none => .nx [pc q p, x, ins, outs, rows, .own (kds (lastK (walkK p ks rs).1)), d6, d7, d8]
  | [], n, ks, c6, c7, c8, _, _ => ⟨ks, c6, c7, c8, rfl⟩
  | r :: rs, n, ks, c6, c7, c8, hr, hl => by
    simp only [List.length_cons] at hl
    obtain ⟨ks2, h1, h2⟩ := refusal_ok q p hp ks (by omega) r (hr r List.mem_cons_self)
    have hz : ∀ w : Str, oIsN true (.str w) .non = some (.dd (.bl true)) := fun _ => rfl
    have hz2 : oIsN true .non .non = some (.dd (.bl false)) := rfl
    unfold walkK
    cases hn : nextK p ks r with
    | error e =>
      rw [hn] at h1
      refine ⟨ks2, .val (.int n), .val r.d, .val (.str e.w), ?_⟩
      show mLoop _ _ (D.tup [.int n, r.d] :: enumD (n + 1) (rs.map RS.d)) _ = _
      refine mLoop_ret (ρ1 := [pc q p, x, ins, outs, rows, .own (kds ks), .val (.int n), .val r.d, c8]) (by simp_arith [mgSeq, D.items, setAll]) ?_
      unfold B_fault_1
      cases q
      all_goals
        simp only [pc_t, pc_f] at h1 ⊢
        simp_arith! [h1, hz]
        rfl
    | ok ks' =>
      rw [hn] at h1
      obtain rfl := h2 ks' hn
      have hl2 := nextK_len hp (hr r List.mem_cons_self) hn
      obtain ⟨ks3, d6, d7, d8, ih⟩ := fault_loop q p hp x ins outs rows rs (n + 1) ks2 (.val (.int n)) (.val r.d) (.val .non) (fun y hy => hr y (List.mem_cons_of_mem _ hy)) (by omega)
      refine ⟨ks3, d6, d7, d8, ?_⟩
      show mLoop _ _ (D.tup [.int n, r.d] :: enumD (n + 1) (rs.map RS.d)) _ = _
      rw [mLoop_nx (ρ1 := [pc q p, x, ins, outs, rows, .own (kds ks), .val (.int n), .val r.d, c8]) (ρ2 := [pc q p, x, ins, outs, rows, .own (kds ks2), .val (.int n), .val r.d, .val .non]) (by simp_arith [mgSeq, D.items, setAll]) (by
        unfold B_fault_1
        cases q
        all_goals
          simp only [pc_t, pc_f] at h1 ⊢
          simp_arith! [h1, hz2]), ih]
      have wn := walk_ne p ks2 rs
      cases hw : (walkK p ks2 rs).2 with
      | none => simp only; rw [last_cons _ wn]
      | some e =>
        simp only [List.length_cons]
        have : 0 < (walkK p ks2 rs).1.length := List.length_pos_iff.mpr wn
        rw [show n + 1 + ((walkK p ks2 rs).1.length - 1) = n + ((walkK p ks2 rs).1.length + 1 - 1) by omega]
theorem fault_ok (q : Bool) (p : Pg) (hp : PgOk p) (x : Str) (hx : x.length ≤ 600) (t : TBk) (ht : t.ok) (hl : look p x = some t.b) : F_fault [pc q p, .val (.str x)] = .ret (.dd (faultD p t)) [pc q p, .val (.str x)] := by
  have hb := block_of_ok q p x hx
  rw [hl] at hb
  obtain ⟨ks2, d6, d7, d8, hL⟩ := fault_loop q p hp (.val (.str x)) (.val (tupk t.i)) (.val (tupk t.o)) (.val (.lst (t.rs.map RS.d))) t.rs 0 t.i .no .no .no ht.rk (by have := ht.li; have := ht.lr; omega)
  have hbr : bkR (pc q p) x (some t.b) = .ret (.dd (.tup [tupk t.i, tupk t.o, .lst (t.rs.map RS.d)])) [pc q p, .val (.str x)] := rfl
  rw [hbr] at hb
  have le : (t.rs.map RS.d).length = t.rs.length := List.length_map ..
  have s1 : mAsgG (mgSeq [2, 3, 4]) (mCall 2 F_block_of [.nm 0, .nm 1]) [pc q p, .val (.str x), .no, .no, .no, .no, .no, .no, .no] = .nx [pc q p, .val (.str x), .val (tupk t.i), .val (tupk t.o), .val (.lst (t.rs.map RS.d)), .no, .no, .no, .no] := by
    cases q
    all_goals
      simp only [pc_t, pc_f] at hb ⊢
      simp_arith! [hb]
  have s2 : mAsg 5 (TL.m1 oList (mVar 2)) [pc q p, .val (.str x), .val (tupk t.i), .val (tupk t.o), .val (.lst (t.rs.map RS.d)), .no, .no, .no, .no] = .nx [pc q p, .val (.str x), .val (tupk t.i), .val (tupk t.o), .val (.lst (t.rs.map RS.d)), .own (kds t.i), .no, .no, .no] := by
    unfold tupk; simp_arith! []
  have s3 := mFor_ok (f := mgSeq [6, 7]) (mb := B_fault_1) (mi := miEnum (mVar 4)) (ds := enumD 0 (t.rs.map RS.d)) (ρ := [pc q p, .val (.str x), .val (tupk t.i), .val (tupk t.o), .val (.lst (t.rs.map RS.d)), .own (kds t.i), .no, .no, .no]) (ρ1 := [pc q p, .val (.str x), .val (tupk t.i), .val (tupk t.o), .val (.lst (t.rs.map RS.d)), .own (kds t.i), .no, .no, .no]) (by unfold miEnum; simp_arith! [])
  rw [hL] at s3
  unfold faultD faultW faultP
  unfold F_fault M_fault mkF
  simp only [pad, List.length_cons, List.length_nil, List.replicate, Nat.reduceAdd, Nat.reduceSub, List.cons_append, List.nil_append]
  rw [mSeq_nx s1, mSeq_nx s2]
  cases hw : (walkK p t.i t.rs).2 with
  | some e =>
    rw [hw] at s3
    simp only at s3
    have : ∀ k : MS, mSeq (mFor (miEnum (mVar 4)) (mgSeq [6, 7]) B_fault_1) k [pc q p, .val (.str x), .val (tupk t.i), .val (tupk t.o), .val (.lst (t.rs.map RS.d)), .own (kds t.i), .no, .no, .no] = _ := fun k => by unfold mSeq; rw [s3]
    rw [this]
    simp only [Nat.zero_add]
    cases q <;> rfl
  | none =>
    rw [hw] at s3
    simp only at s3
    rw [mSeq_nx s3]
    have wl := walk_len p t.rs t.i hw
    have hn := oNe_tup (lastK (walkK p t.i t.rs).1) t.o
    by_cases ho : lastK (walkK p t.i t.rs).1 = t.o
    · have hn : oNe (.tup (kds (lastK (walkK p t.i t.rs).1))) (tupk t.o) = some (.dd (.bl false)) := by unfold tupk; rw [hn]; simp [ho]
      simp only [if_pos ho]
      cases q
      all_goals
        simp only [pc_t, pc_f]
        simp_arith! [hn]
    · have hn : oNe (.tup (kds (lastK (walkK p t.i t.rs).1))) (tupk t.o) = some (.dd (.bl true)) := by unfold tupk; rw [hn]; simp [ho]
      have hp1 : (walkK p t.i t.rs).1.length - 1 = t.rs.length := by omega
      simp only [if_neg ho, hp1]
      cases q
      all_goals
        simp only [pc_t, pc_f]
        simp_arith! [hn, le]



theorem atI_lastL {α : Type} (pre : List α) (a : α) : atI (pre ++ [a]) (-1) = some a := by
  have := atI_neg (pre ++ [a]) 1 (by decide) (by simp)
  simpa using this



def runK (p : Pg) : List Kd → List RS → Option (List Kd)
  | ks, [] => some ks
  | ks, r :: rs => match nextK p ks r with
    | .ok ks' => runK p ks' rs
    | .error _ => none
def sts (xs : List Str) : List D := xs.map D.str
theorem sts_len (xs : List Str) : (sts xs).length = xs.length := List.length_map ..
theorem pickS (xs : List Str) (v : Int) (h0 : 0 ≤ v) (h1 : v < xs.length) : ∃ x ∈ xs, atI (sts xs) v = some (.str x) := by
  obtain ⟨x, h2, h3⟩ := atI_lt xs v h0 h1
  refine ⟨x, h2, ?_⟩
  rw [atI_nat _ _ h0 h1] at h3
  rw [atI_nat _ _ h0 (by rw [sts_len]; exact h1)]
  unfold sts; rw [List.getElem?_map, h3]; rfl
theorem mWhile_nx {c : MT} {mb : MS} {n : Nat} {ρ ρ1 ρ2 : TL.Env} (h1 : c ρ = .ok true ρ1) (h2 : mb ρ1 = .nx ρ2) : mWhile c mb (n + 1) ρ = mWhile c mb n ρ2 := by
  rw [mWhile]; simp only [h1, h2]
theorem mWhile_end {c : MT} {mb : MS} {n : Nat} {ρ ρ1 : TL.Env} (h1 : c ρ = .ok false ρ1) : mWhile c mb (n + 1) ρ = .nx ρ1 := by
  rw [mWhile]; simp only [h1]


theorem look_io {p q : Pg} (h : ∀ x, (look p x).map (fun b => (b.i, b.o)) = (look q x).map fun b => (b.i, b.o)) (ks : List Kd) (r : RS) : nextK p ks r = nextK q ks r := by
  have hc : ∀ ks x, callK p ks x = callK q ks x := fun ks x => by
    have hx := h x
    unfold callK
    cases h1 : look p x with
    | none => rw [h1] at hx; cases h2 : look q x with
      | none => rfl
      | some b => rw [h2] at hx; cases hx
    | some a => rw [h1] at hx; cases h2 : look q x with
      | none => rw [h2] at hx; cases hx
      | some b =>
        rw [h2] at hx
        simp only [Option.map_some, Option.some.injEq, Prod.mk.injEq] at hx
        simp only [hx.1, hx.2]
  cases r with
  | p r => rfl
  | call x => exact hc ks x
  | ife a b =>
    show ifK p ks a b = ifK q ks a b
    unfold ifK
    cases lackK ks [some .n] with
    | some e => rfl
    | none =>
      have ha := h a
      have hb := h b
      cases h1 : look p a with
      | none => rw [h1] at ha; cases h2 : look q a with
        | none => rfl
        | some y => rw [h2] at ha; cases ha
      | some x => rw [h1] at ha; cases h2 : look q a with
        | none => rw [h2] at ha; cases ha
        | some y =>
          rw [h2] at ha
          cases h3 : look p b with
          | none => rw [h3] at hb; cases h4 : look q b with
            | none => rfl
            | some z => rw [h4] at hb; cases hb
          | some w => rw [h3] at hb; cases h4 : look q b with
            | none => rw [h4] at hb; cases hb
            | some z =>
              rw [h4] at hb
              simp only [Option.map_some, Option.some.injEq, Prod.mk.injEq] at ha hb
              simp only [ha.1, ha.2, hb.1, hb.2, hc]
theorem run_io {p q : Pg} (h : ∀ x, (look p x).map (fun b => (b.i, b.o)) = (look q x).map fun b => (b.i, b.o)) : ∀ (rs : List RS) (ks : List Kd), runK p ks rs = runK q ks rs
  | [], ks => rfl
  | r :: rs, ks => by
    show (match nextK p ks r with | .ok k => runK p k rs | .error _ => none) = (match nextK q ks r with | .ok k => runK q k rs | .error _ => none)
    rw [look_io h]
    cases nextK q ks r with
    | ok k => exact run_io h rs k
    | error e => rfl
/-- a program whose rows keep the kinds told -/
def Good (P : PT) : Prop := ∀ e ∈ P, runK (PT.p P) e.2.i e.2.rs = some e.2.o
theorem look_eq {P : PT} : ∀ {p : Pg}, P.map (fun e => (e.1, e.2.i, e.2.o)) = p.map (fun e => (e.1, e.2.i, e.2.o)) → ∀ x, (look (PT.p P) x).map (fun b => (b.i, b.o)) = (look p x).map fun b => (b.i, b.o) := by
  induction P with
  | nil => intro p h x; cases p with
    | nil => rfl
    | cons a p => cases h
  | cons a P ih =>
    intro p h x
    cases p with
    | nil => cases h
    | cons b p =>
      obtain ⟨n, c⟩ := a
      obtain ⟨m, d⟩ := b
      simp only [List.map_cons, List.cons.injEq, Prod.mk.injEq] at h
      obtain ⟨⟨h1, h2, h3⟩, h4⟩ := h
      subst h1
      show (look ((n, c.b) :: PT.p P) x).map _ = _
      unfold look
      by_cases hn : n = x
      · rw [if_pos hn, if_pos hn]
        show some (c.i, c.o) = some (d.i, d.o)
        rw [h2, h3]
      · rw [if_neg hn, if_neg hn]; exact ih h4 x
/-- a block of a made program: at most m rows -/
structure B60 (m : Nat) (t : TBk) : Prop where
  li : t.i.length ≤ 60
  lo : t.o.length ≤ 60
  lr : t.rs.length ≤ m
  rk : ∀ r ∈ t.rs, r.ok
theorem B60.ok {m : Nat} {t : TBk} (h : B60 m t) (hm : m ≤ 3900) : t.ok := ⟨by have := h.li; omega, by have := h.lo; omega, by have := h.lr; omega, h.rk⟩
structure P60 (m : Nat) (P : PT) : Prop where
  nd : (P.map (·.1)).Nodup
  bl : ∀ e ∈ P, NmOk e.1 ∧ B60 m e.2
  ln : P.length ≤ 100
theorem P60.ok {m : Nat} {P : PT} (h : P60 m P) (hm : m ≤ 3900) : PTok P := ⟨h.nd, fun e he => ⟨(h.bl e he).1, (h.bl e he).2.ok hm⟩, h.ln⟩



theorem pt_tup {P : PT} {x : Str} {t : TBk} (h : lookT P x = some t) : dget (Pg.ks (PT.p P)) (Pg.vs (PT.p P)) (.inr x) = some (.tup [.tup (kds t.i), .tup (kds t.o), .lst (t.rs.map RS.d)]) := by
  rw [dget_look, look_p, h]; rfl
theorem keysD (P : PT) : (Pg.ks (PT.p P)).map keyD = sts (P.map (·.1)) := by rw [ks_D, p_keys]; rfl
theorem ks_lt {P : PT} (h : P.length ≤ 100) : (Pg.ks (PT.p P)).length < sizeLine := Nat.lt_of_le_of_lt (show (Pg.ks (PT.p P)).length ≤ 1000 by rw [ks_len, p_len]; omega) (by decide)



theorem run_walk {p : Pg} : ∀ {rs : List RS} {ks k : List Kd}, runK p ks rs = some k → (walkK p ks rs).2 = none ∧ lastK (walkK p ks rs).1 = k
  | [], ks, k, h => by cases h; exact ⟨rfl, rfl⟩
  | r :: rs, ks, k, h => by
    have h : (match nextK p ks r with | .ok k1 => runK p k1 rs | .error _ => none) = some k := h
    unfold walkK
    cases hn : nextK p ks r with
    | error e => rw [hn] at h; cases h
    | ok k1 =>
      rw [hn] at h
      obtain ⟨h1, h2⟩ := run_walk h
      exact ⟨h1, by simp only; rw [last_cons _ (walk_ne p k1 rs)]; exact h2⟩
theorem Good.nf {P : PT} (h : Good P) {e : Str × TBk} (he : e ∈ P) : faultW (PT.p P) e.2 = none := by
  obtain ⟨h1, h2⟩ := run_walk (h e he)
  unfold faultW
  rw [h1]
  simp only [h2, if_true]



/-! ### the names that rows name; named_by -/
def RS.names : RS → List Str
  | .p _ => []
  | .call x => [x]
  | .ife a b => [a, b]
def nms (rs : List RS) : List Str := rs.flatMap RS.names
theorem names_in_ok (r : RS) : F_names_in [.val r.d] = .ret (.dd (.tup (sts r.names))) [.val r.d] := by
  cases r with
  | p r => cases r <;> kernel_rfl
  | call x => kernel_rfl
  | ife a b => kernel_rfl
/-- a dict of names, each with True -/
def ksS (F : List Str) : List Key := F.map .inr
def vsS (F : List Str) : List D := F.map fun _ => .bl true
def insF (F : List Str) (z : Str) : List Str := if z ∈ F then F else F ++ [z]
theorem dput_S (z : Str) : ∀ F : List Str, dput (ksS F) (vsS F) (.inr z) (.bl true) = (ksS (insF F z), vsS (insF F z))
  | [] => rfl
  | n :: F => by
    show dput (.inr n :: ksS F) (.bl true :: vsS F) (.inr z) (.bl true) = _
    unfold dput insF
    by_cases h : n = z
    · subst h
      rw [if_pos rfl, if_pos List.mem_cons_self]
      rfl
    · rw [if_neg (fun e => h (by cases e; rfl)), dput_S z F]
      unfold insF
      by_cases h2 : z ∈ F
      · rw [if_pos h2, if_pos (List.mem_cons_of_mem _ h2)]; rfl
      · have : ¬ z ∈ n :: F := fun e => by
          rcases List.mem_cons.mp e with e | e
          · exact h e.symm
          · exact h2 e
        rw [if_neg h2, if_neg this]; rfl
theorem dget_S (z : Str) : ∀ F : List Str, (dget (ksS F) (vsS F) (.inr z)).isSome = decide (z ∈ F)
  | [] => by simp [ksS, vsS, dget]
  | n :: F => by
    show (dget (.inr n :: ksS F) (.bl true :: vsS F) (.inr z)).isSome = _
    unfold dget
    by_cases h : n = z
    · subst h; rw [if_pos rfl]; simp
    · rw [if_neg (fun e => h (by cases e; rfl)), dget_S z F]
      rw [decide_eq_decide]
      constructor
      · exact List.mem_cons_of_mem _
      · intro e
        rcases List.mem_cons.mp e with e | e
        · exact (h e.symm).elim
        · exact e
theorem ksS_D (F : List Str) : (ksS F).map keyD = sts F := by unfold ksS sts; rw [List.map_map]; rfl
theorem ksS_len (F : List Str) : (ksS F).length = F.length := List.length_map ..
def insL (F zs : List Str) : List Str := zs.foldl insF F
theorem insF_mem {F : List Str} {z y : Str} : y ∈ insF F z ↔ y ∈ F ∨ y = z := by
  unfold insF
  by_cases h : z ∈ F
  · rw [if_pos h]
    constructor
    · exact .inl
    · rintro (h2 | rfl)
      · exact h2
      · exact h
  · rw [if_neg h]; simp
theorem insF_nd {F : List Str} {z : Str} (h : F.Nodup) : (insF F z).Nodup := by
  unfold insF
  by_cases hz : z ∈ F
  · rw [if_pos hz]; exact h
  · rw [if_neg hz, List.nodup_append]
    refine ⟨h, by simp, fun a ha b hb => ?_⟩
    simp at hb; subst hb
    intro e; subst e; exact hz ha
theorem insF_len (F : List Str) (z : Str) : (insF F z).length ≤ F.length + 1 := by
  unfold insF
  by_cases h : z ∈ F
  · rw [if_pos h]; omega
  · rw [if_neg h]; simp
theorem insL_mem {y : Str} : ∀ {zs F : List Str}, y ∈ insL F zs ↔ y ∈ F ∨ y ∈ zs
  | [], F => by simp [insL]
  | z :: zs, F => by
    show y ∈ insL (insF F z) zs ↔ _
    rw [insL_mem, insF_mem, List.mem_cons, or_assoc]
theorem insL_nd : ∀ {zs F : List Str}, F.Nodup → (insL F zs).Nodup
  | [], _, h => h
  | z :: zs, F, h => insL_nd (zs := zs) (F := insF F z) (insF_nd h)
theorem insL_len : ∀ (zs F : List Str), (insL F zs).length ≤ F.length + zs.length
  | [], F => by simp [insL]
  | z :: zs, F => by
    have h1 := insL_len zs (insF F z)
    have h2 := insF_len F z
    show (insL (insF F z) zs).length ≤ _
    simp only [List.length_cons]; omega
theorem insL_app (F zs ys : List Str) : insL F (zs ++ ys) = insL (insL F zs) ys := by unfold insL; rw [List.foldl_append]
theorem nb_loop1 (P y r : Cell) : ∀ (zs F : List Str) (c : Cell), F.length + zs.length ≤ 900000 → ∃ c', mLoop (mgName 4) B_named_by_1 (sts zs) [P, y, .ownD (ksS F) (vsS F), r, c] = .nx [P, y, .ownD (ksS (insL F zs)) (vsS (insL F zs)), r, c']
  | [], F, c, _ => ⟨c, rfl⟩
  | z :: zs, F, c, h => by
    simp only [List.length_cons] at h
    have h2 := insF_len F z
    obtain ⟨c', ih⟩ := nb_loop1 P y r zs (insF F z) (.val (.str z)) (by omega)
    have kl : (ksS F).length < sizeLine := Nat.lt_of_le_of_lt (show _ ≤ 1000000 by rw [ksS_len]; omega) (by decide)
    have pd := dput_S z F
    refine ⟨c', ?_⟩
    show mLoop _ _ (D.str z :: sts zs) _ = _
    rw [mLoop_nx (ρ2 := [P, y, .ownD (ksS (insF F z)) (vsS (insF F z)), r, .val (.str z)]) rfl]
    · exact ih
    · unfold B_named_by_1
      simp_arith! [mgName, kl, key_str, pd]
theorem nb_loop2 (P y : Cell) : ∀ (rs : List RS) (F : List Str) (c3 c4 : Cell), F.length + 2 * rs.length ≤ 900000 → ∃ d3 d4, mLoop (mgName 3) B_named_by_2 (rs.map RS.d) [P, y, .ownD (ksS F) (vsS F), c3, c4] = .nx [P, y, .ownD (ksS (insL F (nms rs))) (vsS (insL F (nms rs))), d3, d4]
  | [], F, c3, c4, _ => ⟨c3, c4, rfl⟩
  | r :: rs, F, c3, c4, h => by
    simp only [List.length_cons] at h
    have nl : r.names.length ≤ 2 := by cases r <;> simp [RS.names]
    have h2 := insL_len r.names F
    obtain ⟨c', e1⟩ := nb_loop1 P y (.val r.d) r.names F c4 (by omega)
    obtain ⟨d3, d4, ih⟩ := nb_loop2 P y rs (insL F r.names) (.val r.d) c' (by omega)
    have e0 := names_in_ok r
    refine ⟨d3, d4, ?_⟩
    rw [show nms (r :: rs) = r.names ++ nms rs from rfl, insL_app, List.map_cons, mLoop_nx (ρ2 := [P, y, .ownD (ksS (insL F r.names)) (vsS (insL F r.names)), .val r.d, c']) rfl]
    · exact ih
    · unfold B_named_by_2
      rw [mFor_ok (ds := sts r.names) (ρ1 := [P, y, .ownD (ksS F) (vsS F), .val r.d, c4]) (by simp_arith! [e0]), e1]
/-- the names in the rows of a block, each once; none where it is not there -/
def named (P : PT) (y : Str) : List Str := match lookT P y with
  | some t => insL [] (nms t.rs)
  | none => []
theorem named_by_ok (q : Bool) (P : PT) (y : Str) (hr : ∀ t, lookT P y = some t → t.rs.length ≤ 3900) : F_named_by [pc q (PT.p P), .val (.str y)] = .ret (.ow (.own (sts (named P y)))) [pc q (PT.p P), .val (.str y)] := by
  unfold F_named_by M_named_by named mkF
  simp only [pad, List.length_cons, List.length_nil, List.replicate, Nat.reduceAdd, Nat.reduceSub, List.cons_append, List.nil_append]
  rw [mSeq_nx (ρ1 := [pc q (PT.p P), .val (.str y), .ownD (ksS []) (vsS []), .no, .no]) (by cases q <;> (simp only [pc_t, pc_f]; simp_arith! []; rfl))]
  have hg : dget (Pg.ks (PT.p P)) (Pg.vs (PT.p P)) (.inr y) = (look (PT.p P) y).map Bk.d := dget_look ..
  rw [look_p] at hg
  cases hl : lookT P y with
  | none =>
    rw [hl] at hg
    simp only [Option.map_none] at hg
    rw [mSeq_nx (ρ1 := [pc q (PT.p P), .val (.str y), .ownD (ksS []) (vsS []), .no, .no]) (by cases q <;> (simp only [pc_t, pc_f]; simp_arith! [oInB, key_str, hg, Option.isSome_none]))]
    cases q <;> rfl
  | some t =>
    have hg := pt_tup hl
    have a2 : atI [D.tup (kds t.i), D.tup (kds t.o), D.lst (t.rs.map RS.d)] 2 = some (.lst (t.rs.map RS.d)) := rfl
    obtain ⟨d3, d4, e1⟩ := nb_loop2 (pc q (PT.p P)) (.val (.str y)) t.rs [] .no .no (by have := hr t hl; simp; omega)
    rw [mSeq_nx (ρ1 := [pc q (PT.p P), .val (.str y), .ownD (ksS (insL [] (nms t.rs))) (vsS (insL [] (nms t.rs))), d3, d4]) (by
      have tst : ∀ a b : MS, mIfS (mTest D.bool (m2 (oIn false) (mVar 1) (mVar 0))) a b [pc q (PT.p P), .val (.str y), .ownD (ksS []) (vsS []), .no, .no] = a [pc q (PT.p P), .val (.str y), .ownD (ksS []) (vsS []), .no, .no] := fun a b => by
        cases q <;> (simp only [pc_t, pc_f]; simp_arith! [oInB, key_str, hg, Option.isSome_some])
      rw [tst, mFor_ok (ds := t.rs.map RS.d) (ρ1 := [pc q (PT.p P), .val (.str y), .ownD (ksS []) (vsS []), .no, .no]) (by cases q <;> (simp only [pc_t, pc_f]; simp_arith! [key_str, hg, a2])), e1])]
    have kd1 := ksS_D (insL [] (nms t.rs))
    cases q <;> (simp only [pc_t, pc_f]; simp_arith! [kd1])
theorem named_mem {P : PT} {y z : Str} : z ∈ named P y ↔ ∃ t, lookT P y = some t ∧ z ∈ nms t.rs := by
  unfold named
  cases h : lookT P y with
  | none => simp
  | some t =>
    simp only [insL_mem]
    simp



/-! ### the blocks to which one can come -/
inductive To (P : PT) (x : Str) : Str → Prop
  | refl : To P x x
  | step {y z : Str} : To P x y → z ∈ named P y → To P x z
theorem To.sub {P : PT} {x : Str} {F : List Str} (hx : x ∈ F) (hc : ∀ y ∈ F, ∀ z ∈ named P y, z ∈ F) {y : Str} (h : To P x y) : y ∈ F := by
  induction h with
  | refl => exact hx
  | step _ hz ih => exact hc _ ih _ hz
def Um (P : PT) (x : Str) : List Str := x :: P.flatMap fun e => nms e.2.rs
theorem nms_len : ∀ rs : List RS, (nms rs).length ≤ 2 * rs.length
  | [] => by simp [nms]
  | r :: rs => by
    have h := nms_len rs
    have nl : r.names.length ≤ 2 := by cases r <;> simp [RS.names]
    show (r.names ++ nms rs).length ≤ _
    rw [List.length_append, List.length_cons]; omega
theorem um_len : ∀ (P : PT) (m : Nat), (∀ e ∈ P, e.2.rs.length ≤ m) → (P.flatMap fun e => nms e.2.rs).length ≤ P.length * (2 * m)
  | [], m, _ => by simp
  | e :: P, m, h => by
    have h1 := um_len P m fun x hx => h x (List.mem_cons_of_mem _ hx)
    have h2 := nms_len e.2.rs
    have h3 := h e List.mem_cons_self
    rw [List.flatMap_cons, List.length_append, List.length_cons, Nat.succ_mul]
    omega
theorem Um_len {P : PT} (h : PTok P) (hl : P.length ≤ 12) (x : Str) : (Um P x).length ≤ 93601 := by
  have := um_len P 3900 fun e he => (h.bl e he).2.lr
  have h2 : P.length * (2 * 3900) ≤ 12 * (2 * 3900) := Nat.mul_le_mul_right _ hl
  unfold Um
  rw [List.length_cons]
  omega
theorem Um_mem {P : PT} {x y z : Str} (h : z ∈ named P y) : z ∈ Um P x := by
  obtain ⟨t, h1, h2⟩ := named_mem.mp h
  exact List.mem_cons_of_mem _ (List.mem_flatMap.mpr ⟨_, lookT_mem h1, h2⟩)
theorem len_le (c : Nat) : ∀ (U L : List Str), (∀ y, L.count y ≤ c) → (∀ y ∈ L, y ∈ U) → L.length ≤ c * U.length
  | [], L, _, h => by
    cases L with
    | nil => simp
    | cons a L => cases h a List.mem_cons_self
  | u :: U, L, hc, h => by
    have ih := len_le c U (L.filter fun y => !(y == u)) (fun y => Nat.le_trans (List.filter_sublist.count_le y) (hc y)) (fun y hy => by
      rw [List.mem_filter] at hy
      rcases List.mem_cons.mp (h y hy.1) with e | e
      · subst e; simp at hy
      · exact e)
    have e : L.length = L.count u + (L.filter fun y => !(y == u)).length := by
      have h1 := List.length_eq_countP_add_countP (p := fun y => y == u) (l := L)
      rw [h1, List.count, ← List.countP_eq_length_filter]
      congr 1
      exact List.countP_congr fun y _ => by simp
    have := hc u
    rw [List.length_cons, Nat.mul_succ]
    omega
theorem nd_len {U L : List Str} (h : L.Nodup) (hs : ∀ y ∈ L, y ∈ U) : L.length ≤ U.length := by
  have := len_le 1 U L (fun y => List.nodup_iff_count.mp h y) hs
  omega
theorem reach_loop (P0 x h : Cell) : ∀ (zs F A : List Str) (c : Cell), F.length + zs.length ≤ 500000 → A.length + zs.length ≤ 500000 → ∃ (N : List Str) (d : Cell), insL F zs = F ++ N ∧
    mLoop (mgName 5) B_reach_1 (sts zs) [P0, x, .ownD (ksS F) (vsS F), .own (sts A), h, c] = .nx [P0, x, .ownD (ksS (F ++ N)) (vsS (F ++ N)), .own (sts (A ++ N)), h, d]
  | [], F, A, c, _, _ => ⟨[], c, by simp [insL], by simp [sts, mLoop]⟩
  | z :: zs, F, A, c, h1, h2 => by
    simp only [List.length_cons] at h1 h2
    have dg := dget_S z F
    have kl : (ksS F).length < sizeLine := Nat.lt_of_le_of_lt (show _ ≤ 1000000 by rw [ksS_len]; omega) (by decide)
    by_cases hz : z ∈ F
    · obtain ⟨N, d, e1, e2⟩ := reach_loop P0 x h zs F A (.val (.str z)) (by omega) (by omega)
      have hi : insF F z = F := by unfold insF; rw [if_pos hz]
      refine ⟨N, d, by show insL (insF F z) zs = _; rw [hi]; exact e1, ?_⟩
      show mLoop _ _ (D.str z :: sts zs) _ = _
      rw [mLoop_nx (ρ2 := [P0, x, .ownD (ksS F) (vsS F), .own (sts A), h, .val (.str z)]) rfl]
      · exact e2
      · rw [decide_eq_true hz] at dg
        unfold B_reach_1
        simp_arith! [mgName, oInB, key_str, dg]
    · have hi : insF F z = F ++ [z] := by unfold insF; rw [if_neg hz]
      obtain ⟨N, d, e1, e2⟩ := reach_loop P0 x h zs (F ++ [z]) (A ++ [z]) (.val (.str z)) (by simp; omega) (by simp; omega)
      have pd := dput_S z F
      rw [hi] at pd
      have al : (sts A).length < sizeLine := Nat.lt_of_le_of_lt (show _ ≤ 1000000 by rw [sts_len]; omega) (by decide)
      have ap : sts A ++ [D.str z] = sts (A ++ [z]) := by unfold sts; rw [List.map_append]; rfl
      refine ⟨z :: N, d, by show insL (insF F z) zs = _; rw [hi, e1]; simp, ?_⟩
      show mLoop _ _ (D.str z :: sts zs) _ = _
      rw [mLoop_nx (ρ2 := [P0, x, .ownD (ksS (F ++ [z])) (vsS (F ++ [z])), .own (sts (A ++ [z])), h, .val (.str z)]) rfl]
      · rw [e2]; simp
      · rw [decide_eq_false hz] at dg
        unfold B_reach_1
        simp_arith! [mgName, oInB, key_str, dg, kl, pd, al, ap]
theorem reach_while (q : Bool) (P : PT) (hr : ∀ y t, lookT P y = some t → t.rs.length ≤ 3900) (x : Str) (U : List Str) (hU : ∀ y z, z ∈ named P y → z ∈ U) (Ul : U.length ≤ 100000) : ∀ (n : Nat) (F A : List Str) (c4 c5 : Cell), F.Nodup → (∀ y ∈ F, y ∈ U ∧ To P x y) → (∀ y ∈ A, y ∈ F) → (U.length - F.length) + A.length ≤ 100000 → (∀ y ∈ F, y ∉ A → ∀ z ∈ named P y, z ∈ F) → (U.length - F.length) + A.length < n →
    ∃ (F' : List Str) (d4 d5 : Cell), mWhile T_reach_2 B_reach_3 n [pc q (PT.p P), .val (.str x), .ownD (ksS F) (vsS F), .own (sts A), c4, c5] = .nx [pc q (PT.p P), .val (.str x), .ownD (ksS F') (vsS F'), .own [], d4, d5] ∧ (∀ y ∈ F', To P x y) ∧ (∀ y ∈ F, y ∈ F') ∧ (∀ y ∈ F', ∀ z ∈ named P y, z ∈ F') ∧ F'.length ≤ U.length
  | 0, F, A, c4, c5, _, _, _, _, _, hn => by omega
  | n + 1, F, A, c4, c5, hd, hF, hA, Al, hc, hn => by
    have Fl : F.length ≤ U.length := nd_len hd fun y hy => (hF y hy).1
    rcases List.eq_nil_or_concat A with rfl | ⟨A0, h, rfl⟩
    · exact ⟨F, c4, c5, mWhile_end (by unfold T_reach_2; simp_arith! [D.tru]; rfl), fun y hy => (hF y hy).2, fun y hy => hy, fun y hy => hc y hy (by simp), Fl⟩
    · rw [List.concat_eq_append] at *
      simp only [List.length_append, List.length_cons, List.length_nil] at hn Al
      have hh : h ∈ F := hA h (by simp)
      have nl : (named P h).length ≤ U.length := by
        refine nd_len ?_ fun z hz => hU h z hz
        unfold named
        cases lookT P h with
        | none => exact List.nodup_nil
        | some t => exact insL_nd List.nodup_nil
      obtain ⟨N, d, e1, e2⟩ := reach_loop (pc q (PT.p P)) (.val (.str x)) (.val (.str h)) (named P h) F A0 c5 (by omega) (by omega)
      have hm : ∀ y, y ∈ F ++ N ↔ y ∈ F ∨ y ∈ named P h := fun y => by rw [← e1]; exact insL_mem
      have hd2 : (F ++ N).Nodup := by rw [← e1]; exact insL_nd hd
      have hF2 : ∀ y ∈ F ++ N, y ∈ U ∧ To P x y := fun y hy => by
        rcases (hm y).mp hy with z | z
        · exact hF y z
        · exact ⟨hU h y z, .step (hF h hh).2 z⟩
      have Fl2 : (F ++ N).length ≤ U.length := nd_len hd2 fun y hy => (hF2 y hy).1
      rw [List.length_append] at Fl2
      obtain ⟨F', d4, d5, w1, w2, w3, w4, w5⟩ := reach_while q P hr x U hU Ul n (F ++ N) (A0 ++ N) (.val (.str h)) d hd2 hF2 (fun y hy => by
          rcases List.mem_append.mp hy with z | z
          · exact List.mem_append_left _ (hA y (by simp [z]))
          · exact List.mem_append_right _ z) (by rw [List.length_append, List.length_append]; omega) (fun y hy hn z hz => by
          have hyN : y ∉ N := fun e => hn (List.mem_append_right _ e)
          have hyF : y ∈ F := by
            rcases List.mem_append.mp hy with e | e
            · exact e
            · exact (hyN e).elim
          by_cases he : y = h
          · subst he; exact (hm z).mpr (.inr hz)
          · exact List.mem_append_left _ (hc y hyF (fun e => by
              rcases List.mem_append.mp e with e | e
              · exact hn (List.mem_append_left _ e)
              · simp at e; exact he e) z hz)) (by rw [List.length_append, List.length_append]; omega)
      have g1 : (sts (A0 ++ [h])).getLast? = some (.str h) := by unfold sts; rw [List.map_append]; simp
      have g2 : (sts (A0 ++ [h])).dropLast = sts A0 := by unfold sts; rw [List.map_append]; simp
      have g3 : (sts (A0 ++ [h])).isEmpty = false := by unfold sts; rw [List.map_append]; simp
      have nb := named_by_ok q P h (fun t ht => hr h t ht)
      refine ⟨F', d4, d5, ?_, w2, fun y hy => w3 y (List.mem_append_left _ hy), w4, w5⟩
      rw [mWhile_nx (ρ1 := [pc q (PT.p P), .val (.str x), .ownD (ksS F) (vsS F), .own (sts (A0 ++ [h])), c4, c5]) (ρ2 := [pc q (PT.p P), .val (.str x), .ownD (ksS (F ++ N)) (vsS (F ++ N)), .own (sts (A0 ++ N)), .val (.str h), d]) (by unfold T_reach_2; simp_arith! [D.tru, g3, Bool.not_false]) (by
        unfold B_reach_3
        rw [mSeq_nx (ρ1 := [pc q (PT.p P), .val (.str x), .ownD (ksS F) (vsS F), .own (sts A0), .val (.str h), c5]) (by simp_arith! [g1, g2]), mFor_ok (ds := sts (named P h)) (ρ1 := [pc q (PT.p P), .val (.str x), .ownD (ksS F) (vsS F), .own (sts A0), .val (.str h), c5]) (by cases q <;> (simp only [pc_t, pc_f] at nb ⊢; simp_arith! [nb])), e2])]
      exact w1
theorem reach_ok (q : Bool) (P : PT) (hP : PTok P) (hl : P.length ≤ 12) (x : Str) : ∃ F : List Str, (∀ y, y ∈ F ↔ To P x y) ∧ F.length ≤ 93601 ∧ F_reach [pc q (PT.p P), .val (.str x)] = .ret (.ow (.own (sts F))) [pc q (PT.p P), .val (.str x)] := by
  have hU := Um_len hP hl x
  obtain ⟨F, d4, d5, w1, w2, w3, w4, w5⟩ := reach_while q P (fun y t ht => (hP.bl _ (lookT_mem ht)).2.lr) x (Um P x) (fun y z h => Um_mem h) (by omega) whileMost [x] [x] .no .no (by simp) (fun y hy => by simp at hy; subst hy; exact ⟨List.mem_cons_self, .refl⟩) (fun y hy => hy) (by simp; omega) (fun y hy hn => (hn hy).elim) (by unfold whileMost; simp; omega)
  have kd1 := ksS_D F
  refine ⟨F, fun y => ⟨w2 y, fun h => h.sub (w3 x (by simp)) w4⟩, by omega, ?_⟩
  unfold F_reach M_reach mkF
  simp only [pad, List.length_cons, List.length_nil, List.replicate, Nat.reduceAdd, Nat.reduceSub, List.cons_append, List.nil_append]
  rw [mSeq_nx (ρ1 := [pc q (PT.p P), .val (.str x), .ownD (ksS [x]) (vsS [x]), .no, .no, .no]) (by cases q <;> (simp only [pc_t, pc_f]; simp_arith! [mDictV, key_str]; rfl)),
    mSeq_nx (ρ1 := [pc q (PT.p P), .val (.str x), .ownD (ksS [x]) (vsS [x]), .own (sts [x]), .no, .no]) (by cases q <;> (simp only [pc_t, pc_f]; simp_arith! []; rfl)), mSeq_nx w1]
  cases q <;> (simp only [pc_t, pc_f]; simp_arith! [kd1])



/-! ### let_by -/
def okN (P : PT) (y : Str) : Bool := match lookT P y with
  | some t => (faultW (PT.p P) t).isNone
  | none => false
theorem all_okN {P : PT} {F L : List Str} (h : ∀ y, y ∈ F ↔ y ∈ L) : F.all (okN P) = L.all (okN P) := by
  rw [Bool.eq_iff_iff, List.all_eq_true, List.all_eq_true]
  exact ⟨fun g y hy => g y ((h y).mpr hy), fun g y hy => g y ((h y).mp hy)⟩
theorem let_loop (q : Bool) (P : PT) (hP : PTok P) (x : Cell) : ∀ (F : List Str) (c : Cell), ∃ d, mLoop (mgName 2) B_let_by_1 (sts F) [pc q (PT.p P), x, c] = if F.all (okN P) = true then .nx [pc q (PT.p P), x, d] else .ret (.dd (.bl false)) [pc q (PT.p P), x, d]
  | [], c => ⟨c, by simp [sts, mLoop]⟩
  | y :: F, c => by
    have hg : dget (Pg.ks (PT.p P)) (Pg.vs (PT.p P)) (.inr y) = (look (PT.p P) y).map Bk.d := dget_look ..
    rw [look_p] at hg
    have z1 : oIsN true .non .non = some (.dd (.bl false)) := rfl
    obtain ⟨d, ih⟩ := let_loop q P hP x F (.val (.str y))
    rw [List.all_cons]
    show ∃ d, mLoop _ _ (D.str y :: sts F) _ = _
    cases hl : lookT P y with
    | none =>
      rw [hl] at hg
      simp only [Option.map_none] at hg
      have ho : okN P y = false := by unfold okN; rw [hl]
      refine ⟨.val (.str y), ?_⟩
      rw [ho, Bool.false_and, if_neg (by simp)]
      refine mLoop_ret (ρ1 := [pc q (PT.p P), x, .val (.str y)]) rfl ?_
      unfold B_let_by_1
      cases q <;> (simp only [pc_t, pc_f]; simp_arith! [oInB, key_str, hg, Option.isSome_none])
    | some t =>
      obtain ⟨hn, ht⟩ := hP.bl _ (lookT_mem hl)
      have hf := fault_ok q (PT.p P) hP.pg y (by have := hn.2.1; simp only at this; omega) t ht (by rw [look_p, hl]; rfl)
      rw [hl] at hg
      simp only [Option.map_some] at hg
      unfold faultD at hf
      cases hw : faultW (PT.p P) t with
      | some w =>
        rw [hw] at hf
        simp only at hf
        have z2 : oIsN true (.tup [.int (faultP (PT.p P) t), .str w]) .non = some (.dd (.bl true)) := rfl
        have ho : okN P y = false := by unfold okN; rw [hl]; simp only [hw]; rfl
        refine ⟨.val (.str y), ?_⟩
        rw [ho, Bool.false_and, if_neg (by simp)]
        refine mLoop_ret (ρ1 := [pc q (PT.p P), x, .val (.str y)]) rfl ?_
        unfold B_let_by_1
        cases q <;> (simp only [pc_t, pc_f] at hf ⊢; simp_arith! [oInB, key_str, hg, Option.isSome_some, hf, z2])
      | none =>
        rw [hw] at hf
        simp only at hf
        have ho : okN P y = true := by unfold okN; rw [hl]; simp only [hw]; rfl
        refine ⟨d, ?_⟩
        rw [ho, Bool.true_and, mLoop_nx (ρ1 := [pc q (PT.p P), x, .val (.str y)]) (ρ2 := [pc q (PT.p P), x, .val (.str y)]) rfl]
        · exact ih
        · unfold B_let_by_1
          cases q <;> (simp only [pc_t, pc_f] at hf ⊢; simp_arith! [oInB, key_str, hg, Option.isSome_some, hf, z1])
theorem let_by_ok (q : Bool) (P : PT) (hP : PTok P) (hl : P.length ≤ 12) (x : Str) : ∃ F : List Str, (∀ y, y ∈ F ↔ To P x y) ∧ F_let_by [pc q (PT.p P), .val (.str x)] = .ret (.dd (.bl (F.all (okN P)))) [pc q (PT.p P), .val (.str x)] := by
  obtain ⟨F, h1, h2, e⟩ := reach_ok q P hP hl x
  obtain ⟨d, eL⟩ := let_loop q P hP (.val (.str x)) F .no
  refine ⟨F, h1, ?_⟩
  unfold F_let_by M_let_by mkF
  simp only [pad, List.length_cons, List.length_nil, List.replicate, Nat.reduceAdd, Nat.reduceSub, List.cons_append, List.nil_append]
  have s := mFor_ok (f := mgName 2) (mb := B_let_by_1) (mi := miSeq (mCall 2 F_reach [.nm 0, .nm 1])) (ds := sts F) (ρ := [pc q (PT.p P), .val (.str x), .no]) (ρ1 := [pc q (PT.p P), .val (.str x), .no]) (by cases q <;> (simp only [pc_t, pc_f] at e ⊢; simp_arith! [e]))
  rw [eL] at s
  cases hb : F.all (okN P) with
  | true =>
    rw [hb, if_pos rfl] at s
    rw [mSeq_nx s]
    cases q <;> rfl
  | false =>
    rw [hb, if_neg (by simp)] at s
    unfold mSeq
    rw [s]
    cases q <;> rfl
/-! where nothing was changed all are let by -/
theorem run_names {p : Pg} : ∀ {rs : List RS} {ks k : List Kd}, runK p ks rs = some k → ∀ z ∈ nms rs, ∃ b, look p z = some b
  | [], _, _, _, z, hz => by simp [nms] at hz
  | r :: rs, ks, k, h, z, hz => by
    unfold runK at h
    cases hn : nextK p ks r with
    | error e => rw [hn] at h; cases h
    | ok k2 =>
      rw [hn] at h
      simp only at h
      rcases List.mem_append.mp (show z ∈ r.names ++ nms rs from hz) with hz | hz
      · cases r with
        | p r => simp [RS.names] at hz
        | call x =>
          simp [RS.names] at hz
          subst hz
          show ∃ b, look p z = some b
          change callK p ks z = .ok k2 at hn
          unfold callK at hn
          cases hl : look p z with
          | none => rw [hl] at hn; cases hn
          | some b => exact ⟨b, rfl⟩
        | ife a b =>
          change ifK p ks a b = .ok k2 at hn
          unfold ifK at hn
          cases hlk : lackK ks [some .n] with
          | some e => rw [hlk] at hn; cases hn
          | none =>
            rw [hlk] at hn
            simp only at hn
            cases ha : look p a with
            | none => rw [ha] at hn; cases hn
            | some ba =>
              cases hb : look p b with
              | none => rw [ha, hb] at hn; cases hn
              | some bb =>
                simp [RS.names] at hz
                rcases hz with rfl | rfl
                · exact ⟨ba, ha⟩
                · exact ⟨bb, hb⟩
      · exact run_names h z hz
theorem Good.all {P : PT} (h : Good P) {x : Str} (hx : x ∈ P.map (·.1)) (hn : (P.map (·.1)).Nodup) {y : Str} (hy : To P x y) : okN P y = true := by
  have key : ∃ t, lookT P y = some t := by
    induction hy with
    | refl =>
      obtain ⟨⟨x', t⟩, hm, rfl⟩ := List.mem_map.mp hx
      exact ⟨t, mem_lookT hn hm⟩
    | step _ hz ih =>
      obtain ⟨t, ht⟩ := ih
      obtain ⟨t', h1, h2⟩ := named_mem.mp hz
      obtain ⟨b, hb⟩ := run_names (h _ (lookT_mem h1)) _ h2
      rw [look_p] at hb
      obtain ⟨t2, h3, _⟩ := Option.map_eq_some_iff.mp hb
      exact ⟨t2, h3⟩
  obtain ⟨t, ht⟩ := key
  unfold okN
  rw [ht]
  have := h.nf (lookT_mem ht)
  simp only at this
  simp only [this]; rfl



/-! ### heights, as a plain function; tables of names and numbers -/
def maxI (a b : Int) : Int := if b > a then b else a
def insLen (p : Pg) (x : Str) : Int := match look p x with
  | some b => (b.i.length : Int)
  | none => 0
def innerH (p : Pg) (g : Str → Int) (n : Int) : RS → Int
  | .p _ => 0
  | .call x => n - insLen p x + g x
  | .ife a b => n - 1 - insLen p a + maxI (g a) (g b)
def hgtF (p : Pg) (g : Str → Int) : List Kd → List RS → Int → Int
  | ks, [], m => maxI m ks.length
  | ks, r :: rs, m => match nextK p ks r with
    | .ok k2 => hgtF p g k2 rs (maxI (maxI m ks.length) (innerH p g ks.length r))
    | .error _ => maxI m ks.length
theorem innerH_congr {p : Pg} {g g' : Str → Int} {n : Int} : ∀ {r : RS}, (∀ y ∈ r.names, g y = g' y) → innerH p g n r = innerH p g' n r
  | .p _, _ => rfl
  | .call x, h => by
    show n - insLen p x + g x = n - insLen p x + g' x
    rw [h x (by simp [RS.names])]
  | .ife a b, h => by
    show n - 1 - insLen p a + maxI (g a) (g b) = n - 1 - insLen p a + maxI (g' a) (g' b)
    rw [h a (by simp [RS.names]), h b (by simp [RS.names])]
theorem hgtF_congr {p : Pg} {g g' : Str → Int} : ∀ {rs : List RS} {ks : List Kd} {m : Int}, (∀ y ∈ nms rs, g y = g' y) → hgtF p g ks rs m = hgtF p g' ks rs m
  | [], _, _, _ => rfl
  | r :: rs, ks, m, h => by
    unfold hgtF
    rw [innerH_congr (r := r) fun y hy => h y (List.mem_append_left _ hy)]
    cases nextK p ks r with
    | error e => rfl
    | ok k2 => exact hgtF_congr fun y hy => h y (List.mem_append_right _ hy)
inductive Ht (P : PT) : Str → Int → Prop
  | mk (x : Str) (t : TBk) (g : Str → Int) : lookT P x = some t → (∀ y ∈ nms t.rs, Ht P y (g y)) → Ht P x (hgtF (PT.p P) g t.i t.rs 0)
theorem Ht.det {P : PT} {x : Str} {h : Int} (a : Ht P x h) : ∀ {h' : Int}, Ht P x h' → h = h' := by
  induction a with
  | mk x t g hl _ ih =>
    intro h' b
    cases b with
    | mk _ t' g' hl' hy =>
      rw [hl] at hl'; cases hl'
      exact hgtF_congr fun y hm => ih y hm (hy y hm)
abbrev HT9 := List (Str × Int)
def htK (T : HT9) : List Key := T.map fun e => .inr e.1
def htV (T : HT9) : List D := T.map fun e => .int e.2
def lookH : HT9 → Str → Option Int
  | [], _ => none
  | (n, h) :: T, x => if n = x then some h else lookH T x
def gT (T : HT9) (y : Str) : Int := (lookH T y).getD 0
theorem htK_len (T : HT9) : (htK T).length = T.length := List.length_map ..
theorem dget_H (x : Str) : ∀ T : HT9, dget (htK T) (htV T) (.inr x) = (lookH T x).map D.int
  | [] => rfl
  | (n, h) :: T => by
    show dget (.inr n :: htK T) (.int h :: htV T) (.inr x) = _
    unfold dget lookH
    by_cases e : n = x
    · subst e; rw [if_pos rfl, if_pos rfl]; rfl
    · rw [if_neg (fun z => e (by cases z; rfl)), if_neg e]; exact dget_H x T
theorem lookH_mem {x : Str} : ∀ {T : HT9}, x ∈ T.map (·.1) ↔ ∃ h, lookH T x = some h
  | [] => by simp [lookH]
  | (n, h) :: T => by
    unfold lookH
    by_cases e : n = x
    · subst e; simp
    · have e' : ¬ x = n := fun z => e z.symm
      rw [if_neg e, ← lookH_mem (T := T)]; simp [e']
theorem lookH_in {x : Str} {h : Int} : ∀ {T : HT9}, lookH T x = some h → (x, h) ∈ T
  | (n, k) :: T, e => by
    unfold lookH at e
    by_cases z : n = x
    · subst z; rw [if_pos rfl] at e; cases e; exact List.mem_cons_self
    · rw [if_neg z] at e; exact List.mem_cons_of_mem _ (lookH_in e)
theorem lookH_app {x : Str} {U : HT9} : ∀ {T : HT9}, x ∈ T.map (·.1) → lookH (T ++ U) x = lookH T x
  | (n, h) :: T, e => by
    show lookH ((n, h) :: (T ++ U)) x = _
    unfold lookH
    by_cases z : n = x
    · rw [if_pos z, if_pos z]
    · rw [if_neg z, if_neg z]
      refine lookH_app ?_
      rcases List.mem_cons.mp e with e | e
      · exact (z e.symm).elim
      · exact e
theorem dput_new9 {k : Key} {d : D} : ∀ {ks : List Key} {vs : List D}, ks.length = vs.length → k ∉ ks → dput ks vs k d = (ks ++ [k], vs ++ [d])
  | [], [], _, _ => rfl
  | k' :: ks, v :: vs, h, hn => by
    have h' : ¬ k' = k := fun e => hn (by rw [e]; exact List.mem_cons_self)
    show (if k' = k then _ else _) = _
    rw [if_neg h', dput_new9 (ks := ks) (vs := vs) (by simpa using h) fun e => hn (List.mem_cons_of_mem _ e)]
    rfl
theorem dput_H {T : HT9} {x : Str} {h : Int} (n : x ∉ T.map (·.1)) : dput (htK T) (htV T) (.inr x) (.int h) = (htK (T ++ [(x, h)]), htV (T ++ [(x, h)])) := by
  rw [dput_new9 (by unfold htK htV; simp) fun e => by
    obtain ⟨e', h1, h2⟩ := List.mem_map.mp e
    cases h2
    exact n (List.mem_map_of_mem h1)]
  unfold htK htV
  rw [List.map_append, List.map_append]; rfl
/-- all entries are heights -/
structure TabOk (P : PT) (T : HT9) : Prop where
  nd : (T.map (·.1)).Nodup
  ht : ∀ e ∈ T, Ht P e.1 e.2
theorem TabOk.get {P : PT} {T : HT9} (h : TabOk P T) {x : Str} (hx : x ∈ T.map (·.1)) : lookH T x = some (gT T x) ∧ Ht P x (gT T x) := by
  obtain ⟨k, e⟩ := lookH_mem.mp hx
  unfold gT
  rw [e]
  exact ⟨rfl, h.ht _ (lookH_in e)⟩
theorem TabOk.new {P : PT} {T : HT9} (h : TabOk P T) {x : Str} {t : TBk} (hl : lookT P x = some t) (hn : ∀ y ∈ nms t.rs, y ∈ T.map (·.1)) : Ht P x (hgtF (PT.p P) (gT T) t.i t.rs 0) :=
  .mk x t (gT T) hl fun y hy => (h.get (hn y hy)).2
theorem TabOk.snoc {P : PT} {T : HT9} (h : TabOk P T) {x : Str} {k : Int} (hx : x ∉ T.map (·.1)) (hk : Ht P x k) : TabOk P (T ++ [(x, k)]) := by
  refine ⟨?_, fun e he => ?_⟩
  · rw [List.map_append, List.nodup_append]
    exact ⟨h.nd, by simp, fun a ha b hb => by simp at hb; subst hb; exact fun z => hx (z ▸ ha)⟩
  · rcases List.mem_append.mp he with he | he
    · exact h.ht e he
    · simp at he; subst he; exact hk
theorem walk_next {p : Pg} {ks : List Kd} {r : RS} {rs : List RS} (h : (walkK p ks (r :: rs)).2 = none) : ∃ k2, nextK p ks r = .ok k2 ∧ (walkK p k2 rs).2 = none ∧ (walkK p ks (r :: rs)).1 = ks :: (walkK p k2 rs).1 := by
  have e : walkK p ks (r :: rs) = match nextK p ks r with
    | .error e => ([ks], some e)
    | .ok ks' => (ks :: (walkK p ks' rs).1, (walkK p ks' rs).2) := rfl
  rw [e] at h ⊢
  cases hn : nextK p ks r with
  | error e => rw [hn] at h; cases h
  | ok k2 => rw [hn] at h; exact ⟨k2, rfl, h, rfl⟩
theorem walk_names {p : Pg} : ∀ {rs : List RS} {ks : List Kd}, (walkK p ks rs).2 = none → ∀ z ∈ nms rs, ∃ b, look p z = some b
  | [], _, _, z, hz => by simp [nms] at hz
  | r :: rs, ks, h, z, hz => by
    obtain ⟨k2, hn, h2, _⟩ := walk_next h
    rcases List.mem_append.mp (show z ∈ r.names ++ nms rs from hz) with hz | hz
    · cases r with
      | p r => simp [RS.names] at hz
      | call x =>
        simp [RS.names] at hz
        subst hz
        change callK p ks z = .ok k2 at hn
        unfold callK at hn
        cases hl : look p z with
        | none => rw [hl] at hn; cases hn
        | some b => exact ⟨b, rfl⟩
      | ife a b =>
        change ifK p ks a b = .ok k2 at hn
        unfold ifK at hn
        cases hlk : lackK ks [some .n] with
        | some e => rw [hlk] at hn; cases hn
        | none =>
          rw [hlk] at hn
          simp only at hn
          cases ha : look p a with
          | none => rw [ha] at hn; cases hn
          | some ba =>
            cases hb : look p b with
            | none => rw [ha, hb] at hn; cases hn
            | some bb =>
              simp [RS.names] at hz
              rcases hz with rfl | rfl
              · exact ⟨ba, ha⟩
              · exact ⟨bb, hb⟩
    · exact walk_names h2 z hz
/-- the block is there and has no fault -/
def okB (P : PT) (y : Str) : Prop := ∃ t, lookT P y = some t ∧ faultW (PT.p P) t = none
theorem okB.walk {P : PT} {y : Str} {t : TBk} (h : okB P y) (hl : lookT P y = some t) : (walkK (PT.p P) t.i t.rs).2 = none := by
  obtain ⟨t', h1, h2⟩ := h
  rw [hl] at h1; cases h1
  unfold faultW at h2
  cases hw : (walkK (PT.p P) t.i t.rs).2 with
  | none => rfl
  | some e => rw [hw] at h2; cases h2



/-! ### the program's height of a block, from a table -/
theorem ibl_nz (n : Nat) : ((n : Int) > 0) = decide (0 < n) := by simp
theorem within_ok (q : Bool) (p : Pg) (T : HT9) (n : Int) (r : RS) (hr : r.ok) (hb : ∀ y ∈ r.names, ∃ b, look p y = some b) (hT : ∀ y ∈ r.names, y ∈ T.map (·.1)) :
    F_height_within [pc q p, .val (.int n), .val r.d, .ownD (htK T) (htV T)] = .ret (.dd (.int (innerH p (gT T) n r))) [pc q p, .val (.int n), .val r.d, .ownD (htK T) (htV T)] := by
  have hn := names_in_ok r
  have two : r.names.length ≤ 2 := by cases r <;> simp [RS.names]
  have gv : ∀ y ∈ r.names, dget (htK T) (htV T) (.inr y) = some (.int (gT T y)) := fun y hy => by
    rw [dget_H]
    obtain ⟨k, e⟩ := lookH_mem.mp (hT y hy)
    unfold gT; rw [e]; rfl
  have lcM : ∀ (c4 c5 c6 : Cell), mLcLoop [7] (mgName 7) mYes E_height_within_1 (sts r.names) [] [pc q p, .val (.int n), .val r.d, .ownD (htK T) (htV T), c4, c5, c6, .no] = .ok (r.names.map fun y => .int (gT T y)) [pc q p, .val (.int n), .val r.d, .ownD (htK T) (htV T), c4, c5, c6, .no] := fun c4 c5 c6 => by
    have := mLc_map (vsl := [7]) (f := mgName 7) (me := E_height_within_1) (fun d => match d with | .str z => .int (gT T z) | d => d) [pc q p, .val (.int n), .val r.d, .ownD (htK T) (htV T), c4, c5, c6, .no] (sts r.names) [] (fun d hd => by
      obtain ⟨z, hz, rfl⟩ := List.mem_map.mp hd
      have g := gv z hz
      refine ⟨[pc q p, .val (.int n), .val r.d, .ownD (htK T) (htV T), c4, c5, c6, .val (.str z)], [pc q p, .val (.int n), .val r.d, .ownD (htK T) (htV T), c4, c5, c6, .val (.str z)], rfl, ?_, rfl⟩
      unfold E_height_within_1
      simp_arith! [key_str, g]) (by rw [sts_len]; simp; omega)
    rw [this, List.nil_append]
    unfold sts
    rw [List.map_map]
    rfl
  cases r with
  | p r =>
    obtain ⟨rest, hd⟩ := PR.at0 r
    have hn : F_names_in [.val (RS.p r).d] = .ret (.dd (.tup [])) [.val (RS.p r).d] := hn
    unfold F_height_within M_height_within
    have et : D.tru (.tup []) = some false := rfl
    cases q <;> (simp only [pc_t, pc_f]; simp_arith! [hn, et, Bool.not_false]; rfl)
  | call x =>
    have hn : F_names_in [.val (RS.call x).d] = .ret (.dd (.tup (sts [x]))) [.val (RS.call x).d] := hn
    obtain ⟨b, hb⟩ := hb x (by simp [RS.names])
    have hbk := block_of_ok q p x hr.1
    rw [hb] at hbk
    have a0 := at_i b
    have et : (sts [x]).isEmpty = false := rfl
    have s0 : atI (sts [x]) 0 = some (.str x) := rfl
    have e0 : atI [D.str (Str.ofString "call"), D.str x] 0 = some (.str "call") := rfl
    have il : insLen p x = b.i.length := by unfold insLen; rw [hb]
    have mx : oMaxL (.lst [.int (gT T x)]) = some (.dd (.int (gT T x))) := rfl
    have sz : n - 0 = n := by omega
    have lcM := lcM (.val (.tup (sts [x]))) (.val (.int 0)) (.val (.int (n - b.i.length)))
    have rn : (RS.call x).names = [x] := rfl
    rw [rn] at lcM
    simp only [List.map_cons, List.map_nil] at lcM
    rw [show innerH p (gT T) n (.call x) = n - insLen p x + gT T x from rfl, il]
    unfold F_height_within M_height_within
    cases q
    all_goals
      simp only [RS.d, bkR, pc_t, pc_f] at hn hbk lcM ⊢
      simp_arith! [hn, et, Bool.not_true, Bool.not_false, e0, sz, s0, hbk, a0, kds_len', noneOwn, List.all_cons, List.all_nil, isOwn, Bool.and_true, wipeE, lcM, backE, mx]
  | ife a b =>
    have hn : F_names_in [.val (RS.ife a b).d] = .ret (.dd (.tup (sts [a, b]))) [.val (RS.ife a b).d] := hn
    obtain ⟨ba, hb⟩ := hb a (by simp [RS.names])
    have hbk := block_of_ok q p a hr.1.1
    rw [hb] at hbk
    have a0 := at_i ba
    have et : (sts [a, b]).isEmpty = false := rfl
    have s0 : atI (sts [a, b]) 0 = some (.str a) := rfl
    have e0 : atI [D.str (Str.ofString "if"), D.str a, D.str b] 0 = some (.str "if") := rfl
    have il : insLen p a = ba.i.length := by unfold insLen; rw [hb]
    have mx : oMaxL (.lst [.int (gT T a), .int (gT T b)]) = some (.dd (.int (maxI (gT T a) (gT T b)))) := rfl
    have lcM := lcM (.val (.tup (sts [a, b]))) (.val (.int 1)) (.val (.int (n - 1 - ba.i.length)))
    have rn : (RS.ife a b).names = [a, b] := rfl
    rw [rn] at lcM
    simp only [List.map_cons, List.map_nil] at lcM
    rw [show innerH p (gT T) n (.ife a b) = n - 1 - insLen p a + maxI (gT T a) (gT T b) from rfl, il]
    unfold F_height_within M_height_within
    cases q
    all_goals
      simp only [RS.d, bkR, pc_t, pc_f] at hn hbk lcM ⊢
      simp_arith! [hn, et, Bool.not_true, Bool.not_false, e0, s0, hbk, a0, kds_len', noneOwn, List.all_cons, List.all_nil, isOwn, Bool.and_true, wipeE, lcM, backE, mx]
theorem maxI_zero {m : Int} (h : 0 ≤ m) : maxI m 0 = m := by unfold maxI; rw [if_neg (by omega)]
theorem hby_loop (q : Bool) (p : Pg) (hp : PgOk p) (T : HT9) (x bd : Cell) : ∀ (rs : List RS) (ks : List Kd) (m : Int) (c6 : Cell), (∀ r ∈ rs, r.ok) → ks.length + 100 * rs.length ≤ 500000 → (walkK p ks rs).2 = none → (∀ y ∈ nms rs, y ∈ T.map (·.1)) →
    ∃ ks' d6, mLoop (mgName 6) B_height_by_1 (rs.map RS.d) [pc q p, x, .ownD (htK T) (htV T), bd, .own (kds ks), .val (.int (maxI m ks.length)), c6] = .nx [pc q p, x, .ownD (htK T) (htV T), bd, .own (kds ks'), .val (.int (hgtF p (gT T) ks rs m)), d6]
  | [], ks, m, c6, _, _, _, _ => ⟨ks, c6, rfl⟩
  | r :: rs, ks, m, c6, hr, hl, hw, hT => by
    simp only [List.length_cons] at hl
    obtain ⟨k2, hn, h2, _⟩ := walk_next hw
    have hro := hr r List.mem_cons_self
    have l2 := nextK_len hp hro hn
    obtain ⟨ks2, hld⟩ := lead_ok q p hp ks (by omega) r hro
    rw [hn] at hld
    have hwi := within_ok q p T ks.length r hro (fun y hy => walk_names hw y (List.mem_append_left _ hy)) fun y hy => hT y (List.mem_append_left _ hy)
    obtain ⟨ks', d6, ih⟩ := hby_loop q p hp T x bd rs k2 (maxI (maxI m ks.length) (innerH p (gT T) ks.length r)) (.val r.d) (fun y hy => hr y (List.mem_cons_of_mem _ hy)) (by omega) h2 fun y hy => hT y (List.mem_append_right _ hy)
    refine ⟨ks', d6, ?_⟩
    have eh : hgtF p (gT T) ks (r :: rs) m = hgtF p (gT T) k2 rs (maxI (maxI m ks.length) (innerH p (gT T) ks.length r)) := by
      show (match nextK p ks r with | .ok k2 => _ | .error _ => _) = _
      rw [hn]
    rw [eh, List.map_cons, mLoop_nx (ρ1 := [pc q p, x, .ownD (htK T) (htV T), bd, .own (kds ks), .val (.int (maxI m ks.length)), .val r.d]) (ρ2 := [pc q p, x, .ownD (htK T) (htV T), bd, .own (kds k2), .val (.int (maxI (maxI (maxI m ks.length) (innerH p (gT T) ks.length r)) k2.length)), .val r.d]) rfl]
    · exact ih
    · have x1 : ∀ a b : Int, (if b > a then b else a) = maxI a b := fun _ _ => rfl
      unfold B_height_by_1
      cases q
      all_goals
        simp only [leadR, pc_t, pc_f] at hld hwi ⊢
        simp_arith! [kds_len', hwi, hld, x1]
theorem height_by_ok (q : Bool) (P : PT) (hP : PTok P) (T : HT9) (x : Str) (t : TBk) (hl : lookT P x = some t) (hx : okB P x) (hT : ∀ y ∈ nms t.rs, y ∈ T.map (·.1)) :
    F_height_by [pc q (PT.p P), .val (.str x), .ownD (htK T) (htV T)] = .ret (.dd (.int (hgtF (PT.p P) (gT T) t.i t.rs 0))) [pc q (PT.p P), .val (.str x), .ownD (htK T) (htV T)] := by
  obtain ⟨hnm, ht⟩ := hP.bl _ (lookT_mem hl)
  simp only at hnm ht
  have hbk := block_of_ok q (PT.p P) x (by have := hnm.2.1; omega)
  rw [look_p, hl] at hbk
  have hbr : bkR (pc q (PT.p P)) x ((some t).map TBk.b) = .ret (.dd (.tup [tupk t.i, tupk t.o, .lst (t.rs.map RS.d)])) [pc q (PT.p P), .val (.str x)] := rfl
  rw [hbr] at hbk
  obtain ⟨ks', d6, e⟩ := hby_loop q (PT.p P) hP.pg T (.val (.str x)) (.val (.tup [tupk t.i, tupk t.o, .lst (t.rs.map RS.d)])) t.rs t.i 0 .no ht.rk (by have := ht.li; have := ht.lr; omega) (hx.walk hl) hT
  have m0 : maxI 0 (t.i.length : Int) = t.i.length := by unfold maxI; split <;> omega
  rw [m0] at e
  have a0 : atI [tupk t.i, tupk t.o, D.lst (t.rs.map RS.d)] 0 = some (tupk t.i) := rfl
  have a2 : atI [tupk t.i, tupk t.o, D.lst (t.rs.map RS.d)] 2 = some (.lst (t.rs.map RS.d)) := rfl
  have lt : oList (tupk t.i) = some (.ow (.own (kds t.i))) := rfl
  unfold F_height_by M_height_by mkF
  simp only [pad, List.length_cons, List.length_nil, List.replicate, Nat.reduceAdd, Nat.reduceSub, List.cons_append, List.nil_append]
  rw [mSeq_nx (ρ1 := [pc q (PT.p P), .val (.str x), .ownD (htK T) (htV T), .val (.tup [tupk t.i, tupk t.o, .lst (t.rs.map RS.d)]), .no, .no, .no]) (by cases q <;> (simp only [pc_t, pc_f] at hbk ⊢; simp_arith! [hbk])),
    mSeq_nx (ρ1 := [pc q (PT.p P), .val (.str x), .ownD (htK T) (htV T), .val (.tup [tupk t.i, tupk t.o, .lst (t.rs.map RS.d)]), .own (kds t.i), .no, .no]) (by cases q <;> (simp only [pc_t, pc_f]; simp_arith! [a0]; unfold tupk; simp_arith! [])),
    mSeq_nx (ρ1 := [pc q (PT.p P), .val (.str x), .ownD (htK T) (htV T), .val (.tup [tupk t.i, tupk t.o, .lst (t.rs.map RS.d)]), .own (kds t.i), .val (.int t.i.length), .no]) (by cases q <;> (simp only [pc_t, pc_f]; simp_arith! [kds_len'])),
    mSeq_nx (ρ1 := [pc q (PT.p P), .val (.str x), .ownD (htK T) (htV T), .val (.tup [tupk t.i, tupk t.o, .lst (t.rs.map RS.d)]), .own (kds ks'), .val (.int (hgtF (PT.p P) (gT T) t.i t.rs 0)), d6]) (by
      rw [mFor_ok (ds := t.rs.map RS.d) (ρ1 := [pc q (PT.p P), .val (.str x), .ownD (htK T) (htV T), .val (.tup [tupk t.i, tupk t.o, .lst (t.rs.map RS.d)]), .own (kds t.i), .val (.int t.i.length), .no]) (by cases q <;> (simp only [pc_t, pc_f]; simp_arith! [a2])), e])]
  cases q <;> rfl
/-! the names and what each names -/
def nmV (P : PT) (L : List Str) : List D := L.map fun y => .lst (sts (named P y))
theorem dput_N (P : PT) (z : Str) : ∀ L : List Str, dput (ksS L) (nmV P L) (.inr z) (.lst (sts (named P z))) = (ksS (insF L z), nmV P (insF L z))
  | [] => rfl
  | n :: L => by
    show dput (.inr n :: ksS L) (.lst (sts (named P n)) :: nmV P L) (.inr z) _ = _
    unfold dput insF
    by_cases h : n = z
    · subst h
      rw [if_pos rfl, if_pos List.mem_cons_self]
      rfl
    · rw [if_neg (fun e => h (by cases e; rfl)), dput_N P z L]
      unfold insF
      by_cases h2 : z ∈ L
      · rw [if_pos h2, if_pos (List.mem_cons_of_mem _ h2)]; rfl
      · have : ¬ z ∈ n :: L := fun e => by
          rcases List.mem_cons.mp e with e | e
          · exact h e.symm
          · exact h2 e
        rw [if_neg h2, if_neg this]; rfl
theorem dget_N (P : PT) {z : Str} : ∀ {L : List Str}, z ∈ L → dget (ksS L) (nmV P L) (.inr z) = some (.lst (sts (named P z)))
  | n :: L, h => by
    show dget (.inr n :: ksS L) (.lst (sts (named P n)) :: nmV P L) (.inr z) = _
    unfold dget
    by_cases e : n = z
    · subst e; rw [if_pos rfl]
    · rw [if_neg (fun x => e (by cases x; rfl))]
      refine dget_N P ?_
      rcases List.mem_cons.mp h with h | h
      · exact (e h.symm).elim
      · exact h
theorem named_loop (q : Bool) (P : PT) (hr : ∀ y t, lookT P y = some t → t.rs.length ≤ 3900) (x c4 c5 : Cell) : ∀ (F L : List Str) (c3 : Cell), L.length + F.length ≤ 900000 →
    ∃ d3, mLoop (mgName 3) B_height_1 (sts F) [pc q (PT.p P), x, .ownD (ksS L) (nmV P L), c3, c4, c5] = .nx [pc q (PT.p P), x, .ownD (ksS (insL L F)) (nmV P (insL L F)), d3, c4, c5]
  | [], L, c3, _ => ⟨c3, rfl⟩
  | y :: F, L, c3, h => by
    simp only [List.length_cons] at h
    have h2 := insF_len L y
    obtain ⟨d3, ih⟩ := named_loop q P hr x c4 c5 F (insF L y) (.val (.str y)) (by omega)
    have kl : (ksS L).length < sizeLine := Nat.lt_of_le_of_lt (show _ ≤ 1000000 by rw [ksS_len]; omega) (by decide)
    have pd := dput_N P y L
    have nb := named_by_ok q P y (hr y)
    refine ⟨d3, ?_⟩
    show mLoop _ _ (D.str y :: sts F) _ = _
    rw [mLoop_nx (ρ1 := [pc q (PT.p P), x, .ownD (ksS L) (nmV P L), .val (.str y), c4, c5]) (ρ2 := [pc q (PT.p P), x, .ownD (ksS (insF L y)) (nmV P (insF L y)), .val (.str y), c4, c5]) rfl]
    · exact ih
    · unfold B_height_1
      cases q <;> (simp only [pc_t, pc_f] at nb ⊢; simp_arith! [nb, kl, key_str, pd])
/-! those that are ready -/
def rdy (P : PT) (T : HT9) (y : Str) : Bool := decide (y ∉ T.map (·.1)) && (named P y).all fun z => decide (z ∈ T.map (·.1))
theorem isH (T : HT9) (z : Str) : ((lookH T z).map D.int).isSome = decide (z ∈ T.map (·.1)) := by
  by_cases h : z ∈ T.map (·.1)
  · obtain ⟨k, e⟩ := lookH_mem.mp h
    rw [e, decide_eq_true h]; rfl
  · rw [decide_eq_false h]
    cases e : lookH T z with
    | none => rfl
    | some k => exact (h (lookH_mem.mpr ⟨k, e⟩)).elim
theorem ready_loop (P : PT) (hn : ∀ y, (named P y).length ≤ 200000) (T : HT9) (L : List Str) : ∀ (xs A : List Str) (c3 : Cell), (∀ y ∈ xs, y ∈ L) → A.length + xs.length ≤ 900000 →
    ∃ d3, mLoop (mgName 3) B_ready_ones_2 (sts xs) [.val (.fdct (ksS L) (nmV P L)), .ownD (htK T) (htV T), .own (sts A), c3, .no] = .nx [.val (.fdct (ksS L) (nmV P L)), .ownD (htK T) (htV T), .own (sts (A ++ xs.filter (rdy P T))), d3, .no]
  | [], A, c3, _, _ => ⟨c3, by simp [sts, mLoop]⟩
  | y :: xs, A, c3, hL, hz => by
    simp only [List.length_cons] at hz
    have hy := hL y List.mem_cons_self
    have gn := dget_N P hy
    have gh := dget_H y T
    have ih1 := isH T y
    have lcM : mLcLoop [4] (mgName 4) mYes E_ready_ones_1 (sts (named P y)) [] [.val (.fdct (ksS L) (nmV P L)), .ownD (htK T) (htV T), .own (sts A), .val (.str y), .no] = .ok ((named P y).map fun z => .bl (decide (z ∈ T.map (·.1)))) [.val (.fdct (ksS L) (nmV P L)), .ownD (htK T) (htV T), .own (sts A), .val (.str y), .no] := by
      have := mLc_map (vsl := [4]) (f := mgName 4) (me := E_ready_ones_1) (fun d => match d with | .str z => .bl (decide (z ∈ T.map (·.1))) | d => d) [.val (.fdct (ksS L) (nmV P L)), .ownD (htK T) (htV T), .own (sts A), .val (.str y), .no] (sts (named P y)) [] (fun d hd => by
        obtain ⟨z, hz, rfl⟩ := List.mem_map.mp hd
        have g := dget_H z T
        have i := isH T z
        refine ⟨[.val (.fdct (ksS L) (nmV P L)), .ownD (htK T) (htV T), .own (sts A), .val (.str y), .val (.str z)], [.val (.fdct (ksS L) (nmV P L)), .ownD (htK T) (htV T), .own (sts A), .val (.str y), .val (.str z)], rfl, ?_, rfl⟩
        unfold E_ready_ones_1
        simp_arith! [oIn, oInB, key_str, g, i]) (by rw [sts_len]; have := hn y; simp; omega)
      rw [this, List.nil_append]
      unfold sts
      rw [List.map_map]
      rfl
    have ba : ∀ zs : List Str, bools (zs.map fun z => D.bl (decide (z ∈ T.map (·.1)))) = some (zs.map fun z => decide (z ∈ T.map (·.1))) := fun zs => by
      induction zs with
      | nil => rfl
      | cons z zs ih => show (bools _).map _ = _; rw [ih]; rfl
    have al : oAll (.lst ((named P y).map fun z => D.bl (decide (z ∈ T.map (·.1))))) = some (.dd (.bl ((named P y).all fun z => decide (z ∈ T.map (·.1))))) := by
      show (bools _).map _ = _
      rw [ba, Option.map_some, List.all_map]; rfl
    rw [List.filter_cons]
    show ∃ d3, mLoop _ _ (D.str y :: sts xs) _ = _
    cases hr : rdy P T y with
    | false =>
      obtain ⟨d3, ih⟩ := ready_loop P hn T L xs A (.val (.str y)) (fun z hz => hL z (List.mem_cons_of_mem _ hz)) (by omega)
      refine ⟨d3, ?_⟩
      simp only [Bool.false_eq_true, if_false]
      rw [mLoop_nx (ρ1 := [.val (.fdct (ksS L) (nmV P L)), .ownD (htK T) (htV T), .own (sts A), .val (.str y), .no]) (ρ2 := [.val (.fdct (ksS L) (nmV P L)), .ownD (htK T) (htV T), .own (sts A), .val (.str y), .no]) rfl]
      · exact ih
      · unfold B_ready_ones_2
        unfold rdy at hr
        by_cases hm : y ∈ T.map (·.1)
        · rw [decide_eq_true hm] at ih1
          simp_arith! [oIn, oInB, key_str, gh, ih1]
        · rw [decide_eq_false hm] at ih1
          have hr : ((named P y).all fun z => decide (z ∈ T.map (·.1))) = false := by simpa [hm] using hr
          rw [hr] at al
          simp_arith! [oIn, oInB, key_str, gh, ih1, gn, noneOwn, List.all_cons, List.all_nil, isOwn, Bool.and_true, wipeE, lcM, backE, al]
    | true =>
      obtain ⟨d3, ih⟩ := ready_loop P hn T L xs (A ++ [y]) (.val (.str y)) (fun z hz => hL z (List.mem_cons_of_mem _ hz)) (by simp; omega)
      refine ⟨d3, ?_⟩
      simp only [if_true]
      have al2 : (sts A).length < sizeLine := Nat.lt_of_le_of_lt (show _ ≤ 1000000 by rw [sts_len]; omega) (by decide)
      have ap : sts A ++ [D.str y] = sts (A ++ [y]) := by unfold sts; rw [List.map_append]; rfl
      rw [mLoop_nx (ρ1 := [.val (.fdct (ksS L) (nmV P L)), .ownD (htK T) (htV T), .own (sts A), .val (.str y), .no]) (ρ2 := [.val (.fdct (ksS L) (nmV P L)), .ownD (htK T) (htV T), .own (sts (A ++ [y])), .val (.str y), .no]) rfl]
      · rw [ih, List.append_assoc]; rfl
      · unfold B_ready_ones_2
        unfold rdy at hr
        rw [Bool.and_eq_true, decide_eq_true_eq] at hr
        rw [decide_eq_false hr.1] at ih1
        rw [hr.2] at al
        simp_arith! [oIn, oInB, key_str, gh, ih1, gn, noneOwn, List.all_cons, List.all_nil, isOwn, Bool.and_true, wipeE, lcM, backE, al, D.tru, al2, ap]
def nc (q : Bool) (P : PT) (L : List Str) : Cell := if q then .ownD (ksS L) (nmV P L) else .val (.fdct (ksS L) (nmV P L))
theorem ready_ok (q : Bool) (P : PT) (hn : ∀ y, (named P y).length ≤ 200000) (T : HT9) (L : List Str) (hl : L.length ≤ 800000) :
    F_ready_ones [nc q P L, .ownD (htK T) (htV T)] = .ret (.ow (.own (sts (L.filter (rdy P T))))) [nc false P L, .ownD (htK T) (htV T)] := by
  obtain ⟨d3, e⟩ := ready_loop P hn T L L [] .no (fun y hy => hy) (by simp; omega)
  have kd := ksS_D L
  rw [List.nil_append] at e
  unfold F_ready_ones M_ready_ones mkF
  simp only [pad, List.length_cons, List.length_nil, List.replicate, Nat.reduceAdd, Nat.reduceSub, List.cons_append, List.nil_append]
  rw [mSeq_nx (ρ1 := [nc q P L, .ownD (htK T) (htV T), .own (sts []), .no, .no]) (by cases q <;> (unfold nc; simp_arith! []; rfl)),
    mSeq_nx (ρ1 := [nc false P L, .ownD (htK T) (htV T), .own (sts (L.filter (rdy P T))), d3, .no]) (by
      have : ∀ f : MS, mLk 0 f [nc q P L, .ownD (htK T) (htV T), .own (sts []), .no, .no] = f [.val (.fdct (ksS L) (nmV P L)), .ownD (htK T) (htV T), .own (sts []), .no, .no] := fun f => by cases q <;> rfl
      rw [this, mFor_ok (ds := sts L) (ρ1 := [.val (.fdct (ksS L) (nmV P L)), .ownD (htK T) (htV T), .own (sts []), .no, .no]) (by unfold miKeys; simp only [List.getElem?_cons_zero, kd]), e]; rfl)]
  rfl



theorem mWhile_ret {c : MT} {mb : MS} {n : Nat} {ρ ρ1 ρ2 : TL.Env} {r : R} (h1 : c ρ = .ok true ρ1) (h2 : mb ρ1 = .ret r ρ2) : mWhile c mb (n + 1) ρ = .ret r ρ2 := by
  unfold mWhile; simp only [h1, h2]
theorem named_len {P : PT} (hP : PTok P) (hl : P.length ≤ 12) (y : Str) : (named P y).length ≤ 93601 := by
  refine Nat.le_trans (nd_len (U := Um P y) ?_ fun z hz => Um_mem hz) (Um_len hP hl y)
  unfold named
  cases lookT P y with
  | none => exact List.nodup_nil
  | some t => exact insL_nd List.nodup_nil
theorem set_loop (q : Bool) (P : PT) (hP : PTok P) (x n c5 : Cell) : ∀ (ys : List Str) (T : HT9) (c3 : Cell), TabOk P T → ys.Nodup → (∀ y ∈ ys, okB P y ∧ y ∉ T.map (·.1) ∧ ∀ z ∈ named P y, z ∈ T.map (·.1)) → T.length + ys.length ≤ 900000 →
    ∃ (T' : HT9) (d3 : Cell), TabOk P T' ∧ (∀ z, z ∈ T'.map (·.1) ↔ z ∈ T.map (·.1) ∨ z ∈ ys) ∧ T'.length = T.length + ys.length ∧
      mLoop (mgName 3) B_height_2 (sts ys) [pc q (PT.p P), x, n, c3, .ownD (htK T) (htV T), c5] = .nx [pc q (PT.p P), x, n, d3, .ownD (htK T') (htV T'), c5]
  | [], T, c3, hT, _, _, _ => ⟨T, c3, hT, fun z => by simp, by simp, rfl⟩
  | y :: ys, T, c3, hT, hn, hy, hz => by
    simp only [List.length_cons] at hz
    obtain ⟨hb, h1, h2⟩ := hy y List.mem_cons_self
    obtain ⟨t, hl, hf⟩ := id hb
    have h3 : ∀ z ∈ nms t.rs, z ∈ T.map (·.1) := fun z hm => h2 z (named_mem.mpr ⟨t, hl, hm⟩)
    have hh := hT.new hl h3
    have e := height_by_ok q P hP T y t hl hb h3
    obtain ⟨k, hk⟩ : ∃ k, k = hgtF (PT.p P) (gT T) t.i t.rs 0 := ⟨_, rfl⟩
    rw [← hk] at hh e
    have pd := dput_H (h := k) h1
    have kl : (htK T).length < sizeLine := Nat.lt_of_le_of_lt (show _ ≤ 1000000 by rw [htK_len]; omega) (by decide)
    have mem2 : ∀ z, z ∈ (T ++ [(y, k)]).map (·.1) ↔ z ∈ T.map (·.1) ∨ z = y := fun z => by simp
    obtain ⟨T', d3, g1, g2, g3, ih⟩ := set_loop q P hP x n c5 ys (T ++ [(y, k)]) (.val (.str y)) (hT.snoc h1 hh) (List.nodup_cons.mp hn).2 (fun w hw => by
      obtain ⟨a1, a2, a3⟩ := hy w (List.mem_cons_of_mem _ hw)
      refine ⟨a1, fun z => ?_, fun z hz => (mem2 z).mpr (.inl (a3 z hz))⟩
      rcases (mem2 w).mp z with z | z
      · exact a2 z
      · subst z; exact (List.nodup_cons.mp hn).1 hw) (by simp; omega)
    refine ⟨T', d3, g1, fun z => ?_, by rw [g3]; simp; omega, ?_⟩
    · rw [g2, mem2, List.mem_cons, or_assoc]
    · show mLoop _ _ (D.str y :: sts ys) _ = _
      rw [mLoop_nx (ρ1 := [pc q (PT.p P), x, n, .val (.str y), .ownD (htK T) (htV T), c5]) (ρ2 := [pc q (PT.p P), x, n, .val (.str y), .ownD (htK (T ++ [(y, k)])) (htV (T ++ [(y, k)])), c5]) rfl]
      · exact ih
      · unfold B_height_2
        cases q <;> (simp only [pc_t, pc_f] at e ⊢; simp_arith! [e, key_str, kl, pd])
theorem filter_len_pos {α : Type} {f : α → Bool} {L : List α} (h : L.filter f ≠ []) : 0 < (L.filter f).length := List.length_pos_iff.mpr h
theorem height_while (q : Bool) (P : PT) (hP : PTok P) (hl : P.length ≤ 12) (x : Str) (L : List Str) (Ln : L.Nodup) (Lx : x ∈ L) (Lc : ∀ y ∈ L, ∀ z ∈ named P y, z ∈ L) (Lo : ∀ y ∈ L, okB P y) (Ll : L.length ≤ 100000) :
    ∀ (n : Nat) (T : HT9) (q2 : Bool) (c3 c5 : Cell), TabOk P T → (∀ z ∈ T.map (·.1), z ∈ L) → L.length < n + T.length →
    (∃ (T' : HT9) (q3 : Bool) (d3 d5 : Cell), mWhile T_height_3 B_height_4 n [pc q (PT.p P), .val (.str x), nc q2 P L, c3, .ownD (htK T) (htV T), c5] = .nx [pc q (PT.p P), .val (.str x), nc q3 P L, d3, .ownD (htK T') (htV T'), d5] ∧ TabOk P T' ∧ x ∈ T'.map (·.1)) ∨
    (∃ (T' : HT9) (q3 : Bool) (d3 d5 : Cell), mWhile T_height_3 B_height_4 n [pc q (PT.p P), .val (.str x), nc q2 P L, c3, .ownD (htK T) (htV T), c5] = .ret (.dd .non) [pc q (PT.p P), .val (.str x), nc q3 P L, d3, .ownD (htK T') (htV T'), d5] ∧ ∀ h, ¬ Ht P x h)
  | 0, T, _, _, _, hT, hs, hn => by
    have := nd_len hT.nd hs
    rw [List.length_map] at this; omega
  | n + 1, T, q2, c3, c5, hT, hs, hn => by
    have Tl := nd_len hT.nd hs
    rw [List.length_map] at Tl
    have gx := dget_H x T
    have ix := isH T x
    by_cases hx : x ∈ T.map (·.1)
    · rw [decide_eq_true hx] at ix
      refine .inl ⟨T, q2, c3, c5, mWhile_end ?_, hT, hx⟩
      unfold T_height_3
      cases q <;> cases q2 <;> (simp only [pc_t, pc_f, nc, if_true, Bool.false_eq_true, if_false]; simp_arith! [oIn, oInB, key_str, gx, ix])
    · rw [decide_eq_false hx] at ix
      have tst : T_height_3 [pc q (PT.p P), .val (.str x), nc q2 P L, c3, .ownD (htK T) (htV T), c5] = .ok true [pc q (PT.p P), .val (.str x), nc q2 P L, c3, .ownD (htK T) (htV T), c5] := by
        unfold T_height_3
        cases q <;> cases q2 <;> (simp only [pc_t, pc_f, nc, if_true, Bool.false_eq_true, if_false]; simp_arith! [oIn, oInB, key_str, gx, ix])
      have er := ready_ok q2 P (fun y => Nat.le_trans (named_len hP hl y) (by decide)) T L (by omega)
      have s1 : mAsg 5 (mCall 2 F_ready_ones [.nm 2, .nm 4]) [pc q (PT.p P), .val (.str x), nc q2 P L, c3, .ownD (htK T) (htV T), c5] = .nx [pc q (PT.p P), .val (.str x), nc false P L, c3, .ownD (htK T) (htV T), .own (sts (L.filter (rdy P T)))] := by
        cases q <;> cases q2 <;> (simp only [pc_t, pc_f, nc, if_true, Bool.false_eq_true, if_false] at er ⊢; simp_arith! [er])
      by_cases he : L.filter (rdy P T) = []
      · refine .inr ⟨T, false, c3, .own (sts (L.filter (rdy P T))), mWhile_ret tst ?_, ?_⟩
        · unfold B_height_4
          rw [mSeq_nx s1, he]
          have ie : (sts []).isEmpty = true := rfl
          cases q <;> (simp only [pc_t, pc_f, nc, Bool.false_eq_true, if_false]; simp_arith! [ie, Bool.not_true, Bool.not_false])
        · have key : ∀ y h, Ht P y h → y ∈ L → y ∈ T.map (·.1) := fun y h a => by
            induction a with
            | mk y t g hl hy ih =>
              intro hL
              refine Classical.byContradiction fun hn => ?_
              have : y ∈ L.filter (rdy P T) := by
                rw [List.mem_filter]
                refine ⟨hL, ?_⟩
                unfold rdy
                rw [Bool.and_eq_true, decide_eq_true_eq, List.all_eq_true]
                refine ⟨hn, fun z hz => ?_⟩
                have hz' := hz
                obtain ⟨t', h1, h2⟩ := named_mem.mp hz
                rw [hl] at h1; cases h1
                rw [decide_eq_true_eq]
                exact ih z h2 (Lc y hL z hz')
              rw [he] at this; cases this
          exact fun h a => hx (key x h a Lx)
      · obtain ⟨R, hR⟩ : ∃ R, R = L.filter (rdy P T) := ⟨_, rfl⟩
        have Rn : R.Nodup := by rw [hR]; exact List.filter_sublist.nodup Ln
        have Rm : ∀ y ∈ R, y ∈ L ∧ y ∉ T.map (·.1) ∧ ∀ z ∈ named P y, z ∈ T.map (·.1) := fun y hy => by
          rw [hR, List.mem_filter] at hy
          have := hy.2
          unfold rdy at this
          rw [Bool.and_eq_true, decide_eq_true_eq, List.all_eq_true] at this
          exact ⟨hy.1, this.1, fun z hz => by simpa using this.2 z hz⟩
        have Rl : R.length ≤ L.length := by rw [hR]; exact List.length_filter_le ..
        have Rp : 0 < R.length := by rw [hR]; exact filter_len_pos he
        obtain ⟨T', d3, g1, g2, g3, e⟩ := set_loop q P hP (.val (.str x)) (nc false P L) (.val (.lst (sts R))) R T c3 hT Rn (fun y hy => ⟨Lo y (Rm y hy).1, (Rm y hy).2⟩) (by omega)
        have hs' : ∀ z ∈ T'.map (·.1), z ∈ L := fun z hz => by
          rcases (g2 z).mp hz with h | h
          · exact hs z h
          · exact (Rm z h).1
        have ie : (sts R).isEmpty = false := by
          cases R with
          | nil => simp at Rp
          | cons a b => rfl
        have body : B_height_4 [pc q (PT.p P), .val (.str x), nc q2 P L, c3, .ownD (htK T) (htV T), c5] = .nx [pc q (PT.p P), .val (.str x), nc false P L, d3, .ownD (htK T') (htV T'), .val (.lst (sts R))] := by
          unfold B_height_4
          rw [mSeq_nx s1, ← hR, mSeq_nx (ρ1 := [pc q (PT.p P), .val (.str x), nc false P L, c3, .ownD (htK T) (htV T), .own (sts R)]) (by cases q <;> (simp only [pc_t, pc_f, nc, Bool.false_eq_true, if_false]; simp_arith! [ie, Bool.not_true, Bool.not_false])),
            mFor_ok (ds := sts R) (ρ1 := [pc q (PT.p P), .val (.str x), nc false P L, c3, .ownD (htK T) (htV T), .val (.lst (sts R))]) (by cases q <;> (simp only [pc_t, pc_f, nc, Bool.false_eq_true, if_false]; simp_arith! [])), e]
        have ih := height_while q P hP hl x L Ln Lx Lc Lo Ll n T' false d3 (.val (.lst (sts R))) g1 hs' (by omega)
        rw [mWhile_nx tst body]
        exact ih
theorem height_ok (q : Bool) (P : PT) (hP : PTok P) (hl : P.length ≤ 12) (x : Str) (hx : ∀ y, To P x y → okB P y) :
    ∃ d, F_height [pc q (PT.p P), .val (.str x)] = .ret (.dd d) [pc q (PT.p P), .val (.str x)] ∧ ((∃ h, d = .int h ∧ Ht P x h) ∨ (d = .non ∧ ∀ h, ¬ Ht P x h)) := by
  obtain ⟨F, f1, f2, eF⟩ := reach_ok q P hP hl x
  obtain ⟨d3, eN⟩ := named_loop q P (fun y t ht => (hP.bl _ (lookT_mem ht)).2.lr) (.val (.str x)) .no .no F [] .no (by simp; omega)
  obtain ⟨L, hL⟩ : ∃ L, L = insL [] F := ⟨_, rfl⟩
  rw [← hL] at eN
  have Lm : ∀ y, y ∈ L ↔ To P x y := fun y => by rw [hL, insL_mem, ← f1]; simp
  have Ln : L.Nodup := by rw [hL]; exact insL_nd List.nodup_nil
  have Ll : L.length ≤ 100000 := by rw [hL]; have := insL_len F []; simp at this; omega
  have W := height_while q P hP hl x L Ln ((Lm x).mpr .refl) (fun y hy z hz => (Lm z).mpr (.step ((Lm y).mp hy) hz)) (fun y hy => hx y ((Lm y).mp hy)) Ll whileMost [] true d3 .no ⟨by simp, by simp⟩ (by simp) (by unfold whileMost; simp; omega)
  have pre : ∀ k : MS, mSeq (mAsg 2 (mDict0)) (mSeq (mFor (miSeq (mCall 2 F_reach [.nm 0, .nm 1])) (mgName 3) (B_height_1)) (mSeq (mAsg 4 (mDict0)) k)) [pc q (PT.p P), .val (.str x), .no, .no, .no, .no] = k [pc q (PT.p P), .val (.str x), nc true P L, d3, .ownD (htK []) (htV []), .no] := fun k => by
    rw [mSeq_nx (ρ1 := [pc q (PT.p P), .val (.str x), .ownD (ksS []) (nmV P []), .no, .no, .no]) (by cases q <;> (simp only [pc_t, pc_f]; simp_arith! []; rfl)),
      mSeq_nx (ρ1 := [pc q (PT.p P), .val (.str x), nc true P L, d3, .no, .no]) (by
        rw [mFor_ok (ds := sts F) (ρ1 := [pc q (PT.p P), .val (.str x), .ownD (ksS []) (nmV P []), .no, .no, .no]) (by cases q <;> (simp only [pc_t, pc_f] at eF ⊢; simp_arith! [eF])), eN]; rfl),
      mSeq_nx (ρ1 := [pc q (PT.p P), .val (.str x), nc true P L, d3, .ownD (htK []) (htV []), .no]) (by cases q <;> (simp only [pc_t, pc_f, nc, if_true]; simp_arith! []; rfl))]
  rcases W with ⟨T', q3, d3', d5, e, hT, hm⟩ | ⟨T', q3, d3', d5, e, hn⟩
  · obtain ⟨g1, g2⟩ := hT.get hm
    have gx := dget_H x T'
    rw [g1] at gx
    simp only [Option.map_some] at gx
    refine ⟨.int (gT T' x), ?_, .inl ⟨_, rfl, g2⟩⟩
    unfold F_height M_height mkF
    simp only [pad, List.length_cons, List.length_nil, List.replicate, Nat.reduceAdd, Nat.reduceSub, List.cons_append, List.nil_append]
    rw [pre, mSeq_nx e]
    cases q <;> cases q3 <;> (simp only [pc_t, pc_f, nc, if_true, Bool.false_eq_true, if_false]; simp_arith! [key_str, gx])
  · refine ⟨.non, ?_, .inr ⟨rfl, hn⟩⟩
    unfold F_height M_height mkF
    simp only [pad, List.length_cons, List.length_nil, List.replicate, Nat.reduceAdd, Nat.reduceSub, List.cons_append, List.nil_append]
    rw [pre]
    unfold mSeq
    rw [e]
    cases q <;> rfl



/-! ### machines: frames, the ended ones taken away -/
theorem atI_top {α : Type} (pre : List α) (a : α) : atI (pre ++ [a]) (-1) = some a := by
  have := atI_neg (pre ++ [a]) 1 (by decide) (by simp)
  simpa using this
theorem cut_last {α : Type} (pre : List α) (a : α) : cut (pre ++ [a]) none (some (-1)) = pre := by
  unfold cut HT.sIx
  simp only [if_pos (show (-1 : Int) < 0 by decide), List.drop_zero, Nat.sub_zero]
  have : ((-1 : Int) + ((pre ++ [a]).length : Int)).toNat = pre.length := by simp; omega
  rw [this, List.take_left]
theorem neg1 : oNeg (.int 1) = some (.dd (.int (-1))) := rfl
def frD (f : Str × Nat) : D := .tup [.str f.1, .int (f.2 : Int)]
/-- frames, the top first -/
abbrev Frs := List (Str × Nat)
def frs (fs : Frs) : List D := fs.reverse.map frD
theorem frs_cons (f : Str × Nat) (fs : Frs) : frs (f :: fs) = frs fs ++ [frD f] := by unfold frs; simp
theorem frs_len (fs : Frs) : (frs fs).length = fs.length := by unfold frs; simp
def endedB (P : PT) (f : Str × Nat) : Bool := match lookT P f.1 with
  | some t => decide (f.2 = t.rs.length)
  | none => false
def leaveK (P : PT) : Frs → Frs
  | [] => []
  | f :: fs => if endedB P f = true then leaveK P fs else f :: fs
theorem leaveK_t {P : PT} {f : Str × Nat} (fs : Frs) (h : endedB P f = true) : leaveK P (f :: fs) = leaveK P fs := by
  show (if endedB P f = true then leaveK P fs else f :: fs) = _
  rw [if_pos h]
theorem leaveK_f {P : PT} {f : Str × Nat} (fs : Frs) (h : ¬ endedB P f = true) : leaveK P (f :: fs) = f :: fs := by
  show (if endedB P f = true then leaveK P fs else f :: fs) = _
  rw [if_neg h]
/-- a frame of a block that there is -/
def FrOk (P : PT) (f : Str × Nat) : Prop := ∃ t, lookT P f.1 = some t ∧ f.2 ≤ t.rs.length
def FsOk (P : PT) (fs : Frs) : Prop := ∀ f ∈ fs, FrOk P f
theorem FsOk.tail {P : PT} {f : Str × Nat} {fs : Frs} (h : FsOk P (f :: fs)) : FsOk P fs := fun g hg => h g (List.mem_cons_of_mem _ hg)
theorem FsOk.cons {P : PT} {f : Str × Nat} {fs : Frs} (h : FsOk P fs) (k : FrOk P f) : FsOk P (f :: fs) := fun g hg => by
  rcases List.mem_cons.mp hg with rfl | hg
  · exact k
  · exact h g hg
theorem leave_ok {P : PT} : ∀ {fs : Frs}, FsOk P fs → FsOk P (leaveK P fs) ∧ (leaveK P fs).length ≤ fs.length ∧ (∀ f gs, leaveK P fs = f :: gs → endedB P f = false)
  | [], h => ⟨h, Nat.le_refl _, fun _ _ e => by cases e⟩
  | f :: fs, h => by
    obtain ⟨h1, h2, h3⟩ := leave_ok h.tail
    unfold leaveK
    by_cases he : endedB P f = true
    · rw [if_pos he]
      exact ⟨h1, by simp; omega, h3⟩
    · rw [if_neg he]
      exact ⟨h, Nat.le_refl _, fun g gs e => by cases e; simpa using he⟩
def pd (P : PT) : D := .dct (Pg.ks (PT.p P)) (Pg.vs (PT.p P))
theorem nm_len {P : PT} (hP : PTok P) {x : Str} {t : TBk} (h : lookT P x = some t) : x.length ≤ 600 := by
  have := (hP.bl _ (lookT_mem h)).1.2.1
  simp only at this
  omega
theorem rs_len {P : PT} (hP : PTok P) {x : Str} {t : TBk} (h : lookT P x = some t) : t.ok := (hP.bl _ (lookT_mem h)).2
theorem blk_some {P : PT} (hP : PTok P) {x : Str} {t : TBk} (h : lookT P x = some t) : F_block_of [.val (pd P), .val (.str x)] = .ret (.dd (.tup [.tup (kds t.i), .tup (kds t.o), .lst (t.rs.map RS.d)])) [.val (pd P), .val (.str x)] := by
  have e := block_of_ok false (PT.p P) x (nm_len hP h)
  rw [look_p, h] at e
  exact e
theorem blk_none {P : PT} {x : Str} (hx : x.length ≤ 600) (h : lookT P x = none) : F_block_of [.val (pd P), .val (.str x)] = .exc "NoBlock" [.val (pd P), .val (.str x)] := by
  have e := block_of_ok false (PT.p P) x hx
  rw [look_p, h] at e
  exact e
theorem begun_some {P : PT} (hP : PTok P) {x : Str} {t : TBk} (h : lookT P x = some t) : F_M_begun (pd P) [.str x] [] = .ret (.dd (frD (x, 0))) [] := by
  have e := blk_some hP h
  unfold F_M_begun M_M_begun
  simp_arith [e, frD]
  rfl
theorem begun_none {P : PT} {x : Str} (hx : x.length ≤ 600) (h : lookT P x = none) : F_M_begun (pd P) [.str x] [] = .exc "NoBlock" [] := by
  have e := blk_none hx h
  unfold F_M_begun M_M_begun
  simp_arith [e]
theorem ended_ok {P : PT} (hP : PTok P) {f : Str × Nat} (h : FrOk P f) : F_M_has_ended (pd P) [frD f] [] = .ret (.dd (.bl (endedB P f))) [] := by
  obtain ⟨t, h1, h2⟩ := h
  have e := blk_some hP h1
  have a2 : atI [D.tup (kds t.i), D.tup (kds t.o), D.lst (t.rs.map RS.d)] 2 = some (.lst (t.rs.map RS.d)) := rfl
  have hb : endedB P f = decide (((f.2 : Int)) = ((t.rs.map RS.d).length : Int)) := by
    unfold endedB
    rw [h1, List.length_map]
    exact decide_eq_decide.mpr ⟨fun z => by omega, fun z => by omega⟩
  unfold F_M_has_ended M_M_has_ended
  simp_arith [frD, e, a2, oEq_int, hb]
theorem mleave_loop {P : PT} (hP : PTok P) (xs : List D) : ∀ (n : Nat) (fs : Frs), fs.length < n → FsOk P fs →
    mWhile T_M_leave_1 B_M_leave_2 n [.mac 1 (pd P), .own xs, .own (frs fs)] = .nx [.mac 1 (pd P), .own xs, .own (frs (leaveK P fs))]
  | 0, fs, h, _ => by omega
  | n + 1, [], h, _ => by
    refine mWhile_end ?_
    have : frs [] = [] := rfl
    unfold T_M_leave_1
    simp_arith [this, List.isEmpty_nil]
    rfl
  | n + 1, f :: fs, h, hf => by
    have e := ended_ok hP (hf f List.mem_cons_self)
    have a := atI_top (frs fs) (frD f)
    have T : T_M_leave_1 [.mac 1 (pd P), .own xs, .own (frs (f :: fs))] = .ok (endedB P f) [.mac 1 (pd P), .own xs, .own (frs (f :: fs))] := by
      rw [frs_cons]
      have ne : (frs fs ++ [frD f]).isEmpty = false := by simp
      unfold T_M_leave_1
      simp_arith [neg1, a, e, ne]
    by_cases hb : endedB P f = true
    · rw [hb] at T
      rw [mWhile_nx (ρ2 := [.mac 1 (pd P), .own xs, .own (frs fs)]) T, mleave_loop hP xs n fs (by simp at h; omega) hf.tail]
      · rw [leaveK_t fs hb]
      · rw [frs_cons]
        have l1 : (frs fs ++ [frD f]).getLast? = some (frD f) := by simp
        have l2 : (frs fs ++ [frD f]).dropLast = frs fs := by simp
        unfold B_M_leave_2
        simp_arith [l1, l2]
    · have hb' : endedB P f = false := by simpa using hb
      rw [hb'] at T
      rw [mWhile_end T]
      rw [leaveK_f fs hb]
theorem mleave_ok {P : PT} (hP : PTok P) (xs : List D) (fs : Frs) (hl : fs.length < 100000) (hf : FsOk P fs) : F_M_leave (pd P) [] [.own xs, .own (frs fs)] = .ret (.dd .non) [.own xs, .own (frs (leaveK P fs))] := by
  have e := mleave_loop hP xs whileMost fs (Nat.lt_of_lt_of_le hl (by decide)) hf
  unfold F_M_leave M_M_leave
  simp_arith [e, List.take_nil, List.drop_nil, and_self]



/-! ### a plain row on values -/
theorem cutS_to60 (s : Str) : (cutS s none (some 60)).length ≤ 60 := by
  unfold cutS
  simp only [HT.sIx]
  show Array.size _ ≤ 60
  simp
  try omega
theorem Put.val {r : PR} (hr : r.ok) {tk out : List D} (h : Put r.d tk out) (hv : AllV tk) : AllV out := by
  have hok := out_ok hr h hv
  generalize hd : r.d = d at h
  cases h with
  | num i =>
    cases r with
    | num j => cases hd; exact fun d hd => by simp at hd; subst hd; exact .int _ hr.1 hr.2
    | _ => cases hd
  | text s =>
    cases r with
    | text t => cases hd; exact fun d hd => by simp at hd; subst hd; exact .str _ hr
    | _ => cases hd
  | copy n x xs h =>
    exact hv.app (hv x List.mem_cons_self)
  | add a b => exact fun d hd => by simp at hd; subst hd; exact .int _ (Int.emod_nonneg _ (by decide)) (Int.emod_lt_of_pos _ (by decide))
  | mul a b h => exact fun d hd => by simp at hd; subst hd; exact .int _ (Int.emod_nonneg _ (by decide)) (Int.emod_lt_of_pos _ (by decide))
  | less a b =>
    exact fun d hd => by
      simp only [List.mem_cons, List.not_mem_nil, or_false] at hd
      subst hd
      refine .int _ ?_ ?_ <;> split <;> decide
  | join a b ha hb =>
    refine fun d hd => ?_
    have h1 := hok d hd
    simp only [List.mem_cons, List.not_mem_nil, or_false] at hd
    subst hd
    refine .str _ ⟨cutS_to60 _, ?_⟩
    cases h1; assumption
  | swap a b => exact fun d hd => hv d (by simp at hd ⊢; exact hd.symm)
  | long a ha => exact fun d hd => by simp at hd; subst hd; exact .int _ (by omega) (by omega)
  | shw a h0 h1 =>
    refine fun d hd => ?_
    have h2 := hok d hd
    simp only [List.mem_cons, List.not_mem_nil, or_false] at hd
    subst hd
    refine .str _ ⟨?_, ?_⟩
    · have e : toString a = a.toNat.repr := by
        obtain ⟨n, rfl⟩ := Int.eq_ofNat_of_zero_le h0
        rfl
      have h : a.toNat.repr.length ≤ 9 := (Nat.length_repr_le_iff (by decide)).mpr (by omega)
      have l : (Str.ofString a.toNat.repr).length = a.toNat.repr.length := by
        rw [Str.ofString_eq_toList]
        unfold Str.length
        rw [List.size_toArray, List.length_map, String.length_toList]
      rw [e, l]; omega
    · cases h2; assumption
  | drop a => exact fun d hd => (by cases hd)
theorem AllV.app2 {xs ys : List D} (h : AllV xs) (k : AllV ys) : AllV (xs ++ ys) := fun x hx => by
  rcases List.mem_append.mp hx with hx | hx
  · exact h x hx
  · exact k x hx
theorem AllV.take {xs : List D} (h : AllV xs) (n : Nat) : AllV (xs.take n) := fun x hx => h x (List.mem_of_mem_take hx)
def kk (xs : List D) : List Kd := xs.map kdOf
theorem kk_len (xs : List D) : (kk xs).length = xs.length := List.length_map ..
/-- a row that lacks something -/
theorem do_bad {r : PR} (hr : r.ok) (xs : List D) (hx : AllV xs) (hl : xs.length ≤ 5000) {e : Er} (he : lackK (kk xs) r.want = some e) : F_do [.own xs, .val r.d] = .exc e.x [.own xs, .val r.d] := by
  obtain ⟨c, hc, e1⟩ := check_lack hr .t (kk xs) (by rw [kk_len]; omega)
  have hc : c = .val (.tup (kds ((kk xs).drop ((kk xs).length - r.want.length)))) := by rcases hc with hc | hc <;> exact hc
  subst hc
  rw [he] at e1
  have ed : (xs.drop (xs.length - (r.want.map wD).length)).map kD = kds ((kk xs).drop ((kk xs).length - r.want.length)) := by
    rw [kDs, List.map_drop, List.length_map, kk_len]; rfl
  refine do_exc (PR.row hr) xs hx hl e.x ?_
  rw [ed]
  exact e1
/-- a row that puts, on what lies beneath -/
theorem do_good {r : PR} (hr : r.ok) (pre xs : List D) (hp : AllV pre) (hx : AllV xs) (hl : (pre ++ xs).length ≤ 5000) (he : lackK (kk xs) r.want = none) : ∃ ys, AllV ys ∧ ys.length ≤ xs.length + 1 ∧ plainK (kk xs) r = .ok (kk ys) ∧
    F_do [.own (pre ++ xs), .val r.d] = .ret (.dd .non) [.own (pre ++ ys), .val r.d] := by
  obtain ⟨c, hc, e1⟩ := check_lack hr .t (kk xs) (by rw [kk_len]; simp at hl; omega)
  have hc : c = .val (.tup (kds ((kk xs).drop ((kk xs).length - r.want.length)))) := by rcases hc with hc | hc <;> exact hc
  subst hc
  rw [he] at e1
  have hlw : (r.want.map wD).length = r.want.length := List.length_map ..
  have hw : r.want.length ≤ xs.length ∧ fits r.want ((kk xs).drop ((kk xs).length - r.want.length)) = true := by
    unfold lackK at he
    rw [kk_len] at he ⊢
    split at he
    · cases he
    · split at he
      · exact ⟨by omega, by assumption⟩
      · cases he
  have dr : (pre ++ xs).drop ((pre ++ xs).length - r.want.length) = xs.drop (xs.length - r.want.length) := by
    rw [List.length_append, List.drop_append, List.drop_eq_nil_of_le (by omega), List.nil_append]
    congr 1; omega
  have tk : (pre ++ xs).take ((pre ++ xs).length - r.want.length) = pre ++ xs.take (xs.length - r.want.length) := by
    rw [List.length_append, List.take_append, List.take_of_length_le (by omega)]
    congr 2; omega
  have ed : ((pre ++ xs).drop ((pre ++ xs).length - (r.want.map wD).length)).map kD = kds ((kk xs).drop ((kk xs).length - r.want.length)) := by
    rw [hlw, dr, kDs, List.map_drop, kk_len]; rfl
  have tl : (xs.drop (xs.length - r.want.length)).length = r.want.length := by rw [List.length_drop]; omega
  have kd1 : (kk xs).drop ((kk xs).length - r.want.length) = (xs.drop (xs.length - r.want.length)).map kdOf := by rw [kk_len]; unfold kk; rw [List.map_drop]
  obtain ⟨out, hp2, hk⟩ := put_ex hr (hx.drop (xs.length - r.want.length)) tl (by rw [← kd1]; exact hw.2)
  have vo := hp2.val hr (hx.drop _)
  have ol : out.length ≤ r.want.length + 1 := by
    have := (hp2.ok (hx.drop _).allOk fun s e => by
      cases r <;> first | (cases e; exact hr.2) | cases e).2
    omega
  have wl := PR.want_len hr
  refine ⟨xs.take (xs.length - r.want.length) ++ out, (hx.take _).app2 vo, by rw [List.length_append, List.length_take]; omega, ?_, ?_⟩
  · unfold plainK
    rw [he, kd1, ← hk, kk_len]
    unfold kk
    rw [List.map_append, List.map_take]
  · have d := do_ok (PR.row hr) (pre ++ xs) (hp.app2 hx) hl out (by omega) (by rw [ed]; exact e1) (by rw [hlw, dr]; exact put_ok hp2)
    rw [hlw, tk, List.append_assoc] at d
    exact d



/-! ### a machine's step -/
theorem kinds_of_v (xs : List D) (h : AllV xs) (hl : xs.length ≤ 1000000) : F_kinds_of [.val (.lst xs)] = .ret (.dd (.tup (kds (kk xs)))) [.val (.lst xs)] := by
  have e := mLc_map (vsl := [1]) (f := mgName 1) (me := E_kinds_of_1) kD [.val (.lst xs), .no] xs [] (fun d hd => by
    refine ⟨_, [.val (.lst xs), .val d], rfl, ?_, rfl⟩
    have k := kind_of_ok (h d hd)
    unfold E_kinds_of_1
    simp_arith [k]) (by simp; omega)
  rw [List.nil_append] at e
  have ek : xs.map kD = kds (kk xs) := kDs xs
  rw [ek] at e
  unfold F_kinds_of M_kinds_of
  simp_arith! [noneOwn, List.all_cons, List.all_nil, isOwn, Bool.and_true, wipeE, e, backE]
theorem check_ift (a b : Str) (ks : List Kd) (hk : ks.length ≤ 500000) : F_check [.val (RS.ife a b).d, .val (.tup (kds (ks.drop (ks.length - 1))))] = match lackK ks [some .n] with
    | some e => .exc e.x [.val (RS.ife a b).d, .val (.tup (kds (ks.drop (ks.length - 1))))]
    | none => .ret (.dd .non) [.val (RS.ife a b).d, .val (.tup (kds (ks.drop (ks.length - 1))))] := by
  have hc := check_gen (CkIf a b) .t (ks.drop (ks.length - 1)) (by rw [List.length_drop]; omega)
  unfold Sq.c Sq.f at hc
  simp only [] at hc
  rw [hc]
  unfold lackK ckT
  by_cases hf : ks.length < 1
  · rw [if_pos (by rw [List.length_drop]; omega)]
    simp only [List.length_cons, List.length_nil, if_pos (show ks.length < 0 + 1 by omega)]
    rfl
  · rw [if_neg (by rw [List.length_drop]; omega)]
    simp only [List.length_cons, List.length_nil, if_neg (show ¬ ks.length < 0 + 1 by omega)]
    obtain ⟨k, hk1⟩ := one (xs := ks.drop (ks.length - 1)) (by rw [List.length_drop]; omega)
    have hk2 : ks.drop (ks.length - (0 + 1)) = [k] := hk1
    simp only [hk1, hk2]
    cases k
    · simp [fits]
    · simp [fits, Er.x]
/-- what _do does -/
theorem mdo_bad {P : PT} {r : PR} (xs F : List D) {x : Str} (h : F_do [.own xs, .val r.d] = .exc x [.own xs, .val r.d]) : F_M_do (pd P) [r.d] [.own xs, .own F] = .exc x [.own xs, .own F] := by
  obtain ⟨n1, n2⟩ := r.nw
  obtain ⟨rest, hd⟩ := r.at0
  have e0 : atI (D.str r.w :: rest) 0 = some (.str r.w) := atI_zero _ _
  rw [hd] at h ⊢
  unfold F_M_do M_M_do
  simp_arith! [e0, n1, n2, h, List.take_nil, List.drop_nil, List.take_zero, List.drop_zero, and_self]
theorem mdo_good {P : PT} {r : PR} (xs ys F : List D) (h : F_do [.own xs, .val r.d] = .ret (.dd .non) [.own ys, .val r.d]) : F_M_do (pd P) [r.d] [.own xs, .own F] = .ret (.ow (.own [])) [.own ys, .own F] := by
  obtain ⟨n1, n2⟩ := r.nw
  obtain ⟨rest, hd⟩ := r.at0
  have e0 : atI (D.str r.w :: rest) 0 = some (.str r.w) := atI_zero _ _
  rw [hd] at h ⊢
  unfold F_M_do M_M_do
  simp_arith! [e0, n1, n2, h, List.take_nil, List.drop_nil, List.take_zero, List.drop_zero, and_self]
theorem mdo_call {P : PT} (hP : PTok P) (xs F : List D) {x : Str} (hx : x.length ≤ 600) : F_M_do (pd P) [(RS.call x).d] [.own xs, .own F] = match lookT P x with
    | some _ => .ret (.ow (.own [frD (x, 0)])) [.own xs, .own F]
    | none => .exc "NoBlock" [.own xs, .own F] := by
  have a0 : atI [D.str (Str.ofString "call"), D.str x] 0 = some (.str "call") := rfl
  have a1 : atI [D.str (Str.ofString "call"), D.str x] 1 = some (.str x) := rfl
  cases hl : lookT P x with
  | some t =>
    have e := begun_some hP hl
    unfold F_M_do M_M_do RS.d
    simp_arith! [a0, a1, e, List.take_nil, List.drop_nil, List.take_zero, List.drop_zero, and_self]
    try rfl
  | none =>
    have e := begun_none hx hl
    unfold F_M_do M_M_do RS.d
    simp_arith! [a0, a1, e, List.take_nil, List.drop_nil, List.take_zero, List.drop_zero, and_self]
/-- if: the check -/
theorem chosen_bad {P : PT} (xs F : List D) (hx : AllV xs) (hl : xs.length ≤ 500000) (a b : Str) {e : Er} (h : lackK (kk xs) [some .n] = some e) : F_M_chosen (pd P) [(RS.ife a b).d] [.own xs, .own F] = .exc e.x [.own xs, .own F] := by
  have c := check_ift a b (kk xs) (by rw [kk_len]; omega)
  rw [h] at c
  have e1 : cut xs (some (-1)) none = xs.drop (xs.length - 1) := cut_neg xs 1 (by decide)
  have ek := kinds_of_v (xs.drop (xs.length - 1)) (hx.drop _) (by rw [List.length_drop]; omega)
  have e2 : kk (xs.drop (xs.length - 1)) = (kk xs).drop ((kk xs).length - 1) := by unfold kk; rw [List.map_drop, List.length_map]
  rw [e2] at ek
  unfold F_M_chosen M_M_chosen
  simp_arith [neg1, e1, ek, c, List.take_nil, List.drop_nil, List.take_zero, List.drop_zero, and_self]
theorem chosen_good {P : PT} (hP : PTok P) (ys F : List D) (i : Int) (hx : AllV (ys ++ [.int i])) (hl : (ys ++ [D.int i]).length ≤ 500000) (a b : Str) (ha : a.length ≤ 600) (hb : b.length ≤ 600) (h : lackK (kk (ys ++ [.int i])) [some .n] = none) : F_M_chosen (pd P) [(RS.ife a b).d] [.own (ys ++ [.int i]), .own F] = match lookT P (if i = 0 then b else a) with
    | some _ => .ret (.dd (frD (if i = 0 then b else a, 0))) [.own ys, .own F]
    | none => .exc "NoBlock" [.own (ys ++ [.int i]), .own F] := by
  have c := check_ift a b (kk (ys ++ [.int i])) (by rw [kk_len]; omega)
  rw [h] at c
  have e1 : cut (ys ++ [D.int i]) (some (-1)) none = (ys ++ [D.int i]).drop ((ys ++ [D.int i]).length - 1) := cut_neg _ 1 (by decide)
  have ek := kinds_of_v ((ys ++ [D.int i]).drop ((ys ++ [D.int i]).length - 1)) (hx.drop _) (by rw [List.length_drop]; omega)
  have e2 : kk ((ys ++ [D.int i]).drop ((ys ++ [D.int i]).length - 1)) = (kk (ys ++ [D.int i])).drop ((kk (ys ++ [D.int i])).length - 1) := by unfold kk; rw [List.map_drop, List.length_map]
  rw [e2] at ek
  have t := atI_top ys (D.int i)
  have a1 : atI [D.str (Str.ofString "if"), D.str a, D.str b] 1 = some (.str a) := rfl
  have a2 : atI [D.str (Str.ofString "if"), D.str a, D.str b] 2 = some (.str b) := rfl
  have l1 : (ys ++ [D.int i]).getLast? = some (.int i) := by simp
  have l2 : (ys ++ [D.int i]).dropLast = ys := by simp
  have c : F_check [.val (.tup [.str "if", .str a, .str b]), .val (.tup (kds ((kk (ys ++ [.int i])).drop ((kk (ys ++ [.int i])).length - 1))))] = .ret (.dd .non) [.val (.tup [.str "if", .str a, .str b]), .val (.tup (kds ((kk (ys ++ [.int i])).drop ((kk (ys ++ [.int i])).length - 1))))] := c
  have dn : ∀ i : Int, (if i = 0 then b else a).length ≤ 600 := fun i => by split <;> assumption
  by_cases hi : i = 0
  · subst hi
    simp only [if_true]
    cases hk : lookT P b with
    | some t' =>
      have e := begun_some hP hk
      unfold F_M_chosen M_M_chosen RS.d
      simp_arith! [neg1, e1, ek, c, t, a1, a2, e, l1, l2, List.take_nil, List.drop_nil, List.take_zero, List.drop_zero, and_self, frD]
      try rfl
    | none =>
      have e := begun_none hb hk
      unfold F_M_chosen M_M_chosen RS.d
      simp_arith! [neg1, e1, ek, c, t, a1, a2, e, l1, l2, List.take_nil, List.drop_nil, List.take_zero, List.drop_zero, and_self]
      try rfl
  · simp only [if_neg hi]
    cases hk : lookT P a with
    | some t' =>
      have e := begun_some hP hk
      unfold F_M_chosen M_M_chosen RS.d
      simp_arith! [neg1, e1, ek, c, t, a1, a2, e, hi, l1, l2, List.take_nil, List.drop_nil, List.take_zero, List.drop_zero, and_self, frD]
      try rfl
    | none =>
      have e := begun_none ha hk
      unfold F_M_chosen M_M_chosen RS.d
      simp_arith! [neg1, e1, ek, c, t, a1, a2, e, hi, l1, l2, List.take_nil, List.drop_nil, List.take_zero, List.drop_zero, and_self]
      try rfl
theorem mdo_if {P : PT} (xs ys F : List D) (a b : Str) (r : R) (hr : ∀ i, r ≠ .at i) {g : Str × Nat} (h : F_M_chosen (pd P) [(RS.ife a b).d] [.own xs, .own F] = .ret (.dd (frD g)) [.own ys, .own F]) : F_M_do (pd P) [(RS.ife a b).d] [.own xs, .own F] = .ret (.ow (.own [frD g])) [.own ys, .own F] := by
  have a0 : atI [D.str (Str.ofString "if"), D.str a, D.str b] 0 = some (.str "if") := rfl
  unfold RS.d at h
  unfold F_M_do M_M_do RS.d
  simp_arith! [a0, h, List.take_nil, List.drop_nil, List.take_zero, List.drop_zero, and_self]
theorem mdo_if_exc {P : PT} (xs F : List D) (a b : Str) {x : Str} (h : F_M_chosen (pd P) [(RS.ife a b).d] [.own xs, .own F] = .exc x [.own xs, .own F]) : F_M_do (pd P) [(RS.ife a b).d] [.own xs, .own F] = .exc x [.own xs, .own F] := by
  have a0 : atI [D.str (Str.ofString "if"), D.str a, D.str b] 0 = some (.str "if") := rfl
  unfold RS.d at h
  unfold F_M_do M_M_do RS.d
  simp_arith! [a0, h, List.take_nil, List.drop_nil, List.take_zero, List.drop_zero, and_self]
/-! the step -/
theorem over_ok (p : D) (xs : List D) (fs : Frs) : F_Mover p [] [.own xs, .own (frs fs)] = .ret (.dd (.bl (decide (fs.length = 0)))) [.own xs, .own (frs fs)] := by
  have hb : decide (((frs fs).length : Int) = 0) = decide (fs.length = 0) := by
    rw [frs_len]; exact decide_eq_decide.mpr ⟨fun z => by omega, fun z => by omega⟩
  unfold F_Mover M_Mover
  simp_arith [oEq_int, hb, List.take_nil, List.drop_nil, and_self]
theorem rs_at {t : TBk} {n : Nat} {r : RS} (h : t.rs[n]? = some r) : atI (t.rs.map RS.d) (n : Int) = some r.d := by
  obtain ⟨hn, _⟩ := List.getElem?_eq_some_iff.mp h
  rw [atI_nat _ _ (by omega) (by rw [List.length_map]; omega), Int.toNat_natCast, List.getElem?_map, h]; rfl
theorem ix_top {α : Type} (pre : List α) (a : α) : ixN (pre ++ [a]).length (-1) = some pre.length := by
  unfold ixN
  rw [if_neg (by decide), if_pos (by simp; omega)]
  simp; omega
theorem mstep_exc {P : PT} (hP : PTok P) (xs : List D) (f : Str × Nat) (fs : Frs) {t : TBk} (ht : lookT P f.1 = some t) {r : RS} (hr : t.rs[f.2]? = some r) {x : Str} (h : F_M_do (pd P) [r.d] [.own xs, .own (frs (f :: fs))] = .exc x [.own xs, .own (frs (f :: fs))]) :
    F_Mstep (pd P) [] [.own xs, .own (frs (f :: fs))] = .exc x [.own xs, .own (frs (f :: fs))] := by
  have o := over_ok (pd P) xs (f :: fs)
  have ho : decide ((f :: fs).length = 0) = false := by simp
  rw [ho] at o
  have e := blk_some hP ht
  have a := atI_top (frs fs) (frD f)
  have a2 : atI [D.tup (kds t.i), D.tup (kds t.o), D.lst (t.rs.map RS.d)] 2 = some (.lst (t.rs.map RS.d)) := rfl
  have ar := rs_at hr
  rw [frs_cons] at o h ⊢
  unfold frD at o h a ⊢
  unfold F_Mstep M_Mstep
  simp_arith [o, neg1, a, e, a2, ar, h, List.take_nil, List.drop_nil, and_self]
theorem mstep_ok {P : PT} (hP : PTok P) (xs ys : List D) (f : Str × Nat) (fs : Frs) {t : TBk} (ht : lookT P f.1 = some t) {r : RS} (hr : t.rs[f.2]? = some r) (gs : Frs) (hg : gs.length ≤ 1) (hgs : FsOk P gs) (hl : fs.length < 90000) (hf : FsOk P fs)
    (h : F_M_do (pd P) [r.d] [.own xs, .own (frs (f :: fs))] = .ret (.ow (.own (frs gs))) [.own ys, .own (frs (f :: fs))]) :
    F_Mstep (pd P) [] [.own xs, .own (frs (f :: fs))] = .ret (.dd .non) [.own ys, .own (frs (leaveK P (gs ++ (f.1, f.2 + 1) :: fs)))] := by
  have o := over_ok (pd P) xs (f :: fs)
  have ho : decide ((f :: fs).length = 0) = false := by simp
  rw [ho] at o
  have e := blk_some hP ht
  have a := atI_top (frs fs) (frD f)
  have a2 : atI [D.tup (kds t.i), D.tup (kds t.o), D.lst (t.rs.map RS.d)] 2 = some (.lst (t.rs.map RS.d)) := rfl
  have ar := rs_at hr
  obtain ⟨hn, _⟩ := List.getElem?_eq_some_iff.mp hr
  have f1 : FrOk P (f.1, f.2 + 1) := ⟨t, ht, hn⟩
  have all : FsOk P (gs ++ (f.1, f.2 + 1) :: fs) := fun g hg => by
    rcases List.mem_append.mp hg with hg | hg
    · exact hgs g hg
    · exact (hf.cons f1) g hg
  have lv := mleave_ok hP ys (gs ++ (f.1, f.2 + 1) :: fs) (by simp; omega) all
  have ef : frs (gs ++ (f.1, f.2 + 1) :: fs) = frs fs ++ [D.tup [.str f.1, .int ((f.2 : Int) + 1)]] ++ frs gs := by
    unfold frs; simp [frD]
  rw [ef] at lv
  have ix := ix_top (frs fs) (D.tup [.str f.1, .int (f.2 : Int)])
  have st : (frs fs ++ [D.tup [.str f.1, .int (f.2 : Int)]]).set (frs fs).length (D.tup [.str f.1, .int ((f.2 : Int) + 1)]) = frs fs ++ [D.tup [.str f.1, .int ((f.2 : Int) + 1)]] := by simp
  have sz : (frs fs ++ [D.tup [.str f.1, .int ((f.2 : Int) + 1)]]).length + (frs gs).length ≤ sizeLine := le_sz (by simp [frs_len]; omega)
  rw [frs_cons] at o h ⊢
  unfold frD at o h a ⊢
  unfold F_Mstep M_Mstep
  simp_arith [o, neg1, a, e, a2, ar, h, ix, st, sz, lv, List.take_nil, List.drop_nil, and_self]



/-! ### stacks by trails -/
theorem walk_hd (p : Pg) (ks : List Kd) (rs : List RS) : (walkK p ks rs).1[0]? = some ks := by
  cases rs with
  | nil => rfl
  | cons r rs => unfold walkK; cases nextK p ks r <;> rfl
theorem walk_at {p : Pg} : ∀ (rs : List RS) (ks0 : List Kd) (n : Nat) (ks : List Kd) (r : RS), (walkK p ks0 rs).2 = none → (walkK p ks0 rs).1[n]? = some ks → rs[n]? = some r → ∃ ks2, nextK p ks r = .ok ks2 ∧ (walkK p ks0 rs).1[n + 1]? = some ks2
  | [], _, n, _, _, _, _, h => by simp at h
  | r0 :: rs, ks0, n, ks, r, hf, ha, hr => by
    unfold walkK at hf ha ⊢
    cases hn : nextK p ks0 r0 with
    | error e => rw [hn] at hf; cases hf
    | ok k1 =>
      rw [hn] at hf ha
      simp only at hf ha ⊢
      cases n with
      | zero =>
        simp only [List.getElem?_cons_zero, Option.some.injEq] at ha hr
        subst ha; subst hr
        exact ⟨k1, hn, by rw [List.getElem?_cons_succ, walk_hd]⟩
      | succ n =>
        rw [List.getElem?_cons_succ] at ha hr
        rw [List.getElem?_cons_succ]
        exact walk_at rs k1 n ks r hf ha hr
def atK (P : PT) (t : TBk) (n : Nat) : Option (List Kd) := (walkK (PT.p P) t.i t.rs).1[n]?
theorem atK_0 (P : PT) (t : TBk) : atK P t 0 = some t.i := walk_hd _ _ _
theorem nf_2 {P : PT} {t : TBk} (h : faultW (PT.p P) t = none) : (walkK (PT.p P) t.i t.rs).2 = none ∧ lastK (walkK (PT.p P) t.i t.rs).1 = t.o := by
  unfold faultW at h
  cases hw : (walkK (PT.p P) t.i t.rs).2 with
  | some e => rw [hw] at h; cases h
  | none =>
    rw [hw] at h
    simp only at h
    by_cases ho : lastK (walkK (PT.p P) t.i t.rs).1 = t.o
    · exact ⟨rfl, ho⟩
    · rw [if_neg ho] at h; cases h
theorem atK_next {P : PT} {t : TBk} (h : faultW (PT.p P) t = none) {n : Nat} {ks : List Kd} {r : RS} (ha : atK P t n = some ks) (hr : t.rs[n]? = some r) : ∃ ks2, nextK (PT.p P) ks r = .ok ks2 ∧ atK P t (n + 1) = some ks2 :=
  walk_at t.rs t.i n ks r (nf_2 h).1 ha hr
theorem atK_end {P : PT} {t : TBk} (h : faultW (PT.p P) t = none) : atK P t t.rs.length = some t.o := by
  obtain ⟨h1, h2⟩ := nf_2 h
  have hl := walk_len _ t.rs t.i h1
  have hn := walk_ne (PT.p P) t.i t.rs
  unfold atK
  unfold lastK at h2
  rw [List.getLast?_eq_getElem?, hl, Nat.add_sub_cancel] at h2
  cases hg : (walkK (PT.p P) t.i t.rs).1[t.rs.length]? with
  | none =>
    rw [List.getElem?_eq_none_iff] at hg
    omega
  | some x => rw [hg] at h2; rw [← h2]; rfl
theorem atK_le {P : PT} {t : TBk} {n : Nat} {ks : List Kd} (h : atK P t n = some ks) : n ≤ t.rs.length := by
  obtain ⟨h1, _⟩ := List.getElem?_eq_some_iff.mp h
  have := walk_le (PT.p P) t.rs t.i
  omega
/-- frames beneath one whose block has the outs up; b lies beneath all, o are the outs of the first; Q speaks of each frame's name and of how much lies beneath it -/
def Bel (P : PT) (Q : Str → Nat → Prop) (b : List D) (o : List Kd) : List Kd → Frs → List D → Prop
  | up, [], pre => up = o ∧ pre = b
  | up, f :: fs, pre => ∃ t ks pre' ys, lookT P f.1 = some t ∧ atK P t f.2 = some (ks ++ up) ∧ pre = pre' ++ ys ∧ kk ys = ks ∧ Q f.1 pre'.length ∧ Bel P Q b o t.o fs pre'
def Ty (P : PT) (Q : Str → Nat → Prop) (b : List D) (o : List Kd) : Frs → List D → Prop
  | [], xs => ∃ ys, xs = b ++ ys ∧ kk ys = o
  | f :: fs, xs => ∃ t pre ys, lookT P f.1 = some t ∧ atK P t f.2 = some (kk ys) ∧ xs = pre ++ ys ∧ Q f.1 pre.length ∧ Bel P Q b o t.o fs pre
theorem kk_app (a b : List D) : kk (a ++ b) = kk a ++ kk b := List.map_append
theorem Bel.ty {P : PT} {Q : Str → Nat → Prop} {b : List D} {o up : List Kd} {fs : Frs} {pre ys : List D} (h : Bel P Q b o up fs pre) (hk : kk ys = up) : Ty P Q b o fs (pre ++ ys) := by
  cases fs with
  | nil => obtain ⟨rfl, rfl⟩ := h; exact ⟨ys, rfl, hk⟩
  | cons f fs =>
    obtain ⟨t, ks, pre', zs, h1, h2, rfl, h4, h5, h6⟩ := h
    exact ⟨t, pre', zs ++ ys, h1, by rw [h2, kk_app, h4, hk], List.append_assoc .., h5, h6⟩
theorem Bel.fs {P : PT} {Q : Str → Nat → Prop} {b : List D} {o : List Kd} : ∀ {fs : Frs} {up : List Kd} {pre : List D}, Bel P Q b o up fs pre → FsOk P fs
  | [], _, _, _ => fun g hg => by cases hg
  | f :: fs, _, _, ⟨t, _, _, _, h1, h2, _, _, _, h6⟩ => FsOk.cons (Bel.fs h6) ⟨t, h1, atK_le h2⟩
theorem Ty.fs {P : PT} {Q : Str → Nat → Prop} {b : List D} {o : List Kd} : ∀ {fs : Frs} {xs : List D}, Ty P Q b o fs xs → FsOk P fs
  | [], _, _ => fun g hg => by cases hg
  | f :: fs, _, ⟨t, _, _, h1, h2, _, _, h6⟩ => FsOk.cons (Bel.fs h6) ⟨t, h1, atK_le h2⟩
def isIf : RS → Nat
  | .ife _ _ => 1
  | _ => 0
structure Cl (P : PT) (Q : Str → Nat → Prop) : Prop where
  ok : ∀ {x t m}, lookT P x = some t → Q x m → faultW (PT.p P) t = none
  nx : ∀ {x t m n r ks z t'}, lookT P x = some t → Q x m → t.rs[n]? = some r → atK P t n = some ks → z ∈ r.names → lookT P z = some t' → isIf r + t'.i.length ≤ ks.length → Q z (m + (ks.length - isIf r - t'.i.length))
theorem Ty.leave {P : PT} {Q : Str → Nat → Prop} (hQ : Cl P Q) {b : List D} {o : List Kd} : ∀ {fs : Frs} {xs : List D}, Ty P Q b o fs xs → Ty P Q b o (leaveK P fs) xs
  | [], _, h => h
  | f :: fs, xs, h => by
    by_cases he : endedB P f = true
    · rw [leaveK_t fs he]
      obtain ⟨t, pre, ys, h1, h2, rfl, h4, h5⟩ := h
      have hf : f.2 = t.rs.length := by
        unfold endedB at he
        rw [h1] at he
        simpa using he
      rw [hf, atK_end (hQ.ok h1 h4)] at h2
      exact Ty.leave hQ (h5.ty (Option.some.inj h2).symm)
    · rw [leaveK_f fs he]; exact h
theorem Ty.enter {P : PT} {Q : Str → Nat → Prop} (hQ : Cl P Q) {b : List D} {o : List Kd} {f : Str × Nat} {fs : Frs} {pre ys : List D} {t t' : TBk} {r : RS} {z : Str} {ks : List Kd}
    (ht : lookT P f.1 = some t) (hq : Q f.1 pre.length) (hb : Bel P Q b o t.o fs pre) (hr : t.rs[f.2]? = some r) (hk : atK P t f.2 = some ks) (hz : z ∈ r.names) (hl : lookT P z = some t')
    (hy : ks.length = isIf r + ys.length) (hi : t'.i.length ≤ ys.length) (hd : (kk ys).drop ((kk ys).length - t'.i.length) = t'.i) (hn : atK P t (f.2 + 1) = some ((kk ys).take ((kk ys).length - t'.i.length) ++ t'.o)) :
    Ty P Q b o ((z, 0) :: (f.1, f.2 + 1) :: fs) (pre ++ ys) := by
  rw [kk_len] at hd hn
  have q := hQ.nx ht hq hr hk hz hl (by omega)
  refine ⟨t', pre ++ ys.take (ys.length - t'.i.length), ys.drop (ys.length - t'.i.length), hl, ?_, by rw [List.append_assoc, List.take_append_drop], ?_, ?_⟩
  · rw [atK_0]; unfold kk at hd ⊢; rw [List.map_drop, hd]
  · have : (pre ++ ys.take (ys.length - t'.i.length)).length = pre.length + (ks.length - isIf r - t'.i.length) := by
      rw [List.length_append, List.length_take]; omega
    rw [this]; exact q
  · refine ⟨t, kk (ys.take (ys.length - t'.i.length)), pre, ys.take (ys.length - t'.i.length), ht, ?_, rfl, rfl, hq, hb⟩
    rw [hn]; unfold kk; rw [List.map_take]
theorem look_T {P : PT} {x : Str} {b : Bk} (h : look (PT.p P) x = some b) : ∃ t, lookT P x = some t ∧ b.i = t.i ∧ b.o = t.o := by
  rw [look_p] at h
  obtain ⟨t, h1, h2⟩ := Option.map_eq_some_iff.mp h
  exact ⟨t, h1, by rw [← h2]; rfl, by rw [← h2]; rfl⟩
theorem callK_ok {p : Pg} {ks ks2 : List Kd} {x : Str} (h : callK p ks x = .ok ks2) : ∃ b, look p x = some b ∧ b.i.length ≤ ks.length ∧ ks.drop (ks.length - b.i.length) = b.i ∧ ks2 = ks.take (ks.length - b.i.length) ++ b.o := by
  unfold callK at h
  cases hl : look p x with
  | none => rw [hl] at h; cases h
  | some b =>
    rw [hl] at h
    by_cases h1 : ks.length < b.i.length
    · simp only [if_pos h1] at h; cases h
    · by_cases h2 : ks.drop (ks.length - b.i.length) = b.i
      · simp only [if_neg h1, if_pos h2, Except.ok.injEq] at h
        exact ⟨b, rfl, by omega, h2, h.symm⟩
      · simp only [if_neg h1, if_neg h2] at h; cases h
theorem lackK_app {ks : List Kd} {W : List (Option Kd)} (a : List Kd) (h : lackK ks W = none) : lackK (a ++ ks) W = none := by
  unfold lackK at h ⊢
  by_cases h1 : ks.length < W.length
  · rw [if_pos h1] at h; cases h
  · rw [if_neg h1] at h
    rw [List.length_append, if_neg (by omega), List.drop_append, List.drop_eq_nil_of_le (by omega), List.nil_append, show a.length + ks.length - W.length - a.length = ks.length - W.length by omega]
    exact h
theorem top_int {xs : List D} (hx : AllV xs) (h : lackK (kk xs) [some .n] = none) : ∃ ys i, xs = ys ++ [.int i] := by
  obtain ⟨l, hl⟩ := lackK_one h
  have hp : xs ≠ [] := fun z => by subst z; simp [kk] at hl
  refine ⟨xs.dropLast, ?_⟩
  have e := (List.dropLast_concat_getLast hp).symm
  have hv := hx _ (List.getLast_mem hp)
  rw [e] at hl
  unfold kk at hl
  rw [List.map_append] at hl
  have := (List.append_inj' hl rfl).2
  simp only [List.map_cons, List.map_nil, List.cons.injEq, and_true] at this
  obtain ⟨i, hi, _⟩ := isN hv this
  exact ⟨i, by rw [← hi]; exact e⟩
theorem dd_ne_at (d : D) : ∀ i, R.dd d ≠ R.at i := fun _ h => by cases h
theorem ty_step {P : PT} (hP : PTok P) {Q : Str → Nat → Prop} (hQ : Cl P Q) {b : List D} {o : List Kd} (xs : List D) (hx : AllV xs) (hl : xs.length ≤ 5000) (f : Str × Nat) (fs : Frs) (hfl : fs.length < 80000) (hT : Ty P Q b o (f :: fs) xs) (hne : endedB P f = false) :
    ∃ ys gs, F_Mstep (pd P) [] [.own xs, .own (frs (f :: fs))] = .ret (.dd .non) [.own ys, .own (frs gs)] ∧ AllV ys ∧ ys.length ≤ xs.length + 1 ∧ Ty P Q b o gs ys ∧ gs.length ≤ fs.length + 2 ∧ ∀ g hs, gs = g :: hs → endedB P g = false := by
  have hft := hT.fs.tail
  obtain ⟨t, pre, zs, ht, hk, rfl, hq, hb⟩ := hT
  have hle := atK_le hk
  have hn : f.2 < t.rs.length := by
    unfold endedB at hne
    rw [ht] at hne
    have : ¬ f.2 = t.rs.length := by simpa using hne
    omega
  have ha : t.rs[f.2]? = some t.rs[f.2] := List.getElem?_eq_getElem hn
  have hr := (rs_len hP ht).rk _ (List.getElem_mem hn)
  have f1 : FrOk P (f.1, f.2 + 1) := ⟨t, ht, hn⟩
  have hz1 : AllV zs := fun d hd => hx d (List.mem_append_right _ hd)
  have hp1 : AllV pre := fun d hd => hx d (List.mem_append_left _ hd)
  generalize t.rs[f.2] = r at ha hr
  obtain ⟨ks2, hk2, hk3⟩ := atK_next (hQ.ok ht hq) hk ha
  -- a frame begun
  have enter : ∀ (z : Str) (t' : TBk) (ys : List D), AllV ys → ys.length ≤ zs.length → z ∈ r.names → lookT P z = some t' → (kk zs).length = isIf r + ys.length → t'.i.length ≤ ys.length → (kk ys).drop ((kk ys).length - t'.i.length) = t'.i → ks2 = (kk ys).take ((kk ys).length - t'.i.length) ++ t'.o →
      F_M_do (pd P) [r.d] [.own (pre ++ zs), .own (frs (f :: fs))] = .ret (.ow (.own (frs [(z, 0)]))) [.own (pre ++ ys), .own (frs (f :: fs))] →
      ∃ ys gs, F_Mstep (pd P) [] [.own (pre ++ zs), .own (frs (f :: fs))] = .ret (.dd .non) [.own ys, .own (frs gs)] ∧ AllV ys ∧ ys.length ≤ (pre ++ zs).length + 1 ∧ Ty P Q b o gs ys ∧ gs.length ≤ fs.length + 2 ∧ ∀ g hs, gs = g :: hs → endedB P g = false := fun z t' ys hy yl hz hl' e1 e2 e3 e4 md => by
    have fz : FrOk P (z, 0) := ⟨t', hl', Nat.zero_le _⟩
    obtain ⟨l1, l2, l3⟩ := leave_ok (FsOk.cons (f := (z, 0)) (FsOk.cons (f := (f.1, f.2 + 1)) hft f1) fz)
    refine ⟨pre ++ ys, leaveK P ((z, 0) :: (f.1, f.2 + 1) :: fs), mstep_ok hP _ _ f fs ht ha [(z, 0)] (by simp) (fun g hg => by simp at hg; subst hg; exact fz) (by omega) hft md, hp1.app2 hy, by simp; omega, ?_, by simp at l2; omega, l3⟩
    exact Ty.leave hQ (Ty.enter hQ ht hq hb ha hk hz hl' e1 e2 e3 (by rw [hk3, e4]))
  cases r with
  | p r =>
    have hk2 : plainK (kk zs) r = .ok ks2 := hk2
    have he : lackK (kk zs) r.want = none := by
      unfold plainK at hk2
      cases h : lackK (kk zs) r.want with
      | none => rfl
      | some e => rw [h] at hk2; cases hk2
    obtain ⟨ys, y1, y2, y3, y4⟩ := do_good hr pre zs hp1 hz1 hl he
    obtain ⟨l1, l2, l3⟩ := leave_ok (hft.cons f1)
    have ek : ks2 = kk ys := by rw [hk2] at y3; exact Except.ok.inj y3
    refine ⟨pre ++ ys, leaveK P ((f.1, f.2 + 1) :: fs), ?_, hp1.app2 y1, by simp; omega, ?_, by simp at l2; omega, l3⟩
    · exact mstep_ok hP _ _ f fs ht ha [] (by simp) (fun g hg => by cases hg) (by omega) hft (mdo_good _ _ _ y4)
    · exact Ty.leave hQ ⟨t, pre, ys, ht, by rw [hk3, ek], rfl, hq, hb⟩
  | call x =>
    have hk2 : callK (PT.p P) (kk zs) x = .ok ks2 := hk2
    obtain ⟨bk, b1, b2, b3, b4⟩ := callK_ok hk2
    obtain ⟨t', t1, t2, t3⟩ := look_T b1
    rw [t2] at b2 b3 b4
    rw [t3] at b4
    have md := mdo_call hP (pre ++ zs) (frs (f :: fs)) hr.1
    simp only [t1] at md
    exact enter x t' zs hz1 (Nat.le_refl _) (by simp [RS.names]) t1 (by rw [kk_len]; simp [isIf]) (by rw [kk_len] at b2; exact b2) b3 b4 md
  | ife x y =>
    have hk2 : ifK (PT.p P) (kk zs) x y = .ok ks2 := hk2
    unfold ifK at hk2
    cases hlk : lackK (kk zs) [some .n] with
    | some e => rw [hlk] at hk2; cases hk2
    | none =>
      rw [hlk] at hk2
      simp only at hk2
      cases hx1 : look (PT.p P) x with
      | none => rw [hx1] at hk2; cases hk2
      | some bx =>
        cases hy1 : look (PT.p P) y with
        | none => rw [hx1, hy1] at hk2; cases hk2
        | some by1 =>
          rw [hx1, hy1] at hk2
          simp only at hk2
          by_cases hio : bx.i = by1.i ∧ bx.o = by1.o
          · rw [if_pos hio] at hk2
            obtain ⟨ys, i, rfl⟩ := top_int hz1 hlk
            have hdl : (kk (ys ++ [D.int i])).dropLast = kk ys := by rw [kk_app]; exact List.dropLast_concat
            rw [hdl] at hk2
            obtain ⟨bk, b1, b2, b3, b4⟩ := callK_ok hk2
            rw [hx1] at b1
            cases b1
            obtain ⟨tx, tx1, tx2, tx3⟩ := look_T hx1
            obtain ⟨ty, ty1, ty2, ty3⟩ := look_T hy1
            have hy0 : AllV ys := fun d hd => hz1 d (List.mem_append_left _ hd)
            have lkx : lackK (kk (pre ++ ys ++ [D.int i])) [some .n] = none := by
              rw [List.append_assoc, kk_app]; exact lackK_app _ hlk
            have as : pre ++ (ys ++ [D.int i]) = pre ++ ys ++ [D.int i] := (List.append_assoc ..).symm
            rw [as] at hx hl
            have ch := chosen_good hP (pre ++ ys) (frs (f :: fs)) i hx (by omega) x y hr.1.1 hr.2.1 lkx
            obtain ⟨z, t', hz, hz2, hz3, hz4, ch⟩ : ∃ z t', z ∈ (RS.ife x y).names ∧ lookT P z = some t' ∧ t'.i = bx.i ∧ t'.o = bx.o ∧ F_M_chosen (pd P) [(RS.ife x y).d] [.own (pre ++ ys ++ [.int i]), .own (frs (f :: fs))] = .ret (.dd (frD (z, 0))) [.own (pre ++ ys), .own (frs (f :: fs))] := by
              by_cases hi : i = 0
              · simp only [if_pos hi, ty1] at ch
                exact ⟨y, ty, by simp [RS.names], ty1, by rw [← ty2, hio.1], by rw [← ty3, hio.2], ch⟩
              · simp only [if_neg hi, tx1] at ch
                exact ⟨x, tx, by simp [RS.names], tx1, tx2.symm, tx3.symm, ch⟩
            have md := mdo_if (P := P) _ (pre ++ ys) _ x y (.dd .non) (dd_ne_at _) (g := (z, 0)) ch
            rw [← as] at md
            refine enter z t' ys hy0 (by simp) hz hz2 (by rw [kk_len]; simp [isIf]; omega) (by rw [kk_len] at b2; rw [hz3]; exact b2) (by rw [hz3]; exact b3) (by rw [hz3, hz4]; exact b4) md
          · rw [if_neg hio] at hk2; cases hk2



/-! ### lists alike -/
theorem atI_memV (xs : List D) (k : Nat) (h : k < xs.length) : ∃ d ∈ xs, atI xs (k : Int) = some d := by
  obtain ⟨d, h1, h2⟩ := atI_lt xs (k : Int) (by omega) (by omega)
  exact ⟨d, h1, h2⟩
theorem alikeV_loop (q1 q2 : Bool) (xs : List D) (h : AllV xs) : ∀ (js : List Nat) (c : Cell), (∀ j ∈ js, j < xs.length) → ∃ c', mLoop (mgName 2) B_law_alike_1 (js.map fun (k : Nat) => D.int k) [lc q1 xs, lc q2 xs, c] = .nx [lc q1 xs, lc q2 xs, c']
  | [], c, _ => ⟨c, rfl⟩
  | j :: js, c, hj => by
    obtain ⟨c', ih⟩ := alikeV_loop q1 q2 xs h js (.val (.int j)) fun x hx => hj x (List.mem_cons_of_mem _ hx)
    obtain ⟨d, h1, h2⟩ := atI_memV xs j (hj j List.mem_cons_self)
    refine ⟨c', ?_⟩
    rw [List.map_cons, mLoop_nx (ρ2 := [lc q1 xs, lc q2 xs, .val (.int j)]) rfl, ih]
    cases h d h1 with
    | int i =>
      have t1 : oIsi (.int i) (.ty "str") = some (.dd (.bl false)) := rfl
      have t2 : oIsi (.int i) (.ty "bool") = some (.dd (.bl false)) := rfl
      have t3 : oIsi (.int i) (.ty "int") = some (.dd (.bl true)) := rfl
      unfold B_law_alike_1
      cases q1 <;> cases q2 <;> (simp only [lc_t, lc_f]; simp_arith [mgName, h2, t1, t2, t3, oNe_bl, decide_true])
    | str s hs =>
      have t1 : oIsi (.str s) (.ty "str") = some (.dd (.bl true)) := rfl
      unfold B_law_alike_1
      cases q1 <;> cases q2 <;> (simp only [lc_t, lc_f]; simp_arith [mgName, h2, t1, oNe_bl, decide_true])
theorem alikeV_ok (q1 q2 : Bool) (xs : List D) (h : AllV xs) (hl : xs.length ≤ 1000) : F_law_alike [lc q1 xs, lc q2 xs] = .ret (.dd (.bl true)) [lc q1 xs, lc q2 xs] := by
  obtain ⟨c', e⟩ := alikeV_loop q1 q2 xs h (List.range xs.length) .no fun j hj => List.mem_range.mp hj
  have t1 : oIsi (.lst xs) (.ty "list") = some (.dd (.bl true)) := rfl
  have hq := oEq_same h.allOk
  have hM : M_law_alike [lc q1 xs, lc q2 xs, .no] = .ret (.dd (.bl true)) [lc q1 xs, lc q2 xs, c'] := by
    unfold M_law_alike
    rw [mSeq_nx (ρ1 := [lc q1 xs, lc q2 xs, .no]) (by cases q1 <;> cases q2 <;> (simp only [lc_t, lc_f]; simp_arith [t1, oNe_int, decide_true])), mSeq_nx ((mFor_ok (rng_len 1 xs _ (by cases q2 <;> rfl) (by omega))).trans e)]
    cases q1 <;> cases q2 <;> (simp only [lc_t, lc_f]; simp_arith [hq])
  unfold F_law_alike
  show (match M_law_alike [lc q1 xs, lc q2 xs, .no] with
    | .nx ρ => FR.ret (.dd .non) (outs [true, true] ρ)
    | .ret (.at _) _ => .bad
    | .ret r ρ => .ret r (outs [true, true] ρ)
    | .exc x ρ => .exc x (outs [true, true] ρ)
    | _ => .bad) = _
  rw [hM]
  rfl



/-! ### a machine as it should stand -/
theorem frs_py {P : PT} (hP : PTok P) : ∀ {fs : List (Str × Nat)}, (∀ f ∈ fs, FrOk P f) → ∃ ps, pyL (fs.map frD) = some ps ∧ PyData.canLayAll0 ps = true ∧ PyData.depthAll ps ≤ 1 ∧ PyData.eqvAll ps ps = true
  | [], _ => ⟨[], rfl, rfl, by decide, rfl⟩
  | f :: fs, h => by
    obtain ⟨ps, h1, h2, h3, h4⟩ := frs_py hP (fs := fs) fun x hx => h x (List.mem_cons_of_mem _ hx)
    obtain ⟨t, ht, _⟩ := h f List.mem_cons_self
    have hs : PyData.strOk f.1 = true := (hP.bl _ (lookT_mem ht)).1.2.2
    have e : D.py (frD f) = some (.tuple [.str f.1, .int (f.2 : Int)]) := rfl
    refine ⟨.tuple [.str f.1, .int (f.2 : Int)] :: ps, ?_, ?_, ?_, ?_⟩
    · rw [List.map_cons]; unfold pyL; rw [e, h1]
    · unfold PyData.canLayAll0
      simp [PyData.canLay0, PyData.canLayAll0, hs, h2]
    · unfold PyData.depthAll
      simp [PyData.depth, PyData.depthAll]
      omega
    · unfold PyData.eqvAll
      simp [PyData.eqv, PyData.eqvAll, h4]
theorem oEq_frs {P : PT} (hP : PTok P) {fs : Frs} (h : FsOk P fs) : oEq (.lst (frs fs)) (.lst (frs fs)) = some (.dd (.bl true)) := by
  obtain ⟨ps, h1, h2, h3, h4⟩ := frs_py hP (fs := fs.reverse) fun f hf => h f (List.mem_reverse.mp hf)
  have h1 : pyL (frs fs) = some ps := h1
  have e : D.py (.lst (frs fs)) = some (.list ps) := by unfold D.py; rw [h1]; rfl
  have s : SeqAt.shaped (.list ps) = true := by
    simp only [SeqAt.shaped, PyData.canLay0, h2, PyData.depth]
    simp
    omega
  have q : PyData.eqv (.list ps) (.list ps) = true := by simp [PyData.eqv, h4]
  unfold oEq oEqB
  simp only [D.scal, e, s, and_self, if_true, q, Option.map_some]
theorem bools_false : ∀ ds : List D, bools (ds.map fun _ => D.bl false) = some (List.replicate ds.length false)
  | [] => rfl
  | d :: ds => by
    show Option.map _ (bools (ds.map fun _ => D.bl false)) = _
    rw [bools_false ds]; rfl
theorem mstep_over {P : PT} (xs : List D) : F_Mstep (pd P) [] [.own xs, .own (frs [])] = .ret (.dd .non) [.own xs, .own (frs [])] := by
  have o := over_ok (pd P) xs []
  have ho : decide (([] : Frs).length = 0) = true := rfl
  rw [ho] at o
  unfold F_Mstep M_Mstep
  simp_arith [o, List.take_nil, List.drop_nil, and_self]



/-! ### steps one by one -/
theorem do_put {r : PR} (hr : r.ok) (pre tk out : List D) (hp : AllV pre) (ht : AllV tk) (hl : (pre ++ tk).length ≤ 5000) (hw : tk.length = r.want.length) (hf : fits r.want (kk tk) = true) (h : Put r.d tk out) :
    F_do [.own (pre ++ tk), .val r.d] = .ret (.dd .non) [.own (pre ++ out), .val r.d] ∧ AllV out ∧ out.length ≤ r.want.length + 1 := by
  have he : lackK (kk tk) r.want = none := by
    unfold lackK
    rw [kk_len, if_neg (by omega), hw, Nat.sub_self, List.drop_zero, if_pos hf]
  have wl := PR.want_len hr
  obtain ⟨c, hc, e1⟩ := check_lack hr .t (kk tk) (by rw [kk_len]; omega)
  have hc : c = .val (.tup (kds ((kk tk).drop ((kk tk).length - r.want.length)))) := by rcases hc with hc | hc <;> exact hc
  subst hc
  rw [he, kk_len, hw, Nat.sub_self, List.drop_zero] at e1
  have hlw : (r.want.map wD).length = r.want.length := List.length_map ..
  have dr : (pre ++ tk).drop ((pre ++ tk).length - r.want.length) = tk := by
    rw [List.length_append, hw, Nat.add_sub_cancel, List.drop_left]
  have tk' : (pre ++ tk).take ((pre ++ tk).length - r.want.length) = pre := by
    rw [List.length_append, hw, Nat.add_sub_cancel, List.take_left]
  have ed : ((pre ++ tk).drop ((pre ++ tk).length - (r.want.map wD).length)).map kD = kds (kk tk) := by
    rw [hlw, dr, kDs]; rfl
  have vo := h.val hr ht
  have ol : out.length ≤ r.want.length + 1 := by
    have := (h.ok ht.allOk fun s e => by
      cases r <;> first | (cases e; exact hr.2) | cases e).2
    omega
  have d := do_ok (PR.row hr) (pre ++ tk) (hp.app2 ht) hl out (by omega) (by rw [ed]; exact e1) (by rw [hlw, dr]; exact put_ok h)
  rw [hlw, tk'] at d
  exact ⟨d, vo, ol⟩
/-- a step of the machine -/
def Sp (P : PT) (s s' : List D × Frs) : Prop := F_Mstep (pd P) [] [.own s.1, .own (frs s.2)] = .ret (.dd .non) [.own s'.1, .own (frs s'.2)]
theorem sp_nil {P : PT} (xs : List D) : Sp P (xs, []) (xs, []) := mstep_over xs
/-- steps, each from a machine that is not over -/
inductive Stp (P : PT) : Nat → List D × Frs → List D × Frs → Prop
  | nil (s) : Stp P 0 s s
  | cons {n xs f fs s1 s2} : Sp P (xs, f :: fs) s1 → Stp P n s1 s2 → Stp P (n + 1) (xs, f :: fs) s2
theorem Stp.one {P : PT} {xs f fs s1} (h : Sp P (xs, f :: fs) s1) : Stp P 1 (xs, f :: fs) s1 := .cons h (.nil _)
theorem Stp.trans {P : PT} {n s1 s2} (h : Stp P n s1 s2) : ∀ {m s3}, Stp P m s2 s3 → Stp P (n + m) s1 s3 := by
  induction h with
  | nil s => intro m s3 k; rw [Nat.zero_add]; exact k
  | cons a _ ih => intro m s3 k; rw [Nat.add_right_comm]; exact .cons a (ih k)
theorem Stp.cut {P : PT} {n s1 s2} (h : Stp P n s1 s2) : ∀ {m}, m ≤ n → ∃ s, Stp P m s1 s ∧ Stp P (n - m) s s2 := by
  induction h with
  | nil s => intro m hm; exact ⟨s, by rw [Nat.le_zero.mp hm]; exact .nil s, by rw [Nat.le_zero.mp hm]; exact .nil s⟩
  | @cons n xs f fs s1 s2 a b ih =>
    intro m hm
    cases m with
    | zero => exact ⟨_, .nil _, .cons a b⟩
    | succ m =>
      obtain ⟨s, h1, h2⟩ := ih (show m ≤ n by omega)
      exact ⟨s, .cons a h1, by rw [Nat.add_sub_add_right]; exact h2⟩
theorem Stp.seq {P : PT} {n s1 s2} (h : Stp P n s1 s2) : ∃ a : Nat → List D × Frs, a 0 = s1 ∧ (∀ j, n ≤ j → a j = s2) ∧ ∀ j, j < n → Sp P (a j) (a (j + 1)) := by
  induction h with
  | nil s => exact ⟨fun _ => s, rfl, fun _ _ => rfl, fun j hj => by omega⟩
  | @cons n xs f fs s1 s2 a b ih =>
    obtain ⟨g, g0, g1, g2⟩ := ih
    refine ⟨fun j => match j with | 0 => (xs, f :: fs) | j + 1 => g j, rfl, fun j hj => ?_, fun j hj => ?_⟩
    · cases j with
      | zero => omega
      | succ j => exact g1 j (by omega)
    · cases j with
      | zero => show Sp P (xs, f :: fs) (g 0); rw [g0]; exact a
      | succ j => exact g2 j (by omega)
/-- a plain row -/
theorem sp_plain {P : PT} (hP : PTok P) {f : Str × Nat} {fs : Frs} {t : TBk} (ht : lookT P f.1 = some t) {r : PR} (hr : t.rs[f.2]? = some (.p r)) (pre tk out : List D) (hp : AllV pre) (hk : AllV tk) (hl : (pre ++ tk).length ≤ 5000) (hw : tk.length = r.want.length) (hf : fits r.want (kk tk) = true) (h : Put r.d tk out)
    (hfl : fs.length < 80000) (hfs : FsOk P fs) : Sp P (pre ++ tk, f :: fs) (pre ++ out, leaveK P ((f.1, f.2 + 1) :: fs)) := by
  have ok : r.ok := (rs_len hP ht).rk _ (List.mem_of_getElem? hr)
  obtain ⟨d, _, _⟩ := do_put ok pre tk out hp hk hl hw hf h
  exact mstep_ok hP _ _ f fs ht hr [] (by simp) (fun g hg => by cases hg) (by omega) hfs (mdo_good _ _ _ d)
theorem sp_call {P : PT} (hP : PTok P) {f : Str × Nat} {fs : Frs} {t : TBk} (ht : lookT P f.1 = some t) {x : Str} (hr : t.rs[f.2]? = some (.call x)) {t' : TBk} (hx : lookT P x = some t') (xs : List D) (hfl : fs.length < 80000) (hfs : FsOk P fs) :
    Sp P (xs, f :: fs) (xs, leaveK P ((x, 0) :: (f.1, f.2 + 1) :: fs)) := by
  have ok : (RS.call x).ok := (rs_len hP ht).rk _ (List.mem_of_getElem? hr)
  have md := mdo_call hP xs (frs (f :: fs)) ok.1
  simp only [hx] at md
  exact mstep_ok hP xs xs f fs ht hr [(x, 0)] (by simp) (fun g hg => by simp at hg; subst hg; exact ⟨t', hx, Nat.zero_le _⟩) (by omega) hfs md
theorem sp_if {P : PT} (hP : PTok P) {f : Str × Nat} {fs : Frs} {t : TBk} (ht : lookT P f.1 = some t) {x y z : Str} (hr : t.rs[f.2]? = some (.ife x y)) (ys : List D) (i : Int) (hv : AllV (ys ++ [.int i])) (hl : (ys ++ [D.int i]).length ≤ 5000) (hz : z = if i = 0 then y else x) {t' : TBk} (hx : lookT P z = some t') (hfl : fs.length < 80000) (hfs : FsOk P fs) :
    Sp P (ys ++ [.int i], f :: fs) (ys, leaveK P ((z, 0) :: (f.1, f.2 + 1) :: fs)) := by
  have ok : (RS.ife x y).ok := (rs_len hP ht).rk _ (List.mem_of_getElem? hr)
  have lk : lackK (kk (ys ++ [D.int i])) [some .n] = none := by
    rw [kk_app]
    exact lackK_app _ rfl
  have ch := chosen_good hP ys (frs (f :: fs)) i hv (by omega) x y ok.1.1 ok.2.1 lk
  rw [← hz] at ch
  simp only [hx] at ch
  exact mstep_ok hP _ ys f fs ht hr [(z, 0)] (by simp) (fun g hg => by simp at hg; subst hg; exact ⟨t', hx, Nat.zero_le _⟩) (by omega) hfs (mdo_if _ ys _ x y (.dd .non) (dd_ne_at _) ch)


/-! ### the counting program -/
def rsY (some : Int) (X : Str) : Bool → List RS
  | false => [.p (.num 999999999), .p .add, .call X, .p (.num some), .p .add]
  | true => [.p (.copy 0), .p (.num 999999999), .p .add, .call X, .p .add]
def tX (Y Z : Str) : TBk := ⟨[.n], [.n], [.p (.copy 0), .ife Y Z]⟩
def tY (some : Int) (X : Str) (lv : Bool) : TBk := ⟨[.n], [.n], rsY some X lv⟩
def tZ : TBk := ⟨[.n], [.n], []⟩
structure C13 where
  X : Str
  Y : Str
  Z : Str
  s : Int
  lv : Bool
  hX : NmOk X
  hY : NmOk Y
  hZ : NmOk Z
  xy : X ≠ Y
  xz : X ≠ Z
  yz : Y ≠ Z
  s0 : 0 ≤ s
  s1 : s < 1000000000
def C13.P (c : C13) : PT := [(c.Z, tZ), (c.X, tX c.Y c.Z), (c.Y, tY c.s c.X c.lv)]
variable (c : C13)
theorem C13.lZ : lookT c.P c.Z = some tZ := by
  show (if c.Z = c.Z then _ else _) = _
  rw [if_pos rfl]
theorem C13.lX : lookT c.P c.X = some (tX c.Y c.Z) := by
  show (if c.Z = c.X then _ else if c.X = c.X then _ else _) = _
  rw [if_neg (fun e => c.xz e.symm), if_pos rfl]
theorem C13.lY : lookT c.P c.Y = some (tY c.s c.X c.lv) := by
  show (if c.Z = c.Y then _ else if c.X = c.Y then _ else if c.Y = c.Y then _ else _) = _
  rw [if_neg (fun e => c.yz e.symm), if_neg c.xy, if_pos rfl]
theorem C13.ok : PTok c.P := by
  have nm : ∀ x : Str, NmOk x → x.length ≤ 600 ∧ PyData.strOk x = true := fun x h => ⟨by have := h.2.1; omega, h.2.2⟩
  refine ⟨?_, fun e he => ?_, by simp [C13.P]⟩
  · simp [C13.P, c.xy]
    exact ⟨fun e => c.xz e.symm, fun e => c.yz e.symm⟩
  · simp only [C13.P, List.mem_cons, List.not_mem_nil, or_false] at he
    rcases he with rfl | rfl | rfl
    · exact ⟨c.hZ, by simp [tZ], by simp [tZ], by simp [tZ], fun r hr => by simp [tZ] at hr⟩
    · refine ⟨c.hX, by simp [tX], by simp [tX], by simp [tX], fun r hr => ?_⟩
      simp only [tX, List.mem_cons, List.not_mem_nil, or_false] at hr
      rcases hr with rfl | rfl
      · exact Nat.zero_le _
      · exact ⟨nm _ c.hY, nm _ c.hZ⟩
    · refine ⟨c.hY, by simp [tY], by simp [tY], by cases h : c.lv <;> simp [tY, rsY, h], fun r hr => ?_⟩
      have n1 : (RS.p (.num 999999999)).ok := ⟨by decide, by decide⟩
      have n2 : (RS.p (.num c.s)).ok := ⟨c.s0, c.s1⟩
      have n3 : (RS.p (.copy 0)).ok := Nat.zero_le _
      have n4 : (RS.p .add).ok := trivial
      have n5 : (RS.call c.X).ok := nm _ c.hX
      cases h : c.lv with
      | false =>
        simp only [tY, rsY, h, List.mem_cons, List.not_mem_nil, or_false] at hr
        rcases hr with rfl | rfl | rfl | rfl | rfl <;> assumption
      | true =>
        simp only [tY, rsY, h, List.mem_cons, List.not_mem_nil, or_false] at hr
        rcases hr with rfl | rfl | rfl | rfl | rfl <;> assumption
theorem look_of {P : PT} {x : Str} {t : TBk} (h : lookT P x = some t) : look (PT.p P) x = some t.b := by rw [look_p, h]; rfl
theorem call_nn {P : PT} {x : Str} {t : TBk} (h : lookT P x = some t) (hi : t.i = [.n]) (ho : t.o = [.n]) (ks : List Kd) : callK (PT.p P) (ks ++ [.n]) x = .ok (ks ++ [.n]) := by
  unfold callK
  rw [look_of h]
  have e1 : t.b.i = [.n] := hi
  have e2 : t.b.o = [.n] := ho
  simp [e1, e2]
theorem C13.nfZ : faultW (PT.p c.P) tZ = none := rfl
theorem C13.nfX : faultW (PT.p c.P) (tX c.Y c.Z) = none := by
  have h2 : ifK (PT.p c.P) [.n, .n] c.Y c.Z = .ok [.n] := by
    unfold ifK
    rw [show lackK [Kd.n, Kd.n] [some .n] = none from rfl, look_of c.lY, look_of c.lZ]
    have : callK (PT.p c.P) [Kd.n] c.Y = .ok [.n] := call_nn c.lY rfl rfl []
    simp only [TBk.b, tY, tZ, and_self, if_true]
    exact this
  have w : walkK (PT.p c.P) [.n] [.p (.copy 0), .ife c.Y c.Z] = ([[.n], [.n, .n], [.n]], none) := by
    have n1 : nextK (PT.p c.P) [.n] (.p (.copy 0)) = .ok [.n, .n] := rfl
    have n2 : nextK (PT.p c.P) [.n, .n] (.ife c.Y c.Z) = .ok [.n] := h2
    unfold walkK
    rw [n1]
    unfold walkK
    simp only [n2]
    rfl
  unfold faultW tX
  simp only [w]
  rfl
theorem C13.nfY : faultW (PT.p c.P) (tY c.s c.X c.lv) = none := by
  cases h : c.lv with
  | false =>
    have n3 : nextK (PT.p c.P) [.n] (.call c.X) = .ok [.n] := call_nn c.lX rfl rfl []
    have w : walkK (PT.p c.P) [.n] (rsY c.s c.X false) = ([[.n], [.n, .n], [.n], [.n], [.n, .n], [.n]], none) := by
      have n1 : ∀ i, nextK (PT.p c.P) [.n] (.p (.num i)) = .ok [.n, .n] := fun _ => rfl
      have n2 : nextK (PT.p c.P) [.n, .n] (.p .add) = .ok [.n] := rfl
      simp only [rsY, walkK, n1, n2, n3]
    unfold faultW tY
    simp only [w]
    rfl
  | true =>
    have n3 : nextK (PT.p c.P) [.n, .n] (.call c.X) = .ok [.n, .n] := call_nn c.lX rfl rfl [.n]
    have w : walkK (PT.p c.P) [.n] (rsY c.s c.X true) = ([[.n], [.n, .n], [.n, .n, .n], [.n, .n], [.n, .n], [.n]], none) := by
      have n0 : nextK (PT.p c.P) [.n] (.p (.copy 0)) = .ok [.n, .n] := rfl
      have n1 : ∀ i, nextK (PT.p c.P) [.n, .n] (.p (.num i)) = .ok [.n, .n, .n] := fun _ => rfl
      have n2 : nextK (PT.p c.P) [.n, .n, .n] (.p .add) = .ok [.n, .n] := rfl
      have n4 : nextK (PT.p c.P) [.n, .n] (.p .add) = .ok [.n] := rfl
      simp only [rsY, walkK, n0, n1, n2, n3, n4]
    unfold faultW tY
    simp only [w]
    rfl
theorem C13.nf {x : Str} {t : TBk} (h : lookT c.P x = some t) : faultW (PT.p c.P) t = none := by
  have h := lookT_mem h
  simp only [C13.P, List.mem_cons, List.not_mem_nil, or_false, Prod.mk.injEq] at h
  rcases h with ⟨_, rfl⟩ | ⟨_, rfl⟩ | ⟨_, rfl⟩
  · exact c.nfZ
  · exact c.nfX
  · exact c.nfY
theorem C13.to {y : Str} (h : To c.P c.X y) : ∃ t, lookT c.P y = some t := by
  induction h with
  | refl => exact ⟨_, c.lX⟩
  | @step y z _ hz _ =>
    obtain ⟨t, h1, h2⟩ := named_mem.mp hz
    have h1 := lookT_mem h1
    simp only [C13.P, List.mem_cons, List.not_mem_nil, or_false, Prod.mk.injEq] at h1
    rcases h1 with ⟨_, rfl⟩ | ⟨_, rfl⟩ | ⟨_, rfl⟩
    · simp [tZ, nms] at h2
    · simp [tX, nms, RS.names] at h2
      rcases h2 with rfl | rfl
      · exact ⟨_, c.lY⟩
      · exact ⟨_, c.lZ⟩
    · have : z = c.X := by
        cases h : c.lv <;> (simp [tY, rsY, h, nms, RS.names] at h2; exact h2)
      rw [this]; exact ⟨_, c.lX⟩
theorem C13.okN {y : Str} (h : To c.P c.X y) : LW.okN c.P y = true := by
  obtain ⟨t, ht⟩ := c.to h
  unfold LW.okN
  rw [ht]
  simp [c.nf ht]
theorem C13.okB {y : Str} (h : To c.P c.X y) : LW.okB c.P y := by
  obtain ⟨t, ht⟩ := c.to h
  exact ⟨t, ht, c.nf ht⟩
theorem C13.noH {x : Str} {h : Int} (k : Ht c.P x h) : x ≠ c.X ∧ x ≠ c.Y := by
  induction k with
  | mk x t g hl _ ih =>
    refine ⟨fun e => ?_, fun e => ?_⟩
    · subst e
      rw [c.lX] at hl
      cases hl
      exact (ih c.Y (by simp [tX, nms, RS.names])).2 rfl
    · subst e
      rw [c.lY] at hl
      cases hl
      exact (ih c.X (by cases h : c.lv <;> simp [tY, rsY, nms, RS.names])).1 rfl


/-! ### counting down and up -/
variable (c : C13)
theorem C13.neX {k : Nat} (h : k < 2) : endedB c.P (c.X, k) = false := by
  unfold endedB
  simp only [c.lX]
  simp [tX]; omega
theorem C13.neY {k : Nat} (h : k < 5) : endedB c.P (c.Y, k) = false := by
  unfold endedB
  simp only [c.lY]
  cases hl : c.lv <;> (simp [tY, rsY]; omega)
theorem C13.enX : endedB c.P (c.X, 2) = true := by
  unfold endedB
  simp only [c.lX]
  simp [tX]
theorem C13.enY : endedB c.P (c.Y, 5) = true := by
  unfold endedB
  simp only [c.lY]
  cases hl : c.lv <;> simp [tY, rsY]
theorem C13.enZ : endedB c.P (c.Z, 0) = true := by
  unfold endedB
  simp only [c.lZ]
  simp [tZ]
theorem lv_f {P : PT} {f : Str × Nat} (fs : Frs) (h : endedB P f = false) : leaveK P (f :: fs) = f :: fs := leaveK_f fs (by simp [h])
theorem C13.fX {k : Nat} (h : k ≤ 2) : FrOk c.P (c.X, k) := ⟨_, c.lX, h⟩
theorem C13.fY {k : Nat} (h : k ≤ 5) : FrOk c.P (c.Y, k) := ⟨_, c.lY, by cases hl : c.lv <;> simpa [tY, rsY, hl] using h⟩
theorem v_int {i : Int} (h0 : 0 ≤ i) (h1 : i < 1000000000) : AllV [.int i] := fun d hd => by simp at hd; subst hd; exact .int _ h0 h1
theorem v_two {i j : Int} (h0 : 0 ≤ i) (h1 : i < 1000000000) (j0 : 0 ≤ j) (j1 : j < 1000000000) : AllV [.int i, .int j] := (v_int h0 h1).app2 (v_int j0 j1)
theorem v_nil : AllV [] := fun d hd => by cases hd
/-- the first two steps -/
theorem C13.s2 (pre : List D) (hp : AllV pre) (i : Int) (i0 : 0 ≤ i) (i1 : i < 1000000000) (hl : pre.length + 3 ≤ 5000) (fs : Frs) (hf : FsOk c.P fs) (hfl : fs.length < 70000) :
    Stp c.P 2 (pre ++ [.int i], (c.X, 0) :: fs) (pre ++ [.int i], if i = 0 then leaveK c.P fs else (c.Y, 0) :: (c.X, 2) :: fs) := by
  have a1 := sp_plain c.ok (f := (c.X, 0)) (fs := fs) c.lX (r := .copy 0) rfl pre [.int i] [.int i, .int i] hp (v_int i0 i1) (by simp; omega) rfl rfl (.copy 0 (.int i) [] (by simp)) (by omega) hf
  rw [lv_f fs (c.neX (k := 1) (by decide))] at a1
  have eq : pre ++ [D.int i, D.int i] = (pre ++ [.int i]) ++ [.int i] := by simp
  rw [eq] at a1
  by_cases hi : i = 0
  · have a2 := sp_if c.ok (f := (c.X, 1)) (fs := fs) c.lX (x := c.Y) (y := c.Z) (z := c.Z) rfl (pre ++ [.int i]) i ((hp.app2 (v_int i0 i1)).app2 (v_int i0 i1)) (by simp; omega) (by rw [if_pos hi]) c.lZ (by omega) hf
    rw [leaveK_t _ c.enZ, leaveK_t _ c.enX] at a2
    rw [if_pos hi]
    exact .cons a1 (.one a2)
  · have a2 := sp_if c.ok (f := (c.X, 1)) (fs := fs) c.lX (x := c.Y) (y := c.Z) (z := c.Y) rfl (pre ++ [.int i]) i ((hp.app2 (v_int i0 i1)).app2 (v_int i0 i1)) (by simp; omega) (by rw [if_neg hi]) c.lY (by omega) hf
    rw [lv_f _ (c.neY (k := 0) (by decide))] at a2
    rw [if_neg hi]
    exact .cons a1 (.one a2)
def stepsD (lv : Bool) : Nat := if lv then 6 else 5
def atY (lv : Bool) : Nat := if lv then 4 else 3
def keepD (lv : Bool) (n : Nat) : List D := if lv then [.int ((n : Int) + 1)] else []
theorem wrap (n : Nat) (h : n < 1000) : ((n : Int) + 1 + 999999999) % 1000000000 = n := by omega
/-- one down -/
theorem C13.down (pre : List D) (hp : AllV pre) (n : Nat) (hn : n < 1000) (hl : pre.length + 4 ≤ 5000) (fs : Frs) (hf : FsOk c.P fs) (hfl : fs.length < 60000) :
    Stp c.P (stepsD c.lv) (pre ++ [.int ((n : Int) + 1)], (c.X, 0) :: fs) (pre ++ keepD c.lv n ++ [.int n], (c.X, 0) :: (c.Y, atY c.lv) :: (c.X, 2) :: fs) := by
  have i0 : (0 : Int) ≤ (n : Int) + 1 := by omega
  have i1 : (n : Int) + 1 < 1000000000 := by omega
  have v1 := v_int i0 i1
  have a := c.s2 pre hp ((n : Int) + 1) i0 i1 (by omega) fs hf (by omega)
  rw [if_neg (by omega)] at a
  have hf2 : FsOk c.P ((c.X, 2) :: fs) := hf.cons (c.fX (Nat.le_refl 2))
  have fl2 : ((c.X, 2) :: fs).length < 80000 := by simp; omega
  have cl : ∀ k, k < 5 → leaveK c.P ((c.Y, k) :: (c.X, 2) :: fs) = (c.Y, k) :: (c.X, 2) :: fs := fun k hk => lv_f _ (c.neY hk)
  have cx : ∀ gs : Frs, leaveK c.P ((c.X, 0) :: gs) = (c.X, 0) :: gs := fun gs => lv_f _ (c.neX (by decide))
  have n9 : AllV [D.int 999999999] := v_int (by decide) (by decide)
  cases h : c.lv with
  | false =>
    have t : lookT c.P c.Y = some (tY c.s c.X false) := by rw [← h]; exact c.lY
    have b1 := sp_plain c.ok (f := (c.Y, 0)) (fs := (c.X, 2) :: fs) t (r := .num 999999999) rfl (pre ++ [.int ((n : Int) + 1)]) [] [.int 999999999] (hp.app2 v1) v_nil (by simp; omega) rfl rfl (.num 999999999) fl2 hf2
    rw [cl 1 (by decide), List.append_nil] at b1
    have b2 := sp_plain c.ok (f := (c.Y, 1)) (fs := (c.X, 2) :: fs) t (r := .add) rfl pre [.int ((n : Int) + 1), .int 999999999] [.int (((n : Int) + 1 + 999999999) % 1000000000)] hp (v1.app2 n9) (by simp; omega) rfl rfl (.add _ _) fl2 hf2
    rw [cl 2 (by decide), wrap n hn] at b2
    have b3 := sp_call c.ok (f := (c.Y, 2)) (fs := (c.X, 2) :: fs) t (x := c.X) rfl c.lX (pre ++ [.int (n : Int)]) fl2 hf2
    rw [cx] at b3
    have e1 : pre ++ [D.int ((n : Int) + 1)] ++ [D.int 999999999] = pre ++ [.int ((n : Int) + 1), .int 999999999] := by simp
    rw [e1] at b1
    have e2 : pre ++ keepD false n ++ [D.int (n : Int)] = pre ++ [.int (n : Int)] := by simp [keepD]
    rw [e2]
    exact a.trans (.cons b1 (.cons b2 (.one b3)))
  | true =>
    have t : lookT c.P c.Y = some (tY c.s c.X true) := by rw [← h]; exact c.lY
    have b0 := sp_plain c.ok (f := (c.Y, 0)) (fs := (c.X, 2) :: fs) t (r := .copy 0) rfl pre [.int ((n : Int) + 1)] [.int ((n : Int) + 1), .int ((n : Int) + 1)] hp v1 (by simp; omega) rfl rfl (.copy 0 (.int ((n : Int) + 1)) [] (by simp)) fl2 hf2
    rw [cl 1 (by decide)] at b0
    have b1 := sp_plain c.ok (f := (c.Y, 1)) (fs := (c.X, 2) :: fs) t (r := .num 999999999) rfl (pre ++ [.int ((n : Int) + 1), .int ((n : Int) + 1)]) [] [.int 999999999] (hp.app2 (v_two i0 i1 i0 i1)) v_nil (by simp; omega) rfl rfl (.num 999999999) fl2 hf2
    rw [cl 2 (by decide), List.append_nil] at b1
    have b2 := sp_plain c.ok (f := (c.Y, 2)) (fs := (c.X, 2) :: fs) t (r := .add) rfl (pre ++ [.int ((n : Int) + 1)]) [.int ((n : Int) + 1), .int 999999999] [.int (((n : Int) + 1 + 999999999) % 1000000000)] (hp.app2 v1) (v1.app2 n9) (by simp; omega) rfl rfl (.add _ _) fl2 hf2
    rw [cl 3 (by decide), wrap n hn] at b2
    have b3 := sp_call c.ok (f := (c.Y, 3)) (fs := (c.X, 2) :: fs) t (x := c.X) rfl c.lX (pre ++ [.int ((n : Int) + 1)] ++ [.int (n : Int)]) fl2 hf2
    rw [cx] at b3
    have e1 : pre ++ [D.int ((n : Int) + 1), D.int ((n : Int) + 1)] ++ [D.int 999999999] = pre ++ [D.int ((n : Int) + 1)] ++ [.int ((n : Int) + 1), .int 999999999] := by simp
    rw [e1] at b1
    exact a.trans (.cons b0 (.cons b1 (.cons b2 (.one b3))))
def stepsU (lv : Bool) : Nat := if lv then 1 else 2
def Rf (c : C13) : Nat → Int
  | 0 => 0
  | n + 1 => if c.lv then ((n : Int) + 1 + Rf c n) % 1000000000 else (Rf c n + c.s) % 1000000000
theorem Rf_in : ∀ n : Nat, 0 ≤ Rf c n ∧ Rf c n < 1000000000
  | 0 => by
    show (0 : Int) ≤ 0 ∧ (0 : Int) < 1000000000
    decide
  | n + 1 => by
    unfold Rf
    split <;> exact ⟨Int.emod_nonneg _ (by decide), Int.emod_lt_of_pos _ (by decide)⟩
/-- one up -/
theorem C13.up (pre : List D) (hp : AllV pre) (n : Nat) (hn : n < 1000) (hl : pre.length + 4 ≤ 5000) (fs : Frs) (hf : FsOk c.P fs) (hfl : fs.length < 60000) :
    Stp c.P (stepsU c.lv) (pre ++ keepD c.lv n ++ [.int (Rf c n)], (c.Y, atY c.lv) :: (c.X, 2) :: fs) (pre ++ [.int (Rf c (n + 1))], leaveK c.P fs) := by
  obtain ⟨r0, r1⟩ := Rf_in c n
  have hf2 : FsOk c.P ((c.X, 2) :: fs) := hf.cons (c.fX (Nat.le_refl 2))
  have fl2 : ((c.X, 2) :: fs).length < 80000 := by simp; omega
  have v1 := v_int r0 r1
  cases h : c.lv with
  | false =>
    have t : lookT c.P c.Y = some (tY c.s c.X false) := by rw [← h]; exact c.lY
    have vs := v_int c.s0 c.s1
    have b1 := sp_plain c.ok (f := (c.Y, 3)) (fs := (c.X, 2) :: fs) t (r := .num c.s) rfl (pre ++ [.int (Rf c n)]) [] [.int c.s] (hp.app2 v1) v_nil (by simp; omega) rfl rfl (.num c.s) fl2 hf2
    rw [lv_f _ (c.neY (k := 4) (by decide)), List.append_nil] at b1
    have b2 := sp_plain c.ok (f := (c.Y, 4)) (fs := (c.X, 2) :: fs) t (r := .add) rfl pre [.int (Rf c n), .int c.s] [.int ((Rf c n + c.s) % 1000000000)] hp (v1.app2 vs) (by simp; omega) rfl rfl (.add _ _) fl2 hf2
    rw [leaveK_t _ c.enY, leaveK_t _ c.enX] at b2
    have e1 : pre ++ [D.int (Rf c n)] ++ [D.int c.s] = pre ++ [.int (Rf c n), .int c.s] := by simp
    rw [e1] at b1
    have e2 : pre ++ keepD false n ++ [D.int (Rf c n)] = pre ++ [.int (Rf c n)] := by simp [keepD]
    have e3 : Rf c (n + 1) = (Rf c n + c.s) % 1000000000 := by
      show (if c.lv then _ else _) = _
      rw [h]; rfl
    rw [e2, e3]
    exact .cons b1 (.one b2)
  | true =>
    have t : lookT c.P c.Y = some (tY c.s c.X true) := by rw [← h]; exact c.lY
    have w1 : AllV [D.int ((n : Int) + 1)] := v_int (by omega) (by omega)
    have b2 := sp_plain c.ok (f := (c.Y, 4)) (fs := (c.X, 2) :: fs) t (r := .add) rfl pre [.int ((n : Int) + 1), .int (Rf c n)] [.int (((n : Int) + 1 + Rf c n) % 1000000000)] hp (w1.app2 v1) (by simp; omega) rfl rfl (.add _ _) fl2 hf2
    rw [leaveK_t _ c.enY, leaveK_t _ c.enX] at b2
    have e2 : pre ++ keepD true n ++ [D.int (Rf c n)] = pre ++ [.int ((n : Int) + 1), .int (Rf c n)] := by simp [keepD]
    have e3 : Rf c (n + 1) = ((n : Int) + 1 + Rf c n) % 1000000000 := by
      show (if c.lv then _ else _) = _
      rw [h]; rfl
    rw [e2, e3]
    exact .one b2
theorem keep_v (lv : Bool) (n : Nat) (hn : n < 1000) : AllV (keepD lv n) ∧ (keepD lv n).length ≤ 1 := by
  unfold keepD
  cases lv
  · exact ⟨v_nil, by simp⟩
  · exact ⟨v_int (by omega) (by omega), by simp⟩
/-- down and up -/
theorem C13.whole : ∀ (n : Nat) (pre : List D) (fs : Frs), AllV pre → n ≤ 1000 → pre.length + n + 4 ≤ 5000 → FsOk c.P fs → fs.length + 2 * n < 50000 →
    Stp c.P (7 * n + 2) (pre ++ [.int (n : Nat)], (c.X, 0) :: fs) (pre ++ [.int (Rf c n)], leaveK c.P fs)
  | 0, pre, fs, hp, hn, hl, hf, hfl => by
    have a := c.s2 pre hp 0 (by decide) (by decide) (by omega) fs hf (by omega)
    rw [if_pos rfl] at a
    exact a
  | n + 1, pre, fs, hp, hn, hl, hf, hfl => by
    have d := c.down pre hp n (by omega) (by omega) fs hf (by omega)
    obtain ⟨k1, k2⟩ := keep_v c.lv n (by omega)
    have ay : atY c.lv < 5 := by cases c.lv <;> decide
    have hf2 : FsOk c.P ((c.Y, atY c.lv) :: (c.X, 2) :: fs) := (hf.cons (c.fX (Nat.le_refl 2))).cons (c.fY (by omega))
    have w := C13.whole n (pre ++ keepD c.lv n) ((c.Y, atY c.lv) :: (c.X, 2) :: fs) (hp.app2 k1) (by omega) (by simp; omega) hf2 (by simp; omega)
    rw [lv_f _ (c.neY ay)] at w
    have u := c.up pre hp n (by omega) (by omega) fs hf (by omega)
    have e : 7 * (n + 1) + 2 = stepsD c.lv + (7 * n + 2) + stepsU c.lv := by cases c.lv <;> simp [stepsD, stepsU] <;> omega
    rw [e]
    exact (d.trans w).trans u
def frY (c : C13) : Nat → Frs
  | 0 => []
  | n + 1 => frY c n ++ [(c.Y, atY c.lv), (c.X, 2)]
def leftD (lv : Bool) : Nat → List D
  | 0 => []
  | n + 1 => keepD lv n ++ leftD lv n
/-- all the way down -/
theorem C13.deep : ∀ (n : Nat) (pre : List D) (fs : Frs), AllV pre → n ≤ 1000 → pre.length + n + 4 ≤ 5000 → FsOk c.P fs → fs.length + 2 * n < 50000 →
    Stp c.P (stepsD c.lv * n) (pre ++ [.int (n : Nat)], (c.X, 0) :: fs) (pre ++ leftD c.lv n ++ [.int 0], (c.X, 0) :: (frY c n ++ fs))
  | 0, pre, fs, hp, hn, hl, hf, hfl => by
    have e : pre ++ leftD c.lv 0 ++ [D.int 0] = pre ++ [.int ((0 : Nat) : Int)] := by simp [leftD]
    rw [e]
    exact .nil _
  | n + 1, pre, fs, hp, hn, hl, hf, hfl => by
    have d := c.down pre hp n (by omega) (by omega) fs hf (by omega)
    obtain ⟨k1, k2⟩ := keep_v c.lv n (by omega)
    have ay : atY c.lv < 5 := by cases c.lv <;> decide
    have hf2 : FsOk c.P ((c.Y, atY c.lv) :: (c.X, 2) :: fs) := (hf.cons (c.fX (Nat.le_refl 2))).cons (c.fY (by omega))
    have w := C13.deep n (pre ++ keepD c.lv n) ((c.Y, atY c.lv) :: (c.X, 2) :: fs) (hp.app2 k1) (by omega) (by simp; omega) hf2 (by simp; omega)
    have e : stepsD c.lv * (n + 1) = stepsD c.lv + stepsD c.lv * n := by rw [Nat.mul_succ, Nat.add_comm]
    have e1 : pre ++ keepD c.lv n ++ leftD c.lv n ++ [D.int 0] = pre ++ leftD c.lv (n + 1) ++ [.int 0] := by simp [leftD]
    have e2 : frY c n ++ (c.Y, atY c.lv) :: (c.X, 2) :: fs = frY c (n + 1) ++ fs := by simp [frY]
    rw [e, ← e1, ← e2]
    exact d.trans w
theorem frY_len : ∀ n : Nat, (frY c n).length = 2 * n
  | 0 => rfl
  | n + 1 => by
    unfold frY
    rw [List.length_append, frY_len n]; simp; omega
theorem frY_frs : ∀ n : Nat, frs (frY c n) = (List.replicate n [frD (c.X, 2), frD (c.Y, atY c.lv)]).flatten
  | 0 => rfl
  | n + 1 => by
    rw [List.replicate_succ, List.flatten_cons, ← frY_frs n]
    show frs (frY c n ++ [(c.Y, atY c.lv), (c.X, 2)]) = _
    unfold frs
    simp
theorem leftD_t : ∀ n : Nat, leftD true n = (List.range n).map fun (k : Nat) => D.int ((n : Int) - k)
  | 0 => rfl
  | n + 1 => by
    have e : leftD true (n + 1) = D.int ((n : Int) + 1) :: leftD true n := rfl
    rw [e, leftD_t n, List.range_succ_eq_map, List.map_cons, List.map_map]
    congr 1
    refine List.map_congr_left fun k _ => ?_
    show D.int ((n : Int) - k) = D.int (((n + 1 : Nat) : Int) - ((k + 1 : Nat) : Int))
    congr 1; omega
theorem leftD_f : ∀ n : Nat, leftD false n = []
  | 0 => rfl
  | n + 1 => by
    unfold leftD
    rw [leftD_f n]; rfl
theorem leftD_len (lv : Bool) : ∀ n : Nat, (leftD lv n).length ≤ n
  | 0 => Nat.le_refl _
  | n + 1 => by
    have := leftD_len lv n
    unfold leftD
    rw [List.length_append]
    have : (keepD lv n).length ≤ 1 := by unfold keepD; cases lv <;> simp
    omega
theorem leftD_v (lv : Bool) : ∀ n : Nat, n ≤ 1000 → AllV (leftD lv n)
  | 0, _ => v_nil
  | n + 1, h => (keep_v lv n (by omega)).1.app2 (leftD_v lv n (by omega))
/-- what the law reckons -/
theorem Rf_f (h : c.lv = false) : ∀ n : Nat, Rf c n = (n : Int) * c.s % 1000000000
  | 0 => by simp [Rf]
  | n + 1 => by
    have e : Rf c (n + 1) = (Rf c n + c.s) % 1000000000 := by
      show (if c.lv then _ else _) = _
      rw [h]; rfl
    rw [e, Rf_f h n, Int.emod_add_emod]
    congr 1
    rw [show ((n + 1 : Nat) : Int) = (n : Int) + 1 by omega, Int.add_mul, Int.one_mul]
theorem Rf_t (h : c.lv = true) : ∀ n : Nat, n ≤ 1000 → 2 * Rf c n = (n : Int) * ((n : Int) + 1) ∧ Rf c n ≤ 1000 * n
  | 0, _ => by simp [Rf]
  | n + 1, hn => by
    have e : Rf c (n + 1) = ((n : Int) + 1 + Rf c n) % 1000000000 := by
      show (if c.lv then _ else _) = _
      rw [h]; rfl
    obtain ⟨i1, i2⟩ := Rf_t h n (by omega)
    obtain ⟨r0, _⟩ := Rf_in c n
    have e2 : Rf c (n + 1) = (n : Int) + 1 + Rf c n := by rw [e]; exact Int.emod_eq_of_lt (by omega) (by omega)
    refine ⟨?_, by rw [e2]; omega⟩
    rw [e2, Int.mul_add, i1, show ((n + 1 : Nat) : Int) = (n : Int) + 1 by omega, Int.add_mul (n : Int) 1 ((n : Int) + 1 + 1), Int.mul_add (n : Int) ((n : Int) + 1) 1]
    omega


/-! ### a run of so many steps -/
theorem run_stp {P : PT} (c0 c1 c2 c3 : Cell) {n : Nat} {s1 s2 : List D × Frs} (h : Stp P n s1 s2) : ∀ (k : Nat) (c5 : Cell) (ds : List D), ∃ d5, mLoop (mgName 5) B_run_1 (((List.range' k n).map fun (i : Nat) => D.int i) ++ ds) [c0, c1, c2, c3, .mac 6 (pd P), c5, .own s1.1, .own (frs s1.2)] = mLoop (mgName 5) B_run_1 ds [c0, c1, c2, c3, .mac 6 (pd P), d5, .own s2.1, .own (frs s2.2)] := by
  induction h with
  | nil s => intro k c5 ds; exact ⟨c5, rfl⟩
  | @cons n xs f fs s1 s2 a b ih =>
    intro k c5 ds
    obtain ⟨d5, e5⟩ := ih (k + 1) (.val (.int (k : Nat))) ds
    refine ⟨d5, ?_⟩
    have o := over_ok (pd P) xs (f :: fs)
    have ho : decide ((f :: fs).length = 0) = false := by simp
    rw [ho] at o
    have mac : F_Mstep (pd P) [] [.own xs, .own (frs (f :: fs))] = .ret (.dd .non) [.own s1.1, .own (frs s1.2)] := a
    rw [List.range'_succ, List.map_cons, List.cons_append, ← e5]
    refine mLoop_nx (ρ1 := [c0, c1, c2, c3, .mac 6 (pd P), .val (.int (k : Nat)), .own xs, .own (frs (f :: fs))]) rfl ?_
    unfold B_run_1
    simp_arith [o, mac]
theorem run_over {P : PT} (c0 c1 c2 c3 : Cell) (xs : List D) : ∀ (r k : Nat) (c5 : Cell), ∃ d5, mLoop (mgName 5) B_run_1 ((List.range' k r).map fun (i : Nat) => D.int i) [c0, c1, c2, c3, .mac 6 (pd P), c5, .own xs, .own (frs [])] = .nx [c0, c1, c2, c3, .mac 6 (pd P), d5, .own xs, .own (frs [])] := fun r k c5 => by
  cases r with
  | zero => exact ⟨c5, rfl⟩
  | succ r =>
    refine ⟨.val (.int (k : Nat)), ?_⟩
    have o := over_ok (pd P) xs []
    have ho : decide (([] : Frs).length = 0) = true := rfl
    rw [ho] at o
    rw [List.range'_succ, List.map_cons]
    unfold mLoop B_run_1
    simp_arith [mgName, o, mBk]
theorem xd_ok (c0 c2 c5 : Cell) (nm : Str) (hx : nm.length ≤ 600) (m : Nat) (hm : m ≤ 100000) (p : D) (ys fs : List D) : X_run_2 [c0, .val (.str nm), c2, .val (.int m), .mac 6 p, c5, .own ys, .own fs] = .exc "Dry" [c0, .val (.str nm), c2, .val (.int m), .mac 6 p, c5, .own ys, .own fs] := by
  obtain ⟨y1, l1, e1⟩ := fmt_int (m : Int) (by omega) (by omega)
  obtain ⟨s, hs⟩ := js_all [c0, .val (.str nm), c2, .val (.int m), .mac 6 p, c5, .own ys, .own fs] [TL.m1 D.fmt (mVar 1), mC (.str " is not over behind "), TL.m1 D.fmt (mVar 3), mC (.str " steps")] Str.empty (by decide) (fun m hm => by
    simp only [List.mem_cons, List.not_mem_nil, or_false] at hm
    rcases hm with rfl | rfl | rfl | rfl
    · have e3 := js_fmt nm (by omega)
      refine ⟨nm, by omega, ?_⟩
      simp_arith [e3]
    · exact ⟨_, by decide +kernel, rfl⟩
    · refine ⟨y1, l1, ?_⟩
      simp_arith [e1]
    · exact ⟨_, by decide +kernel, rfl⟩)
  unfold X_run_2 mRaise
  simp only [hs]
theorem run13 {P : PT} (hP : PTok P) (nm : Str) {t : TBk} (hn : lookT P nm = some t) {n : Nat} (xs ys : List D) (h : Stp P n (xs, leaveK P [(nm, 0)]) (ys, [])) (m : Nat) (hm : m ≤ 10000) :
    F_run [.val (pd P), .val (.str nm), .val (.lst xs), .val (.int m)] = if n ≤ m then .ret (.ow (.own ys)) [.no, .no, .no, .no] else .exc "Dry" [.no, .no, .no, .no] := by
  have hnm := nm_len hP hn
  have f0 : FsOk P [(nm, 0)] := fun g hg => by simp at hg; subst hg; exact ⟨t, hn, Nat.zero_le _⟩
  -- the loop
  obtain ⟨zs, gs, d5, e5, hz⟩ : ∃ (zs : List D) (gs : Frs) (d5 : Cell), mLoop (mgName 5) B_run_1 ((List.range m).map fun (i : Nat) => D.int i) [.val (pd P), .val (.str nm), .val (.lst xs), .val (.int m), .mac 6 (pd P), .no, .own xs, .own (frs (leaveK P [(nm, 0)]))] = .nx [.val (pd P), .val (.str nm), .val (.lst xs), .val (.int m), .mac 6 (pd P), d5, .own zs, .own (frs gs)] ∧ ((n ≤ m ∧ zs = ys ∧ gs = []) ∨ (¬ n ≤ m ∧ ∃ f fs, gs = f :: fs)) := by
    rw [List.range_eq_range']
    by_cases hnm2 : n ≤ m
    · obtain ⟨d5, e5⟩ := run_stp (.val (pd P)) (.val (.str nm)) (.val (.lst xs)) (.val (.int m)) h 0 .no ((List.range' (0 + n) (m - n)).map fun (i : Nat) => D.int i)
      obtain ⟨d6, e6⟩ := run_over (P := P) (.val (pd P)) (.val (.str nm)) (.val (.lst xs)) (.val (.int m)) ys (m - n) (0 + n) d5
      refine ⟨ys, [], d6, ?_, .inl ⟨hnm2, rfl, rfl⟩⟩
      have er : List.range' 0 m = List.range' 0 n ++ List.range' (0 + n) (m - n) := by
        rw [List.range'_append_1]; congr 1; omega
      rw [er, List.map_append, e5, e6]
    · obtain ⟨s, s1, s2⟩ := h.cut (show m ≤ n by omega)
      obtain ⟨d5, e5⟩ := run_stp (.val (pd P)) (.val (.str nm)) (.val (.lst xs)) (.val (.int m)) s1 0 .no []
      rw [List.append_nil] at e5
      obtain ⟨r, hr⟩ : ∃ r, n - m = r + 1 := ⟨n - m - 1, by omega⟩
      rw [hr] at s2
      cases s2 with
      | @cons _ xs' f fs _ _ a b => exact ⟨xs', f :: fs, d5, e5, .inr ⟨hnm2, f, fs, rfl⟩⟩
  have bg := begun_some hP hn
  have ml : F_M_leave (pd P) [] [.own xs, .own [D.tup [.str nm, .int 0]]] = .ret (.dd .non) [.own xs, .own (frs (leaveK P [(nm, 0)]))] := mleave_ok hP xs [(nm, 0)] (by simp) f0
  have r1 : (m : Int).natAbs < 2 ^ 62 := by omega
  have r2 : (m : Int).toNat = m := by omega
  have om := over_ok (pd P) zs gs
  have run0 : ∀ r, (mLoop (mgName 5) B_run_1 ((List.range m).map fun (i : Nat) => D.int i) [.val (pd P), .val (.str nm), .val (.lst xs), .val (.int m), .mac 6 (pd P), .no, .own xs, .own (frs (leaveK P [(nm, 0)]))] = r) → M_run [.val (pd P), .val (.str nm), .val (.lst xs), .val (.int m), .no, .no, .no, .no] = match r with
      | .nx ρ => mSeq (mIfS (tmNot (mTest D.tru (mCallM 4 1 F_Mover []))) (X_run_2) (mNx)) (mRetF 4 0) ρ
      | r => r := fun r hr => by
    unfold M_run
    have pf : pairOf (frD (nm, 0)) = some (nm, 0) := rfl
    have fd : frD (nm, 0) = .tup [.str nm, .int 0] := rfl
    rw [fd] at bg pf
    rw [mSeq_nx (ρ1 := [.val (pd P), .val (.str nm), .val (.lst xs), .val (.int m), .mac 6 (pd P), .no, .own xs, .own (frs (leaveK P [(nm, 0)]))]) (by simp_arith [bg, pf, ml, List.all_cons, List.all_nil, Bool.and_true, Bool.and_self, and_self]; try rfl),
      mSeq, mFor_ok (ds := (List.range m).map fun (i : Nat) => D.int i) (ρ1 := [.val (pd P), .val (.str nm), .val (.lst xs), .val (.int m), .mac 6 (pd P), .no, .own xs, .own (frs (leaveK P [(nm, 0)]))]) (by simp_arith [r1, r2]), hr]
    all_goals (cases r <;> rfl)
  have run1 := run0 _ e5
  simp only at run1
  rcases hz with ⟨h1, rfl, rfl⟩ | ⟨h1, g, gs, rfl⟩
  · rw [if_pos h1]
    have ho : decide (([] : Frs).length = 0) = true := rfl
    rw [ho] at om
    unfold F_run mkF
    simp only [pad, List.length_cons, List.length_nil, List.replicate, Nat.reduceAdd, Nat.reduceSub, List.cons_append, List.nil_append]
    rw [run1]
    simp_arith [om]
    try rfl
  · rw [if_neg h1]
    have ho : decide ((g :: gs).length = 0) = false := by simp
    rw [ho] at om
    have xd := xd_ok (.val (pd P)) (.val (.lst xs)) d5 nm hnm m (by omega) (pd P) zs (frs (g :: gs))
    unfold F_run mkF
    simp only [pad, List.length_cons, List.length_nil, List.replicate, Nat.reduceAdd, Nat.reduceSub, List.cons_append, List.nil_append]
    rw [run1]
    simp_arith [om, xd]
    try rfl


/-! ### two machines side by side -/
section
variable {P : PT} (c0 c1 c2 c3 c4 c5 c8 c10 : Cell) (a o : Nat → List D × Frs)
theorem deep1 (ho : ∀ i, Sp P (o i) (o (i + 1))) : ∀ (m k j : Nat) (c9 : Cell), (∀ i, i < k + m → Sp P (a i) (a (i + 1))) →
    ∃ (j' : Nat) (d9 : Cell), j ≤ j' ∧ mLoop (mgName 9) B_law_deep_1 ((List.range' k m).map fun (i : Nat) => D.int i) [c0, c1, c2, c3, c4, c5, .mac 11 (pd P), .mac 13 (pd P), c8, c9, c10, .own (a k).1, .own (frs (a k).2), .own (o j).1, .own (frs (o j).2)] =
      .nx [c0, c1, c2, c3, c4, c5, .mac 11 (pd P), .mac 13 (pd P), c8, d9, c10, .own (a (k + m)).1, .own (frs (a (k + m)).2), .own (o j').1, .own (frs (o j').2)] ∧ (d9 = c9 ∨ ∃ v, d9 = .val v)
  | 0, k, j, c9, _ => ⟨j, c9, Nat.le_refl _, rfl, .inl rfl⟩
  | m + 1, k, j, c9, ha => by
    have h1 : F_Mstep (pd P) [] [.own (a k).1, .own (frs (a k).2)] = .ret (.dd .non) [.own (a (k + 1)).1, .own (frs (a (k + 1)).2)] := ha k (by omega)
    have h2 : F_Mstep (pd P) [] [.own (o j).1, .own (frs (o j).2)] = .ret (.dd .non) [.own (o (j + 1)).1, .own (frs (o (j + 1)).2)] := ho j
    have z : (0 : Int) < 3 := by decide
    by_cases hc : (k : Int) % 3 = 0
    · obtain ⟨j', d9, g1, g2, g3⟩ := deep1 ho m (k + 1) (j + 1) (.val (.int (k : Nat))) fun i hi => ha i (by omega)
      refine ⟨j', d9, by omega, ?_, .inr (g3.elim (fun e => ⟨_, e⟩) id)⟩
      rw [show k + (m + 1) = k + 1 + m by omega, ← g2, List.range'_succ, List.map_cons]
      refine mLoop_nx (ρ1 := [c0, c1, c2, c3, c4, c5, .mac 11 (pd P), .mac 13 (pd P), c8, .val (.int (k : Nat)), c10, .own (a k).1, .own (frs (a k).2), .own (o j).1, .own (frs (o j).2)]) rfl ?_
      unfold B_law_deep_1
      simp_arith! [h1, h2, z, oEq_int, hc, decide_true]
    · obtain ⟨j', d9, g1, g2, g3⟩ := deep1 ho m (k + 1) j (.val (.int (k : Nat))) fun i hi => ha i (by omega)
      refine ⟨j', d9, g1, ?_, .inr (g3.elim (fun e => ⟨_, e⟩) id)⟩
      rw [show k + (m + 1) = k + 1 + m by omega, ← g2, List.range'_succ, List.map_cons]
      refine mLoop_nx (ρ1 := [c0, c1, c2, c3, c4, c5, .mac 11 (pd P), .mac 13 (pd P), c8, .val (.int (k : Nat)), c10, .own (a k).1, .own (frs (a k).2), .own (o j).1, .own (frs (o j).2)]) rfl ?_
      unfold B_law_deep_1
      simp_arith! [h1, h2, z, oEq_int, hc, decide_false]
theorem deep2 (ho : ∀ i, Sp P (o i) (o (i + 1))) (xs fs : List D) : ∀ (m k j : Nat) (c9 : Cell),
    ∃ (d9 : Cell), mLoop (mgName 9) B_law_deep_2 ((List.range' k m).map fun (i : Nat) => D.int i) [c0, c1, c2, c3, c4, c5, .mac 11 (pd P), .mac 13 (pd P), c8, c9, c10, .own xs, .own fs, .own (o j).1, .own (frs (o j).2)] =
      .nx [c0, c1, c2, c3, c4, c5, .mac 11 (pd P), .mac 13 (pd P), c8, d9, c10, .own xs, .own fs, .own (o (j + m)).1, .own (frs (o (j + m)).2)] ∧ (d9 = c9 ∨ ∃ v, d9 = .val v)
  | 0, k, j, c9 => ⟨c9, rfl, .inl rfl⟩
  | m + 1, k, j, c9 => by
    have h2 : F_Mstep (pd P) [] [.own (o j).1, .own (frs (o j).2)] = .ret (.dd .non) [.own (o (j + 1)).1, .own (frs (o (j + 1)).2)] := ho j
    obtain ⟨d9, g2, g3⟩ := deep2 ho xs fs m (k + 1) (j + 1) (.val (.int (k : Nat)))
    refine ⟨d9, ?_, .inr (g3.elim (fun e => ⟨_, e⟩) id)⟩
    rw [show j + (m + 1) = j + 1 + m by omega, ← g2, List.range'_succ, List.map_cons]
    refine mLoop_nx (ρ1 := [c0, c1, c2, c3, c4, c5, .mac 11 (pd P), .mac 13 (pd P), c8, .val (.int (k : Nat)), c10, .own xs, .own fs, .own (o j).1, .own (frs (o j).2)]) rfl ?_
    unfold B_law_deep_2
    simp_arith! [h2]
end
theorem C13.keepX (c : C13) : leaveK c.P [(c.X, 0)] = [(c.X, 0)] := lv_f _ (c.neX (by decide))
/-- what the other machine leaves -/
theorem C13.one (c : C13) : Rf c 1 = if c.lv then 1 else c.s := by
  show (if c.lv then (((0 : Nat) : Int) + 1 + 0) % 1000000000 else (0 + c.s) % 1000000000) = _
  cases c.lv with
  | true => rfl
  | false => simp only [Bool.false_eq_true, if_false, Int.zero_add]; exact Int.emod_eq_of_lt c.s0 c.s1
theorem deep_ok (c : C13) (b : List D) (hb : AllV b) (hbl : b.length ≤ 100) (n : Nat) (hn : n ≤ 400) :
    F_law_deep [.val (pd c.P), .val (.lst [.str c.X, .str c.Y, .str c.Z]), .val (.lst b), .val (.int n), .val (.bl c.lv), .val (.int c.s)] = .ret (.dd (.bl true)) [.no, .no, .no, .no, .no, .no] := by
  have w := (c.whole 1 b [] hb (by decide) (by omega) (fun g hg => by cases hg) (by simp)).seq
  have d := (c.deep n b [] hb (by omega) (by omega) (fun g hg => by cases hg) (by simp; omega)).seq
  obtain ⟨o, o0, o1, o2⟩ := w
  obtain ⟨a, a0, a1, a2⟩ := d
  have lnil : leaveK c.P [] = [] := rfl
  rw [lnil] at o1
  have ho : ∀ i, Sp c.P (o i) (o (i + 1)) := fun i => by
    by_cases hi : i < 7 * 1 + 2
    · exact o2 i hi
    · rw [o1 i (by omega), o1 (i + 1) (by omega)]; exact sp_nil _
  obtain ⟨N, hN⟩ : ∃ N, N = stepsD c.lv * n := ⟨_, rfl⟩
  rw [← hN] at a1 a2
  have Nl : N ≤ 2400 := by rw [hN]; cases c.lv <;> simp [stepsD] <;> omega
  obtain ⟨j', d9, j1, e1, hv8⟩ := deep1 (P := c.P) (.val (pd c.P)) (.val (.lst [.str c.X, .str c.Y, .str c.Z])) (.val (.lst b)) (.val (.int n)) (.val (.bl c.lv)) (.val (.int c.s)) (.own []) .no a o ho N 0 0 .no fun i hi => a2 i (by omega)
  obtain ⟨e9, e2, hv9⟩ := deep2 (P := c.P) (.val (pd c.P)) (.val (.lst [.str c.X, .str c.Y, .str c.Z])) (.val (.lst b)) (.val (.int n)) (.val (.bl c.lv)) (.val (.int c.s)) (.own []) .no o ho (a (0 + N)).1 (frs (a (0 + N)).2) 9 0 j' d9
  rw [← List.range_eq_range'] at e1 e2
  have aN : a (0 + N) = (b ++ leftD c.lv n ++ [.int 0], (c.X, 0) :: (frY c n ++ [])) := by rw [Nat.zero_add]; exact a1 N (Nat.le_refl _)
  have oN : o (j' + 9) = (b ++ [.int (Rf c 1)], []) := o1 _ (by omega)
  rw [aN, oN] at e2
  rw [aN] at e1
  rw [a0, o0] at e1
  simp only [List.append_nil] at e1 e2
  have e1 : mLoop (mgName 9) B_law_deep_1 ((List.range N).map fun (i : Nat) => D.int i) [.val (pd c.P), .val (.lst [.str c.X, .str c.Y, .str c.Z]), .val (.lst b), .val (.int n), .val (.bl c.lv), .val (.int c.s), .mac 11 (pd c.P), .mac 13 (pd c.P), .own [], .no, .no, .own (b ++ [.int n]), .own (frs [(c.X, 0)]), .own (b ++ [.int 1]), .own (frs [(c.X, 0)])] = .nx [.val (pd c.P), .val (.lst [.str c.X, .str c.Y, .str c.Z]), .val (.lst b), .val (.int n), .val (.bl c.lv), .val (.int c.s), .mac 11 (pd c.P), .mac 13 (pd c.P), .own [], d9, .no, .own (b ++ leftD c.lv n ++ [D.int 0]), .own (frs ((c.X, 0) :: frY c n)), .own (o j').1, .own (frs (o j').2)] := e1
  have e9v : e9 = .no ∨ ∃ v, e9 = .val v := by
    rcases hv9 with rfl | h
    · exact hv8
    · exact .inr h
  have bg := begun_some c.ok c.lX
  have ml : ∀ xs : List D, F_M_leave (pd c.P) [] [.own xs, .own [D.tup [.str c.X, .int 0]]] = .ret (.dd .non) [.own xs, .own (frs [(c.X, 0)])] := fun xs => by
    have := mleave_ok c.ok xs [(c.X, 0)] (by simp) (fun g hg => by simp at hg; subst hg; exact c.fX (Nat.zero_le _))
    rw [c.keepX] at this
    exact this
  have pf : pairOf (frD (c.X, 0)) = some (c.X, 0) := rfl
  have fd : frD (c.X, 0) = .tup [.str c.X, .int 0] := rfl
  rw [fd] at bg pf
  have n0 : atI [D.str c.X, D.str c.Y, D.str c.Z] 0 = some (.str c.X) := rfl
  have n1 : atI [D.str c.X, D.str c.Y, D.str c.Z] 1 = some (.str c.Y) := rfl
  have sz1 : b.length + 1 ≤ sizeLine := le_sz (by omega)
  have vi := Rf_in c 1
  have hv1 : AllV (b ++ [D.int (Rf c 1)]) := hb.app2 (v_int vi.1 vi.2)
  have al1 := alikeV_ok true false (b ++ [D.int (Rf c 1)]) hv1 (by simp; omega)
  have hv2 : AllV (b ++ leftD c.lv n ++ [D.int 0]) := (hb.app2 (leftD_v c.lv n (by omega))).app2 (v_int (by decide) (by decide))
  have ll := leftD_len c.lv n
  have al2 := alikeV_ok true false (b ++ leftD c.lv n ++ [D.int 0]) hv2 (by simp; omega)
  simp only [lc_t, lc_f] at al1 al2
  have ov1 := over_ok (pd c.P) (b ++ [D.int (Rf c 1)]) []
  have ov2 := over_ok (pd c.P) (b ++ leftD c.lv n ++ [D.int 0]) ((c.X, 0) :: frY c n)
  have ho1 : decide (([] : Frs).length = 0) = true := rfl
  have ho2 : decide (((c.X, 0) :: frY c n).length = 0) = false := by simp
  rw [ho1] at ov1
  rw [ho2] at ov2
  have fok : FsOk c.P ((c.X, 0) :: frY c n) := by
    have hy : ∀ m, FsOk c.P (frY c m) := fun m => by
      induction m with
      | zero => exact fun g hg => by cases hg
      | succ m ih =>
        intro g hg
        have hg : g ∈ frY c m ++ [(c.Y, atY c.lv), (c.X, 2)] := hg
        rcases List.mem_append.mp hg with hg | hg
        · exact ih g hg
        · simp only [List.mem_cons, List.not_mem_nil, or_false] at hg
          rcases hg with rfl | rfl
          · exact c.fY (by cases c.lv <;> decide)
          · exact c.fX (Nat.le_refl _)
    exact (hy n).cons (c.fX (Nat.zero_le _))
  have eqf := oEq_frs c.ok fok
  have efr : frs ((c.X, 0) :: frY c n) = (List.replicate n [frD (c.X, 2), frD (c.Y, atY c.lv)]).flatten ++ [D.tup [.str c.X, .int 0]] := by
    rw [frs_cons, frY_frs, fd]
  have fd2 : frD (c.X, 2) = .tup [.str c.X, .int 2] := rfl
  have kn : ((n : Nat) : Int).natAbs < 2 ^ 63 ∧ 2 * n ≤ sizeLine := ⟨by omega, le_sz (by omega)⟩
  have fl : (List.replicate n [frD (c.X, 2), frD (c.Y, atY c.lv)]).flatten.length + 1 ≤ sizeLine := le_sz (by simp [List.length_flatten]; omega)
  have one := c.one
  have nn : ((n : Nat) : Int).toNat = n := by omega
  have r9 : ((9 : Int)).natAbs < 2 ^ 62 := by decide
  have rn : ((n : Nat) : Int).natAbs < 2 ^ 62 := by omega
  have szl : b.length + (leftD c.lv n).length ≤ sizeLine := le_sz (by omega)
  have szl2 : (b ++ leftD c.lv n).length + 1 ≤ sizeLine := le_sz (by simp; omega)
  have rN : ((N : Nat) : Int).natAbs < 2 ^ 62 := by omega
  have cm : ∀ x : Int, CMul x n := fun x => .inr (by omega)
  have lc := mLc_map (vsl := [9]) (f := mgName 9) (me := E_law_deep_3) (fun d => match d with | .int k => .int ((n : Int) - k) | d => d) [.val (pd c.P), .val (.lst [.str c.X, .str c.Y, .str c.Z]), .val (.lst b), .val (.int n), .val (.bl c.lv), .val (.int c.s), .mac 11 (pd c.P), .mac 13 (pd c.P), .own [], .no, .no, .own (b ++ leftD c.lv n ++ [D.int 0]), .own (frs ((c.X, 0) :: frY c n)), .own (b ++ [D.int (Rf c 1)]), .own (frs [])] ((List.range n).map fun (k : Nat) => D.int k) [] (fun d hd => by
    obtain ⟨k, _, rfl⟩ := List.mem_map.mp hd
    refine ⟨_, [.val (pd c.P), .val (.lst [.str c.X, .str c.Y, .str c.Z]), .val (.lst b), .val (.int n), .val (.bl c.lv), .val (.int c.s), .mac 11 (pd c.P), .mac 13 (pd c.P), .own [], .val (.int (k : Nat)), .no, .own (b ++ leftD c.lv n ++ [D.int 0]), .own (frs ((c.X, 0) :: frY c n)), .own (b ++ [D.int (Rf c 1)]), .own (frs [])], rfl, ?_, rfl⟩
    unfold E_law_deep_3
    simp_arith []) (by simp; omega)
  rw [List.nil_append, List.map_map] at lc
  have lc : mLcLoop [9] (mgName 9) mYes E_law_deep_3 ((List.range n).map fun (k : Nat) => D.int k) [] [.val (pd c.P), .val (.lst [.str c.X, .str c.Y, .str c.Z]), .val (.lst b), .val (.int n), .val (.bl c.lv), .val (.int c.s), .mac 11 (pd c.P), .mac 13 (pd c.P), .own [], .no, .no, .own (b ++ leftD c.lv n ++ [D.int 0]), .own (frs ((c.X, 0) :: frY c n)), .own (b ++ [D.int (Rf c 1)]), .own (frs [])] = .ok ((List.range n).map fun (k : Nat) => D.int ((n : Int) - k)) [.val (pd c.P), .val (.lst [.str c.X, .str c.Y, .str c.Z]), .val (.lst b), .val (.int n), .val (.bl c.lv), .val (.int c.s), .mac 11 (pd c.P), .mac 13 (pd c.P), .own [], .no, .no, .own (b ++ leftD c.lv n ++ [D.int 0]), .own (frs ((c.X, 0) :: frY c n)), .own (b ++ [D.int (Rf c 1)]), .own (frs [])] := lc
  have hM : ∃ ρ, outs [false, false, false, false, false, false] ρ = [.no, .no, .no, .no, .no, .no] ∧ M_law_deep [.val (pd c.P), .val (.lst [.str c.X, .str c.Y, .str c.Z]), .val (.lst b), .val (.int n), .val (.bl c.lv), .val (.int c.s), .no, .no, .no, .no, .no, .no, .no, .no, .no] = .ret (.dd (.bl true)) ρ := by
    unfold M_law_deep
    rw [mSeq_nx (ρ1 := [.val (pd c.P), .val (.lst [.str c.X, .str c.Y, .str c.Z]), .val (.lst b), .val (.int n), .val (.bl c.lv), .val (.int c.s), .mac 11 (pd c.P), .no, .no, .no, .no, .own (b ++ [.int n]), .own (frs [(c.X, 0)]), .no, .no]) (by simp_arith [n0, sz1, bg, pf, ml, List.all_cons, List.all_nil, Bool.and_true, Bool.and_self, and_self]; try rfl),
      mSeq_nx (ρ1 := [.val (pd c.P), .val (.lst [.str c.X, .str c.Y, .str c.Z]), .val (.lst b), .val (.int n), .val (.bl c.lv), .val (.int c.s), .mac 11 (pd c.P), .mac 13 (pd c.P), .no, .no, .no, .own (b ++ [.int n]), .own (frs [(c.X, 0)]), .own (b ++ [.int 1]), .own (frs [(c.X, 0)])]) (by simp_arith [n0, sz1, bg, pf, ml, List.all_cons, List.all_nil, Bool.and_true, Bool.and_self, and_self]; try rfl),
      mSeq_nx (ρ1 := [.val (pd c.P), .val (.lst [.str c.X, .str c.Y, .str c.Z]), .val (.lst b), .val (.int n), .val (.bl c.lv), .val (.int c.s), .mac 11 (pd c.P), .mac 13 (pd c.P), .own [], .no, .no, .own (b ++ [.int n]), .own (frs [(c.X, 0)]), .own (b ++ [.int 1]), .own (frs [(c.X, 0)])]) (by simp_arith []; try rfl)]

    have nN : (5 + (if c.lv = true then (1 : Int) else 0)) * (n : Int) = (N : Int) := by
      rw [hN]; cases c.lv <;> simp [stepsD]
    have NN : ((N : Nat) : Int).toNat = N := by omega
    rw [mSeq_nx (ρ1 := [.val (pd c.P), .val (.lst [.str c.X, .str c.Y, .str c.Z]), .val (.lst b), .val (.int n), .val (.bl c.lv), .val (.int c.s), .mac 11 (pd c.P), .mac 13 (pd c.P), .own [], d9, .no, .own (b ++ leftD c.lv n ++ [D.int 0]), .own (frs ((c.X, 0) :: frY c n)), .own (o j').1, .own (frs (o j').2)]) (by
        rw [mFor_ok (ds := (List.range N).map fun (i : Nat) => D.int i) (ρ1 := [.val (pd c.P), .val (.lst [.str c.X, .str c.Y, .str c.Z]), .val (.lst b), .val (.int n), .val (.bl c.lv), .val (.int c.s), .mac 11 (pd c.P), .mac 13 (pd c.P), .own [], .no, .no, .own (b ++ [.int n]), .own (frs [(c.X, 0)]), .own (b ++ [.int 1]), .own (frs [(c.X, 0)])]) (by simp_arith [cm, nN, rN, NN]), e1])]
    rw [mSeq_nx (ρ1 := [.val (pd c.P), .val (.lst [.str c.X, .str c.Y, .str c.Z]), .val (.lst b), .val (.int n), .val (.bl c.lv), .val (.int c.s), .mac 11 (pd c.P), .mac 13 (pd c.P), .own [], e9, .no, .own (b ++ leftD c.lv n ++ [D.int 0]), .own (frs ((c.X, 0) :: frY c n)), .own (b ++ [D.int (Rf c 1)]), .own (frs [])]) (by
        rw [mFor_ok (ds := (List.range 9).map fun (i : Nat) => D.int i) (ρ1 := [.val (pd c.P), .val (.lst [.str c.X, .str c.Y, .str c.Z]), .val (.lst b), .val (.int n), .val (.bl c.lv), .val (.int c.s), .mac 11 (pd c.P), .mac 13 (pd c.P), .own [], d9, .no, .own (b ++ leftD c.lv n ++ [D.int 0]), .own (frs ((c.X, 0) :: frY c n)), .own (o j').1, .own (frs (o j').2)]) (by simp_arith [r9]; try rfl), e2])]
    rw [mSeq_nx (ρ1 := [.val (pd c.P), .val (.lst [.str c.X, .str c.Y, .str c.Z]), .val (.lst b), .val (.int n), .val (.bl c.lv), .val (.int c.s), .mac 11 (pd c.P), .mac 13 (pd c.P), .own [], e9, .no, .own (b ++ leftD c.lv n ++ [D.int 0]), .own (frs ((c.X, 0) :: frY c n)), .own (b ++ [D.int (Rf c 1)]), .own (frs [])]) (by
        have ix : ∀ lv : Bool, lv = c.lv → atI [D.int c.s, D.int 1] (if lv = true then 1 else 0) = some (.int (Rf c 1)) := fun lv h => by
          rw [one, ← h]; cases lv <;> rfl
        have ix := ix c.lv rfl
        simp_arith [ov1, ix, sz1, al1, D.tru])]
    rw [mSeq_nx (ρ1 := [.val (pd c.P), .val (.lst [.str c.X, .str c.Y, .str c.Z]), .val (.lst b), .val (.int n), .val (.bl c.lv), .val (.int c.s), .mac 11 (pd c.P), .mac 13 (pd c.P), .own (leftD c.lv n), e9, .no, .own (b ++ leftD c.lv n ++ [D.int 0]), .own (frs ((c.X, 0) :: frY c n)), .own (b ++ [D.int (Rf c 1)]), .own (frs [])]) (by
        rcases e9v with rfl | ⟨v, rfl⟩
        all_goals
          cases hlv : c.lv with
          | false =>
            have lf := leftD_f n
            simp_arith [D.tru, lf]
          | true =>
            rw [hlv] at lc
            rw [← leftD_t] at lc
            simp_arith [D.tru, rn, nn, noneOwn, List.all_cons, List.all_nil, isOwn, Bool.and_true, wipeE, lc, backE]
            try rfl)]
    rw [mSeq_nx (ρ1 := [.val (pd c.P), .val (.lst [.str c.X, .str c.Y, .str c.Z]), .val (.lst b), .val (.int n), .val (.bl c.lv), .val (.int c.s), .mac 11 (pd c.P), .mac 13 (pd c.P), .own (leftD c.lv n), e9, .own (frs ((c.X, 0) :: frY c n)), .own (b ++ leftD c.lv n ++ [D.int 0]), .own (frs ((c.X, 0) :: frY c n)), .own (b ++ [D.int (Rf c 1)]), .own (frs [])]) (by
        have ay : ((3 : Int) + if c.lv = true then 1 else 0) = ((atY c.lv : Nat) : Int) := by cases c.lv <;> rfl
        have fl : (List.replicate n [D.tup [D.str c.X, D.int 2], D.tup [D.str c.Y, D.int ((atY c.lv : Nat) : Int)]]).flatten.length + 1 ≤ sizeLine := fl
        have efr : frs ((c.X, 0) :: frY c n) = (List.replicate n [D.tup [D.str c.X, D.int 2], D.tup [D.str c.Y, D.int ((atY c.lv : Nat) : Int)]]).flatten ++ [D.tup [.str c.X, .int 0]] := efr
        rw [efr]
        simp_arith [n0, n1, ay, kn, nn, fl, and_self]
        try rfl)]
    refine ⟨[.val (pd c.P), .val (.lst [.str c.X, .str c.Y, .str c.Z]), .val (.lst b), .val (.int n), .val (.bl c.lv), .val (.int c.s), .mac 11 (pd c.P), .mac 13 (pd c.P), .own (leftD c.lv n), e9, .own (frs ((c.X, 0) :: frY c n)), .own (b ++ leftD c.lv n ++ [D.int 0]), .own (frs ((c.X, 0) :: frY c n)), .own (b ++ [D.int (Rf c 1)]), .own (frs [])], ?_, ?_⟩
    · rfl
    simp_arith [eqf, ov2, szl, szl2, al2, D.tru]
  obtain ⟨ρ, hO, hM⟩ := hM
  unfold F_law_deep mkF
  simp only [pad, List.length_cons, List.length_nil, List.replicate, Nat.reduceAdd, Nat.reduceSub, List.cons_append, List.nil_append]
  rw [hM]
  simp only [hO]


/-! ### values put beneath a block's ins -/
theorem pick6 (v : Int) (h0 : 0 ≤ v) (h1 : v < 6) : ∃ n : Int, 0 ≤ n ∧ n ≤ 60 ∧ atI [D.int 0, D.int 0, D.int 0, D.int 0, D.int 0, D.int 60] v = some (.int n) := by
  have : v = 0 ∨ v = 1 ∨ v = 2 ∨ v = 3 ∨ v = 4 ∨ v = 5 := by omega
  rcases this with rfl | rfl | rfl | rfl | rfl | rfl
  · exact ⟨0, by decide, by decide, rfl⟩
  · exact ⟨0, by decide, by decide, rfl⟩
  · exact ⟨0, by decide, by decide, rfl⟩
  · exact ⟨0, by decide, by decide, rfl⟩
  · exact ⟨0, by decide, by decide, rfl⟩
  · exact ⟨60, by decide, by decide, rfl⟩
theorem valueK (ns : List Int) (hn : ns.length ≤ 63) (t : Int) (k : Kd) (h0 : 0 ≤ t) (h1 : t < 990000) : ∃ d : D, IsVal d ∧ kdOf d = k ∧ F_law_value [fS ns, .own [.int t], .val (kd k)] = .ret (.dd d) [fS ns, .own [.int (t + 2)], .val (kd k)] := by
  obtain ⟨d, h2, h3, h4⟩ := value_ok ns t k.s (by cases k <;> simp [Kd.s]) h0 (by omega) hn
  refine ⟨d, h2, ?_, h4⟩
  have e : kd (kdOf d) = kd k := by rw [← kD_kd]; unfold kD kd; rw [h3]
  unfold kd at e
  exact Kd.inj.mp (D.str.inj e)



/-! ### the counting program, made -/
theorem app_list (a b : Str) : (a ++ b).cps.toList = a.cps.toList ++ b.cps.toList := Array.toList_append
theorem mid_inj {b x y : Str} (h : b ++ x ++ b = b ++ y ++ b) : x.cps.toList = y.cps.toList := by
  have e := congrArg (fun s : Str => s.cps.toList) h
  simp only [app_list, List.append_assoc] at e
  have e := List.append_cancel_left e
  exact List.append_cancel_right e
theorem one_let : (Str.ofString "X").length = 1 ∧ (Str.ofString "Y").length = 1 ∧ (Str.ofString "Z").length = 1 := by decide +kernel
theorem let_ne : (Str.ofString "X").cps.toList ≠ (Str.ofString "Y").cps.toList ∧ (Str.ofString "X").cps.toList ≠ (Str.ofString "Z").cps.toList ∧ (Str.ofString "Y").cps.toList ≠ (Str.ofString "Z").cps.toList := by decide +kernel
theorem pick3b (v : Int) (h0 : 0 ≤ v) (h1 : v < 3) : ∃ n : Int, 0 ≤ n ∧ n ≤ 50 ∧ atI [D.int 0, D.int 1, D.int 50] v = some (.int n) := by
  have : v = 0 ∨ v = 1 ∨ v = 2 := by omega
  rcases this with rfl | rfl | rfl
  · exact ⟨0, by decide, by decide, rfl⟩
  · exact ⟨1, by decide, by decide, rfl⟩
  · exact ⟨50, by decide, by decide, rfl⟩
def c13 (b : Str) (hb : gS b) (s : Int) (s0 : 0 ≤ s) (s1 : s < 1000000000) (lv : Bool) : C13 := ⟨b ++ Str.ofString "X" ++ b, b ++ Str.ofString "Y" ++ b, b ++ Str.ofString "Z" ++ b, s, lv,
  ⟨by rw [Str.length_append, Str.length_append, one_let.1]; omega, by rw [Str.length_append, Str.length_append, one_let.1]; have := hb.1; omega, strOk_app (strOk_app hb.2 (strOk_ofString _)) hb.2⟩,
  ⟨by rw [Str.length_append, Str.length_append, one_let.2.1]; omega, by rw [Str.length_append, Str.length_append, one_let.2.1]; have := hb.1; omega, strOk_app (strOk_app hb.2 (strOk_ofString _)) hb.2⟩,
  ⟨by rw [Str.length_append, Str.length_append, one_let.2.2]; omega, by rw [Str.length_append, Str.length_append, one_let.2.2]; have := hb.1; omega, strOk_app (strOk_app hb.2 (strOk_ofString _)) hb.2⟩,
  fun e => let_ne.1 (mid_inj e), fun e => let_ne.2.1 (mid_inj e), fun e => let_ne.2.2 (mid_inj e), s0, s1⟩
def nmD (b : Str) : D → D
  | .str l => .str (b ++ l ++ b)
  | d => d
theorem program_ok (ns : List Int) (hn : ns.length ≤ 63) (t : Int) (h0 : 0 ≤ t) (h1 : t < 1000) (s : Int) (s0 : 0 ≤ s) (s1 : s < 1000000000) (lv : Bool) :
    ∃ c : C13, c.s = s ∧ c.lv = lv ∧ F_law_program [fS ns, .own [.int t], .val (.int s), .val (.bl lv)] = .ret (.dd (.tup [pd c.P, .lst [.str c.X, .str c.Y, .str c.Z]])) [fS ns, .own [.int (t + 1 + 1)], .val (.int s), .val (.bl lv)] := by
  obtain ⟨v, v0, v1, e1⟩ := draw_ok ns t 1000000 h0 (by omega) (by decide) hn
  obtain ⟨w, w0, w1, e2⟩ := draw_ok ns (t + 1) 3 (by omega) (by omega) (by decide) hn
  obtain ⟨n, n0, n1, e3⟩ := pick3b w w0 w1
  obtain ⟨b, hb, e4⟩ := words_ok v n v0 n0 (by omega)
  refine ⟨c13 b hb s s0 s1 lv, rfl, rfl, ?_⟩
  have bl := hb.1
  have lx : ∀ l : Str, l.length = 1 → b.length + l.length ≤ sizeLine ∧ (b ++ l).length + b.length ≤ sizeLine := fun l hl => ⟨le_sz (by omega), le_sz (by rw [Str.length_append]; omega)⟩
  have lc := mLc_map (vsl := [10]) (f := mgName 10) (me := E_law_program_1) (nmD b) [fS ns, .own [.int (t + 1 + 1)], .val (.int s), .val (.bl lv), .val (.str b), .no, .no, .no, .no, .no, .no] [.str "X", .str "Y", .str "Z"] [] (fun d hd => by
    simp only [List.mem_cons, List.not_mem_nil, or_false] at hd
    rcases hd with rfl | rfl | rfl
    · obtain ⟨l1, l2⟩ := lx (Str.ofString "X") one_let.1
      refine ⟨_, [fS ns, .own [.int (t + 1 + 1)], .val (.int s), .val (.bl lv), .val (.str b), .no, .no, .no, .no, .no, .val (.str "X")], rfl, ?_, rfl⟩
      unfold E_law_program_1
      simp_arith! [l1, l2, nmD]
    · obtain ⟨l1, l2⟩ := lx (Str.ofString "Y") one_let.2.1
      refine ⟨_, [fS ns, .own [.int (t + 1 + 1)], .val (.int s), .val (.bl lv), .val (.str b), .no, .no, .no, .no, .no, .val (.str "Y")], rfl, ?_, rfl⟩
      unfold E_law_program_1
      simp_arith! [l1, l2, nmD]
    · obtain ⟨l1, l2⟩ := lx (Str.ofString "Z") one_let.2.2
      refine ⟨_, [fS ns, .own [.int (t + 1 + 1)], .val (.int s), .val (.bl lv), .val (.str b), .no, .no, .no, .no, .no, .val (.str "Z")], rfl, ?_, rfl⟩
      unfold E_law_program_1
      simp_arith! [l1, l2, nmD]) (by simp)
  rw [List.nil_append] at lc
  have lc : mLcLoop [10] (mgName 10) mYes E_law_program_1 [.str "X", .str "Y", .str "Z"] [] [fS ns, .own [.int (t + 1 + 1)], .val (.int s), .val (.bl lv), .val (.str b), .no, .no, .no, .no, .no, .no] = .ok [.str (c13 b hb s s0 s1 lv).X, .str (c13 b hb s s0 s1 lv).Y, .str (c13 b hb s s0 s1 lv).Z] [fS ns, .own [.int (t + 1 + 1)], .val (.int s), .val (.bl lv), .val (.str b), .no, .no, .no, .no, .no, .no] := lc
  obtain ⟨c, hc⟩ : ∃ c, c = c13 b hb s s0 s1 lv := ⟨_, rfl⟩
  have cs : c.s = s := by rw [hc]; rfl
  have cl : c.lv = lv := by rw [hc]; rfl
  rw [← hc] at lc ⊢
  have i0 : atI [D.str c.X, D.str c.Y, D.str c.Z] 0 = some (.str c.X) := rfl
  have i1 : atI [D.str c.X, D.str c.Y, D.str c.Z] 1 = some (.str c.Y) := rfl
  have i2 : atI [D.str c.X, D.str c.Y, D.str c.Z] 2 = some (.str c.Z) := rfl
  have kl : ∀ xs : List Key, xs.length ≤ 5 → xs.length < sizeLine := fun xs h => Nat.lt_of_le_of_lt h (by decide)
  have bd : ∀ t : TBk, t.b.d = .tup [.tup (kds t.i), .tup (kds t.o), .lst (t.rs.map RS.d)] := fun _ => rfl
  have p1 : dput [] [] (.inr c.Z) tZ.b.d = ([.inr c.Z], [tZ.b.d]) := rfl
  have p2 : dput [.inr c.Z] [tZ.b.d] (.inr c.X) (tX c.Y c.Z).b.d = ([.inr c.Z, .inr c.X], [tZ.b.d, (tX c.Y c.Z).b.d]) := by
    have n1 : ¬ (Sum.inr c.Z : Key) = .inr c.X := fun e => c.xz (Sum.inr.inj e).symm
    simp [dput, n1]
  have p3 : dput [.inr c.Z, .inr c.X] [tZ.b.d, (tX c.Y c.Z).b.d] (.inr c.Y) (tY c.s c.X c.lv).b.d = ([.inr c.Z, .inr c.X, .inr c.Y], [tZ.b.d, (tX c.Y c.Z).b.d, (tY c.s c.X c.lv).b.d]) := by
    have n1 : ¬ (Sum.inr c.Z : Key) = .inr c.Y := fun e => c.yz (Sum.inr.inj e).symm
    have n2 : ¬ (Sum.inr c.X : Key) = .inr c.Y := fun e => c.xy (Sum.inr.inj e)
    simp [dput, n1, n2]
  have dZ : tZ.b.d = .tup [.tup [.str "num"], .tup [.str "num"], .lst []] := rfl
  have dX : (tX c.Y c.Z).b.d = .tup [.tup [.str "num"], .tup [.str "num"], .lst [.tup [.str "copy", .int 0], .tup [.str "if", .str c.Y, .str c.Z]]] := rfl
  obtain ⟨rows, hrows⟩ : ∃ rows, rows = (rsY c.s c.X c.lv).map RS.d := ⟨_, rfl⟩
  have dY : (tY c.s c.X c.lv).b.d = .tup [.tup [.str "num"], .tup [.str "num"], .lst rows] := by rw [hrows]; rfl
  rw [dZ] at p1 p2 p3
  rw [dX] at p2 p3
  rw [dY] at p3
  have l1 : 0 < sizeLine := by decide
  have l2 : 0 + 1 < sizeLine := by decide
  have l3 : 0 + 1 + 1 < sizeLine := by decide
  have l4 : 1 < sizeLine := by decide
  have l5 : 2 < sizeLine := by decide
  have hpd : pd c.P = .dct [.inr c.Z, .inr c.X, .inr c.Y] [.tup [.tup [.str "num"], .tup [.str "num"], .lst []], .tup [.tup [.str "num"], .tup [.str "num"], .lst [.tup [.str "copy", .int 0], .tup [.str "if", .str c.Y, .str c.Z]]], .tup [.tup [.str "num"], .tup [.str "num"], .lst rows]] := by
    rw [hrows]; rfl
  rw [hpd]
  unfold F_law_program M_law_program mkF
  simp only [pad, List.length_cons, List.length_nil, List.replicate, Nat.reduceAdd, Nat.reduceSub, List.cons_append, List.nil_append]
  rw [mSeq_nx (ρ1 := [fS ns, .own [.int (t + 1 + 1)], .val (.int s), .val (.bl lv), .val (.str b), .no, .no, .no, .no, .no, .no]) (by unfold fS at *; simp_arith! [e1, e2, e3, e4]),
    mSeq_nx (ρ1 := [fS ns, .own [.int (t + 1 + 1)], .val (.int s), .val (.bl lv), .val (.str b), .own [.str c.X, .str c.Y, .str c.Z], .no, .no, .no, .no, .no]) (by unfold fS at *; simp_arith! [noneOwn, List.all_cons, List.all_nil, isOwn, Bool.and_true, wipeE, lc, backE]),
    mSeq_nx (ρ1 := [fS ns, .own [.int (t + 1 + 1)], .val (.int s), .val (.bl lv), .val (.str b), .own [.str c.X, .str c.Y, .str c.Z], .val (.tup [.str "num"]), .no, .no, .no, .no]) (by unfold fS; simp_arith! []),
    mSeq_nx (ρ1 := [fS ns, .own [.int (t + 1 + 1)], .val (.int s), .val (.bl lv), .val (.str b), .own [.str c.X, .str c.Y, .str c.Z], .val (.tup [.str "num"]), .own [.tup [.str "copy", .int 0], .tup [.str "if", .str c.Y, .str c.Z]], .no, .no, .no]) (by unfold fS; simp_arith! [i1, i2])]
  have two : ∀ k : MS, (mSeq (mAsg 8 (mSeqD (fun ds => .ow (.own ds)) [.ex (mSeqD (fun ds => .dd (.tup ds)) [.ex (mC (.str "num")), .ex (mC (.int 999999999))]), .ex (mSeqD (fun ds => .dd (.tup ds)) [.ex (mC (.str "add"))]), .ex (mSeqD (fun ds => .dd (.tup ds)) [.ex (mC (.str "call")), .ex (m2 oIx (mVar 5) (mC (.int 0)))]), .ex (mSeqD (fun ds => .dd (.tup ds)) [.ex (mC (.str "num")), .ex (mVar 2)]), .ex (mSeqD (fun ds => .dd (.tup ds)) [.ex (mC (.str "add"))])]))
      (mSeq (mIfS (mTest D.tru (mVar 3)) (mAsg 8 (mSeqD (fun ds => .ow (.own ds)) [.ex (mSeqD (fun ds => .dd (.tup ds)) [.ex (mC (.str "copy")), .ex (mC (.int 0))]), .ex (mSeqD (fun ds => .dd (.tup ds)) [.ex (mC (.str "num")), .ex (mC (.int 999999999))]), .ex (mSeqD (fun ds => .dd (.tup ds)) [.ex (mC (.str "add"))]), .ex (mSeqD (fun ds => .dd (.tup ds)) [.ex (mC (.str "call")), .ex (m2 oIx (mVar 5) (mC (.int 0)))]), .ex (mSeqD (fun ds => .dd (.tup ds)) [.ex (mC (.str "add"))])])) (mNx)) k))
      [fS ns, .own [.int (t + 1 + 1)], .val (.int s), .val (.bl lv), .val (.str b), .own [.str c.X, .str c.Y, .str c.Z], .val (.tup [.str "num"]), .own [.tup [.str "copy", .int 0], .tup [.str "if", .str c.Y, .str c.Z]], .no, .no, .no] =
      k [fS ns, .own [.int (t + 1 + 1)], .val (.int s), .val (.bl lv), .val (.str b), .own [.str c.X, .str c.Y, .str c.Z], .val (.tup [.str "num"]), .own [.tup [.str "copy", .int 0], .tup [.str "if", .str c.Y, .str c.Z]], .own rows, .no, .no] := fun k => by
    rw [hrows, cl, cs]
    unfold fS
    cases lv
    · simp_arith! [i0, D.tru]; all_goals rfl
    · simp_arith! [i0, D.tru]; all_goals rfl
  rw [two]
  rw [mSeq_nx (ρ1 := [fS ns, .own [.int (t + 1 + 1)], .val (.int s), .val (.bl lv), .val (.str b), .own [.str c.X, .str c.Y, .str c.Z], .val (.tup [.str "num"]), .own [.tup [.str "copy", .int 0], .tup [.str "if", .str c.Y, .str c.Z]], .own rows, .ownD [] [], .no]) (by unfold fS; simp_arith! []; rfl),
    mSeq_nx (ρ1 := [fS ns, .own [.int (t + 1 + 1)], .val (.int s), .val (.bl lv), .val (.str b), .own [.str c.X, .str c.Y, .str c.Z], .val (.tup [.str "num"]), .own [.tup [.str "copy", .int 0], .tup [.str "if", .str c.Y, .str c.Z]], .own rows, .ownD [.inr c.Z] [.tup [.tup [.str "num"], .tup [.str "num"], .lst []]], .no]) (by unfold fS; simp_arith! [i2, key_str, l1, p1]),
    mSeq_nx (ρ1 := [fS ns, .own [.int (t + 1 + 1)], .val (.int s), .val (.bl lv), .val (.str b), .own [.str c.X, .str c.Y, .str c.Z], .val (.tup [.str "num"]), .val (.lst [.tup [.str "copy", .int 0], .tup [.str "if", .str c.Y, .str c.Z]]), .own rows, .ownD [.inr c.Z, .inr c.X] [.tup [.tup [.str "num"], .tup [.str "num"], .lst []], .tup [.tup [.str "num"], .tup [.str "num"], .lst [.tup [.str "copy", .int 0], .tup [.str "if", .str c.Y, .str c.Z]]]], .no]) (by unfold fS; simp_arith! [i0, key_str, l2, l4, p2]),
    mSeq_nx (ρ1 := [fS ns, .own [.int (t + 1 + 1)], .val (.int s), .val (.bl lv), .val (.str b), .own [.str c.X, .str c.Y, .str c.Z], .val (.tup [.str "num"]), .val (.lst [.tup [.str "copy", .int 0], .tup [.str "if", .str c.Y, .str c.Z]]), .val (.lst rows), .ownD [.inr c.Z, .inr c.X, .inr c.Y] [.tup [.tup [.str "num"], .tup [.str "num"], .lst []], .tup [.tup [.str "num"], .tup [.str "num"], .lst [.tup [.str "copy", .int 0], .tup [.str "if", .str c.Y, .str c.Z]]], .tup [.tup [.str "num"], .tup [.str "num"], .lst rows]], .no]) (by unfold fS; simp_arith! [i1, key_str, l3, l5, p3])]
  unfold fS
  simp_arith! []
  try rfl


theorem lrun_ok {P : PT} (nm : Str) (m : Nat) (xs ys : List D) (b : Bool)
    (h : F_run [.val (pd P), .val (.str nm), .val (.lst xs), .val (.int m)] = if b = true then .ret (.ow (.own ys)) [.no, .no, .no, .no] else .exc "Dry" [.no, .no, .no, .no]) :
    F_law_run [.val (pd P), .val (.str nm), .val (.lst xs), .val (.int m)] = .ret (if b = true then .ow (.own ys) else .dd (.str "dry")) [.val (pd P), .val (.str nm), .val (.lst xs), .val (.int m)] := by
  cases b with
  | true =>
    simp only [if_true] at h ⊢
    unfold F_law_run M_law_run
    simp_arith! [h]
  | false =>
    simp only [Bool.false_eq_true, if_false] at h ⊢
    have h : F_run [.val (pd P), .val (.str nm), .val (.lst xs), .val (.int m)] = .exc (Str.ofString "Dry") [.no, .no, .no, .no] := h
    unfold F_law_run M_law_run
    simp_arith! [h]
theorem ben_loop (ns : List Int) (hn : ns.length ≤ 63) (c2 c3 c4 c5 c6 c7 c10 c11 c12 c13 : Cell) : ∀ (js : List Nat) (acc : List D) (t : Int) (c9 : Cell), acc.length + js.length ≤ 300 → AllV acc → 0 ≤ t → t + 3 * js.length < 900000 →
    ∃ (xs : List D) (t' : Int) (d9 : Cell), AllV xs ∧ xs.length = acc.length + js.length ∧ t ≤ t' ∧ t' ≤ t + 3 * js.length ∧ mLoop (mgName 9) B_law_1 (js.map fun (k : Nat) => D.int k) [fS ns, .own [.int t], c2, c3, c4, c5, c6, c7, .own acc, c9, c10, c11, c12, c13] = .nx [fS ns, .own [.int t'], c2, c3, c4, c5, c6, c7, .own xs, d9, c10, c11, c12, c13]
  | [], acc, t, c9, _, ha, _, _ => ⟨acc, t, c9, ha, by simp, by omega, by simp, rfl⟩
  | j :: js, acc, t, c9, hl, ha, h0, h1 => by
    simp only [List.length_cons] at hl h1
    obtain ⟨v, v0, v1, e1⟩ := draw_ok ns t 2 h0 (by omega) (by decide) hn
    obtain ⟨k, k1⟩ := pickK v v0 v1
    obtain ⟨d, d1, _, e2⟩ := valueK ns hn (t + 1) k (by omega) (by omega)
    obtain ⟨xs, t', d9, i1, i2, i3, i4, i5⟩ := ben_loop ns hn c2 c3 c4 c5 c6 c7 c10 c11 c12 c13 js (acc ++ [d]) (t + 1 + 2) (.val (.int j)) (by simp; omega) (ha.app d1) (by omega) (by omega)
    refine ⟨xs, t', d9, i1, by rw [i2]; simp; omega, by omega, by simp; omega, ?_⟩
    have la : acc.length < sizeLine := Nat.lt_of_le_of_lt (show acc.length ≤ 1000 by omega) (by decide)
    rw [List.map_cons, mLoop_nx (ρ1 := [fS ns, .own [.int t], c2, c3, c4, c5, c6, c7, .own acc, .val (.int j), c10, c11, c12, c13]) (ρ2 := [fS ns, .own [.int (t + 1 + 2)], c2, c3, c4, c5, c6, c7, .own (acc ++ [d]), .val (.int j), c10, c11, c12, c13]) rfl, i5]
    unfold fS at *
    unfold B_law_1
    simp_arith! [e1, k1, e2, la]
theorem k13C (c0 c1 c4 c5 c6 c7 c8 c9 c10 c11 c12 : Cell) (n s : Int) (cm1 : CMul n s) : mAsg 13 (m2 oMod (m2 oMul (mVar 3) (mVar 2)) (m2 oPow (mC (.int 10)) (mC (.int 9)))) [c0, c1, .val (.int s), .val (.int n), c4, c5, c6, c7, c8, c9, c10, c11, c12, .no] =
    .nx [c0, c1, .val (.int s), .val (.int n), c4, c5, c6, c7, c8, c9, c10, c11, c12, .val (.int (n * s % 1000000000))] := by
  have cp : CPow 10 9 := by unfold CPow; decide
  have e9' : (10 : Int) ^ (9 : Int).toNat = 1000000000 := by decide
  have z9 : (0 : Int) < 1000000000 := by decide
  simp_arith! [cm1, cp, e9', z9]
theorem k13D (c0 c1 c2 c4 c6 c7 c8 c9 c10 c11 c12 : Cell) (n v due : Int) (lv : Bool) (cm2 : CMul n (n + 1)) (ht : lv = true → n * (n + 1) / 2 = v) (hf : lv = false → due = v) :
    mIfS (mTest D.tru (mVar 5)) (mAsg 13 (m2 oDiv (m2 oMul (mVar 3) (m2 oAdd (mVar 3) (mC (.int 1)))) (mC (.int 2)))) (mNx) [c0, c1, c2, .val (.int n), c4, .val (.bl lv), c6, c7, c8, c9, c10, c11, c12, .val (.int due)] =
    .nx [c0, c1, c2, .val (.int n), c4, .val (.bl lv), c6, c7, c8, c9, c10, c11, c12, .val (.int v)] := by
  have cd : CDiv (n * (n + 1)) 2 := ⟨by decide, by decide⟩
  cases lv with
  | true =>
    have e := ht rfl
    simp_arith! [D.tru, cm2, cd, e]
  | false =>
    have e := hf rfl
    simp_arith! [D.tru, e]
theorem law_true : ∀ ns : List Int, ns.length ≤ 63 → ∃ os, F_law [.val (.fls (ns.map D.int))] = .ret (.dd (.bl true)) os := fun ns hn => by
  obtain ⟨d, d1, d2, e1⟩ := valueK ns hn 0 .n (by decide) (by decide)
  obtain ⟨s, rfl, s0, s1⟩ := isN d1 d2
  have e1 : F_law_value [fS ns, .own [.int 0], .val (.str "num")] = .ret (.dd (.int s)) [fS ns, .own [.int (0 + 2)], .val (.str "num")] := e1
  obtain ⟨m0, m00, m01, e2⟩ := draw_ok ns (0 + 2) 12 (by decide) (by decide) (by decide) hn
  obtain ⟨a, a0, a1, e3⟩ := draw_ok ns (0 + 2 + 1) 6 (by decide) (by decide) (by decide) hn
  obtain ⟨n, t1, hnn, t1a, t1b, e4⟩ : ∃ (n : Nat) (t1 : Int), n ≤ 390 ∧ 0 ≤ t1 ∧ t1 ≤ 10 ∧
      (mIfS (mTest D.bool (m2 oEq (mCall 3 F_law_draw [.ln 0, .ln 1, .ex (mC (.int 6))]) (mC (.int 1)))) (mAsg 3 (m2 oAdd (mCall 3 F_law_draw [.ln 0, .ln 1, .ex (mC (.int 91))]) (m2 oMul (mC (.int 300)) (TL.m1 oInt (m2 oEq (mCall 3 F_law_draw [.ln 0, .ln 1, .ex (mC (.int 4))]) (mC (.int 1))))))) (mNx))
        [fS ns, .own [.int (0 + 2 + 1)], .val (.int s), .val (.int m0), .no, .no, .no, .no, .no, .no, .no, .no, .no, .no] = .nx [fS ns, .own [.int t1], .val (.int s), .val (.int n), .no, .no, .no, .no, .no, .no, .no, .no, .no, .no] := by
    by_cases ha : a = 1
    · obtain ⟨x, x0, x1, e5⟩ := draw_ok ns (0 + 2 + 1 + 1) 91 (by decide) (by decide) (by decide) hn
      obtain ⟨y, y0, y1, e6⟩ := draw_ok ns (0 + 2 + 1 + 1 + 1) 4 (by decide) (by decide) (by decide) hn
      have cm : ∀ z : Int, CMul 300 z := fun z => .inl (by decide)
      obtain ⟨q, hq, hq2⟩ : ∃ q : Int, (if decide (y = 1) = true then (1 : Int) else 0) = q ∧ (q = 0 ∨ q = 1) := by
        by_cases hy : y = 1
        · exact ⟨1, by simp [hy], .inr rfl⟩
        · exact ⟨0, by simp [hy], .inl rfl⟩
      simp only [decide_eq_true_eq] at hq
      refine ⟨(x + 300 * q).toNat, 0 + 2 + 1 + 1 + 1 + 1, by omega, by decide, by decide, ?_⟩
      have ez : (((x + 300 * q).toNat : Nat) : Int) = x + 300 * q := by omega
      rw [ez]
      unfold fS at *
      simp_arith! [e3, oEq_int, ha, decide_true, e5, e6, decide_eq_true_eq, hq, cm]
    · refine ⟨m0.toNat, 0 + 2 + 1 + 1, by omega, by decide, by decide, ?_⟩
      have ez : ((m0.toNat : Nat) : Int) = m0 := by omega
      rw [ez]
      unfold fS at *
      simp_arith! [e3, oEq_int, ha, decide_false]
  obtain ⟨way, w0, w1, e5⟩ := draw_ok ns t1 3 t1a (by omega) (by decide) hn
  obtain ⟨lw, l0, l1, e6⟩ := draw_ok ns (t1 + 1) 2 (by omega) (by omega) (by decide) hn
  obtain ⟨c, rfl, hlv, e7⟩ := program_ok ns hn (t1 + 1 + 1) (by omega) (by omega) s s0 s1 (decide (lw = 0))
  rw [← hlv] at e7
  obtain ⟨p, q0, q1, e8⟩ := draw_ok ns (t1 + 1 + 1 + 1 + 1) 4 (by omega) (by omega) (by decide) hn
  obtain ⟨r, r0, r1, e9⟩ := draw_ok ns (t1 + 1 + 1 + 1 + 1 + 1) 6 (by omega) (by omega) (by decide) hn
  obtain ⟨z, z0, z1, e10⟩ := pick6 r r0 r1
  obtain ⟨b, t2, d9, b1, b2, t2a, t2b, e11⟩ := ben_loop ns hn (.val (.int c.s)) (.val (.int n)) (.val (.int way)) (.val (.bl c.lv)) (.val (pd c.P)) (.val (.lst [.str c.X, .str c.Y, .str c.Z])) .no .no .no .no (List.range (p + z).toNat) [] (t1 + 1 + 1 + 1 + 1 + 1 + 1) .no (by simp; omega) (fun d hd => by cases hd) (by omega) (by simp; omega)
  rw [List.length_range] at b2 t2b
  simp only [List.length_nil, Nat.zero_add] at b2
  obtain ⟨F, f1, e12⟩ := let_by_ok false c.P c.ok (by simp [C13.P]) c.X
  have hF : F.all (okN c.P) = true := List.all_eq_true.mpr fun y hy => c.okN ((f1 y).mp hy)
  rw [hF] at e12
  obtain ⟨hd, e13, hh⟩ := height_ok false c.P c.ok (by simp [C13.P]) c.X fun y hy => c.okB hy
  have hd0 : hd = .non := by
    rcases hh with ⟨h, _, h2⟩ | ⟨h, _⟩
    · exact ((c.noH h2).1 rfl).elim
    · exact h
  subst hd0
  simp only [pc_f] at e12 e13
  have e12 : F_let_by [.val (pd c.P), .val (.str c.X)] = .ret (.dd (.bl true)) [.val (pd c.P), .val (.str c.X)] := e12
  have e13 : F_height [.val (pd c.P), .val (.str c.X)] = .ret (.dd .non) [.val (pd c.P), .val (.str c.X)] := e13
  have n0 : atI [D.str c.X, D.str c.Y, D.str c.Z] 0 = some (.str c.X) := rfl
  have o1 : oIsBl true (.bl true) (.bl true) = some (.dd (.bl false)) := rfl
  have o2 : oIsN true .non .non = some (.dd (.bl false)) := rfl
  -- the fuel
  obtain ⟨m, t3, hm, m1, e14⟩ : ∃ (m : Nat) (t3 : Int), m ≤ 10000 ∧ True ∧ ∀ k : MS,
      (mSeq (mAsg 11 (mVar 10)) (mSeq (mIfS (mTest D.bool (m2 oEq (mVar 4) (mC (.int 1)))) (mAsg 11 (mCall 3 F_law_draw [.nm 0, .nm 1, .nm 10])) (mNx))
        (mSeq (mIfS (mTest D.bool (m2 oEq (mVar 4) (mC (.int 2)))) (mAsg 11 (m2 oAdd (m2 oAdd (mVar 10) (mC (.int 1))) (mCall 3 F_law_draw [.ln 0, .ln 1, .ex (mC (.int 1000))]))) (mNx)) k)))
        [fS ns, .own [.int t2], .val (.int c.s), .val (.int n), .val (.int way), .val (.bl c.lv), .val (pd c.P), .val (.lst [.str c.X, .str c.Y, .str c.Z]), .own b, d9, .val (.int (7 * (n : Int) + 2)), .no, .no, .no] =
        k [fS ns, .own [.int t3], .val (.int c.s), .val (.int n), .val (.int way), .val (.bl c.lv), .val (pd c.P), .val (.lst [.str c.X, .str c.Y, .str c.Z]), .own b, d9, .val (.int (7 * (n : Int) + 2)), .val (.int (m : Nat)), .no, .no] := by
    by_cases h1 : way = 1
    · obtain ⟨x, x0, x1, e⟩ := draw_ok ns t2 (7 * (n : Int) + 2) (by omega) (by omega) (by omega) hn
      refine ⟨x.toNat, t2 + 1, by omega, trivial, fun k => ?_⟩
      have ez : ((x.toNat : Nat) : Int) = x := by omega
      rw [ez]
      subst h1
      unfold fS at *
      simp_arith! [oEq_int, decide_true, e, Int.reduceEq, decide_false]
    · by_cases h2 : way = 2
      · obtain ⟨x, x0, x1, e⟩ := draw_ok ns t2 1000 (by omega) (by omega) (by decide) hn
        refine ⟨(7 * (n : Int) + 2 + 1 + x).toNat, t2 + 1, by omega, trivial, fun k => ?_⟩
        have ez : (((7 * (n : Int) + 2 + 1 + x).toNat : Nat) : Int) = 7 * (n : Int) + 2 + 1 + x := by omega
        rw [ez]
        subst h2
        unfold fS at *
        simp_arith! [oEq_int, decide_true, e, Int.reduceEq, decide_false]
      · refine ⟨(7 * (n : Int) + 2).toNat, t2, by omega, trivial, fun k => ?_⟩
        have ez : (((7 * (n : Int) + 2).toNat : Nat) : Int) = 7 * (n : Int) + 2 := by omega
        rw [ez]
        unfold fS
        simp_arith! [oEq_int, h1, h2, decide_false]
  have bl : b.length ≤ 63 := by omega
  have w := c.whole n b [] b1 (by omega) (by omega) (fun g hg => by cases hg) (by simp; omega)
  rw [show leaveK c.P [] = [] from rfl, ← c.keepX] at w
  have run := run13 c.ok c.X c.lX _ _ w m hm
  have lr := lrun_ok (P := c.P) c.X m (b ++ [.int n]) (b ++ [.int (Rf c n)]) (decide (7 * n + 2 ≤ m)) (by rw [run]; simp only [decide_eq_true_eq])
  simp only [decide_eq_true_eq] at lr
  have sz : b.length + 1 ≤ sizeLine := le_sz (by omega)
  have rr : (p + z).natAbs < 2 ^ 62 := by omega
  have cm7 : CMul 7 (n : Int) := .inl (by decide)
  have hM : ∃ ρ, M_law [fS ns, .no, .no, .no, .no, .no, .no, .no, .no, .no, .no, .no, .no, .no] = .ret (.dd (.bl true)) ρ ∧ ρ[0]? = some (fS ns) := by
    unfold M_law
    rw [mSeq_nx (ρ1 := [fS ns, .own [.int 0], .no, .no, .no, .no, .no, .no, .no, .no, .no, .no, .no, .no]) (by unfold fS; simp_arith! []),
      mSeq_nx (ρ1 := [fS ns, .own [.int (0 + 2)], .val (.int c.s), .no, .no, .no, .no, .no, .no, .no, .no, .no, .no, .no]) (by unfold fS at *; simp_arith! [e1]),
      mSeq_nx (ρ1 := [fS ns, .own [.int (0 + 2 + 1)], .val (.int c.s), .val (.int m0), .no, .no, .no, .no, .no, .no, .no, .no, .no, .no]) (by unfold fS at *; simp_arith! [e2]),
      mSeq_nx e4,
      mSeq_nx (ρ1 := [fS ns, .own [.int (t1 + 1)], .val (.int c.s), .val (.int n), .val (.int way), .no, .no, .no, .no, .no, .no, .no, .no, .no]) (by unfold fS at *; simp_arith! [e5]),
      mSeq_nx (ρ1 := [fS ns, .own [.int (t1 + 1 + 1)], .val (.int c.s), .val (.int n), .val (.int way), .val (.bl c.lv), .no, .no, .no, .no, .no, .no, .no, .no]) (by unfold fS at *; simp_arith! [e6, oEq_int, hlv]),
      mSeq_nx (ρ1 := [fS ns, .own [.int (t1 + 1 + 1 + 1 + 1)], .val (.int c.s), .val (.int n), .val (.int way), .val (.bl c.lv), .val (pd c.P), .val (.lst [.str c.X, .str c.Y, .str c.Z]), .no, .no, .no, .no, .no, .no]) (by unfold fS at *; simp_arith! [e7]),
      mSeq_nx (ρ1 := [fS ns, .own [.int (t1 + 1 + 1 + 1 + 1)], .val (.int c.s), .val (.int n), .val (.int way), .val (.bl c.lv), .val (pd c.P), .val (.lst [.str c.X, .str c.Y, .str c.Z]), .own [], .no, .no, .no, .no, .no]) (by unfold fS; simp_arith! []; all_goals rfl),
      mSeq_nx (ρ1 := [fS ns, .own [.int t2], .val (.int c.s), .val (.int n), .val (.int way), .val (.bl c.lv), .val (pd c.P), .val (.lst [.str c.X, .str c.Y, .str c.Z]), .own b, d9, .no, .no, .no, .no]) (by
        rw [mFor_ok (ds := (List.range (p + z).toNat).map fun (k : Nat) => D.int k) (ρ1 := [fS ns, .own [.int (t1 + 1 + 1 + 1 + 1 + 1 + 1)], .val (.int c.s), .val (.int n), .val (.int way), .val (.bl c.lv), .val (pd c.P), .val (.lst [.str c.X, .str c.Y, .str c.Z]), .own [], .no, .no, .no, .no, .no]) (by unfold fS at *; simp_arith! [e8, e9, e10, rr]), e11]),
      mSeq_nx (ρ1 := [fS ns, .own [.int t2], .val (.int c.s), .val (.int n), .val (.int way), .val (.bl c.lv), .val (pd c.P), .val (.lst [.str c.X, .str c.Y, .str c.Z]), .own b, d9, .val (.int (7 * (n : Int) + 2)), .no, .no, .no]) (by unfold fS; simp_arith! [cm7]),
      mSeq_nx (ρ1 := [fS ns, .own [.int t2], .val (.int c.s), .val (.int n), .val (.int way), .val (.bl c.lv), .val (pd c.P), .val (.lst [.str c.X, .str c.Y, .str c.Z]), .own b, d9, .val (.int (7 * (n : Int) + 2)), .no, .no, .no]) (by unfold fS; simp_arith! [n0, e12, e13, o1, o2]),
      e14]
    by_cases hle : 7 * n + 2 ≤ m
    · rw [if_pos hle] at lr
      have nlt : ¬ ((m : Int) < 7 * (n : Int) + 2) := by omega
      have vi := Rf_in c n
      have hv : AllV (b ++ [D.int (Rf c n)]) := b1.app2 (v_int vi.1 vi.2)
      have al := alikeV_ok true false (b ++ [D.int (Rf c n)]) hv (by simp; omega)
      simp only [lc_t, lc_f] at al
      have dp := deep_ok c b b1 (by omega) n (by omega)
      have cm1 : CMul (n : Int) c.s := .inl (by omega)
      have cm2 : CMul (n : Int) ((n : Int) + 1) := .inl (by omega)
      have due : ∀ lv : Bool, c.lv = lv → (if lv = true then (n : Int) * ((n : Int) + 1) / 2 else (n : Int) * c.s % 1000000000) = Rf c n := fun lv h => by
        cases lv with
        | true =>
          obtain ⟨h1, _⟩ := Rf_t c h n (by omega)
          simp only [if_true]; omega
        | false =>
          simp only [Bool.false_eq_true, if_false]
          exact (Rf_f c h n).symm
      refine ⟨[fS ns, .own [.int t3], .val (.int c.s), .val (.int n), .val (.int way), .val (.bl c.lv), .val (pd c.P), .val (.lst [.str c.X, .str c.Y, .str c.Z]), .val (.lst b), d9, .val (.int (7 * (n : Int) + 2)), .val (.int (m : Nat)), .own (b ++ [.int (Rf c n)]), .val (.int (Rf c n))], ?_, rfl⟩
      rw [mSeq_nx (ρ1 := [fS ns, .own [.int t3], .val (.int c.s), .val (.int n), .val (.int way), .val (.bl c.lv), .val (pd c.P), .val (.lst [.str c.X, .str c.Y, .str c.Z]), .own b, d9, .val (.int (7 * (n : Int) + 2)), .val (.int (m : Nat)), .own (b ++ [.int (Rf c n)]), .no]) (by unfold fS; simp_arith! [n0, sz, lr]),
        mSeq_nx (ρ1 := [fS ns, .own [.int t3], .val (.int c.s), .val (.int n), .val (.int way), .val (.bl c.lv), .val (pd c.P), .val (.lst [.str c.X, .str c.Y, .str c.Z]), .own b, d9, .val (.int (7 * (n : Int) + 2)), .val (.int (m : Nat)), .own (b ++ [.int (Rf c n)]), .no]) (by unfold fS; simp_arith! [nlt]),
        mSeq_nx (k13C _ _ _ _ _ _ _ _ _ _ _ (n : Int) c.s cm1),
        mSeq_nx (k13D _ _ _ _ _ _ _ _ _ _ _ (n : Int) (Rf c n) _ c.lv cm2 (fun h => by have := due true h; simpa using this) (fun h => by have := due false h; simpa using this))]
      unfold fS
      simp_arith! [sz, al, dp, D.tru]
    · rw [if_neg hle] at lr
      have nlt : ((m : Int) < 7 * (n : Int) + 2) := by omega
      have ts : oIsi (.str (Str.ofString "dry")) (.ty "str") = some (.dd (.bl true)) := rfl
      refine ⟨[fS ns, .own [.int t3], .val (.int c.s), .val (.int n), .val (.int way), .val (.bl c.lv), .val (pd c.P), .val (.lst [.str c.X, .str c.Y, .str c.Z]), .own b, d9, .val (.int (7 * (n : Int) + 2)), .val (.int (m : Nat)), .val (.str "dry"), .no], ?_, rfl⟩
      unfold fS
      simp_arith! [n0, sz, lr, nlt, ts, D.tru]
  obtain ⟨ρ, hM, h0⟩ := hM
  refine ⟨outs [true] ρ, ?_⟩
  unfold F_law mkF
  simp only [pad, List.length_cons, List.length_nil, List.replicate, Nat.reduceAdd, Nat.reduceSub, List.cons_append, List.nil_append]
  unfold fS at hM
  rw [hM]

end LW
namespace LW
open PySem L2 TL
def top (i : Nat) : Stmt := PySem.Challenge.pw_stackproof_k13_counting.main.body.getD i (.Pass ⟨0, 0, 0, 0⟩)
theorem bt_all : bootBuiltins "all" = some (.builtin "all") := by decide +kernel
theorem bt_bool : bootBuiltins "bool" = some (.type "bool") := by decide +kernel
theorem bt_enumerate : bootBuiltins "enumerate" = some (.type "enumerate") := by decide +kernel
theorem bt_int : bootBuiltins "int" = some (.type "int") := by decide +kernel
theorem bt_isinstance : bootBuiltins "isinstance" = some (.builtin "isinstance") := by decide +kernel
theorem bt_len : bootBuiltins "len" = some (.builtin "len") := by decide +kernel
theorem bt_list : bootBuiltins "list" = some (.type "list") := by decide +kernel
theorem bt_max : bootBuiltins "max" = some (.builtin "max") := by decide +kernel
theorem bt_range : bootBuiltins "range" = some (.type "range") := by decide +kernel
theorem bt_str : bootBuiltins "str" = some (.type "str") := by decide +kernel
theorem bt_tuple : bootBuiltins "tuple" = some (.type "tuple") := by decide +kernel
theorem nf_begun : noFld "_begun" := noFld_mk (by decide +kernel) (by decide +kernel) (by decide +kernel)
theorem nf_chosen : noFld "_chosen" := noFld_mk (by decide +kernel) (by decide +kernel) (by decide +kernel)
theorem nf_do : noFld "_do" := noFld_mk (by decide +kernel) (by decide +kernel) (by decide +kernel)
theorem nf_has_ended : noFld "_has_ended" := noFld_mk (by decide +kernel) (by decide +kernel) (by decide +kernel)
theorem nf_leave : noFld "_leave" := noFld_mk (by decide +kernel) (by decide +kernel) (by decide +kernel)
theorem nf_over : noFld "over" := noFld_mk (by decide +kernel) (by decide +kernel) (by decide +kernel)
theorem nf_step : noFld "step" := noFld_mk (by decide +kernel) (by decide +kernel) (by decide +kernel)
abbrev st_law_draw : Stmt := top 52
abbrev N_law_draw : List Str := ["_law_script", "_law_tape", "_law_many", "_law_seed", "_law_cell"]
theorem sc_law_draw : FnScope ["_law_script", "_law_tape", "_law_many", "_law_seed", "_law_cell"] ["_law_script", "_law_tape", "_law_many"] (defScope st_law_draw) := ⟨rfl, rfl, rfl, by decide +kernel, rfl, by decide +kernel, by decide +kernel⟩
abbrev st_law_words : Stmt := top 53
abbrev N_law_words : List Str := ["_law_cell", "_law_size", "_law_signs", "_law_k"]
theorem sc_law_words : FnScope ["_law_cell", "_law_size", "_law_signs", "_law_k"] ["_law_cell", "_law_size"] (defScope st_law_words) := ⟨rfl, rfl, rfl, by decide +kernel, rfl, by decide +kernel, by decide +kernel⟩
abbrev st_law_value : Stmt := top 54
abbrev N_law_value : List Str := ["_law_script", "_law_tape", "_law_kind", "_law_cell", "_law_way"]
theorem sc_law_value : FnScope ["_law_script", "_law_tape", "_law_kind", "_law_cell", "_law_way"] ["_law_script", "_law_tape", "_law_kind"] (defScope st_law_value) := ⟨rfl, rfl, rfl, by decide +kernel, rfl, by decide +kernel, by decide +kernel⟩
abbrev st_law_program : Stmt := top 56
abbrev N_law_program : List Str := ["_law_script", "_law_tape", "_law_some", "_law_leaves", "_law_begin", "_law_names", "_law_kinds", "_law_first", "_law_second", "_law_program_here", "_law_letter"]
theorem sc_law_program : FnScope ["_law_script", "_law_tape", "_law_some", "_law_leaves", "_law_begin", "_law_names", "_law_kinds", "_law_first", "_law_second", "_law_program_here", "_law_letter"] ["_law_script", "_law_tape", "_law_some", "_law_leaves"] (defScope st_law_program) := ⟨rfl, rfl, rfl, by decide +kernel, rfl, by decide +kernel, by decide +kernel⟩
abbrev st_names_in : Stmt := top 9
abbrev N_names_in : List Str := ["row"]
theorem sc_names_in : FnScope ["row"] ["row"] (defScope st_names_in) := ⟨rfl, rfl, rfl, by decide +kernel, rfl, by decide +kernel, by decide +kernel⟩
abbrev st_named_by : Stmt := top 10
abbrev N_named_by : List Str := ["program", "name", "found", "row", "other"]
theorem sc_named_by : FnScope ["program", "name", "found", "row", "other"] ["program", "name"] (defScope st_named_by) := ⟨rfl, rfl, rfl, by decide +kernel, rfl, by decide +kernel, by decide +kernel⟩
abbrev st_reach : Stmt := top 11
abbrev N_reach : List Str := ["program", "name", "found", "ahead", "here", "other"]
theorem sc_reach : FnScope ["program", "name", "found", "ahead", "here", "other"] ["program", "name"] (defScope st_reach) := ⟨rfl, rfl, rfl, by decide +kernel, rfl, by decide +kernel, by decide +kernel⟩
abbrev st_block_of : Stmt := top 8
abbrev N_block_of : List Str := ["program", "name"]
theorem sc_block_of : FnScope ["program", "name"] ["program", "name"] (defScope st_block_of) := ⟨rfl, rfl, rfl, by decide +kernel, rfl, by decide +kernel, by decide +kernel⟩
abbrev st_lead_call : Stmt := top 40
abbrev N_lead_call : List Str := ["program", "kinds", "name", "block", "ins", "place"]
theorem sc_lead_call : FnScope ["program", "kinds", "name", "block", "ins", "place"] ["program", "kinds", "name"] (defScope st_lead_call) := ⟨rfl, rfl, rfl, by decide +kernel, rfl, by decide +kernel, by decide +kernel⟩
abbrev st_wanted : Stmt := top 19
abbrev N_wanted : List Str := ["row", "word"]
theorem sc_wanted : FnScope ["row", "word"] ["row"] (defScope st_wanted) := ⟨rfl, rfl, rfl, by decide +kernel, rfl, by decide +kernel, by decide +kernel⟩
abbrev st_check : Stmt := top 20
abbrev N_check : List Str := ["row", "kinds", "word", "kind"]
theorem sc_check : FnScope ["row", "kinds", "word", "kind"] ["row", "kinds"] (defScope st_check) := ⟨rfl, rfl, rfl, by decide +kernel, rfl, by decide +kernel, by decide +kernel⟩
abbrev st_lead_if : Stmt := top 41
abbrev N_lead_if : List Str := ["program", "kinds", "row", "yes", "no"]
theorem sc_lead_if : FnScope ["program", "kinds", "row", "yes", "no"] ["program", "kinds", "row"] (defScope st_lead_if) := ⟨rfl, rfl, rfl, by decide +kernel, rfl, by decide +kernel, by decide +kernel⟩
abbrev st_added : Stmt := top 21
abbrev N_added : List Str := ["taken", "low", "high"]
theorem sc_added : FnScope ["taken", "low", "high"] ["taken"] (defScope st_added) := ⟨rfl, rfl, rfl, by decide +kernel, rfl, by decide +kernel, by decide +kernel⟩
abbrev st_multiplied : Stmt := top 22
abbrev N_multiplied : List Str := ["taken", "low", "high"]
theorem sc_multiplied : FnScope ["taken", "low", "high"] ["taken"] (defScope st_multiplied) := ⟨rfl, rfl, rfl, by decide +kernel, rfl, by decide +kernel, by decide +kernel⟩
abbrev st_compared : Stmt := top 23
abbrev N_compared : List Str := ["taken", "low", "high"]
theorem sc_compared : FnScope ["taken", "low", "high"] ["taken"] (defScope st_compared) := ⟨rfl, rfl, rfl, by decide +kernel, rfl, by decide +kernel, by decide +kernel⟩
abbrev st_joined : Stmt := top 24
abbrev N_joined : List Str := ["taken", "low", "high"]
theorem sc_joined : FnScope ["taken", "low", "high"] ["taken"] (defScope st_joined) := ⟨rfl, rfl, rfl, by decide +kernel, rfl, by decide +kernel, by decide +kernel⟩
abbrev st_measured : Stmt := top 25
abbrev N_measured : List Str := ["taken"]
theorem sc_measured : FnScope ["taken"] ["taken"] (defScope st_measured) := ⟨rfl, rfl, rfl, by decide +kernel, rfl, by decide +kernel, by decide +kernel⟩
abbrev st_shown : Stmt := top 26
abbrev N_shown : List Str := ["taken"]
theorem sc_shown : FnScope ["taken"] ["taken"] (defScope st_shown) := ⟨rfl, rfl, rfl, by decide +kernel, rfl, by decide +kernel, by decide +kernel⟩
abbrev st_swapped : Stmt := top 27
abbrev N_swapped : List Str := ["taken", "low", "high"]
theorem sc_swapped : FnScope ["taken", "low", "high"] ["taken"] (defScope st_swapped) := ⟨rfl, rfl, rfl, by decide +kernel, rfl, by decide +kernel, by decide +kernel⟩
abbrev st_dropped : Stmt := top 28
abbrev N_dropped : List Str := ["taken"]
theorem sc_dropped : FnScope ["taken"] ["taken"] (defScope st_dropped) := ⟨rfl, rfl, rfl, by decide +kernel, rfl, by decide +kernel, by decide +kernel⟩
abbrev st_copied : Stmt := top 29
abbrev N_copied : List Str := ["taken"]
theorem sc_copied : FnScope ["taken"] ["taken"] (defScope st_copied) := ⟨rfl, rfl, rfl, by decide +kernel, rfl, by decide +kernel, by decide +kernel⟩
abbrev st_put_by : Stmt := top 31
abbrev N_put_by : List Str := ["row", "taken", "word", "put"]
theorem sc_put_by : FnScope ["row", "taken", "word", "put"] ["row", "taken"] (defScope st_put_by) := ⟨rfl, rfl, rfl, by decide +kernel, rfl, by decide +kernel, by decide +kernel⟩
abbrev st_kinds_put : Stmt := top 38
abbrev N_kinds_put : List Str := ["row", "taken", "word"]
theorem sc_kinds_put : FnScope ["row", "taken", "word"] ["row", "taken"] (defScope st_kinds_put) := ⟨rfl, rfl, rfl, by decide +kernel, rfl, by decide +kernel, by decide +kernel⟩
abbrev st_lead_plain : Stmt := top 39
abbrev N_lead_plain : List Str := ["kinds", "row", "place", "taken"]
theorem sc_lead_plain : FnScope ["kinds", "row", "place", "taken"] ["kinds", "row"] (defScope st_lead_plain) := ⟨rfl, rfl, rfl, by decide +kernel, rfl, by decide +kernel, by decide +kernel⟩
abbrev st_lead : Stmt := top 42
abbrev N_lead : List Str := ["program", "kinds", "row", "word"]
theorem sc_lead : FnScope ["program", "kinds", "row", "word"] ["program", "kinds", "row"] (defScope st_lead) := ⟨rfl, rfl, rfl, by decide +kernel, rfl, by decide +kernel, by decide +kernel⟩
abbrev st_refusal : Stmt := top 44
abbrev N_refusal : List Str := ["program", "kinds", "row"]
theorem sc_refusal : FnScope ["program", "kinds", "row"] ["program", "kinds", "row"] (defScope st_refusal) := ⟨rfl, rfl, rfl, by decide +kernel, rfl, by decide +kernel, by decide +kernel⟩
abbrev st_fault : Stmt := top 45
abbrev N_fault : List Str := ["program", "name", "ins", "outs", "rows", "kinds", "place", "row", "word"]
theorem sc_fault : FnScope ["program", "name", "ins", "outs", "rows", "kinds", "place", "row", "word"] ["program", "name"] (defScope st_fault) := ⟨rfl, rfl, rfl, by decide +kernel, rfl, by decide +kernel, by decide +kernel⟩
abbrev st_let_by : Stmt := top 46
abbrev N_let_by : List Str := ["program", "name", "other"]
theorem sc_let_by : FnScope ["program", "name", "other"] ["program", "name"] (defScope st_let_by) := ⟨rfl, rfl, rfl, by decide +kernel, rfl, by decide +kernel, by decide +kernel⟩
abbrev st_ready_ones : Stmt := top 49
abbrev N_ready_ones : List Str := ["named", "heights", "found", "name", "other"]
theorem sc_ready_ones : FnScope ["named", "heights", "found", "name", "other"] ["named", "heights"] (defScope st_ready_ones) := ⟨rfl, rfl, rfl, by decide +kernel, rfl, by decide +kernel, by decide +kernel⟩
abbrev st_height_within : Stmt := top 47
abbrev N_height_within : List Str := ["program", "many", "row", "heights", "names", "taken", "beneath", "name"]
theorem sc_height_within : FnScope ["program", "many", "row", "heights", "names", "taken", "beneath", "name"] ["program", "many", "row", "heights"] (defScope st_height_within) := ⟨rfl, rfl, rfl, by decide +kernel, rfl, by decide +kernel, by decide +kernel⟩
abbrev st_height_by : Stmt := top 48
abbrev N_height_by : List Str := ["program", "name", "heights", "block", "kinds", "most", "row"]
theorem sc_height_by : FnScope ["program", "name", "heights", "block", "kinds", "most", "row"] ["program", "name", "heights"] (defScope st_height_by) := ⟨rfl, rfl, rfl, by decide +kernel, rfl, by decide +kernel, by decide +kernel⟩
abbrev st_height : Stmt := top 50
abbrev N_height : List Str := ["program", "name", "named", "other", "heights", "ready"]
theorem sc_height : FnScope ["program", "name", "named", "other", "heights", "ready"] ["program", "name"] (defScope st_height) := ⟨rfl, rfl, rfl, by decide +kernel, rfl, by decide +kernel, by decide +kernel⟩
abbrev st_M_begun : Stmt := inClass (top 34) 3
abbrev N_M_begun : List Str := ["self", "name", "#0"]
theorem sc_M_begun : FnScope ["self", "name", "#0"] ["self", "name"] (defScope st_M_begun) := ⟨rfl, rfl, rfl, by decide +kernel, rfl, by decide +kernel, by decide +kernel⟩
abbrev st_M_has_ended : Stmt := inClass (top 34) 5
abbrev N_M_has_ended : List Str := ["self", "frame", "#0", "name", "place"]
theorem sc_M_has_ended : FnScope ["self", "frame", "#0", "name", "place"] ["self", "frame"] (defScope st_M_has_ended) := ⟨rfl, rfl, rfl, by decide +kernel, rfl, by decide +kernel, by decide +kernel⟩
abbrev st_M_leave : Stmt := inClass (top 34) 4
abbrev N_M_leave : List Str := ["self", "#0", "#1"]
theorem sc_M_leave : FnScope ["self", "#0", "#1"] ["self"] (defScope st_M_leave) := ⟨rfl, rfl, rfl, by decide +kernel, rfl, by decide +kernel, by decide +kernel⟩
abbrev st_M__init__ : Stmt := inClass (top 34) 0
abbrev N_M__init__ : List Str := ["self", "program", "name", "stack"]
theorem sc_M__init__ : FnScope ["self", "program", "name", "stack"] ["self", "program", "name", "stack"] (defScope st_M__init__) := ⟨rfl, rfl, rfl, by decide +kernel, rfl, by decide +kernel, by decide +kernel⟩
abbrev st_Mover : Stmt := inClass (top 34) 1
abbrev N_Mover : List Str := ["self", "#0", "#1"]
theorem sc_Mover : FnScope ["self", "#0", "#1"] ["self"] (defScope st_Mover) := ⟨rfl, rfl, rfl, by decide +kernel, rfl, by decide +kernel, by decide +kernel⟩
abbrev st_kind_of : Stmt := top 17
abbrev N_kind_of : List Str := ["value"]
theorem sc_kind_of : FnScope ["value"] ["value"] (defScope st_kind_of) := ⟨rfl, rfl, rfl, by decide +kernel, rfl, by decide +kernel, by decide +kernel⟩
abbrev st_kinds_of : Stmt := top 18
abbrev N_kinds_of : List Str := ["stack", "value"]
theorem sc_kinds_of : FnScope ["stack", "value"] ["stack"] (defScope st_kinds_of) := ⟨rfl, rfl, rfl, by decide +kernel, rfl, by decide +kernel, by decide +kernel⟩
abbrev st_M_chosen : Stmt := inClass (top 34) 7
abbrev N_M_chosen : List Str := ["self", "row", "#0", "#1", "frame"]
theorem sc_M_chosen : FnScope ["self", "row", "#0", "#1", "frame"] ["self", "row"] (defScope st_M_chosen) := ⟨rfl, rfl, rfl, by decide +kernel, rfl, by decide +kernel, by decide +kernel⟩
abbrev st_do : Stmt := top 32
abbrev N_do : List Str := ["stack", "row", "place", "taken"]
theorem sc_do : FnScope ["stack", "row", "place", "taken"] ["stack", "row"] (defScope st_do) := ⟨rfl, rfl, rfl, by decide +kernel, rfl, by decide +kernel, by decide +kernel⟩
abbrev st_M_do : Stmt := inClass (top 34) 6
abbrev N_M_do : List Str := ["self", "row", "#0", "#1", "word"]
theorem sc_M_do : FnScope ["self", "row", "#0", "#1", "word"] ["self", "row"] (defScope st_M_do) := ⟨rfl, rfl, rfl, by decide +kernel, rfl, by decide +kernel, by decide +kernel⟩
abbrev st_Mstep : Stmt := inClass (top 34) 2
abbrev N_Mstep : List Str := ["self", "#0", "#1", "name", "place", "row", "entered"]
theorem sc_Mstep : FnScope ["self", "#0", "#1", "name", "place", "row", "entered"] ["self"] (defScope st_Mstep) := ⟨rfl, rfl, rfl, by decide +kernel, rfl, by decide +kernel, by decide +kernel⟩
abbrev st_run : Stmt := top 35
abbrev N_run : List Str := ["program", "name", "stack", "fuel", "machine", "_", "#0", "#1"]
theorem sc_run : FnScope ["program", "name", "stack", "fuel", "machine", "_", "#0", "#1"] ["program", "name", "stack", "fuel"] (defScope st_run) := ⟨rfl, rfl, rfl, by decide +kernel, rfl, by decide +kernel, by decide +kernel⟩
abbrev st_law_run : Stmt := top 57
abbrev N_law_run : List Str := ["_law_program_here", "_law_name", "_law_stack", "_law_fuel"]
theorem sc_law_run : FnScope ["_law_program_here", "_law_name", "_law_stack", "_law_fuel"] ["_law_program_here", "_law_name", "_law_stack", "_law_fuel"] (defScope st_law_run) := ⟨rfl, rfl, rfl, by decide +kernel, rfl, by decide +kernel, by decide +kernel⟩
abbrev st_law_alike : Stmt := top 55
abbrev N_law_alike : List Str := ["_law_found", "_law_due", "_law_k"]
theorem sc_law_alike : FnScope ["_law_found", "_law_due", "_law_k"] ["_law_found", "_law_due"] (defScope st_law_alike) := ⟨rfl, rfl, rfl, by decide +kernel, rfl, by decide +kernel, by decide +kernel⟩
abbrev st_law_deep : Stmt := top 58
abbrev N_law_deep : List Str := ["_law_program_here", "_law_names", "_law_beneath", "_law_many", "_law_leaves", "_law_some", "_law_machine", "_law_other", "_law_left", "_law_turn", "_law_due", "#0", "#1", "#2", "#3"]
theorem sc_law_deep : FnScope ["_law_program_here", "_law_names", "_law_beneath", "_law_many", "_law_leaves", "_law_some", "_law_machine", "_law_other", "_law_left", "_law_turn", "_law_due", "#0", "#1", "#2", "#3"] ["_law_program_here", "_law_names", "_law_beneath", "_law_many", "_law_leaves", "_law_some"] (defScope st_law_deep) := ⟨rfl, rfl, rfl, by decide +kernel, rfl, by decide +kernel, by decide +kernel⟩
abbrev st_law : Stmt := top 59
abbrev N_law : List Str := ["_law_script", "_law_tape", "_law_some", "_law_many", "_law_way", "_law_leaves", "_law_program_here", "_law_names", "_law_beneath", "_law_k", "_law_steps", "_law_fuel", "_law_found", "_law_due"]
theorem sc_law : FnScope ["_law_script", "_law_tape", "_law_some", "_law_many", "_law_way", "_law_leaves", "_law_program_here", "_law_names", "_law_beneath", "_law_k", "_law_steps", "_law_fuel", "_law_found", "_law_due"] ["_law_script"] (defScope st_law) := ⟨rfl, rfl, rfl, by decide +kernel, rfl, by decide +kernel, by decide +kernel⟩
structure G (K : PySem.W.Frag) (w : World) (mg : Str → Option Value) : Prop where
  z_all : mg "all" = none
  z_bool : mg "bool" = none
  z_enumerate : mg "enumerate" = none
  z_int : mg "int" = none
  z_isinstance : mg "isinstance" = none
  z_len : mg "len" = none
  z_list : mg "list" = none
  z_max : mg "max" = none
  z_range : mg "range" = none
  z_str : mg "str" = none
  z_tuple : mg "tuple" = none
  c_MODULUS : ∃ t, mg "MODULUS" = some (.int 1000000000 t)
  c_MOST_SIGNS : ∃ t, mg "MOST_SIGNS" = some (.int 60 t)
  t_NEW_KIND : ∃ d, KTab K w mg "NEW_KIND" d tbl_NEW_KIND
  t_PUT : ∃ d, KTab K w mg "PUT" d tbl_PUT
  t_TOLD : ∃ d, KTab K w mg "TOLD" d tbl_TOLD
  t_WANTED : ∃ d, KTab K w mg "WANTED" d tbl_WANTED
  x_Apart : ExT K mg "Apart"
  x_Dry : ExT K mg "Dry"
  x_Empty : ExT K mg "Empty"
  x_NoBlock : ExT K mg "NoBlock"
  x_WrongKind : ExT K mg "WrongKind"
  h_Apart : HdT K mg "Apart" hdt_Apart
  h_Dry : HdT K mg "Dry" hdt_Dry
  h_Empty : HdT K mg "Empty" hdt_Empty
  h_NoBlock : HdT K mg "NoBlock" hdt_NoBlock
  h_WrongKind : HdT K mg "WrongKind" hdt_WrongKind
  mt : MacT K mg
  d_law_draw : Fd K mg "_law_draw" st_law_draw
  d_law_words : Fd K mg "_law_words" st_law_words
  d_law_value : Fd K mg "_law_value" st_law_value
  d_law_program : Fd K mg "_law_program" st_law_program
  d_names_in : Fd K mg "names_in" st_names_in
  d_named_by : Fd K mg "named_by" st_named_by
  d_reach : Fd K mg "reach" st_reach
  d_block_of : Fd K mg "block_of" st_block_of
  d_lead_call : Fd K mg "lead_call" st_lead_call
  d_wanted : Fd K mg "wanted" st_wanted
  d_check : Fd K mg "check" st_check
  d_lead_if : Fd K mg "lead_if" st_lead_if
  d_added : Fd K mg "added" st_added
  d_multiplied : Fd K mg "multiplied" st_multiplied
  d_compared : Fd K mg "compared" st_compared
  d_joined : Fd K mg "joined" st_joined
  d_measured : Fd K mg "measured" st_measured
  d_shown : Fd K mg "shown" st_shown
  d_swapped : Fd K mg "swapped" st_swapped
  d_dropped : Fd K mg "dropped" st_dropped
  d_copied : Fd K mg "copied" st_copied
  d_put_by : Fd K mg "put_by" st_put_by
  d_kinds_put : Fd K mg "kinds_put" st_kinds_put
  d_lead_plain : Fd K mg "lead_plain" st_lead_plain
  d_lead : Fd K mg "lead" st_lead
  d_refusal : Fd K mg "refusal" st_refusal
  d_fault : Fd K mg "fault" st_fault
  d_let_by : Fd K mg "let_by" st_let_by
  d_ready_ones : Fd K mg "ready_ones" st_ready_ones
  d_height_within : Fd K mg "height_within" st_height_within
  d_height_by : Fd K mg "height_by" st_height_by
  d_height : Fd K mg "height" st_height
  d_M_begun : Md K mg "_begun" "Machine._begun" st_M_begun
  d_M_has_ended : Md K mg "_has_ended" "Machine._has_ended" st_M_has_ended
  d_M_leave : Md K mg "_leave" "Machine._leave" st_M_leave
  d_M__init__ : MiT K mg st_M__init__
  d_Mover : Md K mg "over" "Machine.over" st_Mover
  d_kind_of : Fd K mg "kind_of" st_kind_of
  d_kinds_of : Fd K mg "kinds_of" st_kinds_of
  d_M_chosen : Md K mg "_chosen" "Machine._chosen" st_M_chosen
  d_do : Fd K mg "do" st_do
  d_M_do : Md K mg "_do" "Machine._do" st_M_do
  d_Mstep : Md K mg "step" "Machine.step" st_Mstep
  d_run : Fd K mg "run" st_run
  d_law_run : Fd K mg "_law_run" st_law_run
  d_law_alike : Fd K mg "_law_alike" st_law_alike
  d_law_deep : Fd K mg "_law_deep" st_law_deep
  d_law : Fd K mg "law" st_law
section
variable {P : Program} {w : World} {K : PySem.W.Frag} {mg : Str → Option Value} {base : Heap}
theorem ok_law_draw (G : G K w mg)  : Fk P w K mg base 1 "_law_draw" 3 F_law_draw := by
  exact fk_of (ps := ["_law_script", "_law_tape", "_law_many"]) G.d_law_draw rfl (fun _ _ _ _ _ _ us hl => match us, hl with | [_, _, _], _ => rfl) fun f fd Fn => (show FnOk P w K mg base (L2.CX P w) 1 f fd ["_law_script", "_law_tape", "_law_many"] (spT K mg 3 (mkF [true, true, true] 5 M_law_draw)) from fn_ok (N := N_law_draw) (fx := [true, true, true]) (m := M_law_draw) Fn sc_law_draw rfl (.inl (by kernel_rfl)) fun cdv A outer s H E hr => ⟨_,
   dss_cons (ds_put 1 (hu_of hr) (de_var 1) (de_int) (de_bin op_add4 os_add (de_ix (ix_all (hu_of hr)) os_ix (de_var 1) (de_int) (fun _ _ => rfl)) (de_int)))
 (dss_cons (ds_if (dt_cmp op_le os_cmp (de_ix (ix_all (hu_of hr)) os_ix (de_var 1) (de_int) (fun _ _ => rfl)) (de_b1 call_lenA cs_len (de_var 0) G.z_len bt_len) (nomark _)) (dss_one (ds_ret (de_bin op_mod os_mod (de_ix (ix_all (hu_of hr)) os_ix (de_var 0) (de_bin op_sub os_sub (de_ix (ix_all (hu_of hr)) os_ix (de_var 1) (de_int) (fun _ _ => rfl)) (de_int)) (fun _ _ => rfl)) (de_var 2)))) (dss_nil))
 (dss_cons (ds_set 3 sc_law_draw.nd (de_b1 call_lenA cs_len (de_var 0) G.z_len bt_len))
 (dss_cons (ds_for (passes_of rfl) rfl (di_seq (de_sl (de_var 0) do_none (do_some (de_int)))) (dg_name 4 sc_law_draw.nd) (dss_one (ds_set 3 sc_law_draw.nd (de_bin op_mod os_mod (de_bin op_add4 os_add (de_bin op_mul2 os_mul (de_var 3) (de_int)) (de_var 4)) (de_int)))))
 (dss_one (ds_ret (de_bin op_mod os_mod (de_bin op_mod os_mod (de_bin op_mul2 os_mul (de_bin op_add4 os_add (de_var 3) (de_int)) (de_bin op_add4 os_add (de_bin op_mul2 os_mul (de_ix (ix_all (hu_of hr)) os_ix (de_var 1) (de_int) (fun _ _ => rfl)) (de_ix (ix_all (hu_of hr)) os_ix (de_var 1) (de_int) (fun _ _ => rfl))) (de_int))) (de_int)) (de_var 2)))))))⟩)
theorem ok_law_words (G : G K w mg)  : Fk P w K mg base 1 "_law_words" 2 F_law_words := by
  exact fk_of (ps := ["_law_cell", "_law_size"]) G.d_law_words rfl (fun _ _ _ _ _ _ us hl => match us, hl with | [_, _], _ => rfl) fun f fd Fn => (show FnOk P w K mg base (L2.CX P w) 1 f fd ["_law_cell", "_law_size"] (spT K mg 2 (mkF [true, true] 4 M_law_words)) from fn_ok (N := N_law_words) (fx := [true, true]) (m := M_law_words) Fn sc_law_words rfl (.inl (by kernel_rfl)) fun cdv A outer s H E hr => ⟨_,
   dss_cons (ds_set 2 sc_law_words.nd (de_str))
 (dss_cons (ds_set 2 sc_law_words.nd (de_bin op_add4 os_add (de_var 2) (de_str)))
 (dss_one (ds_ret (de_txtjoin (de_str) (de_lcm [("_law_k", 3)] rfl sc_law_words.nd (di_range (de_var 1) G.z_range) (blkOk_by (N := N_law_words) (sc := defScope st_law_words) (own := [("_law_k", 3)]) (by decide +kernel)) (fun s1 H1 C1 cl1 fp1 => pg_name sc_law_words.nd rfl (Or.inl rfl)) (sgc_name (i := 3)) (fun s1 H1 C1 cl1 fp1 => ⟨_, dts_nil⟩) (fun s1 H1 C1 cl1 fp1 => ⟨_, de_ix (ix_all (hu_of hr)) os_ix (de_var 2) (de_bin op_mod os_mod (de_bin op_add4 os_add (de_bin op_fdiv os_div (de_var 0) (de_bin op_add4 os_add (de_var 3) (de_int))) (de_bin op_mul2 os_mul (de_int) (de_var 3))) (de_int)) (fun _ _ => rfl)⟩))))))⟩)
theorem ok_law_value (G : G K w mg) (h_law_draw : Fk P w K mg base 1 "_law_draw" 3 F_law_draw) (h_law_words : Fk P w K mg base 1 "_law_words" 2 F_law_words) : Fk P w K mg base 2 "_law_value" 3 F_law_value := by
  exact fk_of (ps := ["_law_script", "_law_tape", "_law_kind"]) G.d_law_value rfl (fun _ _ _ _ _ _ us hl => match us, hl with | [_, _, _], _ => rfl) fun f fd Fn => (show FnOk P w K mg base (L2.CX P w) 2 f fd ["_law_script", "_law_tape", "_law_kind"] (spT K mg 3 (mkF [true, true, true] 5 M_law_value)) from fn_ok (N := N_law_value) (fx := [true, true, true]) (m := M_law_value) Fn sc_law_value rfl (.inl (by kernel_rfl)) fun cdv A outer s H E hr => ⟨_,
   dss_cons (ds_set 3 sc_law_value.nd (de_callK h_law_draw hr (takes_of rfl rfl rfl rfl) (da_ln 0 (de_var 0) (da_ln 1 (de_var 1) (da_ex (de_int) (da_nil))))))
 (dss_cons (ds_set 4 sc_law_value.nd (de_callK h_law_draw hr (takes_of rfl rfl rfl rfl) (da_ln 0 (de_var 0) (da_ln 1 (de_var 1) (da_ex (de_int) (da_nil))))))
 (dss_cons (ds_if (dt_cmp (op_eqA hr.units) os_eq (de_var 2) (de_str) (nomark _)) (dss_cons (ds_if (dt_cmp (op_eqA hr.units) os_eq (de_var 4) (de_int) (nomark _)) (dss_one (ds_ret (de_callK h_law_words hr (takes_of rfl rfl rfl rfl) (da_ln 3 (de_var 3) (da_ex (de_bin op_add4 os_add (de_int) (de_bin op_mod os_mod (de_var 3) (de_int))) (da_nil)))))) (dss_nil))
 (dss_one (ds_ret (de_callK h_law_words hr (takes_of rfl rfl rfl rfl) (da_ln 3 (de_var 3) (da_ex (de_bin op_mod os_mod (de_bin op_fdiv os_div (de_var 3) (de_int)) (de_int)) (da_nil))))))) (dss_nil))
 (dss_cons (ds_if (dt_cmp (op_eqA hr.units) os_eq (de_var 4) (de_int) (nomark _)) (dss_one (ds_ret (de_bin op_sub os_sub (de_int) (de_bin op_mod os_mod (de_var 3) (de_int))))) (dss_nil))
 (dss_cons (ds_if (dt_cmp op_lt os_cmp (de_var 4) (de_int) (nomark _)) (dss_one (ds_ret (de_bin op_mod os_mod (de_var 3) (de_int)))) (dss_nil))
 (dss_one (ds_retV 3 (de_var 3)))))))⟩)
theorem ok_law_program (G : G K w mg) (h_law_words : Fk P w K mg base 1 "_law_words" 2 F_law_words) (h_law_draw : Fk P w K mg base 1 "_law_draw" 3 F_law_draw) : Fk P w K mg base 2 "_law_program" 4 F_law_program := by
  exact fk_of (ps := ["_law_script", "_law_tape", "_law_some", "_law_leaves"]) G.d_law_program rfl (fun _ _ _ _ _ _ us hl => match us, hl with | [_, _, _, _], _ => rfl) fun f fd Fn => (show FnOk P w K mg base (L2.CX P w) 2 f fd ["_law_script", "_law_tape", "_law_some", "_law_leaves"] (spT K mg 4 (mkF [true, true, true, true] 11 M_law_program)) from fn_ok (N := N_law_program) (fx := [true, true, true, true]) (m := M_law_program) Fn sc_law_program rfl (.inl (by kernel_rfl)) fun cdv A outer s H E hr => ⟨_,
   dss_cons (ds_set 4 sc_law_program.nd (de_callK h_law_words hr (takes_of rfl rfl rfl rfl) (da_ex (de_callK h_law_draw hr (takes_of rfl rfl rfl rfl) (da_ln 0 (de_var 0) (da_ln 1 (de_var 1) (da_ex (de_int) (da_nil))))) (da_ex (de_ix (ix_all (hu_of hr)) os_ix (de_lst (da_ex (de_int) (da_ex (de_int) (da_ex (de_int) (da_nil))))) (de_callK h_law_draw hr (takes_of rfl rfl rfl rfl) (da_ln 0 (de_var 0) (da_ln 1 (de_var 1) (da_ex (de_int) (da_nil))))) (fun _ _ => rfl)) (da_nil)))))
 (dss_cons (ds_setLcm 5 [("_law_letter", 10)] rfl sc_law_program.nd (di_seq (de_lst (da_ex (de_str) (da_ex (de_str) (da_ex (de_str) (da_nil)))))) (blkOk_by (N := N_law_program) (sc := defScope st_law_program) (own := [("_law_letter", 10)]) (by decide +kernel)) (fun s1 H1 C1 cl1 fp1 => pg_name sc_law_program.nd rfl (Or.inl rfl)) (sgc_name (i := 10)) (fun s1 H1 C1 cl1 fp1 => ⟨_, dts_nil⟩) (fun s1 H1 C1 cl1 fp1 => ⟨_, de_bin op_add4 os_add (de_bin op_add4 os_add (de_var 4) (de_var 10)) (de_var 4)⟩) (sw_true rfl rfl rfl (by decide +kernel)))
 (dss_cons (ds_set 6 sc_law_program.nd (de_tup (da_ex (de_str) (da_nil))))
 (dss_cons (ds_set 7 sc_law_program.nd (de_lst (da_ex (de_tup (da_ex (de_str) (da_ex (de_int) (da_nil)))) (da_ex (de_tup (da_ex (de_str) (da_ex (de_ix (ix_all (hu_of hr)) os_ix (de_var 5) (de_int) (fun _ _ => rfl)) (da_ex (de_ix (ix_all (hu_of hr)) os_ix (de_var 5) (de_int) (fun _ _ => rfl)) (da_nil))))) (da_nil)))))
 (dss_cons (ds_set 8 sc_law_program.nd (de_lst (da_ex (de_tup (da_ex (de_str) (da_ex (de_int) (da_nil)))) (da_ex (de_tup (da_ex (de_str) (da_nil))) (da_ex (de_tup (da_ex (de_str) (da_ex (de_ix (ix_all (hu_of hr)) os_ix (de_var 5) (de_int) (fun _ _ => rfl)) (da_nil)))) (da_ex (de_tup (da_ex (de_str) (da_ex (de_var 2) (da_nil)))) (da_ex (de_tup (da_ex (de_str) (da_nil))) (da_nil))))))))
 (dss_cons (ds_if (dt_truth (de_var 3)) (dss_one (ds_set 8 sc_law_program.nd (de_lst (da_ex (de_tup (da_ex (de_str) (da_ex (de_int) (da_nil)))) (da_ex (de_tup (da_ex (de_str) (da_ex (de_int) (da_nil)))) (da_ex (de_tup (da_ex (de_str) (da_nil))) (da_ex (de_tup (da_ex (de_str) (da_ex (de_ix (ix_all (hu_of hr)) os_ix (de_var 5) (de_int) (fun _ _ => rfl)) (da_nil)))) (da_ex (de_tup (da_ex (de_str) (da_nil))) (da_nil))))))))) (dss_nil))
 (dss_cons (ds_set 9 sc_law_program.nd (de_dict0))
 (dss_cons (ds_put 9 (hu_of hr) (de_var 9) (de_ix (ix_all (hu_of hr)) os_ix (de_var 5) (de_int) (fun _ _ => rfl)) (de_tup (da_ex (de_var 6) (da_ex (de_var 6) (da_ex (de_lst (da_nil)) (da_nil))))))
 (dss_cons (ds_put 9 (hu_of hr) (de_var 9) (de_ix (ix_all (hu_of hr)) os_ix (de_var 5) (de_int) (fun _ _ => rfl)) (de_tup (da_ex (de_var 6) (da_ex (de_var 6) (da_ex (de_var 7) (da_nil))))))
 (dss_cons (ds_put 9 (hu_of hr) (de_var 9) (de_ix (ix_all (hu_of hr)) os_ix (de_var 5) (de_int) (fun _ _ => rfl)) (de_tup (da_ex (de_var 6) (da_ex (de_var 6) (da_ex (de_var 8) (da_nil))))))
 (dss_one (ds_ret (de_tup (da_ex (de_var 9) (da_ex (de_var 5) (da_nil)))))))))))))))⟩)
theorem ok_names_in (G : G K w mg)  : Fk P w K mg base 1 "names_in" 1 F_names_in := by
  exact fk_of (ps := ["row"]) G.d_names_in rfl (fun _ _ _ _ _ _ us hl => match us, hl with | [_], _ => rfl) fun f fd Fn => (show FnOk P w K mg base (L2.CX P w) 1 f fd ["row"] (spT K mg 1 (mkF [true] 1 M_names_in)) from fn_ok (N := N_names_in) (fx := [true]) (m := M_names_in) Fn sc_names_in rfl (.inl (by kernel_rfl)) fun cdv A outer s H E hr => ⟨_,
   dss_cons (ds_if (dt_cmp (op_inA (hu_of hr)) os_in (de_ix (ix_all (hu_of hr)) os_ix (de_var 0) (de_int) (fun _ _ => rfl)) (de_tup (da_ex (de_str) (da_ex (de_str) (da_nil)))) (by rfl)) (dss_one (ds_ret (de_sl (de_var 0) (do_some (de_int)) do_none))) (dss_nil))
 (dss_one (ds_ret (de_tup (da_nil))))⟩)
theorem ok_named_by (G : G K w mg) (h_names_in : Fk P w K mg base 1 "names_in" 1 F_names_in) : Fk P w K mg base 2 "named_by" 2 F_named_by := by
  exact fk_of (ps := ["program", "name"]) G.d_named_by rfl (fun _ _ _ _ _ _ us hl => match us, hl with | [_, _], _ => rfl) fun f fd Fn => (show FnOk P w K mg base (L2.CX P w) 2 f fd ["program", "name"] (spT K mg 2 (mkF [true, true] 5 M_named_by)) from fn_ok (N := N_named_by) (fx := [true, true]) (m := M_named_by) Fn sc_named_by rfl (.inl (by kernel_rfl)) fun cdv A outer s H E hr => ⟨_,
   dss_cons (ds_set 2 sc_named_by.nd (de_dict0))
 (dss_cons (ds_if (dt_cmp (op_inA (hu_of hr)) os_in (de_var 1) (de_var 0) (by rfl)) (dss_one (ds_for (passes_of rfl) rfl (di_seq (de_ix (ix_all (hu_of hr)) os_ix (de_ix (ix_all (hu_of hr)) os_ix (de_var 0) (de_var 1) (fun _ _ => rfl)) (de_int) (fun _ _ => rfl))) (dg_name 3 sc_named_by.nd) (dss_one (ds_for (passes_of rfl) rfl (di_seq (de_callK h_names_in hr (takes_of rfl rfl rfl rfl) (da_nm 3 (de_var 3) (da_nil)))) (dg_name 4 sc_named_by.nd) (dss_one (ds_put 2 (hu_of hr) (de_var 2) (de_var 4) (de_bl))))))) (dss_nil))
 (dss_one (ds_ret (de_t1 (call_listA rfl) cs_list (de_var 2) G.z_list bt_list))))⟩)
theorem ok_reach (G : G K w mg) (h_named_by : Fk P w K mg base 2 "named_by" 2 F_named_by) : Fk P w K mg base 3 "reach" 2 F_reach := by
  exact fk_of (ps := ["program", "name"]) G.d_reach rfl (fun _ _ _ _ _ _ us hl => match us, hl with | [_, _], _ => rfl) fun f fd Fn => (show FnOk P w K mg base (L2.CX P w) 3 f fd ["program", "name"] (spT K mg 2 (mkF [true, true] 6 M_reach)) from fn_ok (N := N_reach) (fx := [true, true]) (m := M_reach) Fn sc_reach rfl (.inl (by kernel_rfl)) fun cdv A outer s H E hr => ⟨_,
   dss_cons (ds_set 2 sc_reach.nd (de_dictV (D.bl true) (de_var 1) pe_bl (by decide)))
 (dss_cons (ds_set 3 sc_reach.nd (de_lst (da_ex (de_var 1) (da_nil))))
 (dss_cons (ds_while whileMost (passes_of rfl) (dt_truth (de_var 3)) (dss_cons (ds_set 4 sc_reach.nd (de_pop 3 (de_var 3)))
 (dss_one (ds_for (passes_of rfl) rfl (di_seq (de_callK h_named_by hr (takes_of rfl rfl rfl rfl) (da_nm 0 (de_var 0) (da_nm 4 (de_var 4) (da_nil))))) (dg_name 5 sc_reach.nd) (dss_one (ds_if (dt_cmp (op_notInA (hu_of hr)) os_in (de_var 5) (de_var 2) (by rfl)) (dss_cons (ds_put 2 (hu_of hr) (de_var 2) (de_var 5) (de_bl))
 (dss_one (ds_expr (de_app 3 (de_var 3) (de_var 5))))) (dss_nil)))))))
 (dss_one (ds_ret (de_t1 (call_listA rfl) cs_list (de_var 2) G.z_list bt_list)))))⟩)
theorem ok_block_of (G : G K w mg)  : Fk P w K mg base 1 "block_of" 2 F_block_of := by
  exact fk_of (ps := ["program", "name"]) G.d_block_of rfl (fun _ _ _ _ _ _ us hl => match us, hl with | [_, _], _ => rfl) fun f fd Fn => (show FnOk P w K mg base (L2.CX P w) 1 f fd ["program", "name"] (spT K mg 2 (mkF [true, true] 2 M_block_of)) from fn_ok (N := N_block_of) (fx := [true, true]) (m := M_block_of) Fn sc_block_of rfl (.inl (by kernel_rfl)) fun cdv A outer s H E hr => ⟨_,
   dss_cons (ds_if (dt_cmp (op_notInA (hu_of hr)) os_in (de_var 1) (de_var 0) (by rfl)) (dss_one (ds_raiseT rfl (takes_of rfl rfl rfl rfl) G.x_NoBlock (de_join (.cons (de_str) (.cons (de_fmt (de_var 1)) (.nil)))))) (dss_nil))
 (dss_one (ds_ret (de_ix (ix_all (hu_of hr)) os_ix (de_var 0) (de_var 1) (fun _ _ => rfl))))⟩)
theorem ok_lead_call (G : G K w mg) (h_block_of : Fk P w K mg base 1 "block_of" 2 F_block_of) : Fk P w K mg base 2 "lead_call" 3 F_lead_call := by
  exact fk_of (ps := ["program", "kinds", "name"]) G.d_lead_call rfl (fun _ _ _ _ _ _ us hl => match us, hl with | [_, _, _], _ => rfl) fun f fd Fn => (show FnOk P w K mg base (L2.CX P w) 2 f fd ["program", "kinds", "name"] (spT K mg 3 (mkF [true, true, true] 6 M_lead_call)) from fn_ok (N := N_lead_call) (fx := [true, true, true]) (m := M_lead_call) Fn sc_lead_call rfl (.inl (by kernel_rfl)) fun cdv A outer s H E hr => ⟨_,
   dss_cons (ds_set 3 sc_lead_call.nd (de_callK h_block_of hr (takes_of rfl rfl rfl rfl) (da_nm 0 (de_var 0) (da_nm 2 (de_var 2) (da_nil)))))
 (dss_cons (ds_set 4 sc_lead_call.nd (de_t1 (call_listA rfl) cs_list (de_ix (ix_all (hu_of hr)) os_ix (de_var 3) (de_int) (fun _ _ => rfl)) G.z_list bt_list))
 (dss_cons (ds_set 5 sc_lead_call.nd (de_bin op_sub os_sub (de_b1 call_lenA cs_len (de_var 1) G.z_len bt_len) (de_b1 call_lenA cs_len (de_var 4) G.z_len bt_len)))
 (dss_cons (ds_if (dt_cmp op_lt os_cmp (de_var 5) (de_int) (nomark _)) (dss_one (ds_raiseT rfl (takes_of rfl rfl rfl rfl) G.x_Empty (de_join (.cons (de_fmt (de_var 2)) (.cons (de_str) (.cons (de_fmt (de_b1 call_lenA cs_len (de_var 4) G.z_len bt_len)) (.cons (de_str) (.cons (de_fmt (de_b1 call_lenA cs_len (de_var 1) G.z_len bt_len)) (.nil))))))))) (dss_nil))
 (dss_cons (ds_if (dt_cmp (op_neA hr.units) os_ne (de_sl (de_var 1) (do_some (de_var 5)) do_none) (de_var 4) (nomark _)) (dss_one (ds_raiseT rfl (takes_of rfl rfl rfl rfl) G.x_WrongKind (de_join (.cons (de_fmt (de_var 2)) (.cons (de_str) (.nil)))))) (dss_nil))
 (dss_one (ds_putSl 1 (de_var 1) (de_var 5) (de_t1 (call_listA rfl) cs_list (de_ix (ix_all (hu_of hr)) os_ix (de_var 3) (de_int) (fun _ _ => rfl)) G.z_list bt_list)))))))⟩)
theorem ok_wanted (G : G K w mg)  : Fk P w K mg base 1 "wanted" 1 F_wanted := by
  obtain ⟨dt_WANTED, t_WANTED⟩ := G.t_WANTED
  exact fk_of (ps := ["row"]) G.d_wanted rfl (fun _ _ _ _ _ _ us hl => match us, hl with | [_], _ => rfl) fun f fd Fn => (show FnOk P w K mg base (L2.CX P w) 1 f fd ["row"] (spT K mg 1 (mkF [true] 2 M_wanted)) from fn_ok (N := N_wanted) (fx := [true]) (m := M_wanted) Fn sc_wanted rfl (.inl (by kernel_rfl)) fun cdv A outer s H E hr => ⟨_,
   dss_cons (ds_set 1 sc_wanted.nd (de_ix (ix_all (hu_of hr)) os_ix (de_var 0) (de_int) (fun _ _ => rfl)))
 (dss_cons (ds_if (dt_cmp (op_eqA hr.units) os_eq (de_var 1) (de_str) (nomark _)) (dss_one (ds_ret (de_bin op_add4 os_add (de_ix (ix_all (hu_of hr)) os_ix (de_var 0) (de_int) (fun _ _ => rfl)) (de_int)))) (dss_nil))
 (dss_one (ds_ret (de_kget t_WANTED (de_var 1) (fun _ _ => rfl)))))⟩)
theorem ok_check (G : G K w mg) (h_wanted : Fk P w K mg base 1 "wanted" 1 F_wanted) : Fk P w K mg base 2 "check" 2 F_check := by
  obtain ⟨dt_TOLD, t_TOLD⟩ := G.t_TOLD
  exact fk_of (ps := ["row", "kinds"]) G.d_check rfl (fun _ _ _ _ _ _ us hl => match us, hl with | [_, _], _ => rfl) fun f fd Fn => (show FnOk P w K mg base (L2.CX P w) 2 f fd ["row", "kinds"] (spT K mg 2 (mkF [true, true] 4 M_check)) from fn_ok (N := N_check) (fx := [true, true]) (m := M_check) Fn sc_check rfl (.inl (by kernel_rfl)) fun cdv A outer s H E hr => ⟨_,
   dss_cons (ds_set 2 sc_check.nd (de_ix (ix_all (hu_of hr)) os_ix (de_var 0) (de_int) (fun _ _ => rfl)))
 (dss_cons (ds_if (dt_cmp op_lt os_cmp (de_b1 call_lenA cs_len (de_var 1) G.z_len bt_len) (de_callK h_wanted hr (takes_of rfl rfl rfl rfl) (da_nm 0 (de_var 0) (da_nil))) (nomark _)) (dss_one (ds_raiseT rfl (takes_of rfl rfl rfl rfl) G.x_Empty (de_join (.cons (de_fmt (de_var 2)) (.cons (de_str) (.cons (de_fmt (de_callK h_wanted hr (takes_of rfl rfl rfl rfl) (da_nm 0 (de_var 0) (da_nil)))) (.cons (de_str) (.cons (de_fmt (de_b1 call_lenA cs_len (de_var 1) G.z_len bt_len)) (.nil))))))))) (dss_nil))
 (dss_cons (ds_if (dt_knotin t_TOLD (de_var 2)) (dss_one (ds_retN)) (dss_nil))
 (dss_one (ds_for (passes_of rfl) rfl (di_seq (de_var 1)) (dg_name 3 sc_check.nd) (dss_one (ds_if (dt_cmp (op_neA hr.units) os_ne (de_var 3) (de_kget t_TOLD (de_var 2) (fun _ _ => rfl)) (nomark _)) (dss_one (ds_raiseT rfl (takes_of rfl rfl rfl rfl) G.x_WrongKind (de_join (.cons (de_fmt (de_var 2)) (.cons (de_str) (.cons (de_fmt (de_kget t_TOLD (de_var 2) (fun _ _ => rfl))) (.cons (de_str) (.nil)))))))) (dss_nil)))))))⟩)
theorem ok_lead_if (G : G K w mg) (h_check : Fk P w K mg base 2 "check" 2 F_check) (h_block_of : Fk P w K mg base 1 "block_of" 2 F_block_of) (h_lead_call : Fk P w K mg base 2 "lead_call" 3 F_lead_call) : Fk P w K mg base 3 "lead_if" 3 F_lead_if := by
  exact fk_of (ps := ["program", "kinds", "row"]) G.d_lead_if rfl (fun _ _ _ _ _ _ us hl => match us, hl with | [_, _, _], _ => rfl) fun f fd Fn => (show FnOk P w K mg base (L2.CX P w) 3 f fd ["program", "kinds", "row"] (spT K mg 3 (mkF [true, true, true] 5 M_lead_if)) from fn_ok (N := N_lead_if) (fx := [true, true, true]) (m := M_lead_if) Fn sc_lead_if rfl (.inl (by kernel_rfl)) fun cdv A outer s H E hr => ⟨_,
   dss_cons (ds_expr (de_callK h_check hr (takes_of rfl rfl rfl rfl) (da_ln 2 (de_var 2) (da_ex (de_sl (de_var 1) (do_some (de_neg (de_int))) do_none) (da_nil)))))
 (dss_cons (ds_set 3 sc_lead_if.nd (de_callK h_block_of hr (takes_of rfl rfl rfl rfl) (da_ln 0 (de_var 0) (da_ex (de_ix (ix_all (hu_of hr)) os_ix (de_var 2) (de_int) (fun _ _ => rfl)) (da_nil)))))
 (dss_cons (ds_set 4 sc_lead_if.nd (de_callK h_block_of hr (takes_of rfl rfl rfl rfl) (da_ln 0 (de_var 0) (da_ex (de_ix (ix_all (hu_of hr)) os_ix (de_var 2) (de_int) (fun _ _ => rfl)) (da_nil)))))
 (dss_cons (ds_if ((dw_or (dt_cmp (op_neA hr.units) os_ne (de_ix (ix_all (hu_of hr)) os_ix (de_var 3) (de_int) (fun _ _ => rfl)) (de_ix (ix_all (hu_of hr)) os_ix (de_var 4) (de_int) (fun _ _ => rfl)) (nomark _)) (dw_or1 (dt_cmp (op_neA hr.units) os_ne (de_ix (ix_all (hu_of hr)) os_ix (de_var 3) (de_int) (fun _ _ => rfl)) (de_ix (ix_all (hu_of hr)) os_ix (de_var 4) (de_int) (fun _ _ => rfl)) (nomark _)))).dt) (dss_one (ds_raiseT rfl (takes_of rfl rfl rfl rfl) G.x_Apart (de_join (.cons (de_fmt (de_ix (ix_all (hu_of hr)) os_ix (de_var 2) (de_int) (fun _ _ => rfl))) (.cons (de_str) (.cons (de_fmt (de_ix (ix_all (hu_of hr)) os_ix (de_var 2) (de_int) (fun _ _ => rfl))) (.cons (de_str) (.nil)))))))) (dss_nil))
 (dss_cons (ds_expr (de_pop 1 (de_var 1)))
 (dss_one (ds_expr (de_callK h_lead_call hr (takes_of rfl rfl rfl rfl) (da_ln 0 (de_var 0) (da_ln 1 (de_var 1) (da_ex (de_ix (ix_all (hu_of hr)) os_ix (de_var 2) (de_int) (fun _ _ => rfl)) (da_nil)))))))))))⟩)
theorem ok_added (G : G K w mg)  : Fk P w K mg base 1 "added" 1 F_added := by
  exact fk_of (ps := ["taken"]) G.d_added rfl (fun _ _ _ _ _ _ us hl => match us, hl with | [_], _ => rfl) fun f fd Fn => (show FnOk P w K mg base (L2.CX P w) 1 f fd ["taken"] (spT K mg 1 (mkF [true] 3 M_added)) from fn_ok (N := N_added) (fx := [true]) (m := M_added) Fn sc_added rfl (.inl (by kernel_rfl)) fun cdv A outer s H E hr => ⟨_,
   dss_cons (ds_asgG (de_var 0) (dg_seq [1, 2] rfl (pgs_cons (pg_name sc_added.nd rfl (by first | exact Or.inl rfl | exact Or.inr rfl)) (pgs_cons (pg_name sc_added.nd rfl (by first | exact Or.inl rfl | exact Or.inr rfl)) (pgs_nil)))))
 (dss_one (ds_ret (de_lst (da_ex (de_bin op_mod os_mod (de_bin op_add4 os_add (de_var 1) (de_var 2)) (de_globI G.c_MODULUS.choose_spec)) (da_nil)))))⟩)
theorem ok_multiplied (G : G K w mg)  : Fk P w K mg base 1 "multiplied" 1 F_multiplied := by
  exact fk_of (ps := ["taken"]) G.d_multiplied rfl (fun _ _ _ _ _ _ us hl => match us, hl with | [_], _ => rfl) fun f fd Fn => (show FnOk P w K mg base (L2.CX P w) 1 f fd ["taken"] (spT K mg 1 (mkF [true] 3 M_multiplied)) from fn_ok (N := N_multiplied) (fx := [true]) (m := M_multiplied) Fn sc_multiplied rfl (.inl (by kernel_rfl)) fun cdv A outer s H E hr => ⟨_,
   dss_cons (ds_asgG (de_var 0) (dg_seq [1, 2] rfl (pgs_cons (pg_name sc_multiplied.nd rfl (by first | exact Or.inl rfl | exact Or.inr rfl)) (pgs_cons (pg_name sc_multiplied.nd rfl (by first | exact Or.inl rfl | exact Or.inr rfl)) (pgs_nil)))))
 (dss_one (ds_ret (de_lst (da_ex (de_bin op_mod os_mod (de_bin op_mul2 os_mul (de_var 1) (de_var 2)) (de_globI G.c_MODULUS.choose_spec)) (da_nil)))))⟩)
theorem ok_compared (G : G K w mg)  : Fk P w K mg base 1 "compared" 1 F_compared := by
  exact fk_of (ps := ["taken"]) G.d_compared rfl (fun _ _ _ _ _ _ us hl => match us, hl with | [_], _ => rfl) fun f fd Fn => (show FnOk P w K mg base (L2.CX P w) 1 f fd ["taken"] (spT K mg 1 (mkF [true] 3 M_compared)) from fn_ok (N := N_compared) (fx := [true]) (m := M_compared) Fn sc_compared rfl (.inl (by kernel_rfl)) fun cdv A outer s H E hr => ⟨_,
   dss_cons (ds_asgG (de_var 0) (dg_seq [1, 2] rfl (pgs_cons (pg_name sc_compared.nd rfl (by first | exact Or.inl rfl | exact Or.inr rfl)) (pgs_cons (pg_name sc_compared.nd rfl (by first | exact Or.inl rfl | exact Or.inr rfl)) (pgs_nil)))))
 (dss_one (ds_ret (de_lst (da_ex (de_if (dt_cmp op_lt os_cmp (de_var 1) (de_var 2) (nomark _)) (de_int) (de_int)) (da_nil)))))⟩)
theorem ok_joined (G : G K w mg)  : Fk P w K mg base 1 "joined" 1 F_joined := by
  exact fk_of (ps := ["taken"]) G.d_joined rfl (fun _ _ _ _ _ _ us hl => match us, hl with | [_], _ => rfl) fun f fd Fn => (show FnOk P w K mg base (L2.CX P w) 1 f fd ["taken"] (spT K mg 1 (mkF [true] 3 M_joined)) from fn_ok (N := N_joined) (fx := [true]) (m := M_joined) Fn sc_joined rfl (.inl (by kernel_rfl)) fun cdv A outer s H E hr => ⟨_,
   dss_cons (ds_asgG (de_var 0) (dg_seq [1, 2] rfl (pgs_cons (pg_name sc_joined.nd rfl (by first | exact Or.inl rfl | exact Or.inr rfl)) (pgs_cons (pg_name sc_joined.nd rfl (by first | exact Or.inl rfl | exact Or.inr rfl)) (pgs_nil)))))
 (dss_one (ds_ret (de_lst (da_ex (de_sl (de_bin op_add4 os_add (de_var 1) (de_var 2)) do_none (do_some (de_globI G.c_MOST_SIGNS.choose_spec))) (da_nil)))))⟩)
theorem ok_measured (G : G K w mg)  : Fk P w K mg base 1 "measured" 1 F_measured := by
  exact fk_of (ps := ["taken"]) G.d_measured rfl (fun _ _ _ _ _ _ us hl => match us, hl with | [_], _ => rfl) fun f fd Fn => (show FnOk P w K mg base (L2.CX P w) 1 f fd ["taken"] (spT K mg 1 (mkF [true] 1 M_measured)) from fn_ok (N := N_measured) (fx := [true]) (m := M_measured) Fn sc_measured rfl (.inl (by kernel_rfl)) fun cdv A outer s H E hr => ⟨_,
   dss_one (ds_ret (de_lst (da_ex (de_b1 call_lenA cs_len (de_ix (ix_all (hu_of hr)) os_ix (de_var 0) (de_int) (fun _ _ => rfl)) G.z_len bt_len) (da_nil))))⟩)
theorem ok_shown (G : G K w mg)  : Fk P w K mg base 1 "shown" 1 F_shown := by
  exact fk_of (ps := ["taken"]) G.d_shown rfl (fun _ _ _ _ _ _ us hl => match us, hl with | [_], _ => rfl) fun f fd Fn => (show FnOk P w K mg base (L2.CX P w) 1 f fd ["taken"] (spT K mg 1 (mkF [true] 1 M_shown)) from fn_ok (N := N_shown) (fx := [true]) (m := M_shown) Fn sc_shown rfl (.inl (by kernel_rfl)) fun cdv A outer s H E hr => ⟨_,
   dss_one (ds_ret (de_lst (da_ex (de_t1 call_str_int cs_str (de_ix (ix_all (hu_of hr)) os_ix (de_var 0) (de_int) (fun _ _ => rfl)) G.z_str bt_str) (da_nil))))⟩)
theorem ok_swapped (G : G K w mg)  : Fk P w K mg base 1 "swapped" 1 F_swapped := by
  exact fk_of (ps := ["taken"]) G.d_swapped rfl (fun _ _ _ _ _ _ us hl => match us, hl with | [_], _ => rfl) fun f fd Fn => (show FnOk P w K mg base (L2.CX P w) 1 f fd ["taken"] (spT K mg 1 (mkF [true] 3 M_swapped)) from fn_ok (N := N_swapped) (fx := [true]) (m := M_swapped) Fn sc_swapped rfl (.inl (by kernel_rfl)) fun cdv A outer s H E hr => ⟨_,
   dss_cons (ds_asgG (de_var 0) (dg_seq [1, 2] rfl (pgs_cons (pg_name sc_swapped.nd rfl (by first | exact Or.inl rfl | exact Or.inr rfl)) (pgs_cons (pg_name sc_swapped.nd rfl (by first | exact Or.inl rfl | exact Or.inr rfl)) (pgs_nil)))))
 (dss_one (ds_ret (de_lst (da_ex (de_var 2) (da_ex (de_var 1) (da_nil))))))⟩)
theorem ok_dropped (G : G K w mg)  : Fk P w K mg base 1 "dropped" 1 F_dropped := by
  exact fk_of (ps := ["taken"]) G.d_dropped rfl (fun _ _ _ _ _ _ us hl => match us, hl with | [_], _ => rfl) fun f fd Fn => (show FnOk P w K mg base (L2.CX P w) 1 f fd ["taken"] (spT K mg 1 (mkF [true] 1 M_dropped)) from fn_ok (N := N_dropped) (fx := [true]) (m := M_dropped) Fn sc_dropped rfl (.inl (by kernel_rfl)) fun cdv A outer s H E hr => ⟨_,
   dss_one (ds_ret (de_lst (da_nil)))⟩)
theorem ok_copied (G : G K w mg)  : Fk P w K mg base 1 "copied" 1 F_copied := by
  exact fk_of (ps := ["taken"]) G.d_copied rfl (fun _ _ _ _ _ _ us hl => match us, hl with | [_], _ => rfl) fun f fd Fn => (show FnOk P w K mg base (L2.CX P w) 1 f fd ["taken"] (spT K mg 1 (mkF [true] 1 M_copied)) from fn_ok (N := N_copied) (fx := [true]) (m := M_copied) Fn sc_copied rfl (.inl (by kernel_rfl)) fun cdv A outer s H E hr => ⟨_,
   dss_one (ds_ret (de_bin op_add4 os_add (de_var 0) (de_sl (de_var 0) do_none (do_some (de_int)))))⟩)
theorem ok_put_by (G : G K w mg) (h_added : Fk P w K mg base 1 "added" 1 F_added) (h_multiplied : Fk P w K mg base 1 "multiplied" 1 F_multiplied) (h_compared : Fk P w K mg base 1 "compared" 1 F_compared) (h_joined : Fk P w K mg base 1 "joined" 1 F_joined) (h_measured : Fk P w K mg base 1 "measured" 1 F_measured) (h_shown : Fk P w K mg base 1 "shown" 1 F_shown) (h_swapped : Fk P w K mg base 1 "swapped" 1 F_swapped) (h_dropped : Fk P w K mg base 1 "dropped" 1 F_dropped) (h_copied : Fk P w K mg base 1 "copied" 1 F_copied) : Fk P w K mg base 2 "put_by" 2 F_put_by := by
  obtain ⟨dt_PUT, t_PUT⟩ := G.t_PUT
  have KF_put : KFns P w K mg base 1 tbv_put_by_put := kfns_of h_added.up (kfns_of h_multiplied.up (kfns_of h_compared.up (kfns_of h_joined.up (kfns_of h_measured.up (kfns_of h_shown.up (kfns_of h_swapped.up (kfns_of h_dropped.up (kfns_of h_copied.up (kfns_nil)))))))))
  exact fk_of (ps := ["row", "taken"]) G.d_put_by rfl (fun _ _ _ _ _ _ us hl => match us, hl with | [_, _], _ => rfl) fun f fd Fn => (show FnOk P w K mg base (L2.CX P w) 2 f fd ["row", "taken"] (spT K mg 2 (mkF [true, true] 4 M_put_by)) from fn_ok (N := N_put_by) (fx := [true, true]) (m := M_put_by) Fn sc_put_by rfl (.inl (by kernel_rfl)) fun cdv A outer s H E hr => ⟨_,
   dss_cons (ds_set 2 sc_put_by.nd (de_ix (ix_all (hu_of hr)) os_ix (de_var 0) (de_int) (fun _ _ => rfl)))
 (dss_cons (ds_if (dt_cmp (op_inA (hu_of hr)) os_in (de_var 2) (de_tup (da_ex (de_str) (da_ex (de_str) (da_nil)))) (by rfl)) (dss_one (ds_ret (de_lst (da_ex (de_ix (ix_all (hu_of hr)) os_ix (de_var 0) (de_int) (fun _ _ => rfl)) (da_nil))))) (dss_nil))
 (dss_cons (ds_set 3 sc_put_by.nd (de_kget t_PUT (de_var 2) (fun _ _ => rfl)))
 (dss_one (ds_ret (de_callV 3 KF_put hr (takes_of rfl rfl rfl rfl) (da_nm 1 (de_var 1) (da_nil)))))))⟩)
theorem ok_kinds_put (G : G K w mg) (h_put_by : Fk P w K mg base 2 "put_by" 2 F_put_by) : Fk P w K mg base 3 "kinds_put" 2 F_kinds_put := by
  obtain ⟨dt_NEW_KIND, t_NEW_KIND⟩ := G.t_NEW_KIND
  exact fk_of (ps := ["row", "taken"]) G.d_kinds_put rfl (fun _ _ _ _ _ _ us hl => match us, hl with | [_, _], _ => rfl) fun f fd Fn => (show FnOk P w K mg base (L2.CX P w) 3 f fd ["row", "taken"] (spT K mg 2 (mkF [true, true] 3 M_kinds_put)) from fn_ok (N := N_kinds_put) (fx := [true, true]) (m := M_kinds_put) Fn sc_kinds_put rfl (.inl (by kernel_rfl)) fun cdv A outer s H E hr => ⟨_,
   dss_cons (ds_set 2 sc_kinds_put.nd (de_ix (ix_all (hu_of hr)) os_ix (de_var 0) (de_int) (fun _ _ => rfl)))
 (dss_cons (ds_if (dt_kin t_NEW_KIND (de_var 2)) (dss_one (ds_ret (de_lst (da_ex (de_kget t_NEW_KIND (de_var 2) (fun _ _ => rfl)) (da_nil))))) (dss_nil))
 (dss_one (ds_ret (de_callK h_put_by hr (takes_of rfl rfl rfl rfl) (da_nm 0 (de_var 0) (da_nm 1 (de_var 1) (da_nil)))))))⟩)
theorem ok_lead_plain (G : G K w mg) (h_wanted : Fk P w K mg base 1 "wanted" 1 F_wanted) (h_check : Fk P w K mg base 2 "check" 2 F_check) (h_kinds_put : Fk P w K mg base 3 "kinds_put" 2 F_kinds_put) : Fk P w K mg base 4 "lead_plain" 2 F_lead_plain := by
  exact fk_of (ps := ["kinds", "row"]) G.d_lead_plain rfl (fun _ _ _ _ _ _ us hl => match us, hl with | [_, _], _ => rfl) fun f fd Fn => (show FnOk P w K mg base (L2.CX P w) 4 f fd ["kinds", "row"] (spT K mg 2 (mkF [true, true] 4 M_lead_plain)) from fn_ok (N := N_lead_plain) (fx := [true, true]) (m := M_lead_plain) Fn sc_lead_plain rfl (.inl (by kernel_rfl)) fun cdv A outer s H E hr => ⟨_,
   dss_cons (ds_set 2 sc_lead_plain.nd (de_b2 (call_max2 rfl) cs_max (de_int) (de_bin op_sub os_sub (de_b1 call_lenA cs_len (de_var 0) G.z_len bt_len) (de_callK h_wanted hr (takes_of rfl rfl rfl rfl) (da_nm 1 (de_var 1) (da_nil)))) G.z_max bt_max))
 (dss_cons (ds_set 3 sc_lead_plain.nd (de_sl (de_var 0) (do_some (de_var 2)) do_none))
 (dss_cons (ds_expr (de_callK h_check hr (takes_of rfl rfl rfl rfl) (da_nm 1 (de_var 1) (da_nm 3 (de_var 3) (da_nil)))))
 (dss_one (ds_putSl 0 (de_var 0) (de_var 2) (de_callK h_kinds_put hr (takes_of rfl rfl rfl rfl) (da_nm 1 (de_var 1) (da_nm 3 (de_var 3) (da_nil))))))))⟩)
theorem ok_lead (G : G K w mg) (h_lead_call : Fk P w K mg base 2 "lead_call" 3 F_lead_call) (h_lead_if : Fk P w K mg base 3 "lead_if" 3 F_lead_if) (h_lead_plain : Fk P w K mg base 4 "lead_plain" 2 F_lead_plain) : Fk P w K mg base 5 "lead" 3 F_lead := by
  exact fk_of (ps := ["program", "kinds", "row"]) G.d_lead rfl (fun _ _ _ _ _ _ us hl => match us, hl with | [_, _, _], _ => rfl) fun f fd Fn => (show FnOk P w K mg base (L2.CX P w) 5 f fd ["program", "kinds", "row"] (spT K mg 3 (mkF [true, true, true] 4 M_lead)) from fn_ok (N := N_lead) (fx := [true, true, true]) (m := M_lead) Fn sc_lead rfl (.inl (by kernel_rfl)) fun cdv A outer s H E hr => ⟨_,
   dss_cons (ds_set 3 sc_lead.nd (de_ix (ix_all (hu_of hr)) os_ix (de_var 2) (de_int) (fun _ _ => rfl)))
 (dss_one (ds_if (dt_cmp (op_eqA hr.units) os_eq (de_var 3) (de_str) (nomark _)) (dss_one (ds_expr (de_callK h_lead_call hr (takes_of rfl rfl rfl rfl) (da_ln 0 (de_var 0) (da_ln 1 (de_var 1) (da_ex (de_ix (ix_all (hu_of hr)) os_ix (de_var 2) (de_int) (fun _ _ => rfl)) (da_nil))))))) (dss_one (ds_if (dt_cmp (op_eqA hr.units) os_eq (de_var 3) (de_str) (nomark _)) (dss_one (ds_expr (de_callK h_lead_if hr (takes_of rfl rfl rfl rfl) (da_nm 0 (de_var 0) (da_nm 1 (de_var 1) (da_nm 2 (de_var 2) (da_nil))))))) (dss_one (ds_expr (de_callK h_lead_plain hr (takes_of rfl rfl rfl rfl) (da_nm 1 (de_var 1) (da_nm 2 (de_var 2) (da_nil))))))))))⟩)
theorem ok_refusal (G : G K w mg) (h_lead : Fk P w K mg base 5 "lead" 3 F_lead) : Fk P w K mg base 6 "refusal" 3 F_refusal := by
  obtain ⟨ch_Empty, gh_Empty, eh_Empty⟩ := G.h_Empty.all
  obtain ⟨ch_WrongKind, gh_WrongKind, eh_WrongKind⟩ := G.h_WrongKind.all
  obtain ⟨ch_NoBlock, gh_NoBlock, eh_NoBlock⟩ := G.h_NoBlock.all
  obtain ⟨ch_Apart, gh_Apart, eh_Apart⟩ := G.h_Apart.all
  exact fk_of (ps := ["program", "kinds", "row"]) G.d_refusal rfl (fun _ _ _ _ _ _ us hl => match us, hl with | [_, _, _], _ => rfl) fun f fd Fn => (show FnOk P w K mg base (L2.CX P w) 6 f fd ["program", "kinds", "row"] (spT K mg 3 (mkF [true, true, true] 3 M_refusal)) from fn_ok (N := N_refusal) (fx := [true, true, true]) (m := M_refusal) Fn sc_refusal rfl (.inl (by kernel_rfl)) fun cdv A outer s H E hr => ⟨_,
   dss_cons (ds_tryM rfl rfl (takes_of rfl rfl rfl rfl) (fun W1 pn1 xe1 tk1 => ⟨_, dss_one (ds_expr (de_callK h_lead hr tk1 (da_nm 0 (de_var 0) (da_nm 1 (de_var 1) (da_nm 2 (de_var 2) (da_nil))))))⟩) (.cons ⟨rfl, by decide, .inl gh_Empty⟩ (hd_ok eh_Empty) (fun a1 oe1 cls1 d1 pn1 z1 v1 => dss_one (ds_ret (de_str))) (.cons ⟨rfl, by decide, .inl gh_WrongKind⟩ (hd_ok eh_WrongKind) (fun a1 oe1 cls1 d1 pn1 z1 v1 => dss_one (ds_ret (de_str))) (.cons ⟨rfl, by decide, .inl gh_NoBlock⟩ (hd_ok eh_NoBlock) (fun a1 oe1 cls1 d1 pn1 z1 v1 => dss_one (ds_ret (de_str))) (.cons ⟨rfl, by decide, .inl gh_Apart⟩ (hd_ok eh_Apart) (fun a1 oe1 cls1 d1 pn1 z1 v1 => dss_one (ds_ret (de_str))) (.nil))))))
 (dss_one (ds_ret (de_non)))⟩)
theorem ok_fault (G : G K w mg) (h_block_of : Fk P w K mg base 1 "block_of" 2 F_block_of) (h_refusal : Fk P w K mg base 6 "refusal" 3 F_refusal) : Fk P w K mg base 7 "fault" 2 F_fault := by
  exact fk_of (ps := ["program", "name"]) G.d_fault rfl (fun _ _ _ _ _ _ us hl => match us, hl with | [_, _], _ => rfl) fun f fd Fn => (show FnOk P w K mg base (L2.CX P w) 7 f fd ["program", "name"] (spT K mg 2 (mkF [true, true] 9 M_fault)) from fn_ok (N := N_fault) (fx := [true, true]) (m := M_fault) Fn sc_fault rfl (.inl (by kernel_rfl)) fun cdv A outer s H E hr => ⟨_,
   dss_cons (ds_asgG (de_callK h_block_of hr (takes_of rfl rfl rfl rfl) (da_nm 0 (de_var 0) (da_nm 1 (de_var 1) (da_nil)))) (dg_seq [2, 3, 4] rfl (pgs_cons (pg_name sc_fault.nd rfl (by first | exact Or.inl rfl | exact Or.inr rfl)) (pgs_cons (pg_name sc_fault.nd rfl (by first | exact Or.inl rfl | exact Or.inr rfl)) (pgs_cons (pg_name sc_fault.nd rfl (by first | exact Or.inl rfl | exact Or.inr rfl)) (pgs_nil))))))
 (dss_cons (ds_set 5 sc_fault.nd (de_t1 (call_listA rfl) cs_list (de_var 2) G.z_list bt_list))
 (dss_cons (ds_for (passes_of rfl) rfl (di_enum (de_var 4) G.z_enumerate) (dg_seq [6, 7] rfl (pgs_cons (pg_name sc_fault.nd rfl (by first | exact Or.inl rfl | exact Or.inr rfl)) (pgs_cons (pg_name sc_fault.nd rfl (by first | exact Or.inl rfl | exact Or.inr rfl)) (pgs_nil)))) (dss_cons (ds_set 8 sc_fault.nd (de_callK h_refusal hr (takes_of rfl rfl rfl rfl) (da_nm 0 (de_var 0) (da_nm 5 (de_var 5) (da_nm 7 (de_var 7) (da_nil))))))
 (dss_one (ds_if (dt_cmp op_notN1 os_notN (de_var 8) (de_non) (by rfl)) (dss_one (ds_ret (de_tup (da_ex (de_var 6) (da_ex (de_var 8) (da_nil)))))) (dss_nil)))))
 (dss_cons (ds_if (dt_cmp (op_neA hr.units) os_ne (de_t1 call_tupleA cs_tuple (de_var 5) G.z_tuple bt_tuple) (de_var 3) (nomark _)) (dss_one (ds_ret (de_tup (da_ex (de_b1 call_lenA cs_len (de_var 4) G.z_len bt_len) (da_ex (de_str) (da_nil)))))) (dss_nil))
 (dss_one (ds_ret (de_non))))))⟩)
theorem ok_let_by (G : G K w mg) (h_reach : Fk P w K mg base 3 "reach" 2 F_reach) (h_fault : Fk P w K mg base 7 "fault" 2 F_fault) : Fk P w K mg base 8 "let_by" 2 F_let_by := by
  exact fk_of (ps := ["program", "name"]) G.d_let_by rfl (fun _ _ _ _ _ _ us hl => match us, hl with | [_, _], _ => rfl) fun f fd Fn => (show FnOk P w K mg base (L2.CX P w) 8 f fd ["program", "name"] (spT K mg 2 (mkF [true, true] 3 M_let_by)) from fn_ok (N := N_let_by) (fx := [true, true]) (m := M_let_by) Fn sc_let_by rfl (.inl (by kernel_rfl)) fun cdv A outer s H E hr => ⟨_,
   dss_cons (ds_for (passes_of rfl) rfl (di_seq (de_callK h_reach hr (takes_of rfl rfl rfl rfl) (da_nm 0 (de_var 0) (da_nm 1 (de_var 1) (da_nil))))) (dg_name 2 sc_let_by.nd) (dss_one (ds_if ((dw_or (dt_cmp (op_notInA (hu_of hr)) os_in (de_var 2) (de_var 0) (by rfl)) (dw_or1 (dt_cmp op_notN1 os_notN (de_callK h_fault hr (takes_of rfl rfl rfl rfl) (da_nm 0 (de_var 0) (da_nm 2 (de_var 2) (da_nil)))) (de_non) (by rfl)))).dt) (dss_one (ds_ret (de_bl))) (dss_nil))))
 (dss_one (ds_ret (de_bl)))⟩)
theorem ok_ready_ones (G : G K w mg)  : Fk P w K mg base 1 "ready_ones" 2 F_ready_ones := by
  exact fk_of (ps := ["named", "heights"]) G.d_ready_ones rfl (fun _ _ _ _ _ _ us hl => match us, hl with | [_, _], _ => rfl) fun f fd Fn => (show FnOk P w K mg base (L2.CX P w) 1 f fd ["named", "heights"] (spT K mg 2 (mkF [true, true] 5 M_ready_ones)) from fn_ok (N := N_ready_ones) (fx := [true, true]) (m := M_ready_ones) Fn sc_ready_ones rfl (.inl (by kernel_rfl)) fun cdv A outer s H E hr => ⟨_,
   dss_cons (ds_set 2 sc_ready_ones.nd (de_lst (da_nil)))
 (dss_cons (ds_lk 0 (ds_for (passes_of rfl) rfl (di_keys 0 (de_var 0)) (dg_name 3 sc_ready_ones.nd) (dss_one (ds_if ((dw_and (dt_cmp (op_notInA (hu_of hr)) os_in (de_var 3) (de_var 1) (by rfl)) (dw_and1 (dt_truth (de_b1 (cr_all rfl) cs_all (de_lcm [("other", 4)] rfl sc_ready_ones.nd (di_seq (de_ix (ix_all (hu_of hr)) os_ix (de_var 0) (de_var 3) (fun _ _ => rfl))) (blkOk_by (N := N_ready_ones) (sc := defScope st_ready_ones) (own := [("other", 4)]) (by decide +kernel)) (fun s1 H1 C1 cl1 fp1 => pg_name sc_ready_ones.nd rfl (Or.inl rfl)) (sgc_name (i := 4)) (fun s1 H1 C1 cl1 fp1 => ⟨_, dts_nil⟩) (fun s1 H1 C1 cl1 fp1 => ⟨_, de_cmp (op_inA (hu_of hr)) os_in (de_var 4) (de_var 1) (by rfl)⟩)) G.z_all bt_all)))).dt) (dss_one (ds_expr (de_app 2 (de_var 2) (de_var 3)))) (dss_nil)))))
 (dss_one (ds_retV 2 (de_var 2))))⟩)
theorem ok_height_within (G : G K w mg) (h_names_in : Fk P w K mg base 1 "names_in" 1 F_names_in) (h_block_of : Fk P w K mg base 1 "block_of" 2 F_block_of) : Fk P w K mg base 2 "height_within" 4 F_height_within := by
  exact fk_of (ps := ["program", "many", "row", "heights"]) G.d_height_within rfl (fun _ _ _ _ _ _ us hl => match us, hl with | [_, _, _, _], _ => rfl) fun f fd Fn => (show FnOk P w K mg base (L2.CX P w) 2 f fd ["program", "many", "row", "heights"] (spT K mg 4 (mkF [true, true, true, true] 8 M_height_within)) from fn_ok (N := N_height_within) (fx := [true, true, true, true]) (m := M_height_within) Fn sc_height_within rfl (.inl (by kernel_rfl)) fun cdv A outer s H E hr => ⟨_,
   dss_cons (ds_set 4 sc_height_within.nd (de_callK h_names_in hr (takes_of rfl rfl rfl rfl) (da_nm 2 (de_var 2) (da_nil))))
 (dss_cons (ds_if (dt_not (dt_truth (de_var 4))) (dss_one (ds_ret (de_int))) (dss_nil))
 (dss_cons (ds_set 5 sc_height_within.nd (de_if (dt_cmp (op_eqA hr.units) os_eq (de_ix (ix_all (hu_of hr)) os_ix (de_var 2) (de_int) (fun _ _ => rfl)) (de_str) (nomark _)) (de_int) (de_int)))
 (dss_cons (ds_set 6 sc_height_within.nd (de_bin op_sub os_sub (de_bin op_sub os_sub (de_var 1) (de_var 5)) (de_b1 call_lenA cs_len (de_ix (ix_all (hu_of hr)) os_ix (de_callK h_block_of hr (takes_of rfl rfl rfl rfl) (da_ln 0 (de_var 0) (da_ex (de_ix (ix_all (hu_of hr)) os_ix (de_var 4) (de_int) (fun _ _ => rfl)) (da_nil)))) (de_int) (fun _ _ => rfl)) G.z_len bt_len)))
 (dss_one (ds_ret (de_bin op_add4 os_add (de_var 6) (de_b1 (cr_max rfl) cs_maxL (de_lcm [("name", 7)] rfl sc_height_within.nd (di_seq (de_var 4)) (blkOk_by (N := N_height_within) (sc := defScope st_height_within) (own := [("name", 7)]) (by decide +kernel)) (fun s1 H1 C1 cl1 fp1 => pg_name sc_height_within.nd rfl (Or.inl rfl)) (sgc_name (i := 7)) (fun s1 H1 C1 cl1 fp1 => ⟨_, dts_nil⟩) (fun s1 H1 C1 cl1 fp1 => ⟨_, de_ix (ix_all (hu_of hr)) os_ix (de_var 3) (de_var 7) (fun _ _ => rfl)⟩)) G.z_max bt_max)))))))⟩)
theorem ok_height_by (G : G K w mg) (h_block_of : Fk P w K mg base 1 "block_of" 2 F_block_of) (h_height_within : Fk P w K mg base 2 "height_within" 4 F_height_within) (h_lead : Fk P w K mg base 5 "lead" 3 F_lead) : Fk P w K mg base 6 "height_by" 3 F_height_by := by
  exact fk_of (ps := ["program", "name", "heights"]) G.d_height_by rfl (fun _ _ _ _ _ _ us hl => match us, hl with | [_, _, _], _ => rfl) fun f fd Fn => (show FnOk P w K mg base (L2.CX P w) 6 f fd ["program", "name", "heights"] (spT K mg 3 (mkF [true, true, true] 7 M_height_by)) from fn_ok (N := N_height_by) (fx := [true, true, true]) (m := M_height_by) Fn sc_height_by rfl (.inl (by kernel_rfl)) fun cdv A outer s H E hr => ⟨_,
   dss_cons (ds_set 3 sc_height_by.nd (de_callK h_block_of hr (takes_of rfl rfl rfl rfl) (da_nm 0 (de_var 0) (da_nm 1 (de_var 1) (da_nil)))))
 (dss_cons (ds_set 4 sc_height_by.nd (de_t1 (call_listA rfl) cs_list (de_ix (ix_all (hu_of hr)) os_ix (de_var 3) (de_int) (fun _ _ => rfl)) G.z_list bt_list))
 (dss_cons (ds_set 5 sc_height_by.nd (de_b1 call_lenA cs_len (de_var 4) G.z_len bt_len))
 (dss_cons (ds_for (passes_of rfl) rfl (di_seq (de_ix (ix_all (hu_of hr)) os_ix (de_var 3) (de_int) (fun _ _ => rfl))) (dg_name 6 sc_height_by.nd) (dss_cons (ds_set 5 sc_height_by.nd (de_b2 (call_max2 rfl) cs_max (de_var 5) (de_callK h_height_within hr (takes_of rfl rfl rfl rfl) (da_ln 0 (de_var 0) (da_ex (de_b1 call_lenA cs_len (de_var 4) G.z_len bt_len) (da_ln 6 (de_var 6) (da_ln 2 (de_var 2) (da_nil)))))) G.z_max bt_max))
 (dss_cons (ds_expr (de_callK h_lead hr (takes_of rfl rfl rfl rfl) (da_nm 0 (de_var 0) (da_nm 4 (de_var 4) (da_nm 6 (de_var 6) (da_nil))))))
 (dss_one (ds_set 5 sc_height_by.nd (de_b2 (call_max2 rfl) cs_max (de_var 5) (de_b1 call_lenA cs_len (de_var 4) G.z_len bt_len) G.z_max bt_max))))))
 (dss_one (ds_retV 5 (de_var 5))))))⟩)
theorem ok_height (G : G K w mg) (h_reach : Fk P w K mg base 3 "reach" 2 F_reach) (h_named_by : Fk P w K mg base 2 "named_by" 2 F_named_by) (h_ready_ones : Fk P w K mg base 1 "ready_ones" 2 F_ready_ones) (h_height_by : Fk P w K mg base 6 "height_by" 3 F_height_by) : Fk P w K mg base 7 "height" 2 F_height := by
  exact fk_of (ps := ["program", "name"]) G.d_height rfl (fun _ _ _ _ _ _ us hl => match us, hl with | [_, _], _ => rfl) fun f fd Fn => (show FnOk P w K mg base (L2.CX P w) 7 f fd ["program", "name"] (spT K mg 2 (mkF [true, true] 6 M_height)) from fn_ok (N := N_height) (fx := [true, true]) (m := M_height) Fn sc_height rfl (.inl (by kernel_rfl)) fun cdv A outer s H E hr => ⟨_,
   dss_cons (ds_set 2 sc_height.nd (de_dict0))
 (dss_cons (ds_for (passes_of rfl) rfl (di_seq (de_callK h_reach hr (takes_of rfl rfl rfl rfl) (da_nm 0 (de_var 0) (da_nm 1 (de_var 1) (da_nil))))) (dg_name 3 sc_height.nd) (dss_one (ds_put 2 (hu_of hr) (de_var 2) (de_var 3) (de_callK h_named_by hr (takes_of rfl rfl rfl rfl) (da_nm 0 (de_var 0) (da_nm 3 (de_var 3) (da_nil)))))))
 (dss_cons (ds_set 4 sc_height.nd (de_dict0))
 (dss_cons (ds_while whileMost (passes_of rfl) (dt_cmp (op_notInA (hu_of hr)) os_in (de_var 1) (de_var 4) (by rfl)) (dss_cons (ds_set 5 sc_height.nd (de_callK h_ready_ones hr (takes_of rfl rfl rfl rfl) (da_nm 2 (de_var 2) (da_nm 4 (de_var 4) (da_nil)))))
 (dss_cons (ds_if (dt_not (dt_truth (de_var 5))) (dss_one (ds_ret (de_non))) (dss_nil))
 (dss_one (ds_for (passes_of rfl) rfl (di_seq (de_var 5)) (dg_name 3 sc_height.nd) (dss_one (ds_put 4 (hu_of hr) (de_var 4) (de_var 3) (de_callK h_height_by hr (takes_of rfl rfl rfl rfl) (da_nm 0 (de_var 0) (da_nm 3 (de_var 3) (da_nm 4 (de_var 4) (da_nil))))))))))))
 (dss_one (ds_ret (de_ix (ix_all (hu_of hr)) os_ix (de_var 4) (de_var 1) (fun _ _ => rfl)))))))⟩)
theorem ok_M_begun (G : G K w mg) (h_block_of : Fk P w K mg base 1 "block_of" 2 F_block_of) : Ms P w K mg base 2 "_begun" 2 (spB K mg 2 F_M_begun) := by
  exact ms_of (ps := ["self", "name"]) G.d_M_begun rfl (fun _ _ _ _ _ _ us hl => match us, hl with | [_, _], _ => rfl) fun f fd Fn => (show FnOk P w K mg base (L2.CX P w) 2 f fd ["self", "name"] (spB K mg 2 (mkB 2 3 M_M_begun)) from fn_okB (n := 2) (N := N_M_begun) (m := M_M_begun) Fn sc_M_begun rfl (of_decide_eq_true (by kernel_rfl)) fun cdv A outer s H E hr => ⟨_,
   dss_cons (ds_expr (de_callK h_block_of hr (takes_of rfl rfl rfl rfl) (da_ex (de_prog 0 G.mt (de_var 0)) (da_ln 1 (de_var 1) (da_nil)))))
 (dss_one (ds_ret (de_tup (da_ex (de_var 1) (da_ex (de_int) (da_nil))))))⟩)
theorem ok_M_has_ended (G : G K w mg) (h_block_of : Fk P w K mg base 1 "block_of" 2 F_block_of) : Ms P w K mg base 2 "_has_ended" 2 (spB K mg 2 F_M_has_ended) := by
  exact ms_of (ps := ["self", "frame"]) G.d_M_has_ended rfl (fun _ _ _ _ _ _ us hl => match us, hl with | [_, _], _ => rfl) fun f fd Fn => (show FnOk P w K mg base (L2.CX P w) 2 f fd ["self", "frame"] (spB K mg 2 (mkB 2 5 M_M_has_ended)) from fn_okB (n := 2) (N := N_M_has_ended) (m := M_M_has_ended) Fn sc_M_has_ended rfl (of_decide_eq_true (by kernel_rfl)) fun cdv A outer s H E hr => ⟨_,
   dss_cons (ds_asgG (de_var 1) (dg_seq [3, 4] rfl (pgs_cons (pg_name sc_M_has_ended.nd rfl (by first | exact Or.inl rfl | exact Or.inr rfl)) (pgs_cons (pg_name sc_M_has_ended.nd rfl (by first | exact Or.inl rfl | exact Or.inr rfl)) (pgs_nil)))))
 (dss_one (ds_ret (de_cmp (op_eqA hr.units) os_eq (de_var 4) (de_b1 call_lenA cs_len (de_ix (ix_all (hu_of hr)) os_ix (de_callK h_block_of hr (takes_of rfl rfl rfl rfl) (da_ex (de_prog 0 G.mt (de_var 0)) (da_ln 3 (de_var 3) (da_nil)))) (de_int) (fun _ _ => rfl)) G.z_len bt_len) (nomark _))))⟩)
theorem ok_M_leave (G : G K w mg) (h_M_has_ended : Ms P w K mg base 2 "_has_ended" 2 (spB K mg 2 F_M_has_ended)) : Ms P w K mg base 3 "_leave" 1 (spM K mg 0 1 F_M_leave) := by
  exact ms_of (ps := ["self"]) G.d_M_leave rfl (fun _ _ _ _ _ _ us hl => match us, hl with | [_], _ => rfl) fun f fd Fn => (show FnOk P w K mg base (L2.CX P w) 3 f fd ["self"] (spM K mg 0 1 (mkM 0 1 3 M_M_leave)) from fn_okM (pos := 0) (n := 1) (N := N_M_leave) (m := M_M_leave) Fn sc_M_leave rfl (by kernel_rfl) (by decide +kernel) fun cdv A outer s H E hr => ⟨_,
   dss_one (ds_while whileMost (passes_of rfl) ((dw_and (dt_truth (de_gh 0 1 G.mt fld_frames (de_var 0))) (dw_and1 (dt_truth (de_mthB 0 h_M_has_ended (de_var 0) nf_has_ended hr (takes_of rfl rfl rfl rfl) (da_ex (de_ix (ix_all (hu_of hr)) os_ix (de_gh 0 1 G.mt fld_frames (de_var 0)) (de_neg (de_int)) (fun _ _ => rfl)) (da_nil)))))).dt) (dss_one (ds_expr (de_popF 0 1 G.mt fld_frames (de_var 0)))))⟩)
theorem ok_M__init__ (G : G K w mg) (h_M_begun : Ms P w K mg base 2 "_begun" 2 (spB K mg 2 F_M_begun)) (h_M_leave : Ms P w K mg base 3 "_leave" 1 (spM K mg 0 1 F_M_leave)) : MkT P w K mg base 4 F_M_begun F_M_leave := by
  refine mkt_of (N := N_M__init__) G.d_M__init__ h_M_begun h_M_leave nf_leave sc_M__init__ rfl (by decide) (fun _ _ _ _ _ _ us hl => match us, hl with | [_, _, _, _], _ => rfl) fun C fB fL fdB fdL psB psL gC MC m1 F1 b1 m2 F2 b2 f cdv A outer s H E hr => ?_
  exact pss_cons (ps_fld (pv 0) (pv 1) rfl) (pss_cons (ps_fld (pv 0) (pe_callTy call_list_of (by rfl) G.z_list bt_list (pa_cons (pv 3) pa_nil)) rfl)
    (pss_cons (ps_fld (pv 0) (pe_lst (pa_cons (pe_mthS (pv 0) MC.cl m1 F1 (hr.mono (by decide)) b1 (passAt (takes_of rfl rfl rfl rfl)) (pa_cons (pv 2) pa_nil)) pa_nil)) rfl)
    (pss_one (ps_expr (pe_mthS0 (pv 0) MC.cl m2 F2 (hr.mono (by decide)) b2 (passAt (takes_of rfl rfl rfl rfl)))))))
theorem ok_Mover (G : G K w mg)  : Ms P w K mg base 1 "over" 1 (spM K mg 0 1 F_Mover) := by
  exact ms_of (ps := ["self"]) G.d_Mover rfl (fun _ _ _ _ _ _ us hl => match us, hl with | [_], _ => rfl) fun f fd Fn => (show FnOk P w K mg base (L2.CX P w) 1 f fd ["self"] (spM K mg 0 1 (mkM 0 1 3 M_Mover)) from fn_okM (pos := 0) (n := 1) (N := N_Mover) (m := M_Mover) Fn sc_Mover rfl (by kernel_rfl) (by decide +kernel) fun cdv A outer s H E hr => ⟨_,
   dss_one (ds_ret (de_cmp (op_eqA hr.units) os_eq (de_b1 call_lenA cs_len (de_gh 0 1 G.mt fld_frames (de_var 0)) G.z_len bt_len) (de_int) (nomark _)))⟩)
theorem ok_kind_of (G : G K w mg)  : Fk P w K mg base 1 "kind_of" 1 F_kind_of := by
  exact fk_of (ps := ["value"]) G.d_kind_of rfl (fun _ _ _ _ _ _ us hl => match us, hl with | [_], _ => rfl) fun f fd Fn => (show FnOk P w K mg base (L2.CX P w) 1 f fd ["value"] (spT K mg 1 (mkF [true] 1 M_kind_of)) from fn_ok (N := N_kind_of) (fx := [true]) (m := M_kind_of) Fn sc_kind_of rfl (.inl (by kernel_rfl)) fun cdv A outer s H E hr => ⟨_,
   dss_one (ds_ret (de_if (dt_truth (de_b2 call_isi cs_isi (de_var 0) (de_ty "str" G.z_str bt_str) G.z_isinstance bt_isinstance)) (de_str) (de_str)))⟩)
theorem ok_kinds_of (G : G K w mg) (h_kind_of : Fk P w K mg base 1 "kind_of" 1 F_kind_of) : Fk P w K mg base 2 "kinds_of" 1 F_kinds_of := by
  exact fk_of (ps := ["stack"]) G.d_kinds_of rfl (fun _ _ _ _ _ _ us hl => match us, hl with | [_], _ => rfl) fun f fd Fn => (show FnOk P w K mg base (L2.CX P w) 2 f fd ["stack"] (spT K mg 1 (mkF [true] 2 M_kinds_of)) from fn_ok (N := N_kinds_of) (fx := [true]) (m := M_kinds_of) Fn sc_kinds_of rfl (.inl (by kernel_rfl)) fun cdv A outer s H E hr => ⟨_,
   dss_one (ds_ret (de_t1 call_tupleA cs_tuple (de_lcm [("value", 1)] rfl sc_kinds_of.nd (di_seq (de_var 0)) (blkOk_by (N := N_kinds_of) (sc := defScope st_kinds_of) (own := [("value", 1)]) (by decide +kernel)) (fun s1 H1 C1 cl1 fp1 => pg_name sc_kinds_of.nd rfl (Or.inl rfl)) (sgc_name (i := 1)) (fun s1 H1 C1 cl1 fp1 => ⟨_, dts_nil⟩) (fun s1 H1 C1 cl1 fp1 => ⟨_, de_callK h_kind_of hr takes0 (da_nm 1 (de_var 1) (da_nil))⟩)) G.z_tuple bt_tuple))⟩)
theorem ok_M_chosen (G : G K w mg) (h_check : Fk P w K mg base 2 "check" 2 F_check) (h_kinds_of : Fk P w K mg base 2 "kinds_of" 1 F_kinds_of) (h_M_begun : Ms P w K mg base 2 "_begun" 2 (spB K mg 2 F_M_begun)) : Ms P w K mg base 3 "_chosen" 2 (spM K mg 0 2 F_M_chosen) := by
  exact ms_of (ps := ["self", "row"]) G.d_M_chosen rfl (fun _ _ _ _ _ _ us hl => match us, hl with | [_, _], _ => rfl) fun f fd Fn => (show FnOk P w K mg base (L2.CX P w) 3 f fd ["self", "row"] (spM K mg 0 2 (mkM 0 2 5 M_M_chosen)) from fn_okM (pos := 0) (n := 2) (N := N_M_chosen) (m := M_M_chosen) Fn sc_M_chosen rfl (by kernel_rfl) (by decide +kernel) fun cdv A outer s H E hr => ⟨_,
   dss_cons (ds_expr (de_callK h_check hr (takes_of rfl rfl rfl rfl) (da_ln 1 (de_var 1) (da_ex (de_callK h_kinds_of hr (takes_of rfl rfl rfl rfl) (da_ex (de_sl (de_gh 0 0 G.mt fld_stack (de_var 0)) (do_some (de_neg (de_int))) do_none) (da_nil))) (da_nil)))))
 (dss_cons (ds_set 4 sc_M_chosen.nd (de_mthB 0 h_M_begun (de_var 0) nf_begun hr (takes_of rfl rfl rfl rfl) (da_ex (de_if (dt_cmp (op_neA hr.units) os_ne (de_ix (ix_all (hu_of hr)) os_ix (de_gh 0 0 G.mt fld_stack (de_var 0)) (de_neg (de_int)) (fun _ _ => rfl)) (de_int) (nomark _)) (de_ix (ix_all (hu_of hr)) os_ix (de_var 1) (de_int) (fun _ _ => rfl)) (de_ix (ix_all (hu_of hr)) os_ix (de_var 1) (de_int) (fun _ _ => rfl))) (da_nil))))
 (dss_cons (ds_expr (de_popF 0 0 G.mt fld_stack (de_var 0)))
 (dss_one (ds_retV 4 (de_var 4)))))⟩)
theorem ok_do (G : G K w mg) (h_wanted : Fk P w K mg base 1 "wanted" 1 F_wanted) (h_check : Fk P w K mg base 2 "check" 2 F_check) (h_kinds_of : Fk P w K mg base 2 "kinds_of" 1 F_kinds_of) (h_put_by : Fk P w K mg base 2 "put_by" 2 F_put_by) : Fk P w K mg base 3 "do" 2 F_do := by
  exact fk_of (ps := ["stack", "row"]) G.d_do rfl (fun _ _ _ _ _ _ us hl => match us, hl with | [_, _], _ => rfl) fun f fd Fn => (show FnOk P w K mg base (L2.CX P w) 3 f fd ["stack", "row"] (spT K mg 2 (mkF [true, true] 4 M_do)) from fn_ok (N := N_do) (fx := [true, true]) (m := M_do) Fn sc_do rfl (.inl (by kernel_rfl)) fun cdv A outer s H E hr => ⟨_,
   dss_cons (ds_set 2 sc_do.nd (de_b2 (call_max2 rfl) cs_max (de_int) (de_bin op_sub os_sub (de_b1 call_lenA cs_len (de_var 0) G.z_len bt_len) (de_callK h_wanted hr (takes_of rfl rfl rfl rfl) (da_nm 1 (de_var 1) (da_nil)))) G.z_max bt_max))
 (dss_cons (ds_set 3 sc_do.nd (de_sl (de_var 0) (do_some (de_var 2)) do_none))
 (dss_cons (ds_expr (de_callK h_check hr (takes_of rfl rfl rfl rfl) (da_ln 1 (de_var 1) (da_ex (de_callK h_kinds_of hr (takes_of rfl rfl rfl rfl) (da_nm 3 (de_var 3) (da_nil))) (da_nil)))))
 (dss_one (ds_putSl 0 (de_var 0) (de_var 2) (de_callK h_put_by hr (takes_of rfl rfl rfl rfl) (da_nm 1 (de_var 1) (da_nm 3 (de_var 3) (da_nil))))))))⟩)
theorem ok_M_do (G : G K w mg) (h_M_begun : Ms P w K mg base 2 "_begun" 2 (spB K mg 2 F_M_begun)) (h_M_chosen : Ms P w K mg base 3 "_chosen" 2 (spM K mg 0 2 F_M_chosen)) (h_do : Fk P w K mg base 3 "do" 2 F_do) : Ms P w K mg base 4 "_do" 2 (spM K mg 0 2 F_M_do) := by
  exact ms_of (ps := ["self", "row"]) G.d_M_do rfl (fun _ _ _ _ _ _ us hl => match us, hl with | [_, _], _ => rfl) fun f fd Fn => (show FnOk P w K mg base (L2.CX P w) 4 f fd ["self", "row"] (spM K mg 0 2 (mkM 0 2 5 M_M_do)) from fn_okM (pos := 0) (n := 2) (N := N_M_do) (m := M_M_do) Fn sc_M_do rfl (by kernel_rfl) (by decide +kernel) fun cdv A outer s H E hr => ⟨_,
   dss_cons (ds_set 4 sc_M_do.nd (de_ix (ix_all (hu_of hr)) os_ix (de_var 1) (de_int) (fun _ _ => rfl)))
 (dss_cons (ds_if (dt_cmp (op_eqA hr.units) os_eq (de_var 4) (de_str) (nomark _)) (dss_one (ds_ret (de_lst (da_ex (de_mthB 0 h_M_begun (de_var 0) nf_begun hr (takes_of rfl rfl rfl rfl) (da_ex (de_ix (ix_all (hu_of hr)) os_ix (de_var 1) (de_int) (fun _ _ => rfl)) (da_nil))) (da_nil))))) (dss_nil))
 (dss_cons (ds_if (dt_cmp (op_eqA hr.units) os_eq (de_var 4) (de_str) (nomark _)) (dss_one (ds_ret (de_lst (da_ex (de_mthM 0 h_M_chosen (de_var 0) nf_chosen hr (takes_of rfl rfl rfl rfl) (da_ex (de_var 1) (da_nil))) (da_nil))))) (dss_nil))
 (dss_cons (ds_expr (de_callK h_do hr (takes_of rfl rfl rfl rfl) (da_gh 0 0 G.mt fld_stack (de_var 0) (da_ln 1 (de_var 1) (da_nil)))))
 (dss_one (ds_ret (de_lst (da_nil)))))))⟩)
theorem ok_Mstep (G : G K w mg) (h_Mover : Ms P w K mg base 1 "over" 1 (spM K mg 0 1 F_Mover)) (h_block_of : Fk P w K mg base 1 "block_of" 2 F_block_of) (h_M_do : Ms P w K mg base 4 "_do" 2 (spM K mg 0 2 F_M_do)) (h_M_leave : Ms P w K mg base 3 "_leave" 1 (spM K mg 0 1 F_M_leave)) : Ms P w K mg base 5 "step" 1 (spM K mg 0 1 F_Mstep) := by
  exact ms_of (ps := ["self"]) G.d_Mstep rfl (fun _ _ _ _ _ _ us hl => match us, hl with | [_], _ => rfl) fun f fd Fn => (show FnOk P w K mg base (L2.CX P w) 5 f fd ["self"] (spM K mg 0 1 (mkM 0 1 7 M_Mstep)) from fn_okM (pos := 0) (n := 1) (N := N_Mstep) (m := M_Mstep) Fn sc_Mstep rfl (by kernel_rfl) (by decide +kernel) fun cdv A outer s H E hr => ⟨_,
   dss_cons (ds_if (dt_truth (de_mthM0 0 h_Mover (de_var 0) nf_over hr (takes_of rfl rfl rfl rfl))) (dss_one (ds_retN)) (dss_nil))
 (dss_cons (ds_asgG (de_ix (ix_all (hu_of hr)) os_ix (de_gh 0 1 G.mt fld_frames (de_var 0)) (de_neg (de_int)) (fun _ _ => rfl)) (dg_seq [3, 4] rfl (pgs_cons (pg_name sc_Mstep.nd rfl (by first | exact Or.inl rfl | exact Or.inr rfl)) (pgs_cons (pg_name sc_Mstep.nd rfl (by first | exact Or.inl rfl | exact Or.inr rfl)) (pgs_nil)))))
 (dss_cons (ds_set 5 sc_Mstep.nd (de_ix (ix_all (hu_of hr)) os_ix (de_ix (ix_all (hu_of hr)) os_ix (de_callK h_block_of hr (takes_of rfl rfl rfl rfl) (da_ex (de_prog 0 G.mt (de_var 0)) (da_ln 3 (de_var 3) (da_nil)))) (de_int) (fun _ _ => rfl)) (de_var 4) (fun _ _ => rfl)))
 (dss_cons (ds_set 6 sc_Mstep.nd (de_mthM 0 h_M_do (de_var 0) nf_do hr (takes_of rfl rfl rfl rfl) (da_ex (de_var 5) (da_nil))))
 (dss_cons (ds_putF 0 1 G.mt fld_frames (de_var 0) (de_neg (de_int)) (de_tup (da_ex (de_var 3) (da_ex (de_bin op_add4 os_add (de_var 4) (de_int)) (da_nil)))))
 (dss_cons (ds_expr (de_extF 0 1 G.mt fld_frames (de_var 0) (de_var 6)))
 (dss_one (ds_expr (de_mthM0 0 h_M_leave (de_var 0) nf_leave hr (takes_of rfl rfl rfl rfl)))))))))⟩)
theorem ok_run (G : G K w mg) (h_M__init__ : MkT P w K mg base 4 F_M_begun F_M_leave) (h_Mover : Ms P w K mg base 1 "over" 1 (spM K mg 0 1 F_Mover)) (h_Mstep : Ms P w K mg base 5 "step" 1 (spM K mg 0 1 F_Mstep)) : Fk P w K mg base 6 "run" 4 F_run := by
  exact fk_of (ps := ["program", "name", "stack", "fuel"]) G.d_run rfl (fun _ _ _ _ _ _ us hl => match us, hl with | [_, _, _, _], _ => rfl) fun f fd Fn => (show FnOk P w K mg base (L2.CX P w) 6 f fd ["program", "name", "stack", "fuel"] (spT K mg 4 (mkF [false, false, false, false] 8 M_run)) from fn_ok (N := N_run) (fx := [false, false, false, false]) (m := M_run) Fn sc_run rfl (.inr rfl) fun cdv A outer s H E hr => ⟨_,
   dss_cons (ds_setM 4 6 (by kernel_rfl) sc_run.nd (de_make h_M__init__ hr (takes_of rfl rfl rfl rfl) (de_var 0) (de_var 1) (de_var 2)))
 (dss_cons (ds_for (passes_of rfl) rfl (di_range (de_var 3) G.z_range) (dg_name 5 sc_run.nd) (dss_cons (ds_if (dt_truth (de_mthM0 4 h_Mover (de_var 4) nf_over hr (takes_of rfl rfl rfl rfl))) (dss_one (ds_break)) (dss_nil))
 (dss_one (ds_expr (de_mthM0 4 h_Mstep (de_var 4) nf_step hr (takes_of rfl rfl rfl rfl))))))
 (dss_cons (ds_if (dt_not (dt_truth (de_mthM0 4 h_Mover (de_var 4) nf_over hr (takes_of rfl rfl rfl rfl)))) (dss_one (ds_raiseT rfl (takes_of rfl rfl rfl rfl) G.x_Dry (de_join (.cons (de_fmt (de_var 1)) (.cons (de_str) (.cons (de_fmt (de_var 3)) (.cons (de_str) (.nil)))))))) (dss_nil))
 (dss_one (ds_retF 4 0 G.mt fld_stack (de_var 4)))))⟩)
theorem ok_law_run (G : G K w mg) (h_run : Fk P w K mg base 6 "run" 4 F_run) : Fk P w K mg base 7 "_law_run" 4 F_law_run := by
  obtain ⟨ch_Dry, gh_Dry, eh_Dry⟩ := G.h_Dry.all
  exact fk_of (ps := ["_law_program_here", "_law_name", "_law_stack", "_law_fuel"]) G.d_law_run rfl (fun _ _ _ _ _ _ us hl => match us, hl with | [_, _, _, _], _ => rfl) fun f fd Fn => (show FnOk P w K mg base (L2.CX P w) 7 f fd ["_law_program_here", "_law_name", "_law_stack", "_law_fuel"] (spT K mg 4 (mkF [true, true, true, true] 4 M_law_run)) from fn_ok (N := N_law_run) (fx := [true, true, true, true]) (m := M_law_run) Fn sc_law_run rfl (.inl (by kernel_rfl)) fun cdv A outer s H E hr => ⟨_,
   dss_one (ds_tryM rfl rfl (takes_of rfl rfl rfl rfl) (fun W1 pn1 xe1 tk1 => ⟨_, dss_one (ds_ret (de_callK h_run hr tk1 (da_ex (de_var 0) (da_ex (de_var 1) (da_ex (de_var 2) (da_ex (de_var 3) (da_nil)))))))⟩) (.cons ⟨rfl, by decide, .inl gh_Dry⟩ (hd_ok eh_Dry) (fun a1 oe1 cls1 d1 pn1 z1 v1 => dss_one (ds_ret (de_str))) (.nil)))⟩)
theorem ok_law_alike (G : G K w mg)  : Fk P w K mg base 1 "_law_alike" 2 F_law_alike := by
  exact fk_of (ps := ["_law_found", "_law_due"]) G.d_law_alike rfl (fun _ _ _ _ _ _ us hl => match us, hl with | [_, _], _ => rfl) fun f fd Fn => (show FnOk P w K mg base (L2.CX P w) 1 f fd ["_law_found", "_law_due"] (spT K mg 2 (mkF [true, true] 3 M_law_alike)) from fn_ok (N := N_law_alike) (fx := [true, true]) (m := M_law_alike) Fn sc_law_alike rfl (.inl (by kernel_rfl)) fun cdv A outer s H E hr => ⟨_,
   dss_cons (ds_if ((dw_or (dt_not (dt_truth (de_b2 call_isi cs_isi (de_var 0) (de_ty "list" G.z_list bt_list) G.z_isinstance bt_isinstance))) (dw_or1 (dt_cmp (op_neA hr.units) os_ne (de_b1 call_lenA cs_len (de_var 0) G.z_len bt_len) (de_b1 call_lenA cs_len (de_var 1) G.z_len bt_len) (nomark _)))).dt) (dss_one (ds_ret (de_bl))) (dss_nil))
 (dss_cons (ds_for (passes_of rfl) rfl (di_range (de_b1 call_lenA cs_len (de_var 1) G.z_len bt_len) G.z_range) (dg_name 2 sc_law_alike.nd) (dss_cons (ds_if (dt_cmp (op_neA hr.units) os_ne (de_b2 call_isi cs_isi (de_ix (ix_all (hu_of hr)) os_ix (de_var 1) (de_var 2) (fun _ _ => rfl)) (de_ty "str" G.z_str bt_str) G.z_isinstance bt_isinstance) (de_b2 call_isi cs_isi (de_ix (ix_all (hu_of hr)) os_ix (de_var 0) (de_var 2) (fun _ _ => rfl)) (de_ty "str" G.z_str bt_str) G.z_isinstance bt_isinstance) (nomark _)) (dss_one (ds_ret (de_bl))) (dss_nil))
 (dss_one (ds_if ((dw_and (dt_not (dt_truth (de_b2 call_isi cs_isi (de_ix (ix_all (hu_of hr)) os_ix (de_var 1) (de_var 2) (fun _ _ => rfl)) (de_ty "str" G.z_str bt_str) G.z_isinstance bt_isinstance))) (dw_and1 ((dw_or (dt_truth (de_b2 call_isi cs_isi (de_ix (ix_all (hu_of hr)) os_ix (de_var 0) (de_var 2) (fun _ _ => rfl)) (de_ty "bool" G.z_bool bt_bool) G.z_isinstance bt_isinstance)) (dw_or1 (dt_not (dt_truth (de_b2 call_isi cs_isi (de_ix (ix_all (hu_of hr)) os_ix (de_var 0) (de_var 2) (fun _ _ => rfl)) (de_ty "int" G.z_int bt_int) G.z_isinstance bt_isinstance))))).dt))).dt) (dss_one (ds_ret (de_bl))) (dss_nil)))))
 (dss_one (ds_ret (de_cmp (op_eqA hr.units) os_eq (de_var 0) (de_var 1) (nomark _)))))⟩)
theorem ok_law_deep (G : G K w mg) (h_M__init__ : MkT P w K mg base 4 F_M_begun F_M_leave) (h_Mstep : Ms P w K mg base 5 "step" 1 (spM K mg 0 1 F_Mstep)) (h_Mover : Ms P w K mg base 1 "over" 1 (spM K mg 0 1 F_Mover)) (h_law_alike : Fk P w K mg base 1 "_law_alike" 2 F_law_alike) : Fk P w K mg base 6 "_law_deep" 6 F_law_deep := by
  exact fk_of (ps := ["_law_program_here", "_law_names", "_law_beneath", "_law_many", "_law_leaves", "_law_some"]) G.d_law_deep rfl (fun _ _ _ _ _ _ us hl => match us, hl with | [_, _, _, _, _, _], _ => rfl) fun f fd Fn => (show FnOk P w K mg base (L2.CX P w) 6 f fd ["_law_program_here", "_law_names", "_law_beneath", "_law_many", "_law_leaves", "_law_some"] (spT K mg 6 (mkF [false, false, false, false, false, false] 15 M_law_deep)) from fn_ok (N := N_law_deep) (fx := [false, false, false, false, false, false]) (m := M_law_deep) Fn sc_law_deep rfl (.inr rfl) fun cdv A outer s H E hr => ⟨_,
   dss_cons (ds_setM 6 11 (by kernel_rfl) sc_law_deep.nd (de_make h_M__init__ hr (takes_of rfl rfl rfl rfl) (de_var 0) (de_ix (ix_all (hu_of hr)) os_ix (de_var 1) (de_int) (fun _ _ => rfl)) (de_bin op_add4 os_add (de_var 2) (de_lst (da_ex (de_var 3) (da_nil))))))
 (dss_cons (ds_setM 7 13 (by kernel_rfl) sc_law_deep.nd (de_make h_M__init__ hr (takes_of rfl rfl rfl rfl) (de_var 0) (de_ix (ix_all (hu_of hr)) os_ix (de_var 1) (de_int) (fun _ _ => rfl)) (de_bin op_add4 os_add (de_var 2) (de_lst (da_ex (de_int) (da_nil))))))
 (dss_cons (ds_set 8 sc_law_deep.nd (de_lst (da_nil)))
 (dss_cons (ds_for (passes_of rfl) rfl (di_range (de_bin op_mul2 os_mul (de_bin op_add4 os_add (de_int) (de_t1 call_int1 cs_int (de_var 4) G.z_int bt_int)) (de_var 3)) G.z_range) (dg_name 9 sc_law_deep.nd) (dss_cons (ds_expr (de_mthM0 6 h_Mstep (de_var 6) nf_step hr (takes_of rfl rfl rfl rfl)))
 (dss_one (ds_if (dt_cmp (op_eqA hr.units) os_eq (de_bin op_mod os_mod (de_var 9) (de_int)) (de_int) (nomark _)) (dss_one (ds_expr (de_mthM0 7 h_Mstep (de_var 7) nf_step hr (takes_of rfl rfl rfl rfl)))) (dss_nil)))))
 (dss_cons (ds_for (passes_of rfl) rfl (di_range (de_int) G.z_range) (dg_name 9 sc_law_deep.nd) (dss_one (ds_expr (de_mthM0 7 h_Mstep (de_var 7) nf_step hr (takes_of rfl rfl rfl rfl)))))
 (dss_cons (ds_if ((dw_or (dt_not (dt_truth (de_mthM0 7 h_Mover (de_var 7) nf_over hr (takes_of rfl rfl rfl rfl)))) (dw_or1 (dt_not (dt_truth (de_callK h_law_alike hr (takes_of rfl rfl rfl rfl) (da_gh 7 0 G.mt fld_stack (de_var 7) (da_ex (de_bin op_add4 os_add (de_var 2) (de_lst (da_ex (de_ix (ix_all (hu_of hr)) os_ix (de_lst (da_ex (de_var 5) (da_ex (de_int) (da_nil)))) (de_t1 call_int1 cs_int (de_var 4) G.z_int bt_int) (fun _ _ => rfl)) (da_nil)))) (da_nil)))))))).dt) (dss_one (ds_ret (de_bl))) (dss_nil))
 (dss_cons (ds_if (dt_truth (de_var 4)) (dss_one (ds_setLcm 8 [("_law_turn", 9)] rfl sc_law_deep.nd (di_range (de_var 3) G.z_range) (blkOk_by (N := N_law_deep) (sc := defScope st_law_deep) (own := [("_law_turn", 9)]) (by decide +kernel)) (fun s1 H1 C1 cl1 fp1 => pg_name sc_law_deep.nd rfl (Or.inl rfl)) (sgc_name (i := 9)) (fun s1 H1 C1 cl1 fp1 => ⟨_, dts_nil⟩) (fun s1 H1 C1 cl1 fp1 => ⟨_, de_bin op_sub os_sub (de_var 3) (de_var 9)⟩) (sw_true rfl rfl rfl (by decide +kernel)))) (dss_nil))
 (dss_cons (ds_set 10 sc_law_deep.nd (de_bin op_add4 os_add (de_bin op_mul2 os_mul (de_lst (da_ex (de_tup (da_ex (de_ix (ix_all (hu_of hr)) os_ix (de_var 1) (de_int) (fun _ _ => rfl)) (da_ex (de_int) (da_nil)))) (da_ex (de_tup (da_ex (de_ix (ix_all (hu_of hr)) os_ix (de_var 1) (de_int) (fun _ _ => rfl)) (da_ex (de_bin op_add4 os_add (de_int) (de_t1 call_int1 cs_int (de_var 4) G.z_int bt_int)) (da_nil)))) (da_nil)))) (de_var 3)) (de_lst (da_ex (de_tup (da_ex (de_ix (ix_all (hu_of hr)) os_ix (de_var 1) (de_int) (fun _ _ => rfl)) (da_ex (de_int) (da_nil)))) (da_nil)))))
 (dss_one (ds_ret (de_and (de_cmp (op_eqA hr.units) os_eq (de_gh 6 1 G.mt fld_frames (de_var 6)) (de_var 10) (nomark _)) (de_and (de_not (de_mthM0 6 h_Mover (de_var 6) nf_over hr (takes_of rfl rfl rfl rfl))) (de_one (de_callK h_law_alike hr (takes_of rfl rfl rfl rfl) (da_gh 6 0 G.mt fld_stack (de_var 6) (da_ex (de_bin op_add4 os_add (de_bin op_add4 os_add (de_var 2) (de_var 8)) (de_lst (da_ex (de_int) (da_nil)))) (da_nil))))))))))))))))⟩)
theorem ok_law (G : G K w mg) (h_law_value : Fk P w K mg base 2 "_law_value" 3 F_law_value) (h_law_draw : Fk P w K mg base 1 "_law_draw" 3 F_law_draw) (h_law_program : Fk P w K mg base 2 "_law_program" 4 F_law_program) (h_let_by : Fk P w K mg base 8 "let_by" 2 F_let_by) (h_height : Fk P w K mg base 7 "height" 2 F_height) (h_law_run : Fk P w K mg base 7 "_law_run" 4 F_law_run) (h_law_alike : Fk P w K mg base 1 "_law_alike" 2 F_law_alike) (h_law_deep : Fk P w K mg base 6 "_law_deep" 6 F_law_deep) : ∀ f fd, L2.Fun K "law" "law" st_law f fd → FnOk P w K mg base (L2.CX P w) 9 f fd ["_law_script"] (spT K mg 1 F_law) := by
  exact fun f fd Fn => (show FnOk P w K mg base (L2.CX P w) 9 f fd ["_law_script"] (spT K mg 1 (mkF [true] 14 M_law)) from fn_ok (N := N_law) (fx := [true]) (m := M_law) Fn sc_law rfl (.inl (by kernel_rfl)) fun cdv A outer s H E hr => ⟨_,
   dss_cons (ds_set 1 sc_law.nd (de_lst (da_ex (de_int) (da_nil))))
 (dss_cons (ds_set 2 sc_law.nd (de_callK h_law_value hr (takes_of rfl rfl rfl rfl) (da_ln 0 (de_var 0) (da_ln 1 (de_var 1) (da_ex (de_str) (da_nil))))))
 (dss_cons (ds_set 3 sc_law.nd (de_callK h_law_draw hr (takes_of rfl rfl rfl rfl) (da_ln 0 (de_var 0) (da_ln 1 (de_var 1) (da_ex (de_int) (da_nil))))))
 (dss_cons (ds_if (dt_cmp (op_eqA hr.units) os_eq (de_callK h_law_draw hr (takes_of rfl rfl rfl rfl) (da_ln 0 (de_var 0) (da_ln 1 (de_var 1) (da_ex (de_int) (da_nil))))) (de_int) (nomark _)) (dss_one (ds_set 3 sc_law.nd (de_bin op_add4 os_add (de_callK h_law_draw hr (takes_of rfl rfl rfl rfl) (da_ln 0 (de_var 0) (da_ln 1 (de_var 1) (da_ex (de_int) (da_nil))))) (de_bin op_mul2 os_mul (de_int) (de_t1 call_int1 cs_int (de_cmp (op_eqA hr.units) os_eq (de_callK h_law_draw hr (takes_of rfl rfl rfl rfl) (da_ln 0 (de_var 0) (da_ln 1 (de_var 1) (da_ex (de_int) (da_nil))))) (de_int) (nomark _)) G.z_int bt_int))))) (dss_nil))
 (dss_cons (ds_set 4 sc_law.nd (de_callK h_law_draw hr (takes_of rfl rfl rfl rfl) (da_ln 0 (de_var 0) (da_ln 1 (de_var 1) (da_ex (de_int) (da_nil))))))
 (dss_cons (ds_set 5 sc_law.nd (de_cmp (op_eqA hr.units) os_eq (de_callK h_law_draw hr (takes_of rfl rfl rfl rfl) (da_ln 0 (de_var 0) (da_ln 1 (de_var 1) (da_ex (de_int) (da_nil))))) (de_int) (nomark _)))
 (dss_cons (ds_asgG (de_callK h_law_program hr (takes_of rfl rfl rfl rfl) (da_nm 0 (de_var 0) (da_nm 1 (de_var 1) (da_nm 2 (de_var 2) (da_nm 5 (de_var 5) (da_nil)))))) (dg_seq [6, 7] rfl (pgs_cons (pg_name sc_law.nd rfl (by first | exact Or.inl rfl | exact Or.inr rfl)) (pgs_cons (pg_name sc_law.nd rfl (by first | exact Or.inl rfl | exact Or.inr rfl)) (pgs_nil)))))
 (dss_cons (ds_set 8 sc_law.nd (de_lst (da_nil)))
 (dss_cons (ds_for (passes_of rfl) rfl (di_range (de_bin op_add4 os_add (de_callK h_law_draw hr (takes_of rfl rfl rfl rfl) (da_ln 0 (de_var 0) (da_ln 1 (de_var 1) (da_ex (de_int) (da_nil))))) (de_ix (ix_all (hu_of hr)) os_ix (de_lst (da_ex (de_int) (da_ex (de_int) (da_ex (de_int) (da_ex (de_int) (da_ex (de_int) (da_ex (de_int) (da_nil)))))))) (de_callK h_law_draw hr (takes_of rfl rfl rfl rfl) (da_ln 0 (de_var 0) (da_ln 1 (de_var 1) (da_ex (de_int) (da_nil))))) (fun _ _ => rfl))) G.z_range) (dg_name 9 sc_law.nd) (dss_one (ds_expr (de_app 8 (de_var 8) (de_callK h_law_value hr (takes_of rfl rfl rfl rfl) (da_ln 0 (de_var 0) (da_ln 1 (de_var 1) (da_ex (de_ix (ix_all (hu_of hr)) os_ix (de_lst (da_ex (de_str) (da_ex (de_str) (da_nil)))) (de_callK h_law_draw hr (takes_of rfl rfl rfl rfl) (da_ln 0 (de_var 0) (da_ln 1 (de_var 1) (da_ex (de_int) (da_nil))))) (fun _ _ => rfl)) (da_nil)))))))))
 (dss_cons (ds_set 10 sc_law.nd (de_bin op_add4 os_add (de_bin op_mul2 os_mul (de_int) (de_var 3)) (de_int)))
 (dss_cons (ds_if ((dw_or (dt_cmp op_notBl os_notBl (de_callK h_let_by hr (takes_of rfl rfl rfl rfl) (da_ln 6 (de_var 6) (da_ex (de_ix (ix_all (hu_of hr)) os_ix (de_var 7) (de_int) (fun _ _ => rfl)) (da_nil)))) (de_bl) (by rfl)) (dw_or1 (dt_cmp op_notN1 os_notN (de_callK h_height hr (takes_of rfl rfl rfl rfl) (da_ln 6 (de_var 6) (da_ex (de_ix (ix_all (hu_of hr)) os_ix (de_var 7) (de_int) (fun _ _ => rfl)) (da_nil)))) (de_non) (by rfl)))).dt) (dss_one (ds_ret (de_bl))) (dss_nil))
 (dss_cons (ds_set 11 sc_law.nd (de_var 10))
 (dss_cons (ds_if (dt_cmp (op_eqA hr.units) os_eq (de_var 4) (de_int) (nomark _)) (dss_one (ds_set 11 sc_law.nd (de_callK h_law_draw hr (takes_of rfl rfl rfl rfl) (da_nm 0 (de_var 0) (da_nm 1 (de_var 1) (da_nm 10 (de_var 10) (da_nil))))))) (dss_nil))
 (dss_cons (ds_if (dt_cmp (op_eqA hr.units) os_eq (de_var 4) (de_int) (nomark _)) (dss_one (ds_set 11 sc_law.nd (de_bin op_add4 os_add (de_bin op_add4 os_add (de_var 10) (de_int)) (de_callK h_law_draw hr (takes_of rfl rfl rfl rfl) (da_ln 0 (de_var 0) (da_ln 1 (de_var 1) (da_ex (de_int) (da_nil)))))))) (dss_nil))
 (dss_cons (ds_set 12 sc_law.nd (de_callK h_law_run hr (takes_of rfl rfl rfl rfl) (da_ln 6 (de_var 6) (da_ex (de_ix (ix_all (hu_of hr)) os_ix (de_var 7) (de_int) (fun _ _ => rfl)) (da_ex (de_bin op_add4 os_add (de_var 8) (de_lst (da_ex (de_var 3) (da_nil)))) (da_ln 11 (de_var 11) (da_nil)))))))
 (dss_cons (ds_if (dt_cmp op_lt os_cmp (de_var 11) (de_var 10) (nomark _)) (dss_one (ds_ret (de_and (de_b2 call_isi cs_isi (de_var 12) (de_ty "str" G.z_str bt_str) G.z_isinstance bt_isinstance) (de_one (de_cmp (op_eqA hr.units) os_eq (de_var 12) (de_str) (nomark _)))))) (dss_nil))
 (dss_cons (ds_set 13 sc_law.nd (de_bin op_mod os_mod (de_bin op_mul2 os_mul (de_var 3) (de_var 2)) (de_bin op_pow os_pow (de_int) (de_int))))
 (dss_cons (ds_if (dt_truth (de_var 5)) (dss_one (ds_set 13 sc_law.nd (de_bin op_fdiv os_div (de_bin op_mul2 os_mul (de_var 3) (de_bin op_add4 os_add (de_var 3) (de_int))) (de_int)))) (dss_nil))
 (dss_one (ds_ret (de_and (de_callK h_law_alike hr (takes_of rfl rfl rfl rfl) (da_ln 12 (de_var 12) (da_ex (de_bin op_add4 os_add (de_var 8) (de_lst (da_ex (de_var 13) (da_nil)))) (da_nil)))) (de_one (de_callK h_law_deep hr (takes_of rfl rfl rfl rfl) (da_ex (de_var 6) (da_ex (de_var 7) (da_ex (de_var 8) (da_ex (de_var 3) (da_ex (de_var 5) (da_ex (de_var 2) (da_nil)))))))))))))))))))))))))))))⟩)
theorem ok_all (G : G K w mg) : ∀ f fd, L2.Fun K "law" "law" st_law f fd → FnOk P w K mg base (L2.CX P w) 9 f fd ["_law_script"] (spT K mg 1 F_law) := by
  have h_law_draw : Fk P w K mg base 1 "_law_draw" 3 F_law_draw := ok_law_draw G 
  have h_law_words : Fk P w K mg base 1 "_law_words" 2 F_law_words := ok_law_words G 
  have h_law_value : Fk P w K mg base 2 "_law_value" 3 F_law_value := ok_law_value G h_law_draw h_law_words
  have h_law_program : Fk P w K mg base 2 "_law_program" 4 F_law_program := ok_law_program G h_law_words h_law_draw
  have h_names_in : Fk P w K mg base 1 "names_in" 1 F_names_in := ok_names_in G 
  have h_named_by : Fk P w K mg base 2 "named_by" 2 F_named_by := ok_named_by G h_names_in
  have h_reach : Fk P w K mg base 3 "reach" 2 F_reach := ok_reach G h_named_by
  have h_block_of : Fk P w K mg base 1 "block_of" 2 F_block_of := ok_block_of G 
  have h_lead_call : Fk P w K mg base 2 "lead_call" 3 F_lead_call := ok_lead_call G h_block_of
  have h_wanted : Fk P w K mg base 1 "wanted" 1 F_wanted := ok_wanted G 
  have h_check : Fk P w K mg base 2 "check" 2 F_check := ok_check G h_wanted
  have h_lead_if : Fk P w K mg base 3 "lead_if" 3 F_lead_if := ok_lead_if G h_check h_block_of h_lead_call
  have h_added : Fk P w K mg base 1 "added" 1 F_added := ok_added G 
  have h_multiplied : Fk P w K mg base 1 "multiplied" 1 F_multiplied := ok_multiplied G 
  have h_compared : Fk P w K mg base 1 "compared" 1 F_compared := ok_compared G 
  have h_joined : Fk P w K mg base 1 "joined" 1 F_joined := ok_joined G 
  have h_measured : Fk P w K mg base 1 "measured" 1 F_measured := ok_measured G 
  have h_shown : Fk P w K mg base 1 "shown" 1 F_shown := ok_shown G 
  have h_swapped : Fk P w K mg base 1 "swapped" 1 F_swapped := ok_swapped G 
  have h_dropped : Fk P w K mg base 1 "dropped" 1 F_dropped := ok_dropped G 
  have h_copied : Fk P w K mg base 1 "copied" 1 F_copied := ok_copied G 
  have h_put_by : Fk P w K mg base 2 "put_by" 2 F_put_by := ok_put_by G h_added h_multiplied h_compared h_joined h_measured h_shown h_swapped h_dropped h_copied
  have h_kinds_put : Fk P w K mg base 3 "kinds_put" 2 F_kinds_put := ok_kinds_put G h_put_by
  have h_lead_plain : Fk P w K mg base 4 "lead_plain" 2 F_lead_plain := ok_lead_plain G h_wanted h_check h_kinds_put
  have h_lead : Fk P w K mg base 5 "lead" 3 F_lead := ok_lead G h_lead_call h_lead_if h_lead_plain
  have h_refusal : Fk P w K mg base 6 "refusal" 3 F_refusal := ok_refusal G h_lead
  have h_fault : Fk P w K mg base 7 "fault" 2 F_fault := ok_fault G h_block_of h_refusal
  have h_let_by : Fk P w K mg base 8 "let_by" 2 F_let_by := ok_let_by G h_reach h_fault
  have h_ready_ones : Fk P w K mg base 1 "ready_ones" 2 F_ready_ones := ok_ready_ones G 
  have h_height_within : Fk P w K mg base 2 "height_within" 4 F_height_within := ok_height_within G h_names_in h_block_of
  have h_height_by : Fk P w K mg base 6 "height_by" 3 F_height_by := ok_height_by G h_block_of h_height_within h_lead
  have h_height : Fk P w K mg base 7 "height" 2 F_height := ok_height G h_reach h_named_by h_ready_ones h_height_by
  have h_M_begun : Ms P w K mg base 2 "_begun" 2 (spB K mg 2 F_M_begun) := ok_M_begun G h_block_of
  have h_M_has_ended : Ms P w K mg base 2 "_has_ended" 2 (spB K mg 2 F_M_has_ended) := ok_M_has_ended G h_block_of
  have h_M_leave : Ms P w K mg base 3 "_leave" 1 (spM K mg 0 1 F_M_leave) := ok_M_leave G h_M_has_ended
  have h_M__init__ : MkT P w K mg base 4 F_M_begun F_M_leave := ok_M__init__ G h_M_begun h_M_leave
  have h_Mover : Ms P w K mg base 1 "over" 1 (spM K mg 0 1 F_Mover) := ok_Mover G 
  have h_kind_of : Fk P w K mg base 1 "kind_of" 1 F_kind_of := ok_kind_of G 
  have h_kinds_of : Fk P w K mg base 2 "kinds_of" 1 F_kinds_of := ok_kinds_of G h_kind_of
  have h_M_chosen : Ms P w K mg base 3 "_chosen" 2 (spM K mg 0 2 F_M_chosen) := ok_M_chosen G h_check h_kinds_of h_M_begun
  have h_do : Fk P w K mg base 3 "do" 2 F_do := ok_do G h_wanted h_check h_kinds_of h_put_by
  have h_M_do : Ms P w K mg base 4 "_do" 2 (spM K mg 0 2 F_M_do) := ok_M_do G h_M_begun h_M_chosen h_do
  have h_Mstep : Ms P w K mg base 5 "step" 1 (spM K mg 0 1 F_Mstep) := ok_Mstep G h_Mover h_block_of h_M_do h_M_leave
  have h_run : Fk P w K mg base 6 "run" 4 F_run := ok_run G h_M__init__ h_Mover h_Mstep
  have h_law_run : Fk P w K mg base 7 "_law_run" 4 F_law_run := ok_law_run G h_run
  have h_law_alike : Fk P w K mg base 1 "_law_alike" 2 F_law_alike := ok_law_alike G 
  have h_law_deep : Fk P w K mg base 6 "_law_deep" 6 F_law_deep := ok_law_deep G h_M__init__ h_Mstep h_Mover h_law_alike
  exact ok_law G h_law_value h_law_draw h_law_program h_let_by h_height h_law_run h_law_alike h_law_deep
end

end LW
open PySem PySem.W PyProof.Rows
set_option maxRecDepth 100000 in
set_option maxHeartbeats 0 in
theorem PySem.Challenge.cw_stackproof_k13_counting_holds : PySem.Challenge.rw_stackproof_k13_counting.Holds := by
  w_on; o_law; k_head; (case hw => w_witness2)
  k_fill
  refine TL.walkL (l := PySem.Challenge.rw_stackproof_k13_counting) (x := "_law_script") (st := LW.st_law) (k := 9) (F := LW.F_law) rfl rfl rfl ⟨rfl, by decide, by decide⟩ (fun w h Y => PySem.W.kIn_of Y) LW.law_true (fun _ _ _ _ _ _ _ => rfl) ?G
  case G =>
    intro w mg h KX Gn
    have z_all : mg "all" = none := by refine' TL.none_mk KX Gn ?a; (case a => k_is)
    have z_bool : mg "bool" = none := by refine' TL.none_mk KX Gn ?a; (case a => k_is)
    have z_enumerate : mg "enumerate" = none := by refine' TL.none_mk KX Gn ?a; (case a => k_is)
    have z_int : mg "int" = none := by refine' TL.none_mk KX Gn ?a; (case a => k_is)
    have z_isinstance : mg "isinstance" = none := by refine' TL.none_mk KX Gn ?a; (case a => k_is)
    have z_len : mg "len" = none := by refine' TL.none_mk KX Gn ?a; (case a => k_is)
    have z_list : mg "list" = none := by refine' TL.none_mk KX Gn ?a; (case a => k_is)
    have z_max : mg "max" = none := by refine' TL.none_mk KX Gn ?a; (case a => k_is)
    have z_range : mg "range" = none := by refine' TL.none_mk KX Gn ?a; (case a => k_is)
    have z_str : mg "str" = none := by refine' TL.none_mk KX Gn ?a; (case a => k_is)
    have z_tuple : mg "tuple" = none := by refine' TL.none_mk KX Gn ?a; (case a => k_is)
    have c_MODULUS : ∃ t, mg "MODULUS" = some (.int 1000000000 t) := by refine' TL.int_mk KX Gn ?a; (case a => k_is)
    have c_MOST_SIGNS : ∃ t, mg "MOST_SIGNS" = some (.int 60 t) := by refine' TL.int_mk KX Gn ?a; (case a => k_is)
    have mt : TL.MacTX KX mg := by refine' TL.macT_mk KX Gn ?a ?pg ?hd ?po ?sa ?nP ?nS ?nF ?ha ?hn ?ht ?hm ?hb; (case a => first | k_is | rfl); (case pg => first | k_is | rfl); (case hd => first | k_is | rfl); (case po => first | k_is | rfl); (case sa => first | k_is | rfl); (case nP => first | k_is | rfl); (case nS => first | k_is | rfl); (case nF => first | k_is | rfl); (case ha => first | k_is | rfl); (case hn => first | k_is | rfl); (case ht => first | k_is | rfl); (case hm => first | k_is | rfl); (case hb => first | k_is | rfl)
    have d_law_draw : TL.FdX KX mg "_law_draw" LW.st_law_draw := by refine' TL.fd_mk KX Gn ?a ?l ?c ?k; (case a => k_is); (case l => k_is); (case c => k_is); (case k => k_is)
    have d_law_words : TL.FdX KX mg "_law_words" LW.st_law_words := by refine' TL.fd_mk KX Gn ?a ?l ?c ?k; (case a => k_is); (case l => k_is); (case c => k_is); (case k => k_is)
    have d_law_value : TL.FdX KX mg "_law_value" LW.st_law_value := by refine' TL.fd_mk KX Gn ?a ?l ?c ?k; (case a => k_is); (case l => k_is); (case c => k_is); (case k => k_is)
    have d_law_program : TL.FdX KX mg "_law_program" LW.st_law_program := by refine' TL.fd_mk KX Gn ?a ?l ?c ?k; (case a => k_is); (case l => k_is); (case c => k_is); (case k => k_is)
    have d_names_in : TL.FdX KX mg "names_in" LW.st_names_in := by refine' TL.fd_mk KX Gn ?a ?l ?c ?k; (case a => k_is); (case l => k_is); (case c => k_is); (case k => k_is)
    have d_named_by : TL.FdX KX mg "named_by" LW.st_named_by := by refine' TL.fd_mk KX Gn ?a ?l ?c ?k; (case a => k_is); (case l => k_is); (case c => k_is); (case k => k_is)
    have d_reach : TL.FdX KX mg "reach" LW.st_reach := by refine' TL.fd_mk KX Gn ?a ?l ?c ?k; (case a => k_is); (case l => k_is); (case c => k_is); (case k => k_is)
    have d_block_of : TL.FdX KX mg "block_of" LW.st_block_of := by refine' TL.fd_mk KX Gn ?a ?l ?c ?k; (case a => k_is); (case l => k_is); (case c => k_is); (case k => k_is)
    have d_lead_call : TL.FdX KX mg "lead_call" LW.st_lead_call := by refine' TL.fd_mk KX Gn ?a ?l ?c ?k; (case a => k_is); (case l => k_is); (case c => k_is); (case k => k_is)
    have d_wanted : TL.FdX KX mg "wanted" LW.st_wanted := by refine' TL.fd_mk KX Gn ?a ?l ?c ?k; (case a => k_is); (case l => k_is); (case c => k_is); (case k => k_is)
    have d_check : TL.FdX KX mg "check" LW.st_check := by refine' TL.fd_mk KX Gn ?a ?l ?c ?k; (case a => k_is); (case l => k_is); (case c => k_is); (case k => k_is)
    have d_lead_if : TL.FdX KX mg "lead_if" LW.st_lead_if := by refine' TL.fd_mk KX Gn ?a ?l ?c ?k; (case a => k_is); (case l => k_is); (case c => k_is); (case k => k_is)
    have d_added : TL.FdX KX mg "added" LW.st_added := by refine' TL.fd_mk KX Gn ?a ?l ?c ?k; (case a => k_is); (case l => k_is); (case c => k_is); (case k => k_is)
    have d_multiplied : TL.FdX KX mg "multiplied" LW.st_multiplied := by refine' TL.fd_mk KX Gn ?a ?l ?c ?k; (case a => k_is); (case l => k_is); (case c => k_is); (case k => k_is)
    have d_compared : TL.FdX KX mg "compared" LW.st_compared := by refine' TL.fd_mk KX Gn ?a ?l ?c ?k; (case a => k_is); (case l => k_is); (case c => k_is); (case k => k_is)
    have d_joined : TL.FdX KX mg "joined" LW.st_joined := by refine' TL.fd_mk KX Gn ?a ?l ?c ?k; (case a => k_is); (case l => k_is); (case c => k_is); (case k => k_is)
    have d_measured : TL.FdX KX mg "measured" LW.st_measured := by refine' TL.fd_mk KX Gn ?a ?l ?c ?k; (case a => k_is); (case l => k_is); (case c => k_is); (case k => k_is)
    have d_shown : TL.FdX KX mg "shown" LW.st_shown := by refine' TL.fd_mk KX Gn ?a ?l ?c ?k; (case a => k_is); (case l => k_is); (case c => k_is); (case k => k_is)
    have d_swapped : TL.FdX KX mg "swapped" LW.st_swapped := by refine' TL.fd_mk KX Gn ?a ?l ?c ?k; (case a => k_is); (case l => k_is); (case c => k_is); (case k => k_is)
    have d_dropped : TL.FdX KX mg "dropped" LW.st_dropped := by refine' TL.fd_mk KX Gn ?a ?l ?c ?k; (case a => k_is); (case l => k_is); (case c => k_is); (case k => k_is)
    have d_copied : TL.FdX KX mg "copied" LW.st_copied := by refine' TL.fd_mk KX Gn ?a ?l ?c ?k; (case a => k_is); (case l => k_is); (case c => k_is); (case k => k_is)
    have d_put_by : TL.FdX KX mg "put_by" LW.st_put_by := by refine' TL.fd_mk KX Gn ?a ?l ?c ?k; (case a => k_is); (case l => k_is); (case c => k_is); (case k => k_is)
    have d_kinds_put : TL.FdX KX mg "kinds_put" LW.st_kinds_put := by refine' TL.fd_mk KX Gn ?a ?l ?c ?k; (case a => k_is); (case l => k_is); (case c => k_is); (case k => k_is)
    have d_lead_plain : TL.FdX KX mg "lead_plain" LW.st_lead_plain := by refine' TL.fd_mk KX Gn ?a ?l ?c ?k; (case a => k_is); (case l => k_is); (case c => k_is); (case k => k_is)
    have d_lead : TL.FdX KX mg "lead" LW.st_lead := by refine' TL.fd_mk KX Gn ?a ?l ?c ?k; (case a => k_is); (case l => k_is); (case c => k_is); (case k => k_is)
    have d_refusal : TL.FdX KX mg "refusal" LW.st_refusal := by refine' TL.fd_mk KX Gn ?a ?l ?c ?k; (case a => k_is); (case l => k_is); (case c => k_is); (case k => k_is)
    have d_fault : TL.FdX KX mg "fault" LW.st_fault := by refine' TL.fd_mk KX Gn ?a ?l ?c ?k; (case a => k_is); (case l => k_is); (case c => k_is); (case k => k_is)
    have d_let_by : TL.FdX KX mg "let_by" LW.st_let_by := by refine' TL.fd_mk KX Gn ?a ?l ?c ?k; (case a => k_is); (case l => k_is); (case c => k_is); (case k => k_is)
    have d_ready_ones : TL.FdX KX mg "ready_ones" LW.st_ready_ones := by refine' TL.fd_mk KX Gn ?a ?l ?c ?k; (case a => k_is); (case l => k_is); (case c => k_is); (case k => k_is)
    have d_height_within : TL.FdX KX mg "height_within" LW.st_height_within := by refine' TL.fd_mk KX Gn ?a ?l ?c ?k; (case a => k_is); (case l => k_is); (case c => k_is); (case k => k_is)
    have d_height_by : TL.FdX KX mg "height_by" LW.st_height_by := by refine' TL.fd_mk KX Gn ?a ?l ?c ?k; (case a => k_is); (case l => k_is); (case c => k_is); (case k => k_is)
    have d_height : TL.FdX KX mg "height" LW.st_height := by refine' TL.fd_mk KX Gn ?a ?l ?c ?k; (case a => k_is); (case l => k_is); (case c => k_is); (case k => k_is)
    have d_M_begun : TL.MdX KX mg "_begun" "Machine._begun" LW.st_M_begun := by refine' TL.md_mk KX Gn mt ?a ?b ?i ?l ?c ?k; (case a => k_is); (case b => k_is); (case i => k_is); (case l => k_is); (case c => k_is); (case k => k_is)
    have d_M_has_ended : TL.MdX KX mg "_has_ended" "Machine._has_ended" LW.st_M_has_ended := by refine' TL.md_mk KX Gn mt ?a ?b ?i ?l ?c ?k; (case a => k_is); (case b => k_is); (case i => k_is); (case l => k_is); (case c => k_is); (case k => k_is)
    have d_M_leave : TL.MdX KX mg "_leave" "Machine._leave" LW.st_M_leave := by refine' TL.md_mk KX Gn mt ?a ?b ?i ?l ?c ?k; (case a => k_is); (case b => k_is); (case i => k_is); (case l => k_is); (case c => k_is); (case k => k_is)
    have d_M__init__ : TL.MiTX KX mg LW.st_M__init__ := by refine' TL.mi_mk KX Gn mt ?a ?mk ?kc ?b ?i ?l ?c ?k; (case a => k_is); (case mk => k_is); (case kc => k_is); (case b => k_is); (case i => k_is); (case l => k_is); (case c => k_is); (case k => k_is)
    have d_Mover : TL.MdX KX mg "over" "Machine.over" LW.st_Mover := by refine' TL.md_mk KX Gn mt ?a ?b ?i ?l ?c ?k; (case a => k_is); (case b => k_is); (case i => k_is); (case l => k_is); (case c => k_is); (case k => k_is)
    have d_kind_of : TL.FdX KX mg "kind_of" LW.st_kind_of := by refine' TL.fd_mk KX Gn ?a ?l ?c ?k; (case a => k_is); (case l => k_is); (case c => k_is); (case k => k_is)
    have d_kinds_of : TL.FdX KX mg "kinds_of" LW.st_kinds_of := by refine' TL.fd_mk KX Gn ?a ?l ?c ?k; (case a => k_is); (case l => k_is); (case c => k_is); (case k => k_is)
    have d_M_chosen : TL.MdX KX mg "_chosen" "Machine._chosen" LW.st_M_chosen := by refine' TL.md_mk KX Gn mt ?a ?b ?i ?l ?c ?k; (case a => k_is); (case b => k_is); (case i => k_is); (case l => k_is); (case c => k_is); (case k => k_is)
    have d_do : TL.FdX KX mg "do" LW.st_do := by refine' TL.fd_mk KX Gn ?a ?l ?c ?k; (case a => k_is); (case l => k_is); (case c => k_is); (case k => k_is)
    have d_M_do : TL.MdX KX mg "_do" "Machine._do" LW.st_M_do := by refine' TL.md_mk KX Gn mt ?a ?b ?i ?l ?c ?k; (case a => k_is); (case b => k_is); (case i => k_is); (case l => k_is); (case c => k_is); (case k => k_is)
    have d_Mstep : TL.MdX KX mg "step" "Machine.step" LW.st_Mstep := by refine' TL.md_mk KX Gn mt ?a ?b ?i ?l ?c ?k; (case a => k_is); (case b => k_is); (case i => k_is); (case l => k_is); (case c => k_is); (case k => k_is)
    have d_run : TL.FdX KX mg "run" LW.st_run := by refine' TL.fd_mk KX Gn ?a ?l ?c ?k; (case a => k_is); (case l => k_is); (case c => k_is); (case k => k_is)
    have d_law_run : TL.FdX KX mg "_law_run" LW.st_law_run := by refine' TL.fd_mk KX Gn ?a ?l ?c ?k; (case a => k_is); (case l => k_is); (case c => k_is); (case k => k_is)
    have d_law_alike : TL.FdX KX mg "_law_alike" LW.st_law_alike := by refine' TL.fd_mk KX Gn ?a ?l ?c ?k; (case a => k_is); (case l => k_is); (case c => k_is); (case k => k_is)
    have d_law_deep : TL.FdX KX mg "_law_deep" LW.st_law_deep := by refine' TL.fd_mk KX Gn ?a ?l ?c ?k; (case a => k_is); (case l => k_is); (case c => k_is); (case k => k_is)
    have d_law : TL.FdX KX mg "law" LW.st_law := by refine' TL.fd_mk KX Gn ?a ?l ?c ?k; (case a => k_is); (case l => k_is); (case c => k_is); (case k => k_is)
    have x_Apart : TL.ExTX KX mg "Apart" := by refine' TL.ext_mk KX Gn ?a ?gq ?k ?s ?t; (case a => k_is); (case gq => k_exc); (case k => k_is); (case s => k_is); (case t => k_is)
    have x_Dry : TL.ExTX KX mg "Dry" := by refine' TL.ext_mk KX Gn ?a ?gq ?k ?s ?t; (case a => k_is); (case gq => k_exc); (case k => k_is); (case s => k_is); (case t => k_is)
    have x_Empty : TL.ExTX KX mg "Empty" := by refine' TL.ext_mk KX Gn ?a ?gq ?k ?s ?t; (case a => k_is); (case gq => k_exc); (case k => k_is); (case s => k_is); (case t => k_is)
    have x_NoBlock : TL.ExTX KX mg "NoBlock" := by refine' TL.ext_mk KX Gn ?a ?gq ?k ?s ?t; (case a => k_is); (case gq => k_exc); (case k => k_is); (case s => k_is); (case t => k_is)
    have x_WrongKind : TL.ExTX KX mg "WrongKind" := by refine' TL.ext_mk KX Gn ?a ?gq ?k ?s ?t; (case a => k_is); (case gq => k_exc); (case k => k_is); (case s => k_is); (case t => k_is)
    have t_NEW_KIND : TL.KTabX KX w mg "NEW_KIND" LW.tbl_NEW_KIND := by
      refine' TL.ktab_mk KX Gn ?a ?l ?k ?lo ?_; (case a => k_is); (case l => k_is); (case k => k_keys); (case lo => decide)
      refine' TL.tabs_cons (TL.tab_str ?a) ?_; (case a => k_is)
      refine' TL.tabs_cons (TL.tab_str ?a) ?_; (case a => k_is)
      refine' TL.tabs_cons (TL.tab_str ?a) ?_; (case a => k_is)
      refine' TL.tabs_cons (TL.tab_str ?a) ?_; (case a => k_is)
      refine' TL.tabs_cons (TL.tab_str ?a) ?_; (case a => k_is)
      refine' TL.tabs_cons (TL.tab_str ?a) ?_; (case a => k_is)
      refine' TL.tabs_cons (TL.tab_str ?a) ?_; (case a => k_is)
      refine' TL.tabs_cons (TL.tab_str ?a) ?_; (case a => k_is)
      refine' TL.tabs_cons (TL.tab_no ?a) ?_; (case a => k_is)
      refine' TL.tabs_cons (TL.tab_no ?a) ?_; (case a => k_is)
      refine' TL.tabs_cons (TL.tab_no ?a) ?_; (case a => k_is)
      refine' TL.tabs_cons (TL.tab_no ?a) ?_; (case a => k_is)
      refine' TL.tabs_cons (TL.tab_no ?a) ?_; (case a => k_is)
      exact TL.tabs_nil
    have t_PUT : TL.KTabX KX w mg "PUT" LW.tbl_PUT := by
      refine' TL.ktab_mk KX Gn ?a ?l ?k ?lo ?_; (case a => k_is); (case l => k_is); (case k => k_keys); (case lo => decide)
      refine' TL.tabs_cons (TL.tab_fn KX Gn ?a ?b) ?_; (case a => k_is); (case b => k_is)
      refine' TL.tabs_cons (TL.tab_fn KX Gn ?a ?b) ?_; (case a => k_is); (case b => k_is)
      refine' TL.tabs_cons (TL.tab_fn KX Gn ?a ?b) ?_; (case a => k_is); (case b => k_is)
      refine' TL.tabs_cons (TL.tab_fn KX Gn ?a ?b) ?_; (case a => k_is); (case b => k_is)
      refine' TL.tabs_cons (TL.tab_fn KX Gn ?a ?b) ?_; (case a => k_is); (case b => k_is)
      refine' TL.tabs_cons (TL.tab_fn KX Gn ?a ?b) ?_; (case a => k_is); (case b => k_is)
      refine' TL.tabs_cons (TL.tab_fn KX Gn ?a ?b) ?_; (case a => k_is); (case b => k_is)
      refine' TL.tabs_cons (TL.tab_fn KX Gn ?a ?b) ?_; (case a => k_is); (case b => k_is)
      refine' TL.tabs_cons (TL.tab_fn KX Gn ?a ?b) ?_; (case a => k_is); (case b => k_is)
      refine' TL.tabs_cons (TL.tab_no ?a) ?_; (case a => k_is)
      refine' TL.tabs_cons (TL.tab_no ?a) ?_; (case a => k_is)
      refine' TL.tabs_cons (TL.tab_no ?a) ?_; (case a => k_is)
      refine' TL.tabs_cons (TL.tab_no ?a) ?_; (case a => k_is)
      exact TL.tabs_nil
    have t_TOLD : TL.KTabX KX w mg "TOLD" LW.tbl_TOLD := by
      refine' TL.ktab_mk KX Gn ?a ?l ?k ?lo ?_; (case a => k_is); (case l => k_is); (case k => k_keys); (case lo => decide)
      refine' TL.tabs_cons (TL.tab_str ?a) ?_; (case a => k_is)
      refine' TL.tabs_cons (TL.tab_str ?a) ?_; (case a => k_is)
      refine' TL.tabs_cons (TL.tab_str ?a) ?_; (case a => k_is)
      refine' TL.tabs_cons (TL.tab_str ?a) ?_; (case a => k_is)
      refine' TL.tabs_cons (TL.tab_str ?a) ?_; (case a => k_is)
      refine' TL.tabs_cons (TL.tab_str ?a) ?_; (case a => k_is)
      refine' TL.tabs_cons (TL.tab_str ?a) ?_; (case a => k_is)
      refine' TL.tabs_cons (TL.tab_no ?a) ?_; (case a => k_is)
      refine' TL.tabs_cons (TL.tab_no ?a) ?_; (case a => k_is)
      refine' TL.tabs_cons (TL.tab_no ?a) ?_; (case a => k_is)
      refine' TL.tabs_cons (TL.tab_no ?a) ?_; (case a => k_is)
      refine' TL.tabs_cons (TL.tab_no ?a) ?_; (case a => k_is)
      refine' TL.tabs_cons (TL.tab_no ?a) ?_; (case a => k_is)
      exact TL.tabs_nil
    have t_WANTED : TL.KTabX KX w mg "WANTED" LW.tbl_WANTED := by
      refine' TL.ktab_mk KX Gn ?a ?l ?k ?lo ?_; (case a => k_is); (case l => k_is); (case k => k_keys); (case lo => decide)
      refine' TL.tabs_cons (TL.tab_int ?a) ?_; (case a => k_is)
      refine' TL.tabs_cons (TL.tab_int ?a) ?_; (case a => k_is)
      refine' TL.tabs_cons (TL.tab_int ?a) ?_; (case a => k_is)
      refine' TL.tabs_cons (TL.tab_int ?a) ?_; (case a => k_is)
      refine' TL.tabs_cons (TL.tab_int ?a) ?_; (case a => k_is)
      refine' TL.tabs_cons (TL.tab_int ?a) ?_; (case a => k_is)
      refine' TL.tabs_cons (TL.tab_int ?a) ?_; (case a => k_is)
      refine' TL.tabs_cons (TL.tab_int ?a) ?_; (case a => k_is)
      refine' TL.tabs_cons (TL.tab_int ?a) ?_; (case a => k_is)
      refine' TL.tabs_cons (TL.tab_int ?a) ?_; (case a => k_is)
      refine' TL.tabs_cons (TL.tab_int ?a) ?_; (case a => k_is)
      refine' TL.tabs_cons (TL.tab_no ?a) ?_; (case a => k_is)
      refine' TL.tabs_cons (TL.tab_no ?a) ?_; (case a => k_is)
      exact TL.tabs_nil
    have h_Apart : TL.HdTX KX mg "Apart" LW.hdt_Apart := by
      refine' TL.hdt_mk KX Gn ?a ?_; (case a => k_is)
      refine' TL.hdt_cons KX Gn ?a ?e ?_; (case a => k_is); (case e => first | k_is | rfl)
      refine' TL.hdt_cons KX Gn ?a ?e ?_; (case a => k_is); (case e => first | k_is | rfl)
      refine' TL.hdt_cons KX Gn ?a ?e ?_; (case a => k_is); (case e => first | k_is | rfl)
      refine' TL.hdt_cons KX Gn ?a ?e ?_; (case a => k_is); (case e => first | k_is | rfl)
      refine' TL.hdt_cons KX Gn ?a ?e ?_; (case a => k_is); (case e => first | k_is | rfl)
      exact TL.hdt_nil
    have h_Dry : TL.HdTX KX mg "Dry" LW.hdt_Dry := by
      refine' TL.hdt_mk KX Gn ?a ?_; (case a => k_is)
      refine' TL.hdt_cons KX Gn ?a ?e ?_; (case a => k_is); (case e => first | k_is | rfl)
      refine' TL.hdt_cons KX Gn ?a ?e ?_; (case a => k_is); (case e => first | k_is | rfl)
      refine' TL.hdt_cons KX Gn ?a ?e ?_; (case a => k_is); (case e => first | k_is | rfl)
      refine' TL.hdt_cons KX Gn ?a ?e ?_; (case a => k_is); (case e => first | k_is | rfl)
      refine' TL.hdt_cons KX Gn ?a ?e ?_; (case a => k_is); (case e => first | k_is | rfl)
      exact TL.hdt_nil
    have h_Empty : TL.HdTX KX mg "Empty" LW.hdt_Empty := by
      refine' TL.hdt_mk KX Gn ?a ?_; (case a => k_is)
      refine' TL.hdt_cons KX Gn ?a ?e ?_; (case a => k_is); (case e => first | k_is | rfl)
      refine' TL.hdt_cons KX Gn ?a ?e ?_; (case a => k_is); (case e => first | k_is | rfl)
      refine' TL.hdt_cons KX Gn ?a ?e ?_; (case a => k_is); (case e => first | k_is | rfl)
      refine' TL.hdt_cons KX Gn ?a ?e ?_; (case a => k_is); (case e => first | k_is | rfl)
      refine' TL.hdt_cons KX Gn ?a ?e ?_; (case a => k_is); (case e => first | k_is | rfl)
      exact TL.hdt_nil
    have h_NoBlock : TL.HdTX KX mg "NoBlock" LW.hdt_NoBlock := by
      refine' TL.hdt_mk KX Gn ?a ?_; (case a => k_is)
      refine' TL.hdt_cons KX Gn ?a ?e ?_; (case a => k_is); (case e => first | k_is | rfl)
      refine' TL.hdt_cons KX Gn ?a ?e ?_; (case a => k_is); (case e => first | k_is | rfl)
      refine' TL.hdt_cons KX Gn ?a ?e ?_; (case a => k_is); (case e => first | k_is | rfl)
      refine' TL.hdt_cons KX Gn ?a ?e ?_; (case a => k_is); (case e => first | k_is | rfl)
      refine' TL.hdt_cons KX Gn ?a ?e ?_; (case a => k_is); (case e => first | k_is | rfl)
      exact TL.hdt_nil
    have h_WrongKind : TL.HdTX KX mg "WrongKind" LW.hdt_WrongKind := by
      refine' TL.hdt_mk KX Gn ?a ?_; (case a => k_is)
      refine' TL.hdt_cons KX Gn ?a ?e ?_; (case a => k_is); (case e => first | k_is | rfl)
      refine' TL.hdt_cons KX Gn ?a ?e ?_; (case a => k_is); (case e => first | k_is | rfl)
      refine' TL.hdt_cons KX Gn ?a ?e ?_; (case a => k_is); (case e => first | k_is | rfl)
      refine' TL.hdt_cons KX Gn ?a ?e ?_; (case a => k_is); (case e => first | k_is | rfl)
      refine' TL.hdt_cons KX Gn ?a ?e ?_; (case a => k_is); (case e => first | k_is | rfl)
      exact TL.hdt_nil
    exact ⟨d_law, fun base f fd Fn => LW.ok_all ⟨z_all, z_bool, z_enumerate, z_int, z_isinstance, z_len, z_list, z_max, z_range, z_str, z_tuple, c_MODULUS, c_MOST_SIGNS, t_NEW_KIND, t_PUT, t_TOLD, t_WANTED, x_Apart, x_Dry, x_Empty, x_NoBlock, x_WrongKind, h_Apart, h_Dry, h_Empty, h_NoBlock, h_WrongKind, mt, d_law_draw, d_law_words, d_law_value, d_law_program, d_names_in, d_named_by, d_reach, d_block_of, d_lead_call, d_wanted, d_check, d_lead_if, d_added, d_multiplied, d_compared, d_joined, d_measured, d_shown, d_swapped, d_dropped, d_copied, d_put_by, d_kinds_put, d_lead_plain, d_lead, d_refusal, d_fault, d_let_by, d_ready_ones, d_height_within, d_height_by, d_height, d_M_begun, d_M_has_ended, d_M_leave, d_M__init__, d_Mover, d_kind_of, d_kinds_of, d_M_chosen, d_do, d_M_do, d_Mstep, d_run, d_law_run, d_law_alike, d_law_deep, d_law⟩ f fd Fn⟩

