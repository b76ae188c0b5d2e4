import PyProof.Rows.All
import Wide.All
import OpenK.AllK
import Wide.FinOn
import HandS.ForMost
import HandS.ForExc
import HandS.TupAny
import HandS.IsInst
import HandS.Wide
import HandS.Gcd
import HandS.ExcInit
import HandS.ExcField
import KE.KExcIs
import HandS.Iter
import HandS.Walk
import HandS.Zip
import KE.GoesEnum
import KE.GoesMore
import HandS.ExcOwn
import HandS.TupMul
import HandS.Conv
import HandS.Strs
import HandS.SetFor
import PyProof.ReprRoads
import HandS.Ends
import PySem.Challenge.RW_oncetwice_k01_wishes_judged_and_compared
set_option Elab.async false
set_option linter.all false
set_option maxRecDepth 100000
set_option maxHeartbeats 4000000
/-! An abstract layer: data D, environments of data by slot, and what readings do to them. -/
namespace Ab
open PySem L2
/-! ### 1. data -/
inductive D where
  | non | bl (b : Bool) | int (i : Int) | str (x : Str)
  | tup (xs : List D) | lst (xs : List D) | dic
  | obj (C : Addr) (ns : List Str) (vs : List D)
  | pool
  | ty (n : String) | cls (C : Addr)
  /-- the script -/
  | scr (ns : List Int)
/-- an exception of one's own: its class, its fields -/
structure Er where
  cls : Addr
  ns : List Str
  vs : List D
/-- what a slot holds: anything, data, a list of one's own -/
inductive B where
  | un | d (x : D) | own (xs : List D)
  /-- an object that is being made -/
  | ob (p C : Addr) (ns : List Str) (vs : List D)
  /-- a caught exception -/
  | exc (a : Addr) (cls : Value) (d : Option Addr) (er : Er)
/-- the context of a body: the written part, the pool's two lists, the heap and its still part at the entry -/
structure Cz where
  K : PySem.W.Frag
  pl : Option (Addr × Addr)
  H0 : Hp
  G0 : Hp
  W : WX
  X : Er → List B → Prop
/-- a call's own context -/
def Cz.at (Z : Cz) (H G : Hp) : Cz := ⟨Z.K, Z.pl, H, G, fun _ _ _ _ => True, fun _ _ => False⟩
def Ex (H H' : Hp) : Prop := ∀ a o, H a = some o → H' a = some o
theorem Ex.refl (H : Hp) : Ex H H := fun _ _ h => h
theorem Ex.trans {H H1 H2 : Hp} (a : Ex H H1) (b : Ex H1 H2) : Ex H H2 := fun x o h => b x o (a x o h)
theorem Ex.new {H : Hp} {p : Addr} {o : HO} (h : H p = none) : Ex H (upd H p o) := fun a u e => by
  rw [upd_ne (ne_of_none e h)]
  exact e
theorem Ex.back {H H' : Hp} (e : Ex H H') {p : Addr} (h : H' p = none) : H p = none := by
  cases q : H p with
  | none => rfl
  | some o => rw [e p o q] at h; cases h
theorem Ex.rd {H H' : Hp} {a : Addr} {u : HO} (e : Ex H H') (h : Rd H a u) : Rd H' a u := by
  rcases h with h | ⟨o, h⟩
  · exact Or.inl (e a _ h)
  · exact Or.inr ⟨o, e a _ h⟩
theorem Ex.sql {K : PySem.W.Frag} {H H' : Hp} {a : Addr} {xs : List V} (e : Ex H H') (h : SqL K H a xs) : SqL K H' a xs := by
  rcases h with h | h
  · exact Or.inl (e.rd h)
  · exact Or.inr h
theorem Ex.sqt {K : PySem.W.Frag} {H H' : Hp} {a : Addr} {xs : List V} (e : Ex H H') (h : SqT K H a xs) : SqT K H' a xs := by
  rcases h with h | h
  · exact Or.inl (e.rd h)
  · exact Or.inr h
mutual
/-- the value v stands for the data d, all of whose objects are in the still part G -/
inductive Rp (K : PySem.W.Frag) (pl : Option (Addr × Addr)) (G : Hp) : V → D → Prop
  | non : Rp K pl G .non .non
  | bl (b : Bool) : Rp K pl G (.bl b) (.bl b)
  | int (i : Int) : Rp K pl G (.int i) (.int i)
  | str (x : Str) : Rp K pl G (.str x) (.str x)
  | tup {a : Addr} {xs : List V} {ds : List D} : G a = some (.tup xs) → Rps K pl G xs ds → Rp K pl G (.ref a) (.tup ds)
  | lst {a : Addr} {xs : List V} {ds : List D} : G a = some (.lst xs) → Rps K pl G xs ds → Rp K pl G (.ref a) (.lst ds)
  | dic {a : Addr} : G a = some (.dK []) → Rp K pl G (.ref a) .dic
  | obj {a C dx : Addr} {ns : List Str} {xs : List V} {ds : List D} : G a = some (.ins C dx (ns.zip xs)) → ns.length = xs.length → Rps K pl G xs ds → Rp K pl G (.ref a) (.obj C ns ds)
  | pool {p c : Addr} : pl = some (p, c) → Rp K pl G (.ref p) .pool
  | ty (n : String) : Rp K pl G (.ty n) (.ty n)
  | cls (C : Addr) : Rp K pl G (.ref C) (.cls C)
  | scr {a : Addr} {ns : List Int} : SqL K G a (ns.map V.int) → Rp K pl G (.ref a) (.scr ns)
inductive Rps (K : PySem.W.Frag) (pl : Option (Addr × Addr)) (G : Hp) : List V → List D → Prop
  | nil : Rps K pl G [] []
  | cons {v : V} {d : D} {vs : List V} {ds : List D} : Rp K pl G v d → Rps K pl G vs ds → Rps K pl G (v :: vs) (d :: ds)
end
section
variable {K : PySem.W.Frag} {pl : Option (Addr × Addr)} {G G' : Hp}
mutual
theorem Rp.mono (e : Ex G G') : ∀ {v : V} {d : D}, Rp K pl G v d → Rp K pl G' v d
  | _, _, .non => .non
  | _, _, .bl b => .bl b
  | _, _, .int i => .int i
  | _, _, .str x => .str x
  | _, _, .tup h r => .tup (e _ _ h) (Rps.mono e r)
  | _, _, .lst h r => .lst (e _ _ h) (Rps.mono e r)
  | _, _, .dic h => .dic (e _ _ h)
  | _, _, .obj h l r => .obj (e _ _ h) l (Rps.mono e r)
  | _, _, .pool h => .pool h
  | _, _, .ty n => .ty n
  | _, _, .cls C => .cls C
  | _, _, .scr h => .scr (e.sql h)
theorem Rps.mono (e : Ex G G') : ∀ {vs : List V} {ds : List D}, Rps K pl G vs ds → Rps K pl G' vs ds
  | _, _, .nil => .nil
  | _, _, .cons h r => .cons (Rp.mono e h) (Rps.mono e r)
end
theorem Rps.length : ∀ {vs : List V} {ds : List D}, Rps K pl G vs ds → vs.length = ds.length
  | _, _, .nil => rfl
  | _, _, .cons _ r => by simp [Rps.length r]
theorem Rps.get : ∀ {vs : List V} {ds : List D} {i : Nat} {d : D}, Rps K pl G vs ds → ds[i]? = some d → ∃ v, vs[i]? = some v ∧ Rp K pl G v d
  | _, _, _, _, .nil, e => by simp at e
  | _, _, 0, _, .cons h _, e => by simp at e; subst e; exact ⟨_, rfl, h⟩
  | _, _, i + 1, _, .cons _ r, e => by
    obtain ⟨v, q, z⟩ := Rps.get (i := i) r (by simpa using e)
    exact ⟨v, by simpa using q, z⟩
theorem Rps.getV : ∀ {vs : List V} {ds : List D} {i : Nat} {v : V}, Rps K pl G vs ds → vs[i]? = some v → ∃ d, ds[i]? = some d ∧ Rp K pl G v d
  | _, _, _, _, .nil, e => by simp at e
  | _, _, 0, _, .cons h _, e => by simp at e; subst e; exact ⟨_, rfl, h⟩
  | _, _, i + 1, _, .cons _ r, e => by
    obtain ⟨v, q, z⟩ := Rps.getV (i := i) r (by simpa using e)
    exact ⟨v, by simpa using q, z⟩
theorem Rps.append : ∀ {vs ws : List V} {ds es : List D}, Rps K pl G vs ds → Rps K pl G ws es → Rps K pl G (vs ++ ws) (ds ++ es)
  | _, _, _, _, .nil, s => s
  | _, _, _, _, .cons h r, s => .cons h (Rps.append r s)
theorem Rps.set {v : V} {d : D} (h : Rp K pl G v d) : ∀ {vs : List V} {ds : List D} (i : Nat), Rps K pl G vs ds → Rps K pl G (vs.set i v) (ds.set i d)
  | _, _, _, .nil => .nil
  | _, _, 0, .cons _ r => .cons h r
  | _, _, i + 1, .cons q r => .cons q (Rps.set h i r)
theorem Rps.take : ∀ {vs : List V} {ds : List D} (n : Nat), Rps K pl G vs ds → Rps K pl G (vs.take n) (ds.take n)
  | _, _, 0, _ => .nil
  | _, _, _ + 1, .nil => .nil
  | _, _, n + 1, .cons h r => .cons h (Rps.take n r)
theorem Rps.drop : ∀ {vs : List V} {ds : List D} (n : Nat), Rps K pl G vs ds → Rps K pl G (vs.drop n) (ds.drop n)
  | _, _, 0, r => r
  | _, _, _ + 1, .nil => .nil
  | _, _, n + 1, .cons _ r => Rps.drop n r
theorem Rps.eraseIdx : ∀ {vs : List V} {ds : List D} (i : Nat), Rps K pl G vs ds → Rps K pl G (vs.eraseIdx i) (ds.eraseIdx i)
  | _, _, _, .nil => .nil
  | _, _, 0, .cons _ r => r
  | _, _, i + 1, .cons q r => .cons q (Rps.eraseIdx i r)
theorem Rps.one {v : V} {d : D} (h : Rp K pl G v d) : Rps K pl G [v] [d] := .cons h .nil
theorem Rps.reverse : ∀ {vs : List V} {ds : List D}, Rps K pl G vs ds → Rps K pl G vs.reverse ds.reverse
  | _, _, .nil => .nil
  | _, _, .cons h r => by simp only [List.reverse_cons]; exact (Rps.reverse r).append (.one h)
theorem Rps.replicate {v : V} {d : D} (h : Rp K pl G v d) : ∀ n, Rps K pl G (List.replicate n v) (List.replicate n d)
  | 0 => .nil
  | n + 1 => .cons h (Rps.replicate h n)
theorem Rps.flat {vs : List V} {ds : List D} (h : Rps K pl G vs ds) : ∀ n, Rps K pl G (List.replicate n vs).flatten (List.replicate n ds).flatten
  | 0 => .nil
  | n + 1 => by simp only [List.replicate_succ, List.flatten_cons]; exact h.append (Rps.flat h n)
end
/-! ### 2. the state: the still part G within H, the frame, the pool -/
def PoolOk (H0 G H : Hp) (pl : Option (Addr × Addr)) : Prop := ∀ p c, pl = some (p, c) →
  p ≠ c ∧ G p = none ∧ G c = none ∧ (∃ o, H0 p = some o) ∧ (∃ o, H0 c = some o) ∧
  ∃ (seed k : Int) (ns : List Int), H p = some (.lst [.int seed, .int k, .ref c]) ∧ H c = some (.lst (ns.map V.int)) ∧ 0 ≤ seed ∧ seed < 2147483647 ∧ 0 ≤ k ∧ (∀ n ∈ ns, 0 ≤ n) ∧ ns.length ≤ 63
structure J0 (Z : Cz) (G H : Hp) : Prop where
  sub : Ex G H
  g0 : Ex Z.G0 G
  out : ∀ a o, Z.H0 a = some o → Z.G0 a = none → G a = none
  fr : ∀ a o, Z.H0 a = some o → (∀ p c, Z.pl = some (p, c) → a ≠ p ∧ a ≠ c) → H a = some o
  pool : PoolOk Z.H0 G H Z.pl
theorem J0.new {Z : Cz} {G H : Hp} {p : Addr} {o : HO} (j : J0 Z G H) (h : H p = none) : J0 Z (upd G p o) (upd H p o) where
  sub := fun a u e => by
    by_cases q : a = p
    · subst q; rw [upd_same] at e ⊢; exact e
    · rw [upd_ne q] at e ⊢; exact j.sub a u e
  g0 := j.g0.trans (Ex.new (j.sub.back h))
  out := fun a u e n => by
    by_cases q : a = p
    · subst q
      have z : Z.H0 a = none := by
        cases w : Z.H0 a with
        | none => rfl
        | some v =>
          by_cases x : ∃ p c, Z.pl = some (p, c) ∧ (a = p ∨ a = c)
          · obtain ⟨p, c, e1, e2⟩ := x
            obtain ⟨_, _, _, _, _, s, k, ns, h1, h2, _⟩ := j.pool p c e1
            rcases e2 with rfl | rfl
            · rw [h] at h1; cases h1
            · rw [h] at h2; cases h2
          · rw [j.fr a v w (fun p c e1 => ⟨fun z => x ⟨p, c, e1, .inl z⟩, fun z => x ⟨p, c, e1, .inr z⟩⟩)] at h; cases h
      rw [z] at e; cases e
    · rw [upd_ne q]; exact j.out a u e n
  fr := fun a u e n => by
    have z := j.fr a u e n
    rw [upd_ne (ne_of_none z h)]; exact z
  pool := fun p' c' e => by
    obtain ⟨h0, h1, h2, h3, h4, s, k, ns, h5, h6, h7⟩ := j.pool p' c' e
    refine ⟨h0, ?_, ?_, h3, h4, s, k, ns, ?_, ?_, h7⟩
    · rw [upd_ne (ne_of_none h5 h)]; exact h1
    · rw [upd_ne (ne_of_none h6 h)]; exact h2
    · rw [upd_ne (ne_of_none h5 h)]; exact h5
    · rw [upd_ne (ne_of_none h6 h)]; exact h6
/-- what is not tracked now was not tracked at the entry -/
theorem J0.old {Z : Cz} {G H : Hp} {a : Addr} (j : J0 Z G H) (h : H a = none) : Z.H0 a = none := by
  cases w : Z.H0 a with
  | none => rfl
  | some v =>
    by_cases x : ∃ p c, Z.pl = some (p, c) ∧ (a = p ∨ a = c)
    · obtain ⟨p, c, e1, e2⟩ := x
      obtain ⟨_, _, _, _, _, s, k, ns, h1, h2, _⟩ := j.pool p c e1
      rcases e2 with rfl | rfl
      · rw [h] at h1; cases h1
      · rw [h] at h2; cases h2
    · rw [j.fr a v w (fun p c e1 => ⟨fun z => x ⟨p, c, e1, .inl z⟩, fun z => x ⟨p, c, e1, .inr z⟩⟩)] at h; cases h
/-- an object that came behind the entry, out of the still part, may change -/
theorem J0.put {Z : Cz} {G H : Hp} {a : Addr} {o : HO} (j : J0 Z G H) (h0 : Z.H0 a = none) (hg : G a = none) : J0 Z G (upd H a o) where
  sub := fun b u e => by rw [upd_ne (ne_of_none e hg)]; exact j.sub b u e
  g0 := j.g0
  out := j.out
  fr := fun b u e n => by rw [upd_ne (ne_of_none e h0)]; exact j.fr b u e n
  pool := fun p' c' e => by
    obtain ⟨z0, z1, z2, ⟨o1, z3⟩, ⟨o2, z4⟩, s, k, ns, z5, z6, z7⟩ := j.pool p' c' e
    refine ⟨z0, z1, z2, ⟨o1, z3⟩, ⟨o2, z4⟩, s, k, ns, ?_, ?_, z7⟩
    · rw [upd_ne (ne_of_none z3 h0)]; exact z5
    · rw [upd_ne (ne_of_none z4 h0)]; exact z6
/-- what came behind the entry joins the still part -/
theorem J0.still {Z : Cz} {G H : Hp} {a : Addr} {o : HO} (j : J0 Z G H) (h0 : Z.H0 a = none) (ha : H a = some o) (hg : G a = none) : J0 Z (upd G a o) H where
  sub := fun b u e => by
    by_cases q : b = a
    · subst q; rw [upd_same] at e; cases e; exact ha
    · rw [upd_ne q] at e; exact j.sub b u e
  g0 := j.g0.trans (Ex.new hg)
  out := fun b u e n => by
    have q : b ≠ a := ne_of_none e h0
    rw [upd_ne q]; exact j.out b u e n
  fr := j.fr
  pool := fun p' c' e => by
    obtain ⟨z0, z1, z2, ⟨o1, z3⟩, ⟨o2, z4⟩, z⟩ := j.pool p' c' e
    refine ⟨z0, ?_, ?_, ⟨o1, z3⟩, ⟨o2, z4⟩, z⟩
    · rw [upd_ne (ne_of_none z3 h0)]; exact z1
    · rw [upd_ne (ne_of_none z4 h0)]; exact z2
/-- a call: its own entry is the state at hand -/
theorem J0.enter {Z : Cz} {G H : Hp} (j : J0 Z G H) : J0 (Z.at H G) G H where
  sub := j.sub
  g0 := Ex.refl G
  out := fun _ _ _ n => n
  fr := fun _ _ e _ => e
  pool := fun p c e => by
    obtain ⟨z0, z1, z2, _, _, s, k, ns, z5, z6, z7⟩ := j.pool p c e
    exact ⟨z0, z1, z2, ⟨_, z5⟩, ⟨_, z6⟩, s, k, ns, z5, z6, z7⟩
theorem J0.leave {Z : Cz} {G H G' H' : Hp} (j : J0 Z G H) (i : J0 (Z.at H G) G' H') : J0 Z G' H' where
  sub := i.sub
  g0 := j.g0.trans i.g0
  out := fun a o e n => by
    have z := j.out a o e n
    by_cases x : ∃ p c, Z.pl = some (p, c) ∧ (a = p ∨ a = c)
    · obtain ⟨p, c, e1, e2⟩ := x
      obtain ⟨_, h1, h2, _⟩ := i.pool p c e1
      rcases e2 with rfl | rfl
      · exact h1
      · exact h2
    · exact i.out a o (j.fr a o e fun p c e1 => ⟨fun z => x ⟨p, c, e1, .inl z⟩, fun z => x ⟨p, c, e1, .inr z⟩⟩) z
  fr := fun a o e n => i.fr a o (j.fr a o e n) n
  pool := fun p c e => by
    obtain ⟨z0, z1, z2, _, _, s, k, ns, z5, z6, z7⟩ := i.pool p c e
    obtain ⟨_, _, _, z3, z4, _⟩ := j.pool p c e
    exact ⟨z0, z1, z2, z3, z4, s, k, ns, z5, z6, z7⟩
/-! ### 3. environments -/
def IsOwn : Option B → Prop
  | some (.own _) => True
  | some (.ob _ _ _ _) => True
  | _ => False
structure RpEr0 (K : PySem.W.Frag) (pl : Option (Addr × Addr)) (G : Hp) (cls : Value) (d : Option Addr) (er : Er) : Prop where
  c : cls = .ref er.cls
  f : (d = none ∧ er.ns = [] ∧ er.vs = []) ∨ ∃ dd xs, d = some dd ∧ G dd = some (.xd (er.ns.zip xs)) ∧ er.ns.length = xs.length ∧ Rps K pl G xs er.vs
theorem RpEr0.mono {K : PySem.W.Frag} {pl : Option (Addr × Addr)} {G G' : Hp} {cls : Value} {d : Option Addr} {er : Er} (h : RpEr0 K pl G cls d er) (e : Ex G G') : RpEr0 K pl G' cls d er :=
  ⟨h.c, h.f.imp id fun ⟨dd, xs, h1, h2, h3, h4⟩ => ⟨dd, xs, h1, e _ _ h2, h3, h4.mono e⟩⟩
def BOk (Z : Cz) (G H : Hp) (v : Option V) : B → Prop
  | .un => True
  | .d x => ∃ u, v = some u ∧ Rp Z.K Z.pl G u x
  | .own xs => ∃ l vs, v = some (.ref l) ∧ H l = some (.lst vs) ∧ Rps Z.K Z.pl G vs xs ∧ G l = none ∧ Z.H0 l = none
  | .ob p C ns vs => ∃ dx xs, v = some (.ref p) ∧ H p = some (.ins C dx (ns.zip xs)) ∧ ns.length = xs.length ∧ Rps Z.K Z.pl G xs vs ∧ G p = none ∧ Z.H0 p = none
  | .exc a cls d er => v = some (.ref a) ∧ RpEr0 Z.K Z.pl G cls d er
structure En (Z : Cz) (G H : Hp) (σ : L2.St) (Γ : List B) : Prop where
  len : σ.length = Γ.length
  at_ : ∀ (i : Nat) b, Γ[i]? = some b → ∃ v, σ[i]? = some v ∧ BOk Z G H v b
  dis : ∀ (i j : Nat) l, IsOwn Γ[i]? → IsOwn Γ[j]? → σ[i]? = some (some (.ref l)) → σ[j]? = some (some (.ref l)) → i = j
theorem BOk.mono {Z : Cz} {G H G' H' : Hp} {v : Option V} {b : B} (h : BOk Z G H v b) (e : Ex G G') (k : ∀ l o, H l = some o → G l = none → Z.H0 l = none → v = some (.ref l) → IsOwn (some b) → H' l = some o ∧ G' l = none) : BOk Z G' H' v b := by
  cases b with
  | un => trivial
  | d x => obtain ⟨u, h1, h2⟩ := h; exact ⟨u, h1, h2.mono e⟩
  | own xs =>
    obtain ⟨l, vs, h1, h2, h3, h4, h5⟩ := h
    obtain ⟨k1, k2⟩ := k l _ h2 h4 h5 h1 trivial
    exact ⟨l, vs, h1, k1, h3.mono e, k2, h5⟩
  | ob p C ns vs =>
    obtain ⟨dx, xs, h1, h2, h3, h4, h5, h6⟩ := h
    obtain ⟨k1, k2⟩ := k p _ h2 h5 h6 h1 trivial
    exact ⟨dx, xs, h1, k1, h3, h4.mono e, k2, h6⟩
  | exc a cls d er => exact ⟨h.1, h.2.mono e⟩
theorem En.mono {Z : Cz} {G H G' H' : Hp} {σ : L2.St} {Γ : List B} (h : En Z G H σ Γ) (e : Ex G G') (k : ∀ l o, H l = some o → G l = none → Z.H0 l = none → (∃ i : Nat, IsOwn Γ[i]? ∧ σ[i]? = some (some (.ref l))) → H' l = some o ∧ G' l = none) : En Z G' H' σ Γ where
  len := h.len
  at_ := fun i b q => by
    obtain ⟨v, h1, h2⟩ := h.at_ i b q
    exact ⟨v, h1, h2.mono e fun l o a1 a2 a3 a4 a5 => k l o a1 a2 a3 ⟨i, by rw [q]; exact a5, by rw [h1, a4]⟩⟩
  dis := h.dis
/-- a new object -/
theorem En.new {Z : Cz} {G H : Hp} {σ : L2.St} {Γ : List B} {p : Addr} {o : HO} (h : En Z G H σ Γ) (j : J0 Z G H) (n : H p = none) : En Z (upd G p o) (upd H p o) σ Γ :=
  h.mono (Ex.new (j.sub.back n)) fun l u a1 a2 _ _ => by
    have q : l ≠ p := ne_of_none a1 n
    rw [upd_ne q, upd_ne q]; exact ⟨a1, a2⟩
/-- a new object out of the still part -/
theorem En.newM {Z : Cz} {G H : Hp} {σ : L2.St} {Γ : List B} {p : Addr} {o : HO} (h : En Z G H σ Γ) (n : H p = none) : En Z G (upd H p o) σ Γ :=
  h.mono (Ex.refl _) fun l u a1 a2 _ _ => by
    have q : l ≠ p := ne_of_none a1 n
    rw [upd_ne q]; exact ⟨a1, a2⟩
/-- behind a call -/
theorem En.called {Z : Cz} {G H G' H' : Hp} {σ : L2.St} {Γ : List B} (h : En Z G H σ Γ) (j : J0 Z G H) (i : J0 (Z.at H G) G' H') : En Z G' H' σ Γ :=
  h.mono i.g0 fun l o a1 a2 a3 _ => by
    have np : ∀ p c, Z.pl = some (p, c) → l ≠ p ∧ l ≠ c := fun p c e => by
      obtain ⟨_, _, _, ⟨o1, z3⟩, ⟨o2, z4⟩, _⟩ := j.pool p c e
      exact ⟨fun z => (by rw [z, z3] at a3; cases a3), fun z => (by rw [z, z4] at a3; cases a3)⟩
    exact ⟨i.fr l o a1 np, i.out l o a1 a2⟩
/-- another variable's value -/
theorem En.set {Z : Cz} {G H : Hp} {σ : L2.St} {Γ : List B} {i : Nat} {v : V} {b : B} (h : En Z G H σ Γ) (hv : BOk Z G H (some v) b) (hd : ∀ l, IsOwn (some b) → v = .ref l → ∀ j, j ≠ i → IsOwn Γ[j]? → σ[j]? ≠ some (some (.ref l))) : En Z G H (σ.set i (some v)) (Γ.set i b) where
  len := by rw [List.length_set, List.length_set]; exact h.len
  at_ := fun k b' q => by
    by_cases e : i = k
    · subst e
      by_cases hi : i < Γ.length
      · rw [List.getElem?_set_self hi] at q; cases q
        exact ⟨_, List.getElem?_set_self (by rw [h.len]; exact hi), hv⟩
      · rw [List.getElem?_eq_none (by rw [List.length_set]; omega)] at q; cases q
    · rw [List.getElem?_set_ne e] at q ⊢
      exact h.at_ k b' q
  dis := fun k m l o1 o2 e1 e2 => by
    by_cases hk : i = k
    · by_cases hm : i = m
      · rw [← hk, ← hm]
      · subst hk
        rw [List.getElem?_set_ne hm] at o2 e2
        by_cases hi : i < Γ.length
        · rw [List.getElem?_set_self hi] at o1
          rw [List.getElem?_set_self (by rw [h.len]; exact hi)] at e1
          exact absurd e2 (hd l o1 (Option.some.inj (Option.some.inj e1)) m (fun z => hm z.symm) o2)
        · rw [List.getElem?_eq_none (by rw [List.length_set]; omega)] at o1; exact o1.elim
    · by_cases hm : i = m
      · subst hm
        rw [List.getElem?_set_ne hk] at o1 e1
        by_cases hi : i < Γ.length
        · rw [List.getElem?_set_self hi] at o2
          rw [List.getElem?_set_self (by rw [h.len]; exact hi)] at e2
          exact absurd e1 (hd l o2 (Option.some.inj (Option.some.inj e2)) k (fun z => hk z.symm) o1)
        · rw [List.getElem?_eq_none (by rw [List.length_set]; omega)] at o2; exact o2.elim
      · rw [List.getElem?_set_ne hk] at o1 e1
        rw [List.getElem?_set_ne hm] at o2 e2
        exact h.dis k m l o1 o2 e1 e2
theorem En.setD {Z : Cz} {G H : Hp} {σ : L2.St} {Γ : List B} {i : Nat} {v : V} {x : D} (h : En Z G H σ Γ) (hv : Rp Z.K Z.pl G v x) : En Z G H (σ.set i (some v)) (Γ.set i (.d x)) :=
  h.set ⟨v, rfl, hv⟩ fun _ o => o.elim
theorem En.un {Z : Cz} {G H : Hp} {σ σ' : L2.St} {Γ : List B} {i : Nat} (h : En Z G H σ Γ) (e : ∀ k, k ≠ i → σ'[k]? = σ[k]?) (hl : σ'.length = σ.length) : En Z G H σ' (Γ.set i .un) where
  len := by rw [List.length_set, hl]; exact h.len
  at_ := fun k b q => by
    by_cases hk : i = k
    · subst hk
      by_cases hi : i < Γ.length
      · rw [List.getElem?_set_self hi] at q; cases q
        exact ⟨σ'[i]'(by rw [hl, h.len]; exact hi), by simp, trivial⟩
      · rw [List.getElem?_eq_none (by rw [List.length_set]; omega)] at q; cases q
    · rw [List.getElem?_set_ne hk] at q
      rw [e k (Ne.symm hk)]
      exact h.at_ k b q
  dis := fun k m l o1 o2 e1 e2 => by
    have hk : i ≠ k := fun z => by
      subst z
      by_cases hi : i < Γ.length
      · rw [List.getElem?_set_self hi] at o1; exact o1.elim
      · rw [List.getElem?_eq_none (by rw [List.length_set]; omega)] at o1; exact o1.elim
    have hm : i ≠ m := fun z => by
      subst z
      by_cases hi : i < Γ.length
      · rw [List.getElem?_set_self hi] at o2; exact o2.elim
      · rw [List.getElem?_eq_none (by rw [List.length_set]; omega)] at o2; exact o2.elim
    rw [List.getElem?_set_ne hk] at o1
    rw [List.getElem?_set_ne hm] at o2
    rw [e k (Ne.symm hk)] at e1
    rw [e m (Ne.symm hm)] at e2
    exact h.dis k m l o1 o2 e1 e2
/-! ### 4. what may be raised, and the whole state -/
abbrev RpEr (Z : Cz) (G : Hp) (cls : Value) (d : Option Addr) (er : Er) : Prop := RpEr0 Z.K Z.pl G cls d er
def WAcc (Z : Cz) (G : Hp) : Prop := ∀ er cls d σ G' H' Γ, Z.X er Γ → Ex G G' → J0 Z G' H' → En Z G' H' σ Γ → RpEr Z G' cls d er → Z.W cls d σ H'
theorem WAcc.mono {Z : Cz} {G G' : Hp} (w : WAcc Z G) (x : Ex G G') : WAcc Z G' := fun er cls d σ G2 H2 Γ h y => w er cls d σ G2 H2 Γ h (x.trans y)
structure J (Z : Cz) (G H : Hp) : Prop extends J0 Z G H where
  acc : WAcc Z G
section
variable {Z : Cz} {G H : Hp}
theorem J.new {p : Addr} {o : HO} (j : J Z G H) (h : H p = none) : J Z (upd G p o) (upd H p o) := ⟨j.toJ0.new h, j.acc.mono (Ex.new (j.sub.back h))⟩
theorem J.old {a : Addr} (j : J Z G H) (h : H a = none) : Z.H0 a = none := j.toJ0.old h
theorem J.put {a : Addr} {o : HO} (j : J Z G H) (h0 : Z.H0 a = none) (hg : G a = none) : J Z G (upd H a o) := ⟨j.toJ0.put h0 hg, j.acc⟩
theorem J.still {a : Addr} {o : HO} (j : J Z G H) (h0 : Z.H0 a = none) (ha : H a = some o) (hg : G a = none) : J Z (upd G a o) H := ⟨j.toJ0.still h0 ha hg, j.acc.mono (Ex.new hg)⟩
theorem J.enter (j : J Z G H) : J (Z.at H G) G H := ⟨j.toJ0.enter, fun _ _ _ _ _ _ _ h => h.elim⟩
theorem J.leave {G' H' : Hp} (j : J Z G H) (i : J (Z.at H G) G' H') : J Z G' H' := ⟨j.toJ0.leave i.toJ0, j.acc.mono i.g0⟩
end
end Ab
namespace Ab
open PySem L2
/-! ### 4. judgements -/
def NotPl (Z : Cz) (a : Addr) : Prop := ∀ p c, Z.pl = some (p, c) → a ≠ p ∧ a ≠ c
/-- what an expression's evaluation leaves as it was -/
structure Sp1 (Z : Cz) (σ : L2.St) (Γ Γ' : List B) (G H G' H' : Hp) : Prop where
  ex : Ex G G'
  own : ∀ i : Nat, IsOwn Γ'[i]? → IsOwn Γ[i]?
  fr : ∀ a o, H a = some o → NotPl Z a → (∀ i : Nat, IsOwn Γ[i]? → σ[i]? ≠ some (some (.ref a))) → H' a = some o ∧ (G a = none → G' a = none)
  tr : ∀ a o, H a = some o → ∃ o', H' a = some o'
theorem Sp1.back {Z : Cz} {σ : L2.St} {Γ Γ' : List B} {G H G' H' : Hp} (s : Sp1 Z σ Γ Γ' G H G' H') {a : Addr} (h : H' a = none) : H a = none := by
  cases q : H a with
  | none => rfl
  | some o => obtain ⟨o', z⟩ := s.tr a o q; rw [h] at z; cases z
theorem Sp1.refl {Z : Cz} {σ : L2.St} {Γ : List B} {G H : Hp} : Sp1 Z σ Γ Γ G H G H := ⟨Ex.refl _, fun _ h => h, fun _ _ h _ _ => ⟨h, fun x => x⟩, fun _ o h => ⟨o, h⟩⟩
theorem Sp1.trans {Z : Cz} {σ : L2.St} {Γ Γ1 Γ2 : List B} {G H G1 H1 G2 H2 : Hp} (a : Sp1 Z σ Γ Γ1 G H G1 H1) (b : Sp1 Z σ Γ1 Γ2 G1 H1 G2 H2) : Sp1 Z σ Γ Γ2 G H G2 H2 :=
  ⟨a.ex.trans b.ex, fun i h => a.own i (b.own i h), fun x o h n w => by
    obtain ⟨h1, g1⟩ := a.fr x o h n w
    obtain ⟨h2, g2⟩ := b.fr x o h1 n fun i z => w i (a.own i z)
    exact ⟨h2, fun z => g2 (g1 z)⟩, fun x o h => (a.tr x o h).elim fun o' h' => b.tr x o' h'⟩
/-- of a call or an operator: all that was there is kept -/
theorem Sp1.of {Z : Cz} {σ : L2.St} {Γ : List B} {G H G' H' : Hp} (i : J (Z.at H G) G' H') : Sp1 Z σ Γ Γ G H G' H' :=
  ⟨i.g0, fun _ h => h, fun a o h n _ => ⟨i.fr a o h n, fun z => i.out a o h z⟩, fun a o h => by
    by_cases np : NotPl Z a
    · exact ⟨o, i.fr a o h np⟩
    · cases q : H' a with
      | some o' => exact ⟨o', rfl⟩
      | none =>
        exfalso; apply np; intro p c e1
        obtain ⟨_, _, _, _, _, s, k, ns, h1, h2, _⟩ := i.pool p c e1
        exact ⟨fun z => by (rw [z, h1] at q; cases q), fun z => by (rw [z, h2] at q; cases q)⟩⟩
theorem En.noown {Z : Cz} {G H : Hp} {σ : L2.St} {Γ : List B} (e : En Z G H σ Γ) {l : Addr} (hn : H l = none) (i : Nat) (o : IsOwn Γ[i]?) : σ[i]? ≠ some (some (.ref l)) := fun z => by
  cases hb : Γ[i]? with
  | none => rw [hb] at o; exact o.elim
  | some b =>
    cases b with
    | own xs =>
      obtain ⟨v, a1, l', vs', a2, a3, _⟩ := e.at_ i _ hb
      rw [z] at a1; cases a1; cases a2
      rw [hn] at a3; cases a3
    | ob p C ns vs =>
      obtain ⟨v, a1, dx, xs, a2, a3, _⟩ := e.at_ i _ hb
      rw [z] at a1; cases a1; cases a2
      rw [hn] at a3; cases a3
    | un => rw [hb] at o; exact o.elim
    | d x => rw [hb] at o; exact o.elim
    | exc a cls d er => rw [hb] at o; exact o.elim
def Den (Z : Cz) (te : TE) (Γ : List B) (Q : D → List B → Prop) : Prop :=
  ∀ (σ : L2.St) (G H : Hp), J Z G H → En Z G H σ Γ → ∀ k : VK, (∀ d Γ' v G' H', Q d Γ' → Sp1 Z σ Γ Γ' G H G' H' → J Z G' H' → En Z G' H' σ Γ' → Rp Z.K Z.pl G' v d → k v H') → te σ H k
def DenT (Z : Cz) (te : TT) (Γ : List B) (Q : Bool → List B → Prop) : Prop :=
  ∀ (σ : L2.St) (G H : Hp), J Z G H → En Z G H σ Γ → ∀ k : Bool → Hp → Prop, (∀ b Γ' G' H', Q b Γ' → Sp1 Z σ Γ Γ' G H G' H' → J Z G' H' → En Z G' H' σ Γ' → k b H') → te σ H k
def DenA (Z : Cz) (ta : TA) (Γ : List B) (Q : List D → List B → Prop) : Prop :=
  ∀ (σ : L2.St) (G H : Hp), J Z G H → En Z G H σ Γ → ∀ k : List V → Hp → Prop, (∀ ds Γ' vs G' H', Q ds Γ' → Sp1 Z σ Γ Γ' G H G' H' → J Z G' H' → En Z G' H' σ Γ' → Rps Z.K Z.pl G' vs ds → k vs H') → ta σ H k
/-- l is a list of one's own that no slot holds -/
structure Fresh (Z : Cz) (G H : Hp) (σ : L2.St) (Γ : List B) (l : Addr) : Prop where
  g : G l = none
  h0 : Z.H0 l = none
  no : ∀ i : Nat, IsOwn Γ[i]? → σ[i]? ≠ some (some (.ref l))
/-- an expression whose value is a new list -/
def DenL (Z : Cz) (te : TE) (Γ : List B) (Q : List D → List B → Prop) : Prop :=
  ∀ (σ : L2.St) (G H : Hp), J Z G H → En Z G H σ Γ → ∀ k : VK, (∀ ds Γ' l vs G' H', Q ds Γ' → Sp1 Z σ Γ Γ' G H G' H' → J Z G' H' → En Z G' H' σ Γ' → H' l = some (.lst vs) → Rps Z.K Z.pl G' vs ds → Fresh Z G' H' σ Γ' l → H l = none → k (.ref l) H') → te σ H k
def DenG (Z : Cz) (g : TG) (x : D) (Γ : List B) (Q : List B → Prop) : Prop :=
  ∀ (σ : L2.St) (G H : Hp) (v : V), J Z G H → En Z G H σ Γ → Rp Z.K Z.pl G v x → ∀ k : L2.St → Hp → Prop, (∀ Γ' σ', Q Γ' → En Z G H σ' Γ' → k σ' H) → g v σ H k
def DenGs (Z : Cz) (g : TGs) (xs : List D) (Γ : List B) (Q : List B → Prop) : Prop :=
  ∀ (σ : L2.St) (G H : Hp) (vs : List V), J Z G H → En Z G H σ Γ → Rps Z.K Z.pl G vs xs → ∀ k : L2.St → Hp → Prop, (∀ Γ' σ', Q Γ' → En Z G H σ' Γ' → k σ' H) → g vs σ H k
/-- statements -/
structure Po where
  N : List B → Prop
  R : D → Prop
  Bk : List B → Prop := fun _ => False
  Ct : List B → Prop := fun _ => False
structure Ende (Z : Cz) (P : Po) (G0 : Hp) (De : Ends) : Prop where
  n : ∀ Γ σ G H, P.N Γ → Ex G0 G → J Z G H → En Z G H σ Γ → De.nx σ H
  r : ∀ x v G H, P.R x → Ex G0 G → J Z G H → Rp Z.K Z.pl G v x → De.rt v H
  b : ∀ Γ σ G H, P.Bk Γ → Ex G0 G → J Z G H → En Z G H σ Γ → De.bk σ H
  c : ∀ Γ σ G H, P.Ct Γ → Ex G0 G → J Z G H → En Z G H σ Γ → De.ct σ H
theorem Ende.up {Z : Cz} {P : Po} {G G' : Hp} {De : Ends} (d : Ende Z P G De) (x : Ex G G') : Ende Z P G' De :=
  ⟨fun Γ σ G H a y => d.n Γ σ G H a (x.trans y), fun z v G H a y => d.r z v G H a (x.trans y), fun Γ σ G H a y => d.b Γ σ G H a (x.trans y), fun Γ σ G H a y => d.c Γ σ G H a (x.trans y)⟩
def DenS (Z : Cz) (ts : TS) (Γ : List B) (P : Po) : Prop :=
  ∀ (σ : L2.St) (G H : Hp), J Z G H → En Z G H σ Γ → ∀ De : Ends, Ende Z P G De → ts De σ H
/-- what a walk goes over -/
structure Its (Z : Cz) (G : Hp) (Jt : It) (ds : List D) : Prop where
  go : ∀ G' H' i, Ex G G' → J Z G' H' → i < ds.length → Jt.go i H'
  stop : ∀ G' H', Ex G G' → J Z G' H' → Jt.stop ds.length H'
  yld : ∀ G' H' i x H'', Ex G G' → J Z G' H' → i < ds.length → Jt.yld i H' x H'' → ∃ G'' d, ds[i]? = some d ∧ J (Z.at H' G') G'' H'' ∧ Rp Z.K Z.pl G'' x d
def DenI (Z : Cz) (wi : TI) (Γ : List B) (Q : List D → List B → Prop) : Prop :=
  ∀ (σ : L2.St) (G H : Hp), J Z G H → En Z G H σ Γ → ∀ k : It → Hp → Prop, (∀ ds Γ' Jt G' H', Q ds Γ' → Sp1 Z σ Γ Γ' G H G' H' → J Z G' H' → En Z G' H' σ Γ' → Its Z G' Jt ds → k Jt H') → wi σ H k
/-- operators and calls by data -/
def OpD (Z : Cz) (r : R2) (x y : D) (Q : D → Prop) : Prop :=
  ∀ (G H : Hp) (vx vy : V), J Z G H → Rp Z.K Z.pl G vx x → Rp Z.K Z.pl G vy y → ∀ k : VK, (∀ d v G' H', Q d → J (Z.at H G) G' H' → Rp Z.K Z.pl G' v d → k v H') → r vx vy H k
def OpL (Z : Cz) (r : R2) (x y : D) (Q : List D → Prop) : Prop :=
  ∀ (G H : Hp) (vx vy : V), J Z G H → Rp Z.K Z.pl G vx x → Rp Z.K Z.pl G vy y → ∀ k : VK, (∀ ds l vs G' H', Q ds → J (Z.at H G) G' H' → H' l = some (.lst vs) → Rps Z.K Z.pl G' vs ds → H l = none → G' l = none → k (.ref l) H') → r vx vy H k
def UnD (Z : Cz) (r : V → Hp → VK → Prop) (x : D) (Q : D → Prop) : Prop :=
  ∀ (G H : Hp) (vx : V), J Z G H → Rp Z.K Z.pl G vx x → ∀ k : VK, (∀ d v G' H', Q d → J (Z.at H G) G' H' → Rp Z.K Z.pl G' v d → k v H') → r vx H k
def CaD (Z : Cz) (r : List V → Hp → VK → Prop) (xs : List D) (Q : D → Prop) : Prop :=
  ∀ (G H : Hp) (vs : List V), J Z G H → Rps Z.K Z.pl G vs xs → ∀ k : VK, (∀ d v G' H', Q d → J (Z.at H G) G' H' → Rp Z.K Z.pl G' v d → k v H') → r vs H k
def CaL (Z : Cz) (r : List V → Hp → VK → Prop) (xs : List D) (Q : List D → Prop) : Prop :=
  ∀ (G H : Hp) (vs : List V), J Z G H → Rps Z.K Z.pl G vs xs → ∀ k : VK, (∀ ds l ws G' H', Q ds → J (Z.at H G) G' H' → H' l = some (.lst ws) → Rps Z.K Z.pl G' ws ds → H l = none → G' l = none → k (.ref l) H') → r vs H k
section
variable {Z : Cz} {Γ : List B} {te ta tb : TE} {tt tu : TT} {P : Po}
theorem Den.mono {Q Q' : D → List B → Prop} (h : Den Z te Γ Q) (w : ∀ d Γ', Q d Γ' → Q' d Γ') : Den Z te Γ Q' := fun σ G H j e k q => h σ G H j e k fun d Γ' v G' H' a => q d Γ' v G' H' (w _ _ a)
theorem DenL.mono {Q Q' : List D → List B → Prop} (h : DenL Z te Γ Q) (w : ∀ d Γ', Q d Γ' → Q' d Γ') : DenL Z te Γ Q' := fun σ G H j e k q => h σ G H j e k fun d Γ' l v G' H' a => q d Γ' l v G' H' (w _ _ a)
theorem DenT.mono {Q Q' : Bool → List B → Prop} (h : DenT Z tt Γ Q) (w : ∀ d Γ', Q d Γ' → Q' d Γ') : DenT Z tt Γ Q' := fun σ G H j e k q => h σ G H j e k fun d Γ' G' H' a => q d Γ' G' H' (w _ _ a)
/-- a new list joins the still part -/
theorem den_l {Q : D → List B → Prop} (h : DenL Z te Γ fun ds Γ' => Q (.lst ds) Γ') : Den Z te Γ Q := fun σ G H j e k q => h σ G H j e k fun ds Γ' l vs G' H' a s j' e' hl r f hn => by
  refine q (.lst ds) Γ' (.ref l) (upd G' l (.lst vs)) H' a ⟨s.ex.trans (Ex.new f.g), s.own, fun b o hb n w => ?_, s.tr⟩ (j'.still f.h0 hl f.g) (e'.mono (Ex.new f.g) fun b o b1 b2 b3 ⟨i, b4, b5⟩ => ⟨b1, ?_⟩) (.lst upd_same (r.mono (Ex.new f.g)))
  · obtain ⟨h1, h2⟩ := s.fr b o hb n w
    refine ⟨h1, fun z => ?_⟩
    rw [upd_ne (ne_of_none hb hn)]; exact h2 z
  · have : b ≠ l := fun z => f.no i b4 (by rw [b5, z])
    rw [upd_ne this]; exact b2
theorem den_var {i : Nat} {x : D} {Q : D → List B → Prop} (h : Γ[i]? = some (.d x)) (q : Q x Γ) : Den Z (tVar i) Γ Q := fun σ G H j e k kk => by
  obtain ⟨v, h1, u, h2, h3⟩ := e.at_ i _ h
  subst h2
  exact ⟨u, h1, kk x Γ u G H q .refl j e h3⟩
/-- a list of one's own is handed on and not changed any more -/
theorem den_move {i : Nat} {xs : List D} {Q : D → List B → Prop} (h : Γ[i]? = some (.own xs)) (q : Q (.lst xs) (Γ.set i (.d (.lst xs)))) : Den Z (tVar i) Γ Q := fun σ G H j e k kk => by
  obtain ⟨v, h1, l, vs, h2, h3, h4, h5, h6⟩ := e.at_ i _ h
  subst h2
  have x : Ex G (upd G l (.lst vs)) := Ex.new h5
  have rp : Rp Z.K Z.pl (upd G l (.lst vs)) (.ref l) (.lst xs) := .lst upd_same (h4.mono x)
  have e2 : En Z (upd G l (.lst vs)) H σ (Γ.set i (.d (.lst xs))) := by
    refine ⟨by rw [List.length_set]; exact e.len, fun m b q => ?_, fun m n l' o1 o2 => ?_⟩
    · by_cases hm : i = m
      · subst hm
        rw [List.getElem?_set_self (List.getElem?_eq_some_iff.mp h).1] at q
        cases q
        exact ⟨_, h1, _, rfl, rp⟩
      · rw [List.getElem?_set_ne hm] at q
        obtain ⟨v', a1, a2⟩ := e.at_ m b q
        refine ⟨v', a1, a2.mono x fun l' o b1 b2 b3 b4 b5 => ⟨b1, ?_⟩⟩
        have : l' ≠ l := fun z => hm (e.dis i m l (by rw [h]; trivial) (by rw [q]; exact b5) h1 (by rw [a1, b4, z]))
        rw [upd_ne this]; exact b2
    · have hm : i ≠ m := fun z => by
        subst z
        rw [List.getElem?_set_self (List.getElem?_eq_some_iff.mp h).1] at o1; exact o1.elim
      have hn : i ≠ n := fun z => by
        subst z
        rw [List.getElem?_set_self (List.getElem?_eq_some_iff.mp h).1] at o2; exact o2.elim
      rw [List.getElem?_set_ne hm] at o1
      rw [List.getElem?_set_ne hn] at o2
      exact e.dis m n l' o1 o2
  refine ⟨.ref l, h1, kk _ _ _ (upd G l (.lst vs)) H q ⟨x, fun m o => ?_, fun a o ha n w => ⟨ha, fun z => ?_⟩, fun _ o h => ⟨o, h⟩⟩ (j.still h6 h3 h5) e2 rp⟩
  · by_cases hm : i = m
    · subst hm; rw [h]; trivial
    · rw [List.getElem?_set_ne hm] at o; exact o
  · have : a ≠ l := fun z => w i (by rw [h]; trivial) (by rw [h1, z])
    rw [upd_ne this]; exact z
theorem den_int {i : Int} {Q : D → List B → Prop} (q : Q (.int i) Γ) : Den Z (tC (.int i)) Γ Q := fun σ G H j e k kk => kk _ _ _ G H q .refl j e (.int i)
theorem den_bl {b : Bool} {Q : D → List B → Prop} (q : Q (.bl b) Γ) : Den Z (tC (.bl b)) Γ Q := fun σ G H j e k kk => kk _ _ _ G H q .refl j e (.bl b)
theorem den_non {Q : D → List B → Prop} (q : Q .non Γ) : Den Z (tC .non) Γ Q := fun σ G H j e k kk => kk _ _ _ G H q .refl j e .non
theorem den_str {x : Str} {Q : D → List B → Prop} (q : Q (.str x) Γ) : Den Z (tC (.str x)) Γ Q := fun σ G H j e k kk => kk _ _ _ G H q .refl j e (.str x)
theorem den_op {r : R2} {Q : D → List B → Prop} (h : Den Z ta Γ fun x Γ1 => Den Z tb Γ1 fun y Γ2 => OpD Z r x y fun d => Q d Γ2) : Den Z (tOp r ta tb) Γ Q := fun σ G H j e k kk =>
  h σ G H j e _ fun x Γ1 vx G1 H1 h1 s1 j1 e1 r1 => h1 σ G1 H1 j1 e1 _ fun y Γ2 vy G2 H2 h2 s2 j2 e2 r2 =>
    h2 G2 H2 vx vy j2 (r1.mono s2.ex) r2 k fun d v G3 H3 q i3 r3 => kk d Γ2 v G3 H3 q ((s1.trans s2).trans (.of i3)) (j2.leave i3) (e2.called j2.toJ0 i3.toJ0) r3
theorem denl_op {r : R2} {Q : List D → List B → Prop} (h : Den Z ta Γ fun x Γ1 => Den Z tb Γ1 fun y Γ2 => OpL Z r x y fun d => Q d Γ2) : DenL Z (tOp r ta tb) Γ Q := fun σ G H j e k kk =>
  h σ G H j e _ fun x Γ1 vx G1 H1 h1 s1 j1 e1 r1 => h1 σ G1 H1 j1 e1 _ fun y Γ2 vy G2 H2 h2 s2 j2 e2 r2 =>
    h2 G2 H2 vx vy j2 (r1.mono s2.ex) r2 k fun ds l vs G3 H3 q i3 hl r3 hn hg => by
      exact kk ds Γ2 l vs G3 H3 q ((s1.trans s2).trans (.of i3)) (j2.leave i3) (e2.called j2.toJ0 i3.toJ0) hl r3 ⟨hg, j2.old hn, fun i o => e2.noown hn i o⟩ ((s1.trans s2).back hn)
end
end Ab
namespace Ab
open PySem L2
section
variable {Z : Cz} {Γ : List B} {te ta tb tc : TE} {tt tu : TT} {tr : TA} {P : Po}
/-! ### arguments, displays -/
theorem dena_nil {Q : List D → List B → Prop} (q : Q [] Γ) : DenA Z tNil Γ Q := fun σ G H j e k kk => kk [] Γ [] G H q .refl j e .nil
theorem dena_cons {Q : List D → List B → Prop} (h : Den Z te Γ fun x Γ1 => DenA Z tr Γ1 fun xs Γ2 => Q (x :: xs) Γ2) : DenA Z (tCons te tr) Γ Q := fun σ G H j e k kk =>
  h σ G H j e _ fun x Γ1 v G1 H1 h1 s1 j1 e1 r1 => h1 σ G1 H1 j1 e1 _ fun xs Γ2 vs G2 H2 q s2 j2 e2 r2 => kk _ Γ2 _ G2 H2 q (s1.trans s2) j2 e2 (.cons (r1.mono s2.ex) r2)
theorem J.sp {G H : Hp} {p : Addr} {o : HO} (j : J Z G H) (hp : H p = none) : J (Z.at H G) (upd G p o) (upd H p o) := j.enter.new hp
theorem den_tup {Q : D → List B → Prop} (h : DenA Z tr Γ fun xs Γ1 => xs.length ≤ 100000 ∧ Q (.tup xs) Γ1) : Den Z (tTup tr) Γ Q := fun σ G H j e k kk =>
  h σ G H j e _ fun xs Γ1 vs G1 H1 h1 s1 j1 e1 r1 => ⟨Nat.le_trans (by rw [r1.length]; exact h1.1) (by decide), fun p hp =>
    kk _ Γ1 _ (upd G1 p (.tup vs)) (upd H1 p (.tup vs)) h1.2 (s1.trans (.of (j1.sp hp))) (j1.new hp) (e1.new j1.toJ0 hp) (.tup upd_same (r1.mono (Ex.new (j1.sub.back hp))))⟩
theorem denl_lst {Q : List D → List B → Prop} (h : DenA Z tr Γ fun xs Γ1 => xs.length ≤ 100000 ∧ Q xs Γ1) : DenL Z (tLst tr) Γ Q := fun σ G H j e k kk =>
  h σ G H j e _ fun xs Γ1 vs G1 H1 h1 s1 j1 e1 r1 => ⟨Nat.le_trans (by rw [r1.length]; exact h1.1) (by decide), fun p hp => by
    have n : G1 p = none := j1.sub.back hp
    refine kk _ Γ1 p vs G1 (upd H1 p (.lst vs)) h1.2 (s1.trans ⟨Ex.refl _, fun _ h => h, fun a o ha _ _ => ⟨?_, fun z => z⟩, fun a o ha => ⟨o, ?_⟩⟩) (j1.put (j1.old hp) n) (e1.newM hp) upd_same r1 ⟨n, j1.old hp, fun i o => e1.noown hp i o⟩ (s1.back hp)
    · rw [upd_ne (ne_of_none ha hp)]; exact ha
    · rw [upd_ne (ne_of_none ha hp)]; exact ha⟩
theorem den_dic {Q : D → List B → Prop} (q : Q .dic Γ) : Den Z tDNewK Γ Q := fun σ G H j e k kk p hp =>
  kk _ Γ _ (upd G p (.dK [])) (upd H p (.dK [])) q (.of (j.sp hp)) (j.new hp) (e.new j.toJ0 hp) (.dic upd_same)
/-! ### tests -/
theorem dent_test {Q : Bool → List B → Prop} (h : Den Z te Γ fun x Γ1 => ∃ b, x = .bl b ∧ Q b Γ1) : DenT Z (tTest te) Γ Q := fun σ G H j e k kk =>
  h σ G H j e _ fun x Γ1 v G1 H1 h1 s1 j1 e1 r1 => by
    obtain ⟨b, rfl, q⟩ := h1
    cases r1
    exact ⟨b, rfl, kk b Γ1 G1 H1 q s1 j1 e1⟩
theorem dent_B {Q : Bool → List B → Prop} (h : Den Z te Γ fun x Γ1 => ∃ b, x = .bl b ∧ Q b Γ1) : DenT Z (tB te) Γ Q := fun σ G H j e k kk =>
  h σ G H j e _ fun x Γ1 v G1 H1 h1 s1 j1 e1 r1 => by
    obtain ⟨b, rfl, q⟩ := h1
    cases r1
    exact ⟨b, rfl, kk b Γ1 G1 H1 q s1 j1 e1⟩
theorem dent_and {Q : Bool → List B → Prop} (h : DenT Z tt Γ fun b Γ1 => if b = true then DenT Z tu Γ1 Q else Q false Γ1) : DenT Z (tAnd tt tu) Γ Q := fun σ G H j e k kk =>
  h σ G H j e _ fun b Γ1 G1 H1 h1 s1 j1 e1 => by
    cases b with
    | true => exact h1 σ G1 H1 j1 e1 k fun b Γ2 G2 H2 q s2 j2 e2 => kk b Γ2 G2 H2 q (s1.trans s2) j2 e2
    | false => exact kk false Γ1 G1 H1 h1 s1 j1 e1
theorem dent_or {Q : Bool → List B → Prop} (h : DenT Z tt Γ fun b Γ1 => if b = true then Q true Γ1 else DenT Z tu Γ1 Q) : DenT Z (tOr tt tu) Γ Q := fun σ G H j e k kk =>
  h σ G H j e _ fun b Γ1 G1 H1 h1 s1 j1 e1 => by
    cases b with
    | false => exact h1 σ G1 H1 j1 e1 k fun b Γ2 G2 H2 q s2 j2 e2 => kk b Γ2 G2 H2 q (s1.trans s2) j2 e2
    | true => exact kk true Γ1 G1 H1 h1 s1 j1 e1
theorem dent_not {Q : Bool → List B → Prop} (h : DenT Z tt Γ fun b Γ1 => Q (!b) Γ1) : DenT Z (tNot tt) Γ Q := fun σ G H j e k kk =>
  h σ G H j e _ fun b Γ1 G1 H1 h1 s1 j1 e1 => kk _ Γ1 G1 H1 h1 s1 j1 e1
theorem dent_yes {Q : Bool → List B → Prop} (q : Q true Γ) : DenT Z tYes Γ Q := fun σ G H j e k kk => kk true Γ G H q .refl j e
/-- and, or as values -/
theorem den_and {Q : D → List B → Prop} (h : Den Z ta Γ fun x Γ1 => ∃ b, x = .bl b ∧ if b = true then Den Z tb Γ1 Q else Q (.bl false) Γ1) : Den Z (tAndV ta tb) Γ Q := fun σ G H j e k kk =>
  h σ G H j e _ fun x Γ1 v G1 H1 h1 s1 j1 e1 r1 => by
    obtain ⟨b, rfl, q⟩ := h1
    cases r1
    refine ⟨b, rfl, ?_⟩
    cases b with
    | true => exact q σ G1 H1 j1 e1 k fun d Γ2 v G2 H2 a s2 j2 e2 r2 => kk d Γ2 v G2 H2 a (s1.trans s2) j2 e2 r2
    | false => exact kk _ Γ1 _ G1 H1 q s1 j1 e1 (.bl false)
theorem den_or {Q : D → List B → Prop} (h : Den Z ta Γ fun x Γ1 => ∃ b, x = .bl b ∧ if b = true then Q (.bl true) Γ1 else Den Z tb Γ1 Q) : Den Z (tOrV ta tb) Γ Q := fun σ G H j e k kk =>
  h σ G H j e _ fun x Γ1 v G1 H1 h1 s1 j1 e1 r1 => by
    obtain ⟨b, rfl, q⟩ := h1
    cases r1
    refine ⟨b, rfl, ?_⟩
    cases b with
    | false => exact q σ G1 H1 j1 e1 k fun d Γ2 v G2 H2 a s2 j2 e2 r2 => kk d Γ2 v G2 H2 a (s1.trans s2) j2 e2 r2
    | true => exact kk _ Γ1 _ G1 H1 q s1 j1 e1 (.bl true)
theorem den_not {Q : D → List B → Prop} (h : Den Z ta Γ fun x Γ1 => ∃ b, x = .bl b ∧ Q (.bl (!b)) Γ1) : Den Z (tNotV ta) Γ Q := fun σ G H j e k kk =>
  h σ G H j e _ fun x Γ1 v G1 H1 h1 s1 j1 e1 r1 => by
    obtain ⟨b, rfl, q⟩ := h1
    cases r1
    exact ⟨b, rfl, kk _ Γ1 _ G1 H1 q s1 j1 e1 (.bl _)⟩
theorem den_if {Q : D → List B → Prop} (h : DenT Z tt Γ fun b Γ1 => if b = true then Den Z ta Γ1 Q else Den Z tb Γ1 Q) : Den Z (tIf tt ta tb) Γ Q := fun σ G H j e k kk =>
  h σ G H j e _ fun b Γ1 G1 H1 h1 s1 j1 e1 => by
    cases b with
    | true => exact h1 σ G1 H1 j1 e1 k fun d Γ2 v G2 H2 a s2 j2 e2 r2 => kk d Γ2 v G2 H2 a (s1.trans s2) j2 e2 r2
    | false => exact h1 σ G1 H1 j1 e1 k fun d Γ2 v G2 H2 a s2 j2 e2 r2 => kk d Γ2 v G2 H2 a (s1.trans s2) j2 e2 r2
theorem den_chain {r r' : R2} {Q : D → List B → Prop} (h : Den Z ta Γ fun x Γ1 => Den Z tb Γ1 fun y Γ2 => OpD Z r x y fun d => ∃ b, d = .bl b ∧ if b = true then Den Z tc Γ2 fun w Γ3 => OpD Z r' y w fun d => Q d Γ3 else Q (.bl false) Γ2) :
    Den Z (tChain r r' ta tb tc) Γ Q := fun σ G H j e k kk =>
  h σ G H j e _ fun x Γ1 vx G1 H1 h1 s1 j1 e1 r1 => h1 σ G1 H1 j1 e1 _ fun y Γ2 vy G2 H2 h2 s2 j2 e2 r2 =>
    h2 G2 H2 vx vy j2 (r1.mono s2.ex) r2 _ fun d v G3 H3 q i3 r3 => by
      obtain ⟨b, rfl, q⟩ := q
      cases r3
      refine ⟨b, rfl, ?_⟩
      have j3 := j2.leave i3
      have e3 := e2.called j2.toJ0 i3.toJ0
      have s3 : Sp1 Z σ Γ Γ2 G H G3 H3 := (s1.trans s2).trans (.of i3)
      cases b with
      | true =>
        refine q σ G3 H3 j3 e3 _ fun w Γ3 vw G4 H4 h4 s4 j4 e4 r4 => ?_
        exact h4 G4 H4 vy vw j4 ((r2.mono i3.g0).mono s4.ex) r4 k fun d v G5 H5 q5 i5 r5 => kk d Γ3 v G5 H5 q5 ((s3.trans s4).trans (.of i5)) (j4.leave i5) (e4.called j4.toJ0 i5.toJ0) r5
      | false => exact kk _ Γ2 _ G3 H3 q s3 j3 e3 (.bl false)
theorem den_un {r : V → Hp → VK → Prop} {Q : D → List B → Prop} (h : Den Z ta Γ fun x Γ1 => UnD Z r x fun d => Q d Γ1) : Den Z (tUn r ta) Γ Q := fun σ G H j e k kk =>
  h σ G H j e _ fun x Γ1 vx G1 H1 h1 s1 j1 e1 r1 => h1 G1 H1 vx j1 r1 k fun d v G3 H3 q i3 r3 => kk d Γ1 v G3 H3 q (s1.trans (.of i3)) (j1.leave i3) (e1.called j1.toJ0 i3.toJ0) r3
theorem den_isN {Q : D → List B → Prop} (h : Den Z ta Γ fun x Γ1 => Q (.bl (match x with | .non => true | _ => false)) Γ1) : Den Z (tIsN ta) Γ Q := fun σ G H j e k kk =>
  h σ G H j e _ fun x Γ1 v G1 H1 h1 s1 j1 e1 r1 => by
    refine kk _ Γ1 _ G1 H1 h1 s1 j1 e1 ?_
    cases r1 <;> exact .bl _
theorem den_notN {Q : D → List B → Prop} (h : Den Z ta Γ fun x Γ1 => Q (.bl (match x with | .non => false | _ => true)) Γ1) : Den Z (tNotN ta) Γ Q := fun σ G H j e k kk =>
  h σ G H j e _ fun x Γ1 v G1 H1 h1 s1 j1 e1 r1 => by
    refine kk _ Γ1 _ G1 H1 h1 s1 j1 e1 ?_
    cases r1 <;> exact .bl _
/-! ### calls of built-ins by value -/
theorem den_cb {r : List V → Hp → VK → Prop} {Q : D → List B → Prop} (h : DenA Z tr Γ fun xs Γ1 => CaD Z r xs fun d => Q d Γ1) : Den Z (tCB r tr) Γ Q := fun σ G H j e k kk =>
  h σ G H j e _ fun xs Γ1 vs G1 H1 h1 s1 j1 e1 r1 => h1 G1 H1 vs j1 r1 k fun d v G3 H3 q i3 r3 => kk d Γ1 v G3 H3 q (s1.trans (.of i3)) (j1.leave i3) (e1.called j1.toJ0 i3.toJ0) r3
theorem denl_cb {r : List V → Hp → VK → Prop} {Q : List D → List B → Prop} (h : DenA Z tr Γ fun xs Γ1 => CaL Z r xs fun d => Q d Γ1) : DenL Z (tCB r tr) Γ Q := fun σ G H j e k kk =>
  h σ G H j e _ fun xs Γ1 vs G1 H1 h1 s1 j1 e1 r1 => h1 G1 H1 vs j1 r1 k fun ds l ws G3 H3 q i3 hl r3 hn hg =>
    kk ds Γ1 l ws G3 H3 q (s1.trans (.of i3)) (j1.leave i3) (e1.called j1.toJ0 i3.toJ0) hl r3 ⟨hg, j1.old hn, fun i o => e1.noown hn i o⟩ (s1.back hn)
/-! ### targets -/
theorem deng_name {i : Nat} {x : D} {Q : List B → Prop} (q : Q (Γ.set i (.d x))) : DenG Z (gName i) x Γ Q := fun σ G H v j e r k kk => kk _ _ q (e.setD r)
theorem deng_tup {n : Nat} {t : TGs} {xs : List D} {Q : List B → Prop} (hn : xs.length = n) (h : DenGs Z t xs Γ Q) : DenG Z (gTup Z.K n t) (.tup xs) Γ Q := fun σ G H v j e r k kk => by
  cases r with
  | tup h1 r1 =>
    refine ⟨_, _, rfl, SqT.of (j.sub _ _ h1), by rw [r1.length]; exact hn, ?_⟩
    exact h σ G H _ j e r1 k kk
theorem dengs_nil {Q : List B → Prop} (q : Q Γ) : DenGs Z gNil [] Γ Q := fun σ G H vs j e r k kk => by
  cases r
  exact ⟨rfl, kk Γ σ q e⟩
theorem dengs_cons {t : TG} {u : TGs} {x : D} {xs : List D} {Q : List B → Prop} (h : DenG Z t x Γ fun Γ1 => DenGs Z u xs Γ1 Q) : DenGs Z (gCons t u) (x :: xs) Γ Q := fun σ G H vs j e r k kk => by
  cases r with
  | cons r1 r2 => exact ⟨_, _, rfl, h σ G H _ j e r1 _ fun Γ1 σ1 h1 e1 => h1 σ1 G H _ j e1 r2 k kk⟩
/-! ### statements -/
theorem dens_nil (q : P.N Γ) : DenS Z tNext Γ P := fun σ G H j e De d => d.n Γ σ G H q (Ex.refl _) j e
theorem dens_seq {t u : TS} (h : DenS Z t Γ { P with N := fun Γ1 => DenS Z u Γ1 P }) : DenS Z (tSeq t u) Γ P := fun σ G H j e De d =>
  h σ G H j e { De with nx := u De } ⟨fun Γ1 σ1 G1 H1 q x j1 e1 => q σ1 G1 H1 j1 e1 De (d.up x), d.r, d.b, d.c⟩
theorem dens_break (q : P.Bk Γ) : DenS Z tBreak Γ P := fun σ G H j e De d => d.b Γ σ G H q (Ex.refl _) j e
theorem dens_cont (q : P.Ct Γ) : DenS Z tCont Γ P := fun σ G H j e De d => d.c Γ σ G H q (Ex.refl _) j e
theorem dens_drop (h : Den Z te Γ fun _ Γ1 => P.N Γ1) : DenS Z (tDrop te) Γ P := fun σ G H j e De d =>
  h σ G H j e _ fun x Γ1 v G1 H1 q s1 j1 e1 r1 => d.n Γ1 σ G1 H1 q s1.ex j1 e1
theorem dens_ret (h : Den Z te Γ fun x _ => P.R x) : DenS Z (tRet te) Γ P := fun σ G H j e De d =>
  h σ G H j e _ fun x Γ1 v G1 H1 q s1 j1 e1 r1 => d.r x v G1 H1 q s1.ex j1 r1
theorem dens_retN (q : P.R .non) : DenS Z tRetN Γ P := fun σ G H j e De d => d.r .non .non G H q (Ex.refl _) j .non
theorem dens_if {t u : TS} (h : DenT Z tt Γ fun b Γ1 => if b = true then DenS Z t Γ1 P else DenS Z u Γ1 P) : DenS Z (tIfS tt t u) Γ P := fun σ G H j e De d =>
  h σ G H j e _ fun b Γ1 G1 H1 q s1 j1 e1 => by
    cases b with
    | true => exact q σ G1 H1 j1 e1 De (d.up s1.ex)
    | false => exact q σ G1 H1 j1 e1 De (d.up s1.ex)
theorem dens_asg {g : TG} (h : Den Z te Γ fun x Γ1 => DenG Z g x Γ1 P.N) : DenS Z (tAsg te g) Γ P := fun σ G H j e De d =>
  h σ G H j e _ fun x Γ1 v G1 H1 q s1 j1 e1 r1 => q σ G1 H1 v j1 e1 r1 _ fun Γ2 σ2 q2 e2 => d.n Γ2 σ2 G1 H1 q2 s1.ex j1 e2
/-- a name gets a new list of its own -/
theorem dens_own {i : Nat} (h : DenL Z te Γ fun xs Γ1 => P.N (Γ1.set i (.own xs))) : DenS Z (tAsg te (gName i)) Γ P := fun σ G H j e De d =>
  h σ G H j e _ fun xs Γ1 l vs G1 H1 q s1 j1 e1 hl r1 f hn => d.n _ _ G1 H1 q s1.ex j1 (e1.set ⟨l, vs, rfl, hl, r1, f.g, f.h0⟩ fun l' _ z m hm o => by cases z; exact f.no m o)
theorem dens_par {i m : Nat} (h : DenA Z tr Γ fun xs Γ1 => ∃ x y, xs = [x, y] ∧ P.N ((Γ1.set i (.d x)).set m (.d y))) : DenS Z (tPar i m tr) Γ P := fun σ G H j e De d =>
  h σ G H j e _ fun xs Γ1 vs G1 H1 q s1 j1 e1 r1 => by
    obtain ⟨x, y, rfl, q⟩ := q
    cases r1 with
    | cons a b => cases b with
      | cons b c =>
        cases c
        exact ⟨_, _, rfl, d.n _ _ G1 H1 q s1.ex j1 ((e1.setD a).setD b)⟩
/-! ### walks -/
theorem deni_list {Q : List D → List B → Prop} (h : Den Z te Γ fun x Γ1 => ∃ xs, x = .lst xs ∧ Q xs Γ1) : DenI Z (iList Z.K te) Γ Q := fun σ G H j e k kk =>
  h σ G H j e _ fun x Γ1 v G1 H1 q s1 j1 e1 r1 => by
    obtain ⟨xs, rfl, q⟩ := q
    cases r1 with
    | @lst a vs _ h1 r1 =>
      have sq : ∀ G' H', Ex G1 G' → J Z G' H' → SqL Z.K H' a vs := fun G' H' x j' => .inl (.inl (j'.sub _ _ (x _ _ h1)))
      refine ⟨a, rfl, ⟨vs, sq G1 H1 (Ex.refl _) j1⟩, kk xs Γ1 _ G1 H1 q s1 j1 e1 ⟨fun G' H' i x j' hi => ?_, fun G' H' x j' => ?_, fun G' H' i x H'' ex j' hi y => ?_⟩⟩
      · rw [← r1.length] at hi
        exact ⟨vs, vs[i], sq G' H' x j', by simp [hi]⟩
      · exact ⟨vs, sq G' H' x j', by rw [r1.length]; exact Nat.le_refl _⟩
      · obtain ⟨rfl, y⟩ := y
        have q1 := y vs (sq G' H'' ex j')
        obtain ⟨d, hd, hr⟩ := r1.getV q1
        exact ⟨G', d, hd, j'.enter, hr.mono ex⟩
theorem deni_tup {Q : List D → List B → Prop} (h : Den Z te Γ fun x Γ1 => ∃ xs, x = .tup xs ∧ Q xs Γ1) : DenI Z (iTup Z.K te) Γ Q := fun σ G H j e k kk =>
  h σ G H j e _ fun x Γ1 v G1 H1 q s1 j1 e1 r1 => by
    obtain ⟨xs, rfl, q⟩ := q
    cases r1 with
    | @tup a vs _ h1 r1 =>
      have sq : ∀ G' H', Ex G1 G' → J Z G' H' → SqT Z.K H' a vs := fun G' H' x j' => .inl (.inl (j'.sub _ _ (x _ _ h1)))
      refine ⟨a, rfl, ⟨vs, sq G1 H1 (Ex.refl _) j1⟩, kk xs Γ1 _ G1 H1 q s1 j1 e1 ⟨fun G' H' i x j' hi => ?_, fun G' H' x j' => ?_, fun G' H' i x H'' ex j' hi y => ?_⟩⟩
      · rw [← r1.length] at hi
        exact ⟨vs, vs[i], sq G' H' x j', by simp [hi]⟩
      · exact ⟨vs, sq G' H' x j', by rw [r1.length]; exact Nat.le_refl _⟩
      · obtain ⟨rfl, y⟩ := y
        have q1 := y vs (sq G' H'' ex j')
        obtain ⟨d, hd, hr⟩ := r1.getV q1
        exact ⟨G', d, hd, j'.enter, hr.mono ex⟩
/-- range(n) -/
def rg (n : Nat) : List D := (List.range n).map fun i => D.int (i : Nat)
def rgAt (lo : Int) (n : Nat) : List D := (List.range n).map fun i => D.int (lo + (i : Nat))
theorem its_range {G : Hp} {lo : Int} {n : Nat} : Its Z G (Itr lo n) (rgAt lo n) where
  go := fun G' H' i x j' hi => by show i < n; simpa [rgAt] using hi
  stop := fun G' H' x j' => by show n ≤ _; simp [rgAt]
  yld := fun G' H' i x H'' ex j' hi y => by
    obtain ⟨rfl, rfl⟩ := y
    refine ⟨G', .int (lo + i), ?_, j'.enter, .int _⟩
    have : i < n := by simpa [rgAt] using hi
    simp [rgAt, this]
theorem deni_rng1 {Q : List D → List B → Prop} (h : DenA Z tr Γ fun xs Γ1 => ∃ n : Int, xs = [.int n] ∧ n < 2 ^ 62 ∧ -(2 ^ 62) ≤ n ∧ Q (rgAt 0 n.toNat) Γ1) : DenI Z (iRng1 tr) Γ Q := fun σ G H j e k kk =>
  h σ G H j e _ fun xs Γ1 vs G1 H1 q s1 j1 e1 r1 => by
    obtain ⟨n, rfl, h1, h2, q⟩ := q
    cases r1 with
    | cons a b => cases b; cases a; exact ⟨n, rfl, h2, h1, kk _ Γ1 _ G1 H1 q s1 j1 e1 its_range⟩
theorem deni_rng2 {Q : List D → List B → Prop} (h : DenA Z tr Γ fun xs Γ1 => ∃ n m : Int, xs = [.int n, .int m] ∧ (-(2 ^ 62) ≤ n ∧ n < 2 ^ 62 ∧ -(2 ^ 62) ≤ m ∧ m < 2 ^ 62) ∧ Q (rgAt n (m - n).toNat) Γ1) : DenI Z (iRng2 tr) Γ Q := fun σ G H j e k kk =>
  h σ G H j e _ fun xs Γ1 vs G1 H1 q s1 j1 e1 r1 => by
    obtain ⟨n, m, rfl, h1, q⟩ := q
    cases r1 with
    | cons a b => cases b with
      | cons b c => cases a; cases b; cases c; exact ⟨n, m, rfl, h1, kk _ Γ1 _ G1 H1 q s1 j1 e1 its_range⟩
theorem dens_for {wi : TI} {g : TG} {tb : TS} (h : DenI Z wi Γ fun ds Γ1 => ∃ Iv : Nat → List B → Prop, Iv 0 Γ1 ∧
    (∀ (i : Nat) d Γ2, ds[i]? = some d → Iv i Γ2 → DenG Z g d Γ2 fun Γ3 => DenS Z tb Γ3 ⟨Iv (i + 1), P.R, P.N, Iv (i + 1)⟩) ∧ ∀ Γ2, Iv ds.length Γ2 → P.N Γ2) : DenS Z (tFor wi g tb) Γ P := fun σ G H j e De d =>
  h σ G H j e _ fun ds Γ1 Jt G1 H1 q s1 j1 e1 it => by
    obtain ⟨Iv, h0, hs, hd⟩ := q
    refine ⟨fun i m σ H => m = ds.length - i ∧ i ≤ ds.length ∧ ∃ Γ2 G2, Iv i Γ2 ∧ Ex G1 G2 ∧ J Z G2 H ∧ En Z G2 H σ Γ2, ⟨ds.length, by simp, Nat.zero_le _, Γ1, G1, h0, Ex.refl _, j1, e1⟩, ?_⟩
    rintro i m σ2 H2 ⟨rfl, hi, Γ2, G2, iv, x2, j2, e2⟩
    by_cases hlt : i < ds.length
    · refine .inr ⟨it.go G2 H2 i x2 j2 hlt, fun σ H => ∃ Γ2 G2, Iv (i + 1) Γ2 ∧ Ex G1 G2 ∧ J Z G2 H ∧ En Z G2 H σ Γ2, fun σ' H' z => ⟨ds.length - (i + 1), by omega, rfl, hlt, z⟩, fun x H' y => ?_⟩
      obtain ⟨G3, dd, hdd, i3, r3⟩ := it.yld G2 H2 i x H' x2 j2 hlt y
      have j3 := j2.leave i3
      exact hs i dd Γ2 hdd iv σ2 G3 H' x j3 (e2.called j2.toJ0 i3.toJ0) r3 _ fun Γ3 σ3 q3 e3 => q3 σ3 G3 H' j3 e3 _
        ⟨fun Γ4 σ4 G4 H4 a x4 j4 e4 => ⟨Γ4, G4, a, (x2.trans i3.g0).trans x4, j4, e4⟩,
         fun z v G4 H4 a x4 j4 r4 => d.r z v G4 H4 a (((s1.ex.trans x2).trans i3.g0).trans x4) j4 r4,
         fun Γ4 σ4 G4 H4 a x4 j4 e4 => d.n Γ4 σ4 G4 H4 a (((s1.ex.trans x2).trans i3.g0).trans x4) j4 e4,
         fun Γ4 σ4 G4 H4 a x4 j4 e4 => ⟨Γ4, G4, a, (x2.trans i3.g0).trans x4, j4, e4⟩⟩
    · have ei : i = ds.length := by omega
      subst ei
      exact .inl ⟨it.stop G2 H2 x2 j2, d.n Γ2 σ2 G2 H2 (hd Γ2 iv) (s1.ex.trans x2) j2 e2⟩
end
end Ab
namespace Ab
open PySem L2
/-! ### comprehensions -/
def Off (ws : List Nat) (σ σ' : L2.St) : Prop := σ'.length = σ.length ∧ ∀ k : Nat, k ∉ ws → σ'[k]? = σ[k]?
theorem Off.refl {ws : List Nat} {σ : L2.St} : Off ws σ σ := ⟨rfl, fun _ _ => rfl⟩
theorem Off.trans {ws : List Nat} {σ σ1 σ2 : L2.St} (a : Off ws σ σ1) (b : Off ws σ1 σ2) : Off ws σ σ2 := ⟨b.1.trans a.1, fun k h => (b.2 k h).trans (a.2 k h)⟩
def GOff (g : TG) (ws : List Nat) : Prop := ∀ v σ H k, g v σ H k → g v σ H (fun σ' H' => k σ' H' ∧ Off ws σ σ')
def GsOff (g : TGs) (ws : List Nat) : Prop := ∀ v σ H k, g v σ H k → g v σ H (fun σ' H' => k σ' H' ∧ Off ws σ σ')
theorem goff_name {i : Nat} {ws : List Nat} (h : i ∈ ws) : GOff (gName i) ws := fun v σ H k q => ⟨q, by
  refine ⟨List.length_set, fun m hm => ?_⟩
  have : i ≠ m := fun z => hm (z ▸ h)
  exact List.getElem?_set_ne this⟩
theorem goff_tup {K n} {t : TGs} {ws : List Nat} (h : GsOff t ws) : GOff (gTup K n t) ws := fun v σ H k q => by
  obtain ⟨a, xs, h1, h2, h3, h4⟩ := q
  exact ⟨a, xs, h1, h2, h3, h _ _ _ _ h4⟩
theorem gsoff_nil {ws : List Nat} : GsOff gNil ws := fun v σ H k q => ⟨q.1, q.2, .refl⟩
theorem GOff.imp {t : TG} {ws : List Nat} (h : GOff t ws) (mono : ∀ v σ H (k k' : L2.St → Hp → Prop), (∀ σ' H', k σ' H' → k' σ' H') → t v σ H k → t v σ H k') {v σ H} {k k' : L2.St → Hp → Prop} (q : t v σ H k) (w : ∀ σ' H', Off ws σ σ' → k σ' H' → k' σ' H') : t v σ H k' :=
  mono v σ H _ k' (fun σ' H' z => w σ' H' z.2 z.1) (h v σ H k q)
def GMono (t : TG) : Prop := ∀ v σ H (k k' : L2.St → Hp → Prop), (∀ σ' H', k σ' H' → k' σ' H') → t v σ H k → t v σ H k'
def GsMono (t : TGs) : Prop := ∀ v σ H (k k' : L2.St → Hp → Prop), (∀ σ' H', k σ' H' → k' σ' H') → t v σ H k → t v σ H k'
theorem gmono_name {i : Nat} : GMono (gName i) := fun _ _ _ _ _ w q => w _ _ q
theorem gmono_tup {K n} {t : TGs} (h : GsMono t) : GMono (gTup K n t) := fun v σ H k k' w q => by
  obtain ⟨a, xs, h1, h2, h3, h4⟩ := q
  exact ⟨a, xs, h1, h2, h3, h _ _ _ _ _ w h4⟩
theorem gsmono_nil : GsMono gNil := fun v σ H k k' w q => ⟨q.1, w _ _ q.2⟩
theorem gsmono_cons {t : TG} {u : TGs} (h1 : GMono t) (h2 : GsMono u) : GsMono (gCons t u) := fun v σ H k k' w q => by
  obtain ⟨x, r, e, q⟩ := q
  exact ⟨x, r, e, h1 _ _ _ _ _ (fun _ _ z => h2 _ _ _ _ _ w z) q⟩
theorem gsoff_cons {t : TG} {u : TGs} {ws : List Nat} (h1 : GOff t ws) (m1 : GMono t) (h2 : GsOff u ws) (m2 : GsMono u) : GsOff (gCons t u) ws := fun v σ H k q => by
  obtain ⟨x, r, e, q⟩ := q
  refine ⟨x, r, e, h1.imp m1 q fun σ1 H1 o1 z => ?_⟩
  exact m2 _ _ _ _ _ (fun σ2 H2 y => ⟨y.1, o1.trans y.2⟩) (h2 _ _ _ _ z)
def wipeB (Γ : List B) : List Nat → List B
  | [] => Γ
  | v :: vs => (wipeB Γ vs).set v .un
theorem wipeB_len (Γ : List B) : ∀ vs, (wipeB Γ vs).length = Γ.length
  | [] => rfl
  | v :: vs => by unfold wipeB; rw [List.length_set, wipeB_len Γ vs]
theorem wipeB_out (Γ : List B) : ∀ {vs : List Nat} {k : Nat}, k ∉ vs → (wipeB Γ vs)[k]? = Γ[k]?
  | [], _, _ => rfl
  | v :: vs, k, h => by
    unfold wipeB
    have hne : v ≠ k := fun z => h (by rw [z]; exact List.mem_cons_self)
    rw [List.getElem?_set_ne hne, wipeB_out Γ fun z => h (List.mem_cons_of_mem _ z)]
theorem wipeB_in (Γ : List B) : ∀ {vs : List Nat} {k : Nat}, k ∈ vs → ¬ IsOwn (wipeB Γ vs)[k]?
  | v :: vs, k, h => by
    unfold wipeB
    by_cases e : v = k
    · subst e
      by_cases hk : v < (wipeB Γ vs).length
      · rw [List.getElem?_set_self hk]; exact fun z => z
      · rw [List.getElem?_eq_none (by rw [List.length_set]; omega)]; exact fun z => z
    · rw [List.getElem?_set_ne e]
      exact wipeB_in Γ ((List.mem_cons.mp h).resolve_left fun z => e z.symm)
theorem wipe_out' (σ : L2.St) : ∀ {vs : List Nat} {k : Nat}, k ∉ vs → (wipe σ vs)[k]? = σ[k]?
  | [], _, _ => rfl
  | v :: vs, k, h => by
    show ((wipe σ vs).set v none)[k]? = _
    have hne : v ≠ k := fun z => h (by rw [z]; exact List.mem_cons_self)
    rw [List.getElem?_set_ne hne, wipe_out' σ fun z => h (List.mem_cons_of_mem _ z)]
theorem wipe_in' (σ : L2.St) : ∀ {vs : List Nat} {k : Nat}, k ∈ vs → k < σ.length → (wipe σ vs)[k]? = some none
  | v :: vs, k, h, hk => by
    show ((wipe σ vs).set v none)[k]? = _
    by_cases e : v = k
    · subst e; exact List.getElem?_set_self (by rw [wipe_length]; exact hk)
    · rw [List.getElem?_set_ne e]
      exact wipe_in' σ ((List.mem_cons.mp h).resolve_left fun z => e z.symm) hk
theorem wipe_off {vs : List Nat} {σ σ2 : L2.St} (o : Off vs (wipe σ vs) σ2) : wipe σ2 vs = wipe σ vs := by
  have hl : σ2.length = σ.length := by rw [o.1, wipe_length]
  refine List.ext_getElem? fun k => ?_
  by_cases h : k ∈ vs
  · by_cases hk : k < σ.length
    · rw [wipe_in' σ h hk, wipe_in' σ2 h (by omega)]
    · rw [List.getElem?_eq_none (by rw [wipe_length]; omega), List.getElem?_eq_none (by rw [wipe_length]; omega)]
  · rw [wipe_out' σ2 h, o.2 k h]
theorem En.wipe {Z : Cz} {G H : Hp} {σ : L2.St} {Γ : List B} (e : En Z G H σ Γ) : ∀ vs : List Nat, En Z G H (L2.wipe σ vs) (wipeB Γ vs)
  | [] => e
  | v :: vs => (e.wipe vs).un (fun k hk => List.getElem?_set_ne hk.symm) List.length_set
theorem En.restore {Z : Cz} {G H G' H' : Hp} {σ : L2.St} {Γ : List B} {vs : List Nat} (e : En Z G H σ Γ) (x : Ex G G') (e2 : En Z G' H' (L2.wipe σ vs) (wipeB Γ vs)) (no : ∀ i ∈ vs, ¬ IsOwn Γ[i]?) : En Z G' H' σ Γ where
  len := e.len
  at_ := fun i b q => by
    by_cases h : i ∈ vs
    · obtain ⟨v, h1, h2⟩ := e.at_ i b q
      refine ⟨v, h1, h2.mono x fun l o _ _ _ _ o5 => ?_⟩
      exact absurd (by rw [q]; exact o5) (no i h)
    · obtain ⟨v, h1, h2⟩ := e2.at_ i b (by rw [wipeB_out Γ h]; exact q)
      rw [wipe_out' σ h] at h1
      exact ⟨v, h1, h2⟩
  dis := e.dis
theorem Sp1.conv {Z : Cz} {σ σ2 : L2.St} {Γ1 Γ2 : List B} {G H G' H' : Hp} (s : Sp1 Z σ2 Γ2 Γ2 G H G' H') (w : ∀ i : Nat, IsOwn Γ2[i]? → IsOwn Γ1[i]? ∧ σ2[i]? = σ[i]?) : Sp1 Z σ Γ1 Γ1 G H G' H' :=
  ⟨s.ex, fun _ h => h, fun a o ha n z => s.fr a o ha n fun i o => by rw [(w i o).2]; exact z i (w i o).1, s.tr⟩
section
variable {Z : Cz} {Γ : List B} {te ta tb tc : TE} {tt tu : TT} {tr : TA} {P : Po}
theorem denl_lc {wi : TI} {g : TG} {vs : List Nat} {Q : List D → List B → Prop} (hg : GOff g vs) (hm : GMono g)
    (h : DenI Z wi Γ fun ds Γ1 => (∀ i ∈ vs, ¬ IsOwn Γ1[i]?) ∧ ds.length < 100000 ∧ ∃ Iv : Nat → List D → Prop, Iv 0 [] ∧
      (∀ (i : Nat) d acc, ds[i]? = some d → acc.length ≤ i → Iv i acc → DenG Z g d (wipeB Γ1 vs) fun Γ2 => wipeB Γ2 vs = wipeB Γ1 vs ∧ (∀ i ∈ vs, ¬ IsOwn Γ2[i]?) ∧
        DenT Z tt Γ2 fun b Γ3 => Γ3 = Γ2 ∧ if b = true then Den Z te Γ2 fun y Γ4 => Γ4 = Γ2 ∧ Iv (i + 1) (acc ++ [y]) else Iv (i + 1) acc) ∧
      ∀ acc, acc.length ≤ ds.length → Iv ds.length acc → Q acc Γ1) : DenL Z (tLc wi g tt te vs) Γ Q := fun σ G H j e k kk =>
  h σ G H j e _ fun ds Γ1 Jt G1 H1 q s1 j1 e1 it C hC => by
    obtain ⟨no, hlen, Iv, h0, hs, hd⟩ := q
    have eg := e1.wipe vs
    have hg1 : G1 C = none := j1.sub.back hC
    have hz : Z.H0 C = none := j1.old hC
    have nd1 : ∀ i : Nat, IsOwn Γ1[i]? → σ[i]? ≠ some (some (.ref C)) := fun i o => e1.noown hC i o
    have fresh0 : ∀ {a : Addr} {o : HO}, H1 a = some o → a ≠ C := fun ha => ne_of_none ha hC
    refine ⟨fun i m H => m = ds.length - i ∧ i ≤ ds.length ∧ ∃ acc ds' G2, Iv i ds' ∧ ds'.length ≤ i ∧ H C = some (.lst acc) ∧ Rps Z.K Z.pl G2 acc ds' ∧ G2 C = none ∧ J Z G2 H ∧ En Z G2 H (wipe σ vs) (wipeB Γ1 vs) ∧
      Ex G1 G2 ∧ (∀ a o, H1 a = some o → NotPl Z a → (∀ i : Nat, IsOwn Γ1[i]? → σ[i]? ≠ some (some (.ref a))) → H a = some o ∧ (G1 a = none → G2 a = none)) ∧ (∀ a o, H1 a = some o → ∃ o', H a = some o'),
      ⟨ds.length, by simp, Nat.zero_le _, [], [], G1, h0, Nat.le_refl _, upd_same, .nil, hg1, j1.put hz hg1, eg.newM hC, Ex.refl _, fun a o ha _ _ => ⟨by rw [upd_ne (fresh0 ha)]; exact ha, fun z => z⟩, fun a o ha => ⟨o, by rw [upd_ne (fresh0 ha)]; exact ha⟩⟩, ?_⟩
    rintro i m H2 ⟨rfl, hi, acc, ds', G2, iv, hl', hCl, r2, hg2, j2, e2, x2, f2, t2⟩
    by_cases hlt : i < ds.length
    · refine .inr ⟨it.go G2 H2 i x2 j2 hlt, fun H => ∃ acc ds' G2, Iv (i + 1) ds' ∧ ds'.length ≤ i + 1 ∧ H C = some (.lst acc) ∧ Rps Z.K Z.pl G2 acc ds' ∧ G2 C = none ∧ J Z G2 H ∧ En Z G2 H (wipe σ vs) (wipeB Γ1 vs) ∧
        Ex G1 G2 ∧ (∀ a o, H1 a = some o → NotPl Z a → (∀ i : Nat, IsOwn Γ1[i]? → σ[i]? ≠ some (some (.ref a))) → H a = some o ∧ (G1 a = none → G2 a = none)) ∧ (∀ a o, H1 a = some o → ∃ o', H a = some o'),
        fun H' z => ⟨ds.length - (i + 1), by omega, rfl, hlt, z⟩, fun x H' y => ?_⟩
      obtain ⟨G3, dd, hdd, i3, r3⟩ := it.yld G2 H2 i x H' x2 j2 hlt y
      have j3 := j2.leave i3
      have e3 := e2.called j2.toJ0 i3.toJ0
      have npC : NotPl Z C := fun p c e => by
        obtain ⟨_, _, _, ⟨o1, z3⟩, ⟨o2, z4⟩, _⟩ := j1.pool p c e
        exact ⟨fun z => (by rw [← z] at z3; rw [hz] at z3; cases z3), fun z => (by rw [← z] at z4; rw [hz] at z4; cases z4)⟩
      have hC3 : H' C = some (.lst acc) := i3.fr C _ hCl npC
      have hg3 : G3 C = none := i3.out C _ hCl hg2
      have f3 : Sp1 Z σ Γ1 Γ1 G2 H2 G3 H' := .of i3
      refine hg.imp hm (hs i dd ds' hdd hl' iv (wipe σ vs) G3 H' x j3 e3 r3 (fun σ2 Hx => Hx = H' ∧ ∃ Γ2, (wipeB Γ2 vs = wipeB Γ1 vs ∧ (∀ i ∈ vs, ¬ IsOwn Γ2[i]?) ∧ DenT Z tt Γ2 fun b Γ3 => Γ3 = Γ2 ∧ if b = true then Den Z te Γ2 fun y Γ4 => Γ4 = Γ2 ∧ Iv (i + 1) (ds' ++ [y]) else Iv (i + 1) ds') ∧ En Z G3 H' σ2 Γ2) fun Γ2 σ2 q3 e4 => ⟨rfl, Γ2, q3, e4⟩) fun σ2 Hx off ⟨ex, Γ2, ⟨w1, w2, q3⟩, e4⟩ => ?_
      subst ex
      refine ⟨wipe_off off, ?_⟩
      have same : ∀ k : Nat, k ∉ vs → σ2[k]? = σ[k]? := fun k hk => by rw [off.2 k hk, wipe_out' σ hk]
      have own2 : ∀ k : Nat, IsOwn Γ2[k]? → k ∉ vs ∧ IsOwn Γ1[k]? := fun k o => by
        have hk : k ∉ vs := fun z => w2 k z o
        refine ⟨hk, ?_⟩
        have : Γ2[k]? = Γ1[k]? := by rw [← wipeB_out Γ2 hk, w1, wipeB_out Γ1 hk]
        rw [← this]; exact o
      have cv : ∀ {G H G' H'}, Sp1 Z σ2 Γ2 Γ2 G H G' H' → Sp1 Z σ Γ1 Γ1 G H G' H' := fun s => s.conv fun k o => ⟨(own2 k o).2, same k (own2 k o).1⟩
      have nd2 : ∀ k : Nat, IsOwn Γ2[k]? → σ2[k]? ≠ some (some (.ref C)) := fun k o => by
        rw [same k (own2 k o).1]; exact nd1 k (own2 k o).2
      have back : ∀ {G H}, En Z G H σ2 Γ2 → En Z G H (wipe σ vs) (wipeB Γ1 vs) := fun e => by
        have z := e.wipe vs
        rw [w1, wipe_off off] at z; exact z
      refine q3 σ2 G3 _ j3 e4 _ fun b Γ3 G4 H4 q4 s4 j4 e5 => ?_
      obtain ⟨rfl, q4⟩ := q4
      obtain ⟨hC4, hg4⟩ := s4.fr C _ hC3 npC nd2
      have f4 : Sp1 Z σ Γ1 Γ1 G2 H2 G4 H4 := f3.trans (cv s4)
      cases b with
      | false =>
        refine ⟨acc, ds', G4, q4, by omega, hC4, r2.mono f4.ex, hg4 hg3, j4, back e5, x2.trans f4.ex, fun a o ha n w => ?_, fun a o ha => ?_⟩
        · obtain ⟨z1, z2⟩ := f2 a o ha n w
          obtain ⟨z3, z4⟩ := f4.fr a o z1 n w
          exact ⟨z3, fun z => z4 (z2 z)⟩
        · obtain ⟨o', z⟩ := t2 a o ha
          exact f4.tr a o' z
      | true =>
        refine q4 σ2 G4 H4 j4 e5 _ fun yd Γ5 vy G5 H5 q5 s5 j5 e6 r5 => ?_
        obtain ⟨rfl, q5⟩ := q5
        obtain ⟨hC5, hg5⟩ := s5.fr C _ hC4 npC nd2
        have f5 : Sp1 Z σ Γ1 Γ1 G2 H2 G5 H5 := f4.trans (cv s5)
        have hg5' := hg5 (hg4 hg3)
        refine ⟨acc, hC5, ?_, acc ++ [vy], ds' ++ [yd], G5, q5, by simp; omega, upd_same, (r2.mono f5.ex).append (.one r5), hg5', j5.put hz hg5', ?_, x2.trans f5.ex, fun a o ha n w => ?_, fun a o ha => ?_⟩
        · rw [r2.length]; exact Nat.lt_of_lt_of_le (by omega : ds'.length < 100000) (by decide)
        · refine (back e6).mono (Ex.refl _) fun l o b1 b2 b3 ⟨n, o1, o2⟩ => ?_
          have hn : n ∉ vs := fun z => wipeB_in Γ1 z o1
          rw [wipeB_out Γ1 hn] at o1
          rw [wipe_out' σ hn] at o2
          have : l ≠ C := fun z => nd1 n o1 (by rw [o2, z])
          rw [upd_ne this]; exact ⟨b1, b2⟩
        · obtain ⟨z1, z2⟩ := f2 a o ha n w
          obtain ⟨z3, z4⟩ := f5.fr a o z1 n w
          exact ⟨by rw [upd_ne (fresh0 ha)]; exact z3, fun z => z4 (z2 z)⟩
        · obtain ⟨o', z⟩ := t2 a o ha
          obtain ⟨o'', z'⟩ := f5.tr a o' z
          exact ⟨o'', by rw [upd_ne (fresh0 ha)]; exact z'⟩
    · have ei : i = ds.length := by omega
      subst ei
      have e9 := e1.restore x2 e2 no
      exact .inl ⟨it.stop G2 H2 x2 j2, kk ds' Γ1 C acc G2 H2 (hd ds' hl' iv) (s1.trans ⟨x2, fun _ h => h, f2, t2⟩) j2 e9 hCl r2 ⟨hg2, hz, nd1⟩ (s1.back hC)⟩
end
end Ab
namespace Ab
open PySem L2
section
variable {Z : Cz} {Γ : List B} {te ta tb tc : TE} {tt tu : TT} {tr : TA} {P : Po}
/-! ### operators by data -/
theorem opd_i0 {f : Int → Int → Int} {i j : Int} {Q : D → Prop} (q : Q (.int (f i j))) : OpD Z (rI0 fun i j => .int (f i j)) (.int i) (.int j) Q := fun G H vx vy jj rx ry k kk => by
  cases rx; cases ry; exact ⟨i, j, rfl, rfl, kk _ _ G H q jj.enter (.int _)⟩
theorem opd_b0 {f : Int → Int → Bool} {i j : Int} {Q : D → Prop} (q : Q (.bl (f i j))) : OpD Z (rI0 fun i j => .bl (f i j)) (.int i) (.int j) Q := fun G H vx vy jj rx ry k kk => by
  cases rx; cases ry; exact ⟨i, j, rfl, rfl, kk _ _ G H q jj.enter (.bl _)⟩
theorem opd_ic {C : Int → Int → Prop} {f : Int → Int → Int} {i j : Int} {Q : D → Prop} (c : C i j) (q : Q (.int (f i j))) : OpD Z (rI C fun i j => .int (f i j)) (.int i) (.int j) Q := fun G H vx vy jj rx ry k kk => by
  cases rx; cases ry; exact ⟨i, j, rfl, rfl, c, kk _ _ G H q jj.enter (.int _)⟩
theorem und_i {f : Int → Int} {i : Int} {Q : D → Prop} (q : Q (.int (f i))) : UnD Z (rU fun i => .int (f i)) (.int i) Q := fun G H vx jj rx k kk => by
  cases rx; exact ⟨i, rfl, kk _ _ G H q jj.enter (.int _)⟩
/-- == of two scalars: ints, flags, texts, None (no flag beside an int) -/
theorem opd_eqI {i j : Int} {Q : D → Prop} (q : Q (.bl (decide (i = j)))) : OpD Z rEq (.int i) (.int j) Q := fun G H vx vy jj rx ry k kk => by
  cases rx; cases ry
  exact ⟨rfl, by rw [show decide (V.int i = V.int j) = decide (i = j) by simp]; exact kk _ _ G H q jj.enter (.bl _)⟩
theorem opd_neI {i j : Int} {Q : D → Prop} (q : Q (.bl (!decide (i = j)))) : OpD Z rNe (.int i) (.int j) Q := fun G H vx vy jj rx ry k kk => by
  cases rx; cases ry
  exact ⟨rfl, by rw [show decide (V.int i = V.int j) = decide (i = j) by simp]; exact kk _ _ G H q jj.enter (.bl _)⟩
theorem opd_eqS {i j : Str} {Q : D → Prop} (q : Q (.bl (decide (i = j)))) : OpD Z rEq (.str i) (.str j) Q := fun G H vx vy jj rx ry k kk => by
  cases rx; cases ry
  exact ⟨rfl, by rw [show decide (V.str i = V.str j) = decide (i = j) by simp]; exact kk _ _ G H q jj.enter (.bl _)⟩
theorem opd_neS {i j : Str} {Q : D → Prop} (q : Q (.bl (!decide (i = j)))) : OpD Z rNe (.str i) (.str j) Q := fun G H vx vy jj rx ry k kk => by
  cases rx; cases ry
  exact ⟨rfl, by rw [show decide (V.str i = V.str j) = decide (i = j) by simp]; exact kk _ _ G H q jj.enter (.bl _)⟩
theorem opd_eqB {i j : Bool} {Q : D → Prop} (q : Q (.bl (decide (i = j)))) : OpD Z rEq (.bl i) (.bl j) Q := fun G H vx vy jj rx ry k kk => by
  cases rx; cases ry
  exact ⟨rfl, by rw [show decide (V.bl i = V.bl j) = decide (i = j) by simp]; exact kk _ _ G H q jj.enter (.bl _)⟩
theorem opd_neB {i j : Bool} {Q : D → Prop} (q : Q (.bl (!decide (i = j)))) : OpD Z rNe (.bl i) (.bl j) Q := fun G H vx vy jj rx ry k kk => by
  cases rx; cases ry
  exact ⟨rfl, by rw [show decide (V.bl i = V.bl j) = decide (i = j) by simp]; exact kk _ _ G H q jj.enter (.bl _)⟩
/-! plain data -/
mutual
def pyD : D → PyData
  | .non => .none | .bl b => .bool b | .int i => .int i | .str x => .str x
  | .tup xs => .tuple (pysD xs) | .lst xs => .list (pysD xs) | _ => .none
def pysD : List D → List PyData
  | [] => []
  | x :: xs => pyD x :: pysD xs
end
mutual
def plainD : D → Bool
  | .non => true | .bl _ => true | .int _ => true | .str _ => true
  | .tup xs => plainsD xs | .lst xs => plainsD xs | _ => false
def plainsD : List D → Bool
  | [] => true
  | x :: xs => plainD x && plainsD xs
end
mutual
theorem Rp.dp {K pl} {G H : Hp} (e : Ex G H) : ∀ {v : V} {d : D}, plainD d = true → Rp K pl G v d → Dp K H v (pyD d)
  | _, _, _, .non => by unfold pyD; exact .non
  | _, _, _, .bl b => by unfold pyD; exact .bl b
  | _, _, _, .int i => by unfold pyD; exact .int i
  | _, _, _, .str x => by unfold pyD; exact .str x
  | _, _, p, .tup h r => by unfold pyD; exact .tup (SqT.of (e _ _ h)) (Rps.dp e (by unfold plainD at p; exact p) r)
  | _, _, p, .lst h r => by
    unfold pyD
    exact .lst (.inl (.inl (e _ _ h))) (Rps.dp e (by unfold plainD at p; exact p) r)
  | _, _, p, .dic _ => by unfold plainD at p; cases p
  | _, _, p, .obj _ _ _ => by unfold plainD at p; cases p
  | _, _, p, .pool _ => by unfold plainD at p; cases p
  | _, _, p, .ty _ => by unfold plainD at p; cases p
  | _, _, p, .cls _ => by unfold plainD at p; cases p
  | _, _, p, .scr _ => by unfold plainD at p; cases p
theorem Rps.dp {K pl} {G H : Hp} (e : Ex G H) : ∀ {vs : List V} {ds : List D}, plainsD ds = true → Rps K pl G vs ds → DpAll K H vs (pysD ds)
  | _, _, _, .nil => by unfold pysD; exact .nil
  | _, _, p, .cons h r => by
    unfold plainsD at p
    have p := Bool.and_eq_true_iff.mp p
    unfold pysD; exact .cons (Rp.dp e p.1 h) (Rps.dp e p.2 r)
end
theorem opd_eqD {x y : D} {Q : D → Prop} (px : plainD x = true) (py : plainD y = true) (sx : SeqAt.shaped (pyD x) = true) (sy : SeqAt.shaped (pyD y) = true) (q : Q (.bl (PyData.eqv (pyD x) (pyD y)))) : OpD Z (rEqD Z.K) x y Q := fun G H vx vy jj rx ry k kk =>
  ⟨_, _, rx.dp jj.sub px, ry.dp jj.sub py, sx, sy, kk _ _ G H q jj.enter (.bl _)⟩
theorem opd_neD {x y : D} {Q : D → Prop} (px : plainD x = true) (py : plainD y = true) (sx : SeqAt.shaped (pyD x) = true) (sy : SeqAt.shaped (pyD y) = true) (q : Q (.bl (!PyData.eqv (pyD x) (pyD y)))) : OpD Z (rNeD Z.K) x y Q := fun G H vx vy jj rx ry k kk =>
  ⟨_, _, rx.dp jj.sub px, ry.dp jj.sub py, sx, sy, kk _ _ G H q jj.enter (.bl _)⟩
/-! tuples and lists -/
theorem Rps.nil_iff {K pl} {G : Hp} {vs : List V} {ds : List D} (r : Rps K pl G vs ds) : vs = [] ↔ ds = [] := by
  cases r <;> simp
theorem opd_cat {xs ys : List D} {Q : D → Prop} (hz : xs.length + ys.length ≤ 100000) (q : Q (.tup (xs ++ ys))) : OpD Z (rCatA Z.K) (.tup xs) (.tup ys) Q := fun G H vx vy jj rx ry k kk => by
  cases rx with
  | @tup a vs _ h1 r1 => cases ry with
    | @tup b ws _ h2 r2 =>
      refine ⟨a, b, vs, ws, rfl, rfl, SqT.of (jj.sub _ _ h1), SqT.of (jj.sub _ _ h2), Nat.le_trans (by rw [r1.length, r2.length]; exact hz) (by decide), fun e => ?_, fun _ e => ?_, fun _ _ p hp => ?_⟩
      · have : xs = [] := r1.nil_iff.mp e
        subst this
        exact kk _ _ G H q jj.enter (.tup h2 r2)
      · have : ys = [] := r2.nil_iff.mp e
        subst this
        rw [List.append_nil] at q
        exact kk _ _ G H q jj.enter (.tup h1 r1)
      · have x := Ex.new (o := .tup (vs ++ ws)) (jj.sub.back hp)
        exact kk _ _ _ _ q (jj.sp hp) (.tup upd_same ((r1.mono x).append (r2.mono x)))
theorem opl_cat {xs ys : List D} {Q : List D → Prop} (hz : xs.length + ys.length ≤ 100000) (q : Q (xs ++ ys)) : OpL Z rCat (.lst xs) (.lst ys) Q := fun G H vx vy jj rx ry k kk => by
  cases rx with
  | @lst a vs _ h1 r1 => cases ry with
    | @lst b ws _ h2 r2 =>
      refine ⟨a, b, vs, ws, rfl, rfl, jj.sub _ _ h1, jj.sub _ _ h2, Nat.le_trans (by rw [r1.length, r2.length]; exact hz) (by decide), fun p hp => ?_⟩
      have n := jj.sub.back hp
      exact kk _ p _ G (upd H p (.lst (vs ++ ws))) q (jj.enter.put hp n) upd_same (r1.append r2) hp n
theorem opl_rep {xs : List D} {n : Int} {Q : List D → Prop} (h1 : -(2 ^ 63) ≤ n) (h2 : n < 2 ^ 63) (hz : xs.length * n.toNat ≤ 100000) (q : Q (List.replicate n.toNat xs).flatten) : OpL Z rRep (.lst xs) (.int n) Q := fun G H vx vy jj rx ry k kk => by
  cases rx with
  | @lst a vs _ g1 r1 =>
    cases ry
    refine ⟨a, n, vs, rfl, rfl, jj.sub _ _ g1, h1, h2, Nat.le_trans (by rw [r1.length]; exact hz) (by decide), fun p hp => ?_⟩
    have m := jj.sub.back hp
    exact kk _ p _ G (upd H p (.lst (List.replicate n.toNat vs).flatten)) q (jj.enter.put hp m) upd_same (r1.flat _) hp m
theorem atI_map {ds : List D} {vs : List V} {i : Int} {d : D} {K pl} {G : Hp} (r : Rps K pl G vs ds) (h : atI ds i = some d) : ∃ v, atI vs i = some v ∧ Rp K pl G v d := by
  unfold atI at h ⊢
  rw [r.length]
  cases e : ixN ds.length i with
  | none => rw [e] at h; cases h
  | some j =>
    rw [e] at h
    exact r.get h
theorem opd_ixT {xs : List D} {i : Int} {d : D} {Q : D → Prop} (h : atI xs i = some d) (q : Q d) : OpD Z (rIx Z.K) (.tup xs) (.int i) Q := fun G H vx vy jj rx ry k kk => by
  cases rx with
  | @tup a vs _ h1 r1 =>
    cases ry
    obtain ⟨v, hv, hr⟩ := atI_map r1 h
    exact .inr (.inl ⟨a, vs, i, v, rfl, rfl, SqT.of (jj.sub _ _ h1), hv, kk _ _ G H q jj.enter hr⟩)
theorem opd_ixL {xs : List D} {i : Int} {d : D} {Q : D → Prop} (h : atI xs i = some d) (q : Q d) : OpD Z (rIx Z.K) (.lst xs) (.int i) Q := fun G H vx vy jj rx ry k kk => by
  cases rx with
  | @lst a vs _ h1 r1 =>
    cases ry
    obtain ⟨v, hv, hr⟩ := atI_map r1 h
    have s : SqL Z.K H a vs := .inl (.inl (jj.sub _ _ h1))
    exact .inl ⟨a, vs, i, v, rfl, rfl, s, hv, kk _ _ G H q jj.enter hr⟩
/-- a list of one's own, read by its place -/
theorem den_ixO {m : Nat} {xs : List D} {Q : D → List B → Prop} (hm : Γ[m]? = some (.own xs)) (h : Den Z tb Γ fun y Γ1 => ∃ xs', Γ1[m]? = some (.own xs') ∧ ∃ i d, y = .int i ∧ atI xs' i = some d ∧ Q d Γ1) : Den Z (tOp (rIx Z.K) (tVar m) tb) Γ Q := fun σ G H j e k kk => by
  obtain ⟨v, h1, l, vs, h2, h3, h4, h5, h6⟩ := e.at_ m _ hm
  subst h2
  refine ⟨.ref l, h1, h σ G H j e _ fun y Γ1 vy G1 H1 q s1 j1 e1 r1 => ?_⟩
  obtain ⟨xs', hm1, i, d, rfl, hd, q⟩ := q
  obtain ⟨v', h1', l', vs', h2', h3', h4', h5', h6'⟩ := e1.at_ m _ hm1
  subst h2'
  rw [h1] at h1'
  cases h1'
  cases r1
  obtain ⟨v, hv, hr⟩ := atI_map h4' hd
  exact .inl ⟨l, vs', i, v, rfl, rfl, SqL.of h3', hv, kk d Γ1 v G1 H1 q s1 j1 e1 hr⟩
/-! slices -/
def DenO (Z : Cz) (to : TO) (Γ : List B) (Q : Option Int → List B → Prop) : Prop :=
  ∀ (σ : L2.St) (G H : Hp), J Z G H → En Z G H σ Γ → ∀ k : Option Int → Hp → Prop, (∀ o Γ' G' H', Q o Γ' → Sp1 Z σ Γ Γ' G H G' H' → J Z G' H' → En Z G' H' σ Γ' → k o H') → to σ H k
theorem deno_none {Q : Option Int → List B → Prop} (q : Q none Γ) : DenO Z tNoPart Γ Q := fun σ G H j e k kk => kk none Γ G H q .refl j e
theorem deno_some {Q : Option Int → List B → Prop} (h : Den Z te Γ fun x Γ1 => ∃ i, x = .int i ∧ Q (some i) Γ1) : DenO Z (tPart te) Γ Q := fun σ G H j e k kk =>
  h σ G H j e _ fun x Γ1 v G1 H1 q s1 j1 e1 r1 => by
    obtain ⟨i, rfl, q⟩ := q
    cases r1
    exact ⟨i, rfl, kk _ Γ1 G1 H1 q s1 j1 e1⟩
def cutD (xs : List D) (lo hi : Option Int) : List D := (xs.drop (HT.sIx xs.length 0 lo)).take (HT.sIx xs.length xs.length hi - HT.sIx xs.length 0 lo)
theorem cut_rps {K pl} {G : Hp} {vs : List V} {ds : List D} (r : Rps K pl G vs ds) (lo hi : Option Int) : Rps K pl G (cutV vs lo hi) (cutD ds lo hi) := by
  unfold cutV cutD
  rw [r.length]
  exact (r.drop _).take _
theorem cut_whole {xs : List D} {lo hi : Option Int} (h : HT.sIx xs.length 0 lo = 0 ∧ HT.sIx xs.length xs.length hi = xs.length) : cutD xs lo hi = xs := by
  unfold cutD
  rw [h.1, h.2]
  simp
theorem den_slT {to1 to2 : TO} {Q : D → List B → Prop} (h : Den Z te Γ fun x Γ1 => ∃ xs, x = .tup xs ∧ DenO Z to1 Γ1 fun lo Γ2 => DenO Z to2 Γ2 fun hi Γ3 => Q (.tup (cutD xs lo hi)) Γ3) : Den Z (tSl (rSlA Z.K) te to1 to2) Γ Q := fun σ G H j e k kk =>
  h σ G H j e _ fun x Γ1 v G1 H1 q s1 j1 e1 r1 => by
    obtain ⟨xs, rfl, q⟩ := q
    refine q σ G1 H1 j1 e1 _ fun lo Γ2 G2 H2 q2 s2 j2 e2 => q2 σ G2 H2 j2 e2 _ fun hi Γ3 G3 H3 q3 s3 j3 e3 => ?_
    have r3 := (r1.mono s2.ex).mono s3.ex
    have s := (s1.trans s2).trans s3
    cases r3 with
    | @tup a vs _ h1 r3 =>
      refine ⟨a, vs, rfl, SqT.of (j3.sub _ _ h1), fun w => ?_, fun w p hp => ?_⟩
      · rw [r3.length] at w
        have q3 : Q (.tup (cutD xs lo hi)) Γ3 := q3
        rw [cut_whole w] at q3
        exact kk _ Γ3 _ G3 H3 q3 s j3 e3 (.tup h1 r3)
      · exact kk _ Γ3 _ _ _ q3 (s.trans (.of (j3.sp hp))) (j3.new hp) (e3.new j3.toJ0 hp) (.tup upd_same (cut_rps (r3.mono (Ex.new (j3.sub.back hp))) lo hi))
theorem denl_slL {to1 to2 : TO} {Q : List D → List B → Prop} (h : Den Z te Γ fun x Γ1 => ∃ xs, x = .lst xs ∧ DenO Z to1 Γ1 fun lo Γ2 => DenO Z to2 Γ2 fun hi Γ3 => Q (cutD xs lo hi) Γ3) : DenL Z (tSl (rSlL Z.K) te to1 to2) Γ Q := fun σ G H j e k kk =>
  h σ G H j e _ fun x Γ1 v G1 H1 q s1 j1 e1 r1 => by
    obtain ⟨xs, rfl, q⟩ := q
    refine q σ G1 H1 j1 e1 _ fun lo Γ2 G2 H2 q2 s2 j2 e2 => q2 σ G2 H2 j2 e2 _ fun hi Γ3 G3 H3 q3 s3 j3 e3 => ?_
    have r3 := (r1.mono s2.ex).mono s3.ex
    have s := (s1.trans s2).trans s3
    cases r3 with
    | @lst a vs _ h1 r3 =>
      have sq : SqL Z.K H3 a vs := .inl (.inl (j3.sub _ _ h1))
      refine ⟨a, vs, rfl, sq, fun p hp => ?_⟩
      have n := j3.sub.back hp
      refine kk _ Γ3 p _ G3 (upd H3 p (.lst (cutV vs lo hi))) q3 (s.trans ⟨Ex.refl _, fun _ h => h, fun a o ha _ _ => ⟨?_, fun z => z⟩, fun a o ha => ⟨o, ?_⟩⟩) (j3.put (j3.old hp) n) (e3.newM hp) upd_same (cut_rps r3 lo hi) ⟨n, j3.old hp, fun i o => e3.noown hp i o⟩ (s.back hp)
      · rw [upd_ne (ne_of_none ha hp)]; exact ha
      · rw [upd_ne (ne_of_none ha hp)]; exact ha
/-! ### built-ins by data -/
abbrev rLen (K : PySem.W.Frag) : List V → Hp → VK → Prop := fun xs H Q => ∃ x n, xs = [x] ∧ LenV K x H n ∧ Q (.int n) H
theorem cad_lenT {xs : List D} {Q : D → Prop} (q : Q (.int xs.length)) : CaD Z (rLen Z.K) [.tup xs] Q := fun G H vs jj r k kk => by
  cases r with
  | cons a b =>
    cases b
    cases a with
    | @tup a ws _ h1 r1 => exact ⟨.ref a, xs.length, rfl, .inr ⟨ws, SqT.of (jj.sub _ _ h1), r1.length.symm⟩, kk _ _ G H q jj.enter (.int _)⟩
theorem cad_lenL {xs : List D} {Q : D → Prop} (q : Q (.int xs.length)) : CaD Z (rLen Z.K) [.lst xs] Q := fun G H vs jj r k kk => by
  cases r with
  | cons a b =>
    cases b
    cases a with
    | @lst a ws _ h1 r1 =>
      exact ⟨.ref a, xs.length, rfl, .inl ⟨ws, .inl (.inl (jj.sub _ _ h1)), r1.length.symm⟩, kk _ _ G H q jj.enter (.int _)⟩
theorem den_lenO {m : Nat} {xs : List D} {Q : D → List B → Prop} (hm : Γ[m]? = some (.own xs)) (q : Q (.int xs.length) Γ) : Den Z (tCB (rLen Z.K) (tCons (tVar m) tNil)) Γ Q := fun σ G H j e k kk => by
  obtain ⟨v, h1, l, vs, h2, h3, h4, h5, h6⟩ := e.at_ m _ hm
  subst h2
  exact ⟨.ref l, h1, .ref l, xs.length, rfl, .inl ⟨vs, SqL.of h3, h4.length.symm⟩, kk _ Γ _ G H q .refl j e (.int _)⟩
abbrev rAbs : List V → Hp → VK → Prop := fun xs H Q => ∃ i, xs = [.int i] ∧ Q (.int (if i < 0 then -i else i)) H
theorem cad_abs {i : Int} {Q : D → Prop} (q : Q (.int (if i < 0 then -i else i))) : CaD Z rAbs [.int i] Q := fun G H vs jj r k kk => by
  cases r with
  | cons a b => cases b; cases a; exact ⟨i, rfl, kk _ _ G H q jj.enter (.int _)⟩
abbrev rInt1 : List V → Hp → VK → Prop := fun xs H Q => (∃ i, xs = [.int i] ∧ Q (.int i) H) ∨ ∃ k, xs = [.bl k] ∧ Q (.int (if k then 1 else 0)) H
theorem cad_intI {i : Int} {Q : D → Prop} (q : Q (.int i)) : CaD Z rInt1 [.int i] Q := fun G H vs jj r k kk => by
  cases r with
  | cons a b => cases b; cases a; exact .inl ⟨i, rfl, kk _ _ G H q jj.enter (.int _)⟩
theorem cad_intB {b : Bool} {Q : D → Prop} (q : Q (.int (if b then 1 else 0))) : CaD Z rInt1 [.bl b] Q := fun G H vs jj r k kk => by
  cases r with
  | cons a b => cases b; cases a; exact .inr ⟨_, rfl, kk _ _ G H q jj.enter (.int _)⟩
theorem cad_gcd {i j : Int} {Q : D → Prop} (q : Q (.int (Nat.gcd i.natAbs j.natAbs : Nat))) : CaD Z rGcd [.int i, .int j] Q := fun G H vs jj r k kk => by
  cases r with
  | cons a b => cases b with
    | cons b c => cases c; cases a; cases b; exact ⟨i, j, rfl, kk _ _ G H q jj.enter (.int _)⟩
def bools : List D → Option (List Bool)
  | [] => some []
  | .bl b :: r => (bools r).map (b :: ·)
  | _ :: _ => none
theorem bools_vs {K pl} {G : Hp} : ∀ {vs : List V} {bs : List Bool}, Rps K pl G vs (bs.map D.bl) → vs = bs.map V.bl
  | _, [], .nil => rfl
  | _, b :: bs, .cons h r => by
    cases h
    rw [List.map_cons, bools_vs r]
theorem ints_vs {K pl} {G : Hp} : ∀ {vs : List V} {bs : List Int}, Rps K pl G vs (bs.map D.int) → vs = bs.map V.int
  | _, [], .nil => rfl
  | _, b :: bs, .cons h r => by
    cases h
    rw [List.map_cons, ints_vs r]
theorem Rp.sql {K pl} {G H : Hp} {v : V} {xs : List D} (e : Ex G H) (r : Rp K pl G v (.lst xs)) : ∃ a vs, v = .ref a ∧ SqL K H a vs ∧ Rps K pl G vs xs := by
  cases r with
  | @lst a ws _ h1 r1 =>
    exact ⟨a, ws, rfl, .inl (.inl (e _ _ h1)), r1⟩
theorem cad_all {bs : List Bool} {Q : D → Prop} (q : Q (.bl (bs.all id))) : CaD Z (rAll Z.K) [.lst (bs.map D.bl)] Q := fun G H vs jj r k kk => by
  cases r with
  | cons a b =>
    cases b
    obtain ⟨p, ws, rfl, s, r1⟩ := a.sql jj.sub
    have := bools_vs r1
    subst this
    exact ⟨p, bs, rfl, s, kk _ _ G H q jj.enter (.bl _)⟩
theorem cad_any {bs : List Bool} {Q : D → Prop} (q : Q (.bl (bs.any id))) : CaD Z (rAny Z.K) [.lst (bs.map D.bl)] Q := fun G H vs jj r k kk => by
  cases r with
  | cons a b =>
    cases b
    obtain ⟨p, ws, rfl, s, r1⟩ := a.sql jj.sub
    have := bools_vs r1
    subst this
    exact ⟨p, bs, rfl, s, kk _ _ G H q jj.enter (.bl _)⟩
theorem cad_sum {ns : List Int} {Q : D → Prop} (q : Q (.int ns.sum)) : CaD Z (rSum Z.K) [.lst (ns.map D.int)] Q := fun G H vs jj r k kk => by
  cases r with
  | cons a b =>
    cases b
    obtain ⟨p, ws, rfl, s, r1⟩ := a.sql jj.sub
    have := ints_vs r1
    subst this
    exact ⟨p, ns, rfl, s, kk _ _ G H q jj.enter (.int _)⟩
/-- tuple(list), list(..) -/
abbrev rTupleOf (K : PySem.W.Frag) : List V → Hp → VK → Prop := fun xs H Q => ∃ p ys, xs = [.ref p] ∧ ((SqL K H p ys ∧ ∀ l, H l = none → Q (.ref l) (upd H l (.tup ys))) ∨ (SqT K H p ys ∧ Q (.ref p) H))
theorem cad_tupleL {xs : List D} {Q : D → Prop} (q : Q (.tup xs)) : CaD Z (rTupleOf Z.K) [.lst xs] Q := fun G H vs jj r k kk => by
  cases r with
  | cons a b =>
    cases b
    obtain ⟨p, ws, rfl, s, r1⟩ := a.sql jj.sub
    exact ⟨p, ws, rfl, .inl ⟨s, fun p hp => kk _ _ _ _ q (jj.sp hp) (.tup upd_same (r1.mono (Ex.new (jj.sub.back hp))))⟩⟩
theorem cad_tupleT {xs : List D} {Q : D → Prop} (q : Q (.tup xs)) : CaD Z (rTupleOf Z.K) [.tup xs] Q := fun G H vs jj r k kk => by
  cases r with
  | cons a b =>
    cases b
    cases a with
    | @tup a ws _ h1 r1 => exact ⟨a, ws, rfl, .inr ⟨SqT.of (jj.sub _ _ h1), kk _ _ G H q jj.enter (.tup h1 r1)⟩⟩
theorem den_tupleO {m : Nat} {xs : List D} {Q : D → List B → Prop} (hm : Γ[m]? = some (.own xs)) (q : Q (.tup xs) Γ) : Den Z (tCB (rTupleOf Z.K) (tCons (tVar m) tNil)) Γ Q := fun σ G H j e k kk => by
  obtain ⟨v, h1, l, vs, h2, h3, h4, h5, h6⟩ := e.at_ m _ hm
  subst h2
  exact ⟨.ref l, h1, l, vs, rfl, .inl ⟨SqL.of h3, fun p hp => kk _ Γ _ (upd G p (.tup vs)) (upd H p (.tup vs)) q (.of (j.sp hp)) (j.new hp) (e.new j.toJ0 hp) (.tup upd_same (h4.mono (Ex.new (j.sub.back hp))))⟩⟩
abbrev rListOf (K : PySem.W.Frag) : List V → Hp → VK → Prop := fun xs H Q => ∃ p ys, xs = [.ref p] ∧ (SqL K H p ys ∨ SqT K H p ys) ∧ ∀ l, H l = none → Q (.ref l) (upd H l (.lst ys))
theorem cal_listL {xs : List D} {Q : List D → Prop} (q : Q xs) : CaL Z (rListOf Z.K) [.lst xs] Q := fun G H vs jj r k kk => by
  cases r with
  | cons a b =>
    cases b
    obtain ⟨p, ws, rfl, s, r1⟩ := a.sql jj.sub
    exact ⟨p, ws, rfl, .inl s, fun p hp => kk _ p _ G _ q (jj.enter.put hp (jj.sub.back hp)) upd_same r1 hp (jj.sub.back hp)⟩
theorem cal_listT {xs : List D} {Q : List D → Prop} (q : Q xs) : CaL Z (rListOf Z.K) [.tup xs] Q := fun G H vs jj r k kk => by
  cases r with
  | cons a b =>
    cases b
    cases a with
    | @tup a ws _ h1 r1 => exact ⟨a, ws, rfl, .inr (SqT.of (jj.sub _ _ h1)), fun p hp => kk _ p _ G _ q (jj.enter.put hp (jj.sub.back hp)) upd_same r1 hp (jj.sub.back hp)⟩
/-! isinstance -/
def tagD : D → Option String
  | .non => some "NoneType" | .bl _ => some "bool" | .int _ => some "int" | .str _ => some "str" | .tup _ => some "tuple" | .lst _ => some "list" | .dic => some "dict"
  | _ => none
theorem tag_ty {K pl} {G H : Hp} {v : V} {x : D} {t : String} (e : Ex G H) (h : tagD x = some t) (r : Rp K pl G v x) : TyX K H v (.type t) := by
  cases r with
  | non => cases h; exact .base .non
  | bl b => cases h; exact .base (.bl b)
  | int b => cases h; exact .base (.int b)
  | str b => cases h; exact .base (.str b)
  | tup h1 _ => cases h; exact .base (.tup (e _ _ h1))
  | lst h1 _ =>
    cases h
    exact .base (.lst (e _ _ h1))
  | dic h1 => cases h; exact .base (.dK (e _ _ h1))
  | obj _ _ _ => cases h
  | pool _ => cases h
  | ty _ => cases h
  | cls _ => cases h
  | scr _ => cases h
theorem cad_isi {x : D} {t T : String} {b : Bool} {Q : D → Prop} (h : tagD x = some t) (hk : kitB t T = some b) (q : Q (.bl b)) : CaD Z (rIsi Z.K) [x, .ty T] Q := fun G H vs jj r k kk => by
  cases r with
  | cons a c => cases c with
    | cons c d =>
      cases d; cases c
      exact ⟨_, _, _, _, b, rfl, .ty T, tag_ty jj.sub h a, kit_ty hk, kk _ _ G H q jj.enter (.bl _)⟩
/-! ### lists of one's own: append, pop, item stores -/
theorem den_append {m : Nat} {xs : List D} {T : String} {Q : D → List B → Prop} (hm : Γ[m]? = some (.own xs)) (hT : T = "list") (h : Den Z te Γ fun x Γ1 => ∃ xs', Γ1[m]? = some (.own xs') ∧ xs'.length < 100000 ∧ Q .non (Γ1.set m (.own (xs' ++ [x])))) :
    Den Z (tBM Z.K T rAppend (tVar m) (tCons te tNil)) Γ Q := fun σ G H j e k kk => by
  obtain ⟨v, h1, l, vs, h2, h3, h4, h5, h6⟩ := e.at_ m _ hm
  subst h2; subst hT
  refine ⟨.ref l, h1, .inl ⟨rfl, vs, SqL.of h3⟩, h σ G H j e _ fun x Γ1 vx G1 H1 q s1 j1 e1 r1 => ?_⟩
  obtain ⟨xs', hm1, hl, q⟩ := q
  obtain ⟨v', h1', l', vs', h2', h3', h4', h5', h6'⟩ := e1.at_ m _ hm1
  subst h2'
  rw [h1] at h1'
  cases h1'
  refine ⟨l, vs', vx, rfl, rfl, h3', Nat.lt_of_lt_of_le (by rw [h4'.length]; exact hl) (by decide), ?_⟩
  have om : IsOwn Γ1[m]? := by rw [hm1]; trivial
  have hmlt : m < Γ1.length := (List.getElem?_eq_some_iff.mp hm1).1
  refine kk .non _ .non G1 (upd H1 l (.lst (vs' ++ [vx]))) q (s1.trans ⟨Ex.refl _, fun i o => ?_, fun a o ha n w => ?_, fun a o ha => ?_⟩) (j1.put h6' h5') ?_ .non
  · by_cases hi : m = i
    · subst hi; exact om
    · rw [List.getElem?_set_ne hi] at o; exact o
  · have : a ≠ l := fun z => w m om (by rw [h1, z])
    rw [upd_ne this]; exact ⟨ha, fun z => z⟩
  · by_cases z : a = l
    · subst z; exact ⟨_, upd_same⟩
    · exact ⟨o, by rw [upd_ne z]; exact ha⟩
  · refine ⟨by rw [List.length_set]; exact e1.len, fun i b hb => ?_, fun i n l2 o1 o2 => ?_⟩
    · by_cases hi : m = i
      · subst hi
        rw [List.getElem?_set_self hmlt] at hb
        cases hb
        exact ⟨_, h1, l, _, rfl, upd_same, h4'.append (.one r1), h5', h6'⟩
      · rw [List.getElem?_set_ne hi] at hb
        obtain ⟨v, a1, a2⟩ := e1.at_ i b hb
        refine ⟨v, a1, a2.mono (Ex.refl _) fun l2 o b1 b2 b3 b4 b5 => ⟨?_, b2⟩⟩
        have : l2 ≠ l := fun z => hi (e1.dis m i l om (by rw [hb]; exact b5) h1 (by rw [a1, b4, z]))
        rw [upd_ne this]; exact b1
    · have ow : ∀ i : Nat, IsOwn (Γ1.set m (.own (xs' ++ [x])))[i]? → IsOwn Γ1[i]? := fun i o => by
        by_cases hi : m = i
        · subst hi; exact om
        · rw [List.getElem?_set_ne hi] at o; exact o
      exact e1.dis i n l2 (ow i o1) (ow n o2)
/-- what a list of one's own becomes when its items change -/
theorem own_put {σ : L2.St} {G1 H1 : Hp} {Γ1 : List B} {m : Nat} {xs' ys : List D} {l : Addr} {ws : List V} (e1 : En Z G1 H1 σ Γ1) (hm1 : Γ1[m]? = some (.own xs')) (h1 : σ[m]? = some (some (.ref l))) (r : Rps Z.K Z.pl G1 ws ys) :
    Sp1 Z σ Γ1 (Γ1.set m (.own ys)) G1 H1 G1 (upd H1 l (.lst ws)) ∧ En Z G1 (upd H1 l (.lst ws)) σ (Γ1.set m (.own ys)) ∧ G1 l = none ∧ Z.H0 l = none := by
  obtain ⟨v', h1', l', vs', h2', h3', h4', h5', h6'⟩ := e1.at_ m _ hm1
  subst h2'
  rw [h1] at h1'
  cases h1'
  have om : IsOwn Γ1[m]? := by rw [hm1]; trivial
  have hmlt : m < Γ1.length := (List.getElem?_eq_some_iff.mp hm1).1
  refine ⟨⟨Ex.refl _, fun i o => ?_, fun a o ha n w => ?_, fun a o ha => ?_⟩, ?_, h5', h6'⟩
  · by_cases hi : m = i
    · subst hi; exact om
    · rw [List.getElem?_set_ne hi] at o; exact o
  · have : a ≠ l := fun z => w m om (by rw [h1, z])
    rw [upd_ne this]; exact ⟨ha, fun z => z⟩
  · by_cases z : a = l
    · subst z; exact ⟨_, upd_same⟩
    · exact ⟨o, by rw [upd_ne z]; exact ha⟩
  · refine ⟨by rw [List.length_set]; exact e1.len, fun i b hb => ?_, fun i n l2 o1 o2 => ?_⟩
    · by_cases hi : m = i
      · subst hi
        rw [List.getElem?_set_self hmlt] at hb
        cases hb
        exact ⟨_, h1, l, _, rfl, upd_same, r, h5', h6'⟩
      · rw [List.getElem?_set_ne hi] at hb
        obtain ⟨v, a1, a2⟩ := e1.at_ i b hb
        refine ⟨v, a1, a2.mono (Ex.refl _) fun l2 o b1 b2 b3 b4 b5 => ⟨?_, b2⟩⟩
        have : l2 ≠ l := fun z => hi (e1.dis m i l om (by rw [hb]; exact b5) h1 (by rw [a1, b4, z]))
        rw [upd_ne this]; exact b1
    · have ow : ∀ i : Nat, IsOwn (Γ1.set m (.own ys))[i]? → IsOwn Γ1[i]? := fun i o => by
        by_cases hi : m = i
        · subst hi; exact om
        · rw [List.getElem?_set_ne hi] at o; exact o
      exact e1.dis i n l2 (ow i o1) (ow n o2)
theorem den_popAt {m : Nat} {xs : List D} {T : String} {Q : D → List B → Prop} (hm : Γ[m]? = some (.own xs)) (hT : T = "list") (h : Den Z te Γ fun x Γ1 => ∃ xs', Γ1[m]? = some (.own xs') ∧ ∃ i d, x = .int (i : Nat) ∧ xs'[i]? = some d ∧ xs'.length ≤ 100000 ∧ Q d (Γ1.set m (.own (xs'.eraseIdx i)))) :
    Den Z (tBM Z.K T rPopAt (tVar m) (tCons te tNil)) Γ Q := fun σ G H j e k kk => by
  obtain ⟨v, h1, l, vs, h2, h3, h4, h5, h6⟩ := e.at_ m _ hm
  subst h2; subst hT
  refine ⟨.ref l, h1, .inl ⟨rfl, vs, SqL.of h3⟩, h σ G H j e _ fun x Γ1 vx G1 H1 q s1 j1 e1 r1 => ?_⟩
  obtain ⟨xs', hm1, i, d, rfl, hd, hl, q⟩ := q
  obtain ⟨v', h1', l', vs', h2', h3', h4', h5', h6'⟩ := e1.at_ m _ hm1
  subst h2'
  rw [h1] at h1'
  cases h1'
  cases r1
  obtain ⟨w, hw, hr⟩ := h4'.get hd
  have hi : i < xs'.length := (List.getElem?_eq_some_iff.mp hd).1
  have hlen := h4'.length
  obtain ⟨s2, e2, g2, z2⟩ := own_put (ys := xs'.eraseIdx i) e1 hm1 h1 (h4'.eraseIdx i)
  refine ⟨l, vs', _, i, w, rfl, rfl, h3', by omega, by omega, ?_, hw, ?_⟩
  · have := (ixN_seq (n := vs'.length) (i := (i : Int)) (j := i) (by unfold ixN; rw [if_pos (by omega), if_pos (by omega)]; simp)).1
    exact this
  · exact kk d _ w G1 _ q (s1.trans s2) (j1.put z2 g2) e2 hr
theorem dens_setO {m : Nat} {xs : List D} (hm : Γ[m]? = some (.own xs)) (h : Den Z te Γ fun x Γ1 => (∃ xs', Γ1[m]? = some (.own xs')) ∧ Den Z tb Γ1 fun y Γ2 => ∃ xs', Γ2[m]? = some (.own xs') ∧ ∃ (i : Int) (n : Nat), y = .int i ∧ ixN xs'.length i = some n ∧ P.N (Γ2.set m (.own (xs'.set n x)))) :
    DenS Z (tAsg te (gSub (tVar m) tb rSetL)) Γ P := fun σ G H j e De d =>
  h σ G H j e _ fun x Γ1 vx G1 H1 q s1 j1 e1 r1 => by
    obtain ⟨⟨xs1, hm1⟩, q⟩ := q
    obtain ⟨v, h1, l, vs, h2, h3, h4, h5, h6⟩ := e1.at_ m _ hm1
    subst h2
    refine ⟨.ref l, h1, q σ G1 H1 j1 e1 _ fun y Γ2 vy G2 H2 q2 s2 j2 e2 r2 => ?_⟩
    obtain ⟨xs', hm2, i, n, rfl, hn, q2⟩ := q2
    obtain ⟨v', h1', l', vs', h2', h3', h4', h5', h6'⟩ := e2.at_ m _ hm2
    subst h2'
    rw [h1] at h1'
    cases h1'
    cases r2
    obtain ⟨s3, e3, g3, z3⟩ := own_put (ys := xs'.set n x) e2 hm2 h1 (Rps.set (r1.mono s2.ex) n h4')
    refine ⟨l, vs', i, n, rfl, rfl, h3', by rw [h4'.length]; exact hn, ?_⟩
    exact d.n _ σ G2 _ q2 (s1.ex.trans s2.ex) (j2.put z3 g3) e3
end
end Ab
namespace Ab
open PySem L2
/-! ### defs -/
structure FSpec where
  P : List D → Prop
  R : List D → D → Prop
  X : List D → Er → Prop := fun _ _ => False
abbrev Cz.call (K : PySem.W.Frag) (pl : Option (Addr × Addr)) (H G : Hp) : Cz := ⟨K, pl, H, G, fun _ _ _ _ => True, fun _ _ => False⟩
def spS (K : PySem.W.Frag) (n : Nat) (S : FSpec) : Sp := fun vs H Q E => ∃ pl G ds, J (Cz.call K pl H G) G H ∧ Rps K pl G vs ds ∧ ds.length = n ∧ S.P ds ∧
  (∀ d v G' H', S.R ds d → J (Cz.call K pl H G) G' H' → Rp K pl G' v d → Q v H') ∧
  (∀ er cls d G' H', S.X ds er → J (Cz.call K pl H G) G' H' → RpEr0 K pl G' cls d er → E cls d H')
theorem J0.re {Z Z' : Cz} {G H : Hp} (j : J0 Z G H) (h0 : Z'.H0 = Z.H0) (g0 : Z'.G0 = Z.G0) (p : Z'.pl = Z.pl) : J0 Z' G H := by
  obtain ⟨K, pl, H0, G0, W, X⟩ := Z
  obtain ⟨K', pl', H0', G0', W', X'⟩ := Z'
  cases h0; cases g0; cases p
  exact ⟨j.sub, j.g0, j.out, j.fr, j.pool⟩
theorem en_start {Z : Cz} {G H : Hp} {N : List Str} {vs : List V} {ds : List D} (r : Rps Z.K Z.pl G vs ds) (hl : ds.length ≤ N.length) : En Z G H (L2.start N vs) (ds.map B.d ++ List.replicate (N.length - ds.length) .un) := by
  have e := r.length
  refine ⟨by simp [L2.start, e], fun i b h => ?_, fun i j l o => ?_⟩
  · by_cases hi : i < ds.length
    · rw [List.getElem?_append_left (by simpa using hi), List.getElem?_map] at h
      cases q : ds[i]? with
      | none => rw [q] at h; cases h
      | some d =>
        rw [q] at h; cases h
        obtain ⟨v, hv, hr⟩ := r.get q
        refine ⟨some v, ?_, v, rfl, hr⟩
        unfold L2.start
        rw [List.getElem?_append_left (by simpa [e] using hi), List.getElem?_map, hv]
        rfl
    · have hi' : ds.length ≤ i := by omega
      rw [List.getElem?_append_right (by simpa using hi')] at h
      have : b = .un := by
        rw [List.getElem?_replicate] at h
        split at h
        · exact (Option.some.inj h).symm
        · cases h
      subst this
      refine ⟨none, ?_, trivial⟩
      unfold L2.start
      rw [List.getElem?_append_right (by simpa [e] using hi'), List.getElem?_replicate]
      rw [List.getElem?_replicate] at h
      split at h
      · rename_i z
        rw [if_pos (by simp [e] at z ⊢; exact z)]
      · cases h
  · exfalso
    by_cases hi : i < ds.length
    · rw [List.getElem?_append_left (by simpa using hi), List.getElem?_map] at o
      cases q : ds[i]? with
      | none => rw [q] at o; exact o.elim
      | some d => rw [q] at o; exact o.elim
    · rw [List.getElem?_append_right (by simpa using (show ds.length ≤ i by omega)), List.getElem?_replicate] at o
      split at o
      · exact o.elim
      · exact o.elim
section
variable {P : Program} {w : World} {K : PySem.W.Frag} {mg : Str → Option Value} {base : Heap}
/-- THE RULE for a def -/
theorem fn_ab {x qual : Str} {st : Stmt} {f : Addr} {fd : FuncData} {N ps : List Str} {k : Nat} (F : Fun K x qual st f fd) (Sc : FnScope N ps (defScope st)) (S : FSpec) (hl : ps.length ≤ N.length)
    (hbody : ∀ (cdv : Value) (A : Around) (outer : List PySem.Env) (s : Shared) (H : Hp) (E : XK) (ds : List D) (W : WX), Room k (A.deeper (PyProof.Rows.envOfC qual (defScope st) s.heap.objs.size f cdv)) → Takes (cxOf (L2.CX P w) P w K mg base N qual (defScope st) f cdv A outer s H E) W →
      ds.length = ps.length → S.P ds →
      ∃ t, PSs (cxOf (L2.CX P w) P w K mg base N qual (defScope st) f cdv A outer s H E) (defBody st) t ∧
        ∀ Z : Cz, Z.K = K → Z.W = W → (∀ er Γ, S.X ds er → Z.X er Γ) → DenS Z t (ds.map B.d ++ List.replicate (N.length - ds.length) .un) ⟨fun _ => S.R ds .non, S.R ds, fun _ => False, fun _ => False⟩) : FnOk P w K mg base (L2.CX P w) (k + 1) f fd ps (spS K ps.length S) := by
  refine F.okX Sc (fun vs H Q E h => ?_) (fun cdv A outer s H vs Q E hr h => ?_)
  · obtain ⟨pl, G, ds, _, r, hn, _⟩ := h
    rw [r.length, hn]
  · obtain ⟨pl, G, ds, j, r, hn, hp, hq, he⟩ := h
    obtain ⟨t, h1, h2⟩ := hbody cdv A outer s H E ds (fun cls d _ H => E cls d H) hr (takes_of rfl rfl rfl rfl) hn hp
    refine ⟨t, h1, h2 ⟨K, pl, H, G, fun cls d _ H => E cls d H, fun er _ => S.X ds er⟩ rfl rfl (fun er Γ h => h) _ G H ⟨j.toJ0.re rfl rfl rfl, fun er cls d σ G' H' Γ hx _ j' _ re => he er cls d G' H' hx ⟨j'.re rfl rfl rfl, fun _ _ _ _ _ _ _ z => z.elim⟩ re⟩ (en_start r (by omega)) _ ⟨fun Γ σ G' H' hN _ j' _ => hq .non .non G' H' hN ⟨j'.toJ0.re rfl rfl rfl, fun _ _ _ _ _ _ _ z => z.elim⟩ .non,
      fun x v G' H' hR _ j' rx => hq x v G' H' hR ⟨j'.toJ0.re rfl rfl rfl, fun _ _ _ _ _ _ _ z => z.elim⟩ rx, fun _ _ _ _ z => z.elim, fun _ _ _ _ z => z.elim⟩⟩
/-- a def, as its callers know it -/
structure Dfn (P : Program) (w : World) (K : PySem.W.Frag) (mg : Str → Option Value) (base : Heap) (x : Str) (k n : Nat) (S : FSpec) : Prop where
  ex : ∃ f fd ps, FnOk P w K mg base (L2.CX P w) k f fd ps (spS K n S) ∧ mg x = some (.ref f) ∧ PySem.W.keepIn K (.ref f) = true ∧ Binds K fd ps []
theorem Dfn.imp {x : Str} {k n : Nat} {S S' : FSpec} (c : Dfn P w K mg base x k n S) (hP : ∀ ds, S'.P ds → S.P ds) (hR : ∀ ds d, S'.P ds → S.R ds d → S'.R ds d) (hX : ∀ ds d, S'.P ds → S.X ds d → S'.X ds d) : Dfn P w K mg base x k n S' := by
  obtain ⟨f, fd, ps, h1, h2⟩ := c.ex
  refine ⟨f, fd, ps, h1.imp fun vs H Q E h => ?_, h2⟩
  obtain ⟨pl, G, ds, j, r, hn, hp, hq, he⟩ := h
  exact ⟨pl, G, ds, j, r, hn, hP ds hp, fun d v G' H' a => hq d v G' H' (hR ds d hp a), fun er cls d G' H' a => he er cls d G' H' (hX ds er hp a)⟩
end
section
variable {X : Cx} {x : Str} {e : Expr} {es : List Expr} {t : TA} {k n j : Nat} {S : FSpec} {p pos : Pos}
theorem pe_fn (c : Dfn X.prog X.w X.K X.mg X.base x k n S) (hr : Room j X.A) (hk : k ≤ j) (hg : Gl X x) (ha : PA X (e :: es) t) (hdb : (x == ("__debug__" : Str)) = false := by decide)
    (he : starEach (e :: es) X.env = (false, eval e X.env) :: starEach es X.env := by rfl) (hpl : (backTo pos (starEach es X.env)).any (·.1) = false := by rfl) : PE X (.Call (.Name x p) (e :: es) [] pos) (tCall (spS X.K n S) [] E0 t) := by
  obtain ⟨f, fd, ps, h1, h2, h3, h4⟩ := c.ex
  exact pe_call h1 (hr.mono hk) hg h2 h3 h4 .nil passL ha hdb he hpl
theorem pe_fn0 (c : Dfn X.prog X.w X.K X.mg X.base x k n S) (hr : Room j X.A) (hk : k ≤ j) (hg : Gl X x) (hdb : (x == ("__debug__" : Str)) = false := by decide)
    (hpl : (backTo pos (starEach [] X.env)).any (·.1) = false := by rfl) : PE X (.Call (.Name x p) [] [] pos) (tCall (spS X.K n S) [] E0 tNil) := by
  obtain ⟨f, fd, ps, h1, h2, h3, h4⟩ := c.ex
  exact pe_call0 h1 (hr.mono hk) hg h2 h3 h4 .nil passL hdb
theorem pe_fnX {W : WX} (tk : Takes X W) (c : Dfn X.prog X.w X.K X.mg X.base x k n S) (hr : Room j X.A) (hk : k ≤ j) (hg : Gl X x) (ha : PA X (e :: es) t) (hdb : (x == ("__debug__" : Str)) = false := by decide)
    (he : starEach (e :: es) X.env = (false, eval e X.env) :: starEach es X.env := by rfl) (hpl : (backTo pos (starEach es X.env)).any (·.1) = false := by rfl) : PE X (.Call (.Name x p) (e :: es) [] pos) (tCallS (spS X.K n S) (WE W) t) := by
  obtain ⟨f, fd, ps, h1, h2, h3, h4⟩ := c.ex
  exact pe_callS h1 (hr.mono hk) hg h2 h3 h4 (fun σ => passAt tk σ) ha hdb he hpl
end
section
variable {Z : Cz} {Γ : List B} {te ta tb tc : TE} {tt tu : TT} {tr : TA} {P : Po}
theorem call_at {G H : Hp} : Cz.call Z.K Z.pl H G = Z.at H G := rfl
theorem den_call {n : Nat} {S : FSpec} {E : XK} {Q : D → List B → Prop} (h : DenA Z tr Γ fun ds Γ1 => ds.length = n ∧ S.P ds ∧ (∀ d, S.R ds d → Q d Γ1) ∧ ∀ er, ¬ S.X ds er) : Den Z (tCall (spS Z.K n S) [] E tr) Γ Q := fun σ G H j e k kk =>
  h σ G H j e _ fun ds Γ1 vs G1 H1 q s1 j1 e1 r1 => by
    obtain ⟨hn, hp, hr, hx⟩ := q
    refine ⟨Z.pl, G1, ds, j1.enter, by rw [List.append_nil]; exact r1, hn, hp, fun d v G' H' a i r => ?_, fun er _ _ _ _ a => absurd a (hx er)⟩
    exact kk d Γ1 v G' H' (hr d a) (s1.trans (.of i)) (j1.leave i) (e1.called j1.toJ0 i.toJ0) r
/-- a call that may raise -/
theorem den_callX {n : Nat} {S : FSpec} {Q : D → List B → Prop} (h : DenA Z tr Γ fun ds Γ1 => ds.length = n ∧ S.P ds ∧ (∀ d, S.R ds d → Q d Γ1) ∧ ∀ er, S.X ds er → Z.X er Γ1) : Den Z (tCallS (spS Z.K n S) (WE Z.W) tr) Γ Q := fun σ G H j e k kk =>
  h σ G H j e _ fun ds Γ1 vs G1 H1 q s1 j1 e1 r1 => by
    obtain ⟨hn, hp, hr, hx⟩ := q
    refine ⟨Z.pl, G1, ds, j1.enter, r1, hn, hp, fun d v G' H' a i r => ?_, fun er cls d G' H' a i re => ?_⟩
    · exact kk d Γ1 v G' H' (hr d a) (s1.trans (.of i)) (j1.leave i) (e1.called j1.toJ0 i.toJ0) r
    · exact j1.acc er cls d σ G' H' Γ1 (hx er a) i.g0 (j1.leave i).toJ0 (e1.called j1.toJ0 i.toJ0) re
/-! ### exceptions of one's own with one field -/
/-- __init__(self, f): self.f = f -/
def spXI (C : Addr) (f : Str) : Sp := fun vs H Q _ => ∃ (a : Addr) (y : V), vs = [.ref a, y] ∧ H a = some (exo a C none) ∧ ∀ dx, H dx = none → dx ≠ a → Q .non (upd (upd H dx (exd dx [(f, y)])) a (exo a C (some dx)))
/-- raise C(e) -/
theorem dens_raise {C : Addr} {f : Str} (h : Den Z te Γ fun x Γ1 => Z.X ⟨C, [f], [x]⟩ Γ1) : DenS Z (fun _ σ H => tMkO C (spXI C f) [] (tCons te tNil) σ H fun cls d H' => Z.W cls d σ H') Γ P := fun σ G H j e De d =>
  h σ G H j e _ fun x Γ1 v G1 H1 q s1 j1 e1 r1 => ⟨(by show 1 ≤ 1000; decide), fun a ha => ⟨a, v, rfl, upd_same, fun dx hd ne => by
    have hd1 : H1 dx = none := by rw [upd_ne ne] at hd; exact hd
    refine ⟨rfl, dx, [(f, v)], upd_same, by rw [upd_ne ne, upd_same], hd1, ?_⟩
    have eH : upd (del (upd (upd (upd H1 a (exo a C none)) dx (exd dx [(f, v)])) a (exo a C (some dx))) a) dx (.xd [(f, v)]) = upd H1 dx (.xd [(f, v)]) := by
      funext b
      by_cases h1 : b = dx
      · rw [h1, upd_same, upd_same]
      · rw [upd_ne h1, upd_ne h1]
        by_cases h2 : b = a
        · rw [h2, del_same, ha]
        · rw [del_ne h2, upd_ne h2, upd_ne h1, upd_ne h2]
    rw [eH]
    have j2 := j1.new (o := .xd [(f, v)]) hd1
    exact j2.acc ⟨C, [f], [x]⟩ _ _ σ _ _ Γ1 q (Ex.refl _) j2.toJ0 (e1.new j1.toJ0 hd1) ⟨rfl, .inr ⟨dx, [v], rfl, upd_same, rfl, .one (r1.mono (Ex.new (j1.sub.back hd1)))⟩⟩⟩⟩
end
end Ab
namespace Ab
open PySem L2
section
variable {Z : Cz} {Γ : List B} {te ta tb tc : TE} {tt tu : TT} {tr : TA} {P : Po}
/-! ### try -/
/-- a name's slot emptied -/
def unset (Γ : List B) (i : Nat) : List B := Γ.set i .un
/-- the same state seen with other wishes of exceptions -/
abbrev Cz.wx (Z : Cz) (W : WX) (X : Er → List B → Prop) : Cz := { Z with W := W, X := X }
theorem En.wx {G H : Hp} {σ : L2.St} {W X} (e : En Z G H σ Γ) : En (Z.wx W X) G H σ Γ := ⟨e.len, fun i b h => by
  obtain ⟨v, h1, h2⟩ := e.at_ i b h
  refine ⟨v, h1, ?_⟩
  cases b <;> exact h2, e.dis⟩
theorem En.ofwx {G H : Hp} {σ : L2.St} {W X} (e : En (Z.wx W X) G H σ Γ) : En Z G H σ Γ := ⟨e.len, fun i b h => by
  obtain ⟨v, h1, h2⟩ := e.at_ i b h
  refine ⟨v, h1, ?_⟩
  cases b <;> exact h2, e.dis⟩
theorem J0.wx {G H : Hp} {W X} (j : J0 Z G H) : J0 (Z.wx W X) G H := j.re rfl rfl rfl
theorem J0.ofwx {G H : Hp} {W X} (j : J0 (Z.wx W X) G H) : J0 Z G H := j.re rfl rfl rfl
theorem En.exc {G H : Hp} {σ : L2.St} {i : Nat} {a : Addr} {cls : Value} {d : Option Addr} {er : Er} (e : En Z G H σ Γ) (r : RpEr0 Z.K Z.pl G cls d er) : En Z G H (σ.set i (some (.ref a))) (Γ.set i (.exc a cls d er)) :=
  e.set ⟨rfl, r⟩ fun _ o => o.elim
theorem En.unset {G H : Hp} {σ : L2.St} {i : Nat} (e : En Z G H σ Γ) : En Z G H (σ.set i none) (unset Γ i) :=
  e.un (fun k hk => List.getElem?_set_ne hk.symm) List.length_set
/-- try: body except C as n: suite -/
theorem dens_try {c : Value} {i : Nat} {tb : WX → TS} {ts : Addr → Value → Option Addr → TS} {Y : Er → List B → Prop}
    (hb : ∀ W, DenS (Z.wx W Y) (tb W) Γ P)
    (hs : ∀ er Γ', Y er Γ' → ∃ b, PySem.W.exmOne Z.K (.ref er.cls) c = some b ∧ (b = true → ∀ a d, DenS Z (ts a (.ref er.cls) d) (Γ'.set i (.exc a (.ref er.cls) d er)) ⟨fun Γ2 => P.N (unset Γ2 i), P.R, fun Γ2 => P.Bk (unset Γ2 i), fun Γ2 => P.Ct (unset Γ2 i)⟩) ∧ (b = false → Z.X er Γ')) :
    DenS Z (fun De σ H => tb (wAs Z.K c i ts Z.W De) De σ H) Γ P := fun σ G H j e De d => by
  refine hb (wAs Z.K c i ts Z.W De) σ G H ⟨j.toJ0.wx, fun er cls dd σ' G' H' Γ' hy x j' e' re => ?_⟩ e.wx De ⟨fun Γ2 σ2 G2 H2 a x j2 e2 => d.n Γ2 σ2 G2 H2 a x ⟨j2.toJ0.ofwx, j.acc.mono x⟩ e2.ofwx, fun x v G2 H2 a y j2 r2 => d.r x v G2 H2 a y ⟨j2.toJ0.ofwx, j.acc.mono y⟩ r2,
    fun Γ2 σ2 G2 H2 a x j2 e2 => d.b Γ2 σ2 G2 H2 a x ⟨j2.toJ0.ofwx, j.acc.mono x⟩ e2.ofwx, fun Γ2 σ2 G2 H2 a x j2 e2 => d.c Γ2 σ2 G2 H2 a x ⟨j2.toJ0.ofwx, j.acc.mono x⟩ e2.ofwx⟩
  obtain ⟨b, h1, h2, h3⟩ := hs er Γ' hy
  obtain rfl := re.c
  refine ⟨b, h1, fun hb a _ => ?_, fun hb => j.acc er _ dd σ' G' H' Γ' (h3 hb) x j'.ofwx e'.ofwx re⟩
  refine h2 hb a dd (σ'.set i (some (.ref a))) G' H' ⟨j'.ofwx, j.acc.mono x⟩ (e'.ofwx.exc re) _ ⟨fun Γ2 σ2 G2 H2 q y j2 e2 => ?_, fun z v G2 H2 q y j2 r2 => d.r z v G2 H2 q (x.trans y) j2 r2, fun Γ2 σ2 G2 H2 q y j2 e2 => ?_, fun Γ2 σ2 G2 H2 q y j2 e2 => ?_⟩
  · exact d.n _ _ G2 H2 q (x.trans y) j2 e2.unset
  · exact d.b _ _ G2 H2 q (x.trans y) j2 e2.unset
  · exact d.c _ _ G2 H2 q (x.trans y) j2 e2.unset
/-- try: body except C: suite -/
theorem dens_tryO {c : Value} {tb : WX → TS} {ts : Addr → Value → Option Addr → TS} {Y : Er → List B → Prop}
    (hb : ∀ W, DenS (Z.wx W Y) (tb W) Γ P)
    (hs : ∀ er Γ', Y er Γ' → ∃ b, PySem.W.exmOne Z.K (.ref er.cls) c = some b ∧ (b = true → ∀ a d, DenS Z (ts a (.ref er.cls) d) Γ' P) ∧ (b = false → Z.X er Γ')) :
    DenS Z (fun De σ H => tb (wOnly Z.K c ts Z.W De) De σ H) Γ P := fun σ G H j e De d => by
  refine hb (wOnly Z.K c ts Z.W De) σ G H ⟨j.toJ0.wx, fun er cls dd σ' G' H' Γ' hy x j' e' re => ?_⟩ e.wx De ⟨fun Γ2 σ2 G2 H2 a x j2 e2 => d.n Γ2 σ2 G2 H2 a x ⟨j2.toJ0.ofwx, j.acc.mono x⟩ e2.ofwx, fun x v G2 H2 a y j2 r2 => d.r x v G2 H2 a y ⟨j2.toJ0.ofwx, j.acc.mono y⟩ r2,
    fun Γ2 σ2 G2 H2 a x j2 e2 => d.b Γ2 σ2 G2 H2 a x ⟨j2.toJ0.ofwx, j.acc.mono x⟩ e2.ofwx, fun Γ2 σ2 G2 H2 a x j2 e2 => d.c Γ2 σ2 G2 H2 a x ⟨j2.toJ0.ofwx, j.acc.mono x⟩ e2.ofwx⟩
  obtain ⟨b, h1, h2, h3⟩ := hs er Γ' hy
  obtain rfl := re.c
  exact ⟨b, h1, fun hb a _ => h2 hb a dd σ' G' H' ⟨j'.ofwx, j.acc.mono x⟩ e'.ofwx De (d.up x), fun hb => j.acc er _ dd σ' G' H' Γ' (h3 hb) x j'.ofwx e'.ofwx re⟩
/-- e.f of the caught exception -/
theorem den_xf {i : Nat} {a : Addr} {cls : Value} {d : Option Addr} {er : Er} {C : Addr} {f : Str} {y : D} {Q : D → List B → Prop} (h : Γ[i]? = some (.exc a cls d er)) (hc : er.cls = C) (hn : er.ns = [f]) (hv : er.vs = [y]) (q : Q y Γ) : Den Z (tXf a cls d C f (tVar i)) Γ Q := fun σ G H j e k kk => by
  obtain ⟨v, h1, h2, re⟩ := e.at_ i _ h
  subst h2
  refine ⟨.ref a, h1, rfl, by rw [re.c, hc], ?_⟩
  rcases re.f with ⟨_, z, _⟩ | ⟨dd, xs, h3, h4, h5, h6⟩
  · rw [hn] at z; cases z
  · rw [hn] at h4 h5
    rw [hv] at h6
    cases h6 with
    | @cons v0 _ _ _ r1 r2 =>
      cases r2
      exact ⟨dd, [(f, v0)], v0, h3, j.sub _ _ h4, by simp [List.lookup], kk y Γ v0 G H q .refl j e r1⟩
/-! ### objects -/
theorem den_fld {f : Str} {Q : D → List B → Prop} (h : Den Z te Γ fun x Γ1 => ∃ C ns vs d, x = .obj C ns vs ∧ Cls Z.K C ∧ NoAttr Z.K C f ∧ (ns.zip vs).lookup f = some d ∧ Q d Γ1) : Den Z (tFld Z.K te f) Γ Q := fun σ G H j e k kk =>
  h σ G H j e _ fun x Γ1 v G1 H1 q s1 j1 e1 r1 => by
    obtain ⟨C, ns, vs, d, rfl, c, n, l, q⟩ := q
    cases r1 with
    | @obj a _ dx _ xs _ h1 h2 r1 =>
      have key : ∀ {ns : List Str} {xs : List V} {vs : List D}, Rps Z.K Z.pl G1 xs vs → (ns.zip vs).lookup f = some d → ∃ v, (ns.zip xs).lookup f = some v ∧ Rp Z.K Z.pl G1 v d := by
        intro ns
        induction ns with
        | nil => intro xs vs _ l; simp at l
        | cons n ns ih =>
          intro xs vs r l
          cases r with
          | nil => simp at l
          | @cons v0 d0 _ _ ra rb =>
            simp only [List.zip_cons_cons, List.lookup] at l ⊢
            split at l
            · cases l; exact ⟨v0, rfl, ra⟩
            · rename_i q; first | exact ih rb l | (rw [q]; exact ih rb l)
      obtain ⟨v, hv, hr⟩ := key r1 l
      exact ⟨a, C, dx, _, v, rfl, j1.sub _ _ h1, c, n, hv, kk d Γ1 v G1 H1 q s1 j1 e1 hr⟩
theorem zip_snoc {α β : Type} : ∀ {ns : List α} {xs : List β} {f : α} {y : β}, ns.length = xs.length → (ns ++ [f]).zip (xs ++ [y]) = ns.zip xs ++ [(f, y)]
  | [], [], _, _, _ => rfl
  | [], _ :: _, _, _, h => by simp at h
  | _ :: _, [], _, _, h => by simp at h
  | a :: ns, b :: xs, f, y, h => by
    simp only [List.cons_append, List.zip_cons_cons]
    rw [zip_snoc (by simpa using h)]
theorem putF_new {f : Str} {y : V} : ∀ {l : List (Str × V)}, (∀ p ∈ l, p.1 ≠ f) → putF f y l = l ++ [(f, y)]
  | [], _ => rfl
  | (g, v) :: r, h => by
    show (if g = f then (g, y) :: r else (g, v) :: putF f y r) = _
    rw [if_neg (h (g, v) List.mem_cons_self), putF_new fun p hp => h p (List.mem_cons_of_mem _ hp)]
    rfl
/-- self.f = e in an __init__, a new field -/
theorem dens_fld {m : Nat} {p C : Addr} {ns : List Str} {vs : List D} {f : Str} (hm : Γ[m]? = some (.ob p C ns vs)) (c : Cls Z.K C) (n : NoAttr Z.K C f) (hf : f ∉ ns) (hl : ns.length < 1000)
    (h : Den Z te Γ fun x Γ1 => Γ1 = Γ ∧ P.N (Γ1.set m (.ob p C (ns ++ [f]) (vs ++ [x])))) : DenS Z (sFld Z.K (tVar m) te f) Γ P := fun σ G H j e De d =>
  h σ G H j e _ fun x Γ1 vx G1 H1 q s1 j1 e1 r1 => by
    obtain ⟨rfl, q⟩ := q
    obtain ⟨v, h1, dx, xs, h2, h3, h4, h5, h6, h7⟩ := e1.at_ m _ hm
    subst h2
    have om : IsOwn Γ1[m]? := by rw [hm]; trivial
    have hmlt : m < Γ1.length := (List.getElem?_eq_some_iff.mp hm).1
    refine ⟨.ref p, h1, p, C, dx, _, rfl, h3, c, n, by rw [List.length_zip]; omega, ?_⟩
    have ez : putF f vx (ns.zip xs) = (ns ++ [f]).zip (xs ++ [vx]) := by
      rw [putF_new fun q hq z => hf (by rw [← z]; exact (List.of_mem_zip hq).1), zip_snoc h4]
    rw [ez]
    refine d.n _ σ G1 _ q s1.ex (j1.put h7 h6) ⟨by rw [List.length_set]; exact e1.len, fun i b hb => ?_, fun i n l2 o1 o2 => ?_⟩
    · by_cases hi : m = i
      · subst hi
        rw [List.getElem?_set_self hmlt] at hb
        cases hb
        exact ⟨_, h1, dx, _, rfl, upd_same, by simp [h4], h5.append (.one r1), h6, h7⟩
      · rw [List.getElem?_set_ne hi] at hb
        obtain ⟨v, a1, a2⟩ := e1.at_ i b hb
        refine ⟨v, a1, a2.mono (Ex.refl _) fun l2 o b1 b2 b3 b4 b5 => ⟨?_, b2⟩⟩
        have : l2 ≠ p := fun z => hi (e1.dis m i p om (by rw [hb]; exact b5) h1 (by rw [a1, b4, z]))
        rw [upd_ne this]; exact b1
    · have ow : ∀ i : Nat, IsOwn (Γ1.set m (.ob p C (ns ++ [f]) (vs ++ [x])))[i]? → IsOwn Γ1[i]? := fun i o => by
        by_cases hi : m = i
        · subst hi; exact om
        · rw [List.getElem?_set_ne hi] at o; exact o
      exact e1.dis i n l2 (ow i o1) (ow n o2)
end
/-! ### making objects -/
/-- an __init__'s promise: from the arguments the fields -/
structure ISpec where
  ns : List Str
  P : List D → Prop
  R : List D → List D → Prop
  X : List D → Er → Prop := fun _ _ => False
def spI (K : PySem.W.Frag) (C : Addr) (n : Nat) (S : ISpec) : Sp := fun vs H Q E => ∃ pl G ds H1 x dx ws, vs = .ref x :: ws ∧ H = upd (upd H1 dx (.own x)) x (.ins C dx []) ∧ H1 x = none ∧ H1 dx = none ∧ dx ≠ x ∧
  J (Cz.call K pl H1 G) G H1 ∧ Rps K pl G ws ds ∧ ds.length = n ∧ S.P ds ∧
  (∀ fs G' H' dx' xs, S.R ds fs → J (Cz.call K pl H1 G) G' H' → H' x = some (.ins C dx' (S.ns.zip xs)) → S.ns.length = xs.length → Rps K pl G' xs fs → G' x = none → Q .non H') ∧
  (∀ er cls d G' H', S.X ds er → J (Cz.call K pl H1 G) G' H' → RpEr0 K pl G' cls d er → E cls d H')
section
variable {P : Program} {w : World} {K : PySem.W.Frag} {mg : Str → Option Value} {base : Heap}
theorem init_ab {qual : Str} {st : Stmt} {f C : Addr} {fd : FuncData} {N ps : List Str} {k : Nat} (F : Fun K "__init__" qual st f fd) (Sc : FnScope N ps (defScope st)) (S : ISpec) (hl : ps.length ≤ N.length) {n : Nat} (hn : ps.length = n + 1)
    (hbody : ∀ (cdv : Value) (A : Around) (outer : List PySem.Env) (s : Shared) (H : Hp) (E : XK) (x : Addr) (ds : List D) (W : WX), Room k (A.deeper (PyProof.Rows.envOfC qual (defScope st) s.heap.objs.size f cdv)) → Takes (cxOf (L2.CX P w) P w K mg base N qual (defScope st) f cdv A outer s H E) W → ds.length = n → S.P ds →
      ∃ t, PSs (cxOf (L2.CX P w) P w K mg base N qual (defScope st) f cdv A outer s H E) (defBody st) t ∧
        ∀ Z : Cz, Z.K = K → Z.W = W → (∀ er Γ, S.X ds er → Z.X er Γ) → DenS Z t (B.ob x C [] [] :: (ds.map B.d ++ List.replicate (N.length - (ds.length + 1)) .un)) ⟨fun Γ => ∃ fs, S.R ds fs ∧ Γ[0]? = some (.ob x C S.ns fs), fun x => False, fun _ => False, fun _ => False⟩) : FnOk P w K mg base (L2.CX P w) (k + 1) f fd ps (spI K C n S) := by
  refine F.okX Sc (fun vs H Q E h => ?_) (fun cdv A outer s H vs Q E hr h => ?_)
  · obtain ⟨pl, G, ds, H1, x, dx, ws, rfl, _, _, _, _, _, r, hn', _⟩ := h
    rw [List.length_cons, r.length, hn', hn]
  · obtain ⟨pl, G, ds, H1, x, dx, ws, rfl, eH, nx, ndx, ne, j, r, hn', hp, hq, he⟩ := h
    obtain ⟨t, h1, h2⟩ := hbody cdv A outer s H E x ds (fun cls d _ H => E cls d H) hr (takes_of rfl rfl rfl rfl) hn' hp
    have gx : G x = none := j.sub.back nx
    have gdx : G dx = none := j.sub.back ndx
    let Z : Cz := ⟨K, pl, H1, G, fun cls d _ H => E cls d H, fun er _ => S.X ds er⟩
    have jj : J Z G H1 := ⟨j.toJ0.re rfl rfl rfl, fun er cls d σ G' H' Γ hx _ j' _ re => he er cls d G' H' hx ⟨j'.re rfl rfl rfl, fun _ _ _ _ _ _ _ z => z.elim⟩ re⟩
    have jH : J Z G H := by
      rw [eH]
      exact (jj.put ndx gdx).put nx gx
    have e0 : En Z G H1 (L2.start (ps.tail ++ N.drop ps.length) ws) (ds.map B.d ++ List.replicate ((ps.tail ++ N.drop ps.length).length - ds.length) .un) := en_start r (by simp; omega)
    have hHx : H x = some (.ins C dx []) := by rw [eH]; exact upd_same
    have lenr : (ps.tail ++ N.drop ps.length).length - ds.length = N.length - (ds.length + 1) := by simp; omega
    have st0 : L2.start N (.ref x :: ws) = some (.ref x) :: L2.start (ps.tail ++ N.drop ps.length) ws := by
      unfold L2.start
      have : N.length - (ws.length + 1) = (ps.tail ++ N.drop ps.length).length - ws.length := by
        rw [r.length]; omega
      simp only [List.map_cons, List.cons_append, List.length_cons, this]
    have en : En Z G H (L2.start N (.ref x :: ws)) (B.ob x C [] [] :: (ds.map B.d ++ List.replicate (N.length - (ds.length + 1)) .un)) := by
      rw [st0, ← lenr]
      have e1 : En Z G H (L2.start (ps.tail ++ N.drop ps.length) ws) (ds.map B.d ++ List.replicate ((ps.tail ++ N.drop ps.length).length - ds.length) .un) := by
        rw [eH]
        refine e0.mono (Ex.refl _) fun l o b1 b2 _ _ => ⟨?_, b2⟩
        rw [upd_ne (ne_of_none b1 nx), upd_ne (ne_of_none b1 ndx)]; exact b1
      have noown : ∀ i : Nat, ¬ IsOwn (ds.map B.d ++ List.replicate ((ps.tail ++ N.drop ps.length).length - ds.length) B.un)[i]? := fun i o => by
        by_cases hi : i < ds.length
        · rw [List.getElem?_append_left (by simpa using hi), List.getElem?_map] at o
          cases q : ds[i]? with
          | none => rw [q] at o; exact o.elim
          | some d => rw [q] at o; exact o.elim
        · rw [List.getElem?_append_right (by simpa using (show ds.length ≤ i by omega)), List.getElem?_replicate] at o
          split at o
          · exact o.elim
          · exact o.elim
      refine ⟨by simp [e1.len], fun i b hb => ?_, fun i m l o1 o2 => ?_⟩
      · cases i with
        | zero =>
          simp at hb; subst hb
          exact ⟨_, rfl, dx, [], rfl, hHx, rfl, .nil, gx, nx⟩
        | succ i =>
          obtain ⟨v, a1, a2⟩ := e1.at_ i b (by simpa using hb)
          exact ⟨v, by simpa using a1, a2⟩
      · cases i with
        | zero => cases m with
          | zero => intro _ _; rfl
          | succ m => exact absurd (by simpa using o2) (noown m)
        | succ i => exact absurd (by simpa using o1) (noown i)
    refine ⟨t, h1, h2 Z rfl rfl (fun er Γ h => h) _ G H jH en _ ⟨fun Γ σ G' H' hN _ j' e' => ?_, fun _ _ _ _ z => z.elim, fun _ _ _ _ z => z.elim, fun _ _ _ _ z => z.elim⟩⟩
    obtain ⟨fs, hR, hg⟩ := hN
    obtain ⟨v, a1, dx', xs, a2, a3, a4, a5, a6, a7⟩ := e'.at_ 0 _ hg
    exact hq fs G' H' dx' xs hR ⟨j'.toJ0.re rfl rfl rfl, fun _ _ _ _ _ _ _ z => z.elim⟩ a3 a4 a5 a6
/-- C(..), as its callers know it -/
structure Mak (P : Program) (w : World) (K : PySem.W.Frag) (mg : Str → Option Value) (base : Heap) (x : Str) (C : Addr) (k n : Nat) (S : ISpec) : Prop where
  ex : ∃ f fd ps, Mk K C f ∧ FnOk P w K mg base (L2.CX P w) k f fd ps (spI K C n S) ∧ mg x = some (.ref C) ∧ Binds K fd ps []
end
section
variable {X : Cx} {x : Str} {C f : Addr} {e : Expr} {es : List Expr} {t : TA} {k n j : Nat} {S : ISpec} {p pos : Pos} {fd : FuncData} {ps : List Str} {sp : Sp} {E : L2.St → XK} {CX : CXT}
/-- C(..) that may raise -/
def tMakeS (C : Addr) (sp : Sp) (E : L2.St → XK) (t : TA) : TE := fun σ H Q => t σ H fun vs H1 => ∀ x dx, H1 x = none → H1 dx = none → dx ≠ x →
  sp (.ref x :: vs) (upd (upd H1 dx (.own x)) x (.ins C dx [])) (fun v H2 => v = .non ∧ Q (.ref x) H2) (E σ)
end
end Ab
/-! enumerate(tuple) -/
namespace PySem
open Sem (wp)
open AutoSeq1 (wpAny_loadPart')
set_option maxHeartbeats 1000000 in
theorem ab_enumerate_newB {v : Value} {o : Obj} {H : Heap → Prop} (B : Begins v o H) :
    Meets (Builtin.«enumerate.__new__» ⟨[.type "enumerate", v], []⟩) (fun _ R s => H s.heap ∧
      R (.ok (.ret (.ref (s.heap.push o).objs.size))) { s with heap := (s.heap.push o).push { cls := .type "enumerate", data := .fields #[.none, .bool false, .ref s.heap.objs.size, rawInt 0, .none, .none] } }) :=
  .of_wp fun prog w A R s h => by
    obtain ⟨hp, g, d, tk, os⟩ := s; obtain ⟨h1, h⟩ := h
    have hsub := sub_enumerate
    have q1 : ∀ {A' : Around} {E : Value → Shared → Prop} {Q : Value → Shared → Prop}, Q (.ref hp.objs.size) ⟨hp.push o, g, d, tk, os⟩ → wpAny (model prog w) A' (pyIter v) Q E ⟨hp, g, d, tk, os⟩ :=
      fun q => B.iter prog w _ _ ⟨hp, g, d, tk, os⟩ _ h1 q
    wp_walk using q1
    refine wpAny_stack_any fun st => wpAny_pure ?_
    split
    · rename_i c _ _ _ _ _
      cases (c == Value.type "enumerate")
      · wp_walk using q1
        exact ⟨_, rfl, h⟩
      · wp_walk using q1
        exact ⟨_, rfl, h⟩
    · wp_walk using q1
      exact ⟨_, rfl, h⟩
section
variable {prog : Program} {w : World} {A : Around} {E : Value → Shared → Prop} {s : Shared}
theorem ab_enum_begins {v : Value} {o : Obj} {H : Heap → Prop} {Q : Value → Shared → Prop} (B : Begins v o H) (h1 : H s.heap)
    (h : ∀ h', IsEnum h' (s.heap.objs.size + 1) s.heap.objs.size 0 .none → h'.get? s.heap.objs.size = some o → h'.objs.size = s.heap.objs.size + 2 →
      (∀ b o, s.heap.get? b = some o → h'.get? b = some o) → Q (.ref (s.heap.objs.size + 1)) { s with heap := h' }) :
    wpAny (model prog w) A (call (.type "enumerate") [v]) Q E s := by
  refine callType_new F.called_enumerate (by decide) (F.typeCall_enumerate_1 _) (F.newCall_enumerate_1 _) (fun obj => F.args_object_init_2 obj _) F.entry_enumerate_new
    (ab_enumerate_newB B) ⟨h1, ?_⟩
  have hz : (s.heap.push o).objs.size = s.heap.objs.size + 1 := Heap.size_push ..
  show _ ∧ _
  rw [hz]
  have he : IsEnum ((s.heap.push o).push { cls := .type "enumerate", data := .fields #[.none, .bool false, .ref s.heap.objs.size, rawInt 0, .none, .none] }) (s.heap.objs.size + 1) s.heap.objs.size 0 .none := by
    have := Heap.get?_push_size (s.heap.push o) (o := { cls := .type "enumerate", data := .fields #[.none, .bool false, .ref s.heap.objs.size, rawInt 0, .none, .none] }) rfl
    rw [hz] at this; exact this
  refine ⟨⟨_, he, rfl⟩, h _ he (Heap.get?_push_of_some _ (Heap.get?_push_size _ B.free)) (by rw [Heap.size_push, hz]) fun b o x => Heap.get?_push_of_some _ (Heap.get?_push_of_some _ x)⟩
theorem ab_enum_endT {e it a : Addr} {items : Array Value} {i : Nat} {k : Int} {old : Value} {Q : Option Value → Shared → Prop} (hh : A.handled = none)
    (he : IsEnum s.heap e it k old) (hit : s.heap.IsTupleIter it a i) (ht : s.heap.IsTuple a items) (hx : items[i]? = none)
    (hQ : ∀ h', Heap.ExtBut it s.heap h' → Q none { s with heap := h' }) : wpAny (model prog w) A (pyNext (.ref e)) Q E s := by
  have hT : s.TypeIs (.ref e) "enumerate" := ⟨_, he, rfl⟩
  unfold pyNext
  refine wpAny_bind (wpAny_attempt (wpAny_callSpecial?_slot (name := Str.ofString "__next__") hT F.slot_enumerate_next
    (wpAny_call_entry F.slot_enumerate_next hT F.entry_enumerate_next ?_ (F.args_enumerate_next_1 _))))
  show wpAny _ _ (field (.ref e) 2 >>= _) _ _ _
  refine wpAny_bind (wpAny_field he rfl (x := .ref it) rfl ?_)
  refine wpAny_bind (wpAny_nextOf_tuple_end (A := A.in1) (show A.in1.handled = none from hh) hit ht hx fun h' x he' hx' => ?_)
  obtain ⟨o, ho, hc⟩ := hx'
  refine wpAny_bind (wpAny_isInstance (T := "StopIteration") (b := true) ⟨o, ho, hc⟩ isSubtype_stop ?_)
  exact wpAny_pure (hQ _ he')
end
end PySem
namespace L2
open PySem PySem.Spec PyProof.Rows
def IteT (K : PySem.W.Frag) (a : Addr) : It :=
  ⟨fun i H => ∃ (xs : List V) (x : V), SqT K H a xs ∧ xs[i]? = some x, fun i H v H' => ∃ T x, v = .ref T ∧ H T = none ∧ H' = upd H T (.tup [.int (i : Nat), x]) ∧ ∀ xs, SqT K H a xs → xs[i]? = some x, fun i H => ∃ xs : List V, SqT K H a xs ∧ xs.length ≤ i⟩
theorem turn_enumT {P : Program} {w : World} {K : PySem.W.Frag} {elts : List Expr} {kk : Nat} {tpos : Pos} (a e it : Addr) :
    Turn P w K (.Tuple elts kk tpos) (IteT K a) [e, it] e (fun i h => (∃ old, IsEnum h e it ((i : Nat) : Int) old) ∧ h.IsTupleIter it a i ∧ e ≠ it ∧ a ≠ it ∧ a ≠ e) where
  mem := by simp
  obj := fun i h st b hb => by
    obtain ⟨⟨old, he⟩, ⟨o, ho, hc, hd⟩, _⟩ := st
    have e' : b = e ∨ b = it := by simpa using hb
    rcases e' with z | z
    · rw [z]; exact ⟨_, he, fun v q => nomatch q⟩
    · rw [z]; exact ⟨o, ho, fun v q => by rw [hd] at q; cases q⟩
  keep := fun i h h' st k => let ⟨⟨old, he⟩, hi, hne⟩ := st; ⟨⟨old, k e (by simp) _ he⟩, hi.at fun o q => k it (by simp) o q, hne⟩
  item := by
    intro X hP hw hK hc i pins s σ H E I hf st hg
    subst hP hw hK
    obtain ⟨⟨old, he⟩, hit, hne, hai, hae⟩ := st
    obtain ⟨xs, x, hq, hx⟩ := hg
    obtain ⟨its, rv, p, hz⟩ := I.tuple hq
    obtain ⟨u, hu, ru⟩ := rv.get hx
    have hel : e < s.heap.objs.size := Heap.lt_size he
    have hil : it < s.heap.objs.size := by obtain ⟨_, q, _⟩ := hit; exact Heap.lt_size q
    have hh : X.A.handled = none := I.ok.hd hc
    have D : Draws X.prog X.w X.A.in1 it [it, a] its.toArray.size (fun i v => its.toArray[i]? = some v) (fun i h => h.IsTupleIter it a i ∧ h.IsTuple a its.toArray) := Draws.tuple (A := X.A.in1) (show X.A.in1.handled = none from hh) it a hai its.toArray
    have hlt : i < its.toArray.size := by
      have := (List.getElem?_eq_some_iff.mp hu).1
      simpa using this
    refine wpAny_pyNext_enum_itemD D he ⟨hit, show s.heap.IsTuple a its.toArray from p⟩ hlt hne (by simp [hne, Ne.symm hae]) fun x' h' tk hP ho hst' hT hsz hk => ?_
    have ex : x' = u := by
      have z : its.toArray[i]? = some u := by simpa using hu
      rw [z] at hP; exact (Option.some.inj hP).symm
    subst ex
    refine ⟨_, rfl, wpAny_letOwnedTupleGo_enum (s := { s with heap := h', toks := tk + 1 }) ho fun h'' he' sb => ?_⟩
    have hT2 : h''.get? s.heap.objs.size = some { cls := .type "tuple", data := .seq #[.int i tk, x'] } := (sb.2 _ (Nat.ne_of_gt hel)).trans hT
    have new : ObjOk X.prog X.w (upd H s.heap.objs.size (.tup [.int (i : Nat), x])) h'' s.heap.objs.size (.tup [.int (i : Nat), x]) :=
      ⟨by show 2 ≤ sizeLine; decide, [.int i tk, x'], .cons ⟨_, rfl⟩ (.cons ru .nil), ⟨_, hT2, rfl, _, rfl⟩⟩
    have I1 : Inv X pins σ (upd H s.heap.objs.size (.tup [.int (i : Nat), x])) { s with heap := h'', toks := tk + 1 } :=
      I.turnedNew (ch := [e, it]) (fun b ob hb q => (sb.2 b (fun z => hb (by simp [z]))).trans (hk b ob (fun z => hb (by simp [z])) (fun z => hb (by simp [z])) q)) hf (Nat.le_refl _) new
    refine ⟨.ref s.heap.objs.size, _, I1, rfl, ⟨_, x, rfl, I.hok.fresh (Nat.le_refl _), rfl, fun ys hy => by rw [I.tuple_inj hy hq]; exact hx⟩, ⟨⟨x', ?_⟩, hst'.1.at fun o q => (sb.2 it (Ne.symm hne)).trans q, hne, hai, hae⟩, fun b hb => ?_⟩
    · have e1 : ((i + 1 : Nat) : Int) = (i : Int) + 1 := by omega
      rw [e1]; exact he'
    · have hb' : b < s.heap.objs.size := by
        have e' : b = e ∨ b = it := by simpa using hb
        rcases e' with z | z
        · rw [z]; exact hel
        · rw [z]; exact hil
      rw [upd_ne (Nat.ne_of_lt hb')]
      exact (hf b hb).1
  done := by
    intro X hP hw hK hc i pins s σ H E I hf st hg
    subst hP hw hK
    obtain ⟨⟨old, he⟩, hit, hne, hai, hae⟩ := st
    obtain ⟨xs, hq, hx⟩ := hg
    obtain ⟨its, rv, p, hz⟩ := I.tuple hq
    obtain ⟨f0, f1, f2, f3, f4, f5⟩ := hf it (by simp)
    have hl := rv.length
    have hh : X.A.handled = none := I.ok.hd hc
    exact ab_enum_endT hh he hit (show s.heap.IsTuple a its.toArray from p) (by simp; omega) fun h' eb => ⟨rfl, I.turned (t' := s.toks) (fun b o hb q => eb b o hb q) f0 f1 f3 f4 f5⟩
  self := fun A i s Q E st h => let ⟨⟨_, he⟩, _⟩ := st; wpAny_pyIter_enum he h
def iEnumA (K : PySem.W.Frag) (ta : TA) : TI := fun σ H R => ta σ H fun vs H1 => ∃ a xs, vs = [.ref a] ∧ ((SqL K H1 a xs ∧ R (Ite K a) H1) ∨ (SqT K H1 a xs ∧ R (IteT K a) H1))
theorem pi_enumA {X : Cx} {e : Expr} {ta : TA} {p pos tpos : Pos} {elts : List Expr} {kk : Nat} (hg : Gl X "enumerate") (hm : X.mg "enumerate" = none) (ha : PA X [e] ta) (hs : starEach [e] X.env = [(false, eval e X.env)] := by rfl) :
    PI X (.Tuple elts kk tpos) (.Call (.Name "enumerate" p) [e] [] pos) (iEnumA X.K ta) := by
  refine ⟨fun pins s σ H R I h => ?_⟩
  refine Call_ (ld_blt I hg hm boot_enumerate (PyProof.Rows.callWith_type1 (thn (ha.run pos pins s σ H _ I h) fun us s1 ⟨vs, H1, I1, r1, q1⟩ => ?_) hs rfl))
  obtain ⟨a, xs, ex, q⟩ := q1
  subst ex
  cases r1 with
  | cons r rr =>
    cases rr
    cases r
    have fresh2 : ∀ b, b ∈ [s1.heap.objs.size + 1, s1.heap.objs.size] → FpOk X pins H1 b := fun b hb => by
      have e' : b = s1.heap.objs.size + 1 ∨ b = s1.heap.objs.size := by simpa using hb
      have hle : s1.heap.objs.size ≤ b := by
        rcases e' with z | z
        · rw [z]; exact Nat.le_add_right _ _
        · rw [z]; exact Nat.le_refl _
      exact I1.fpOk hle (I1.hok.fresh hle)
    rcases q with ⟨hq, q⟩ | ⟨hq, q⟩
    · obtain ⟨its, rv, p', hz⟩ := I1.list hq
      refine call_enumerate_list p'.isList fun h' he hit hsz hk => wpAny_pyIter_enum he ?_
      have I2 : Inv X pins σ H1 { s1 with heap := h' } := I1.kept (t' := s1.toks) hk
      exact ⟨s1.heap.objs.size + 1, [s1.heap.objs.size + 1, s1.heap.objs.size], _, _, H1, rfl, I2, turn_enum a (s1.heap.objs.size + 1) s1.heap.objs.size, ⟨⟨.none, he⟩, hit, Nat.succ_ne_self _⟩, fresh2, q⟩
    · obtain ⟨its, rv, p', hz⟩ := I1.tuple hq
      obtain ⟨o1, ho1, _⟩ := id p'
      have hlt := Heap.lt_size ho1
      refine ab_enum_begins (begins_tuple a its.toArray) (show s1.heap.IsTuple a its.toArray from p') fun h' he hit hsz hk => wpAny_pyIter_enum he ?_
      have I2 : Inv X pins σ H1 { s1 with heap := h' } := I1.kept (t' := s1.toks) hk
      exact ⟨s1.heap.objs.size + 1, [s1.heap.objs.size + 1, s1.heap.objs.size], _, _, H1, rfl, I2, turn_enumT a (s1.heap.objs.size + 1) s1.heap.objs.size, ⟨⟨.none, he⟩, ⟨_, hit, rfl, rfl⟩, Nat.succ_ne_self _, Nat.ne_of_lt hlt, Nat.ne_of_lt (Nat.lt_succ_of_lt hlt)⟩, fresh2, q⟩
end L2
namespace Ab
open PySem L2
section
variable {Z : Cz} {Γ : List B} {tr : TA}
theorem sqt_of {G G' H' : Hp} {a : Addr} {vs : List V} (h : G a = some (.tup vs)) (x : Ex G G') (j : J Z G' H') : SqT Z.K H' a vs := SqT.of (j.sub _ _ (x _ _ h))
theorem sql_of {G G' H' : Hp} {a : Addr} {vs : List V} (h : G a = some (.lst vs)) (x : Ex G G') (j : J Z G' H') : SqL Z.K H' a vs := .inl (.inl (j.sub _ _ (x _ _ h)))
def enumD (xs : List D) : List D := (List.range xs.length).zipWith (fun i x => .tup [.int (i : Nat), x]) xs
theorem enumD_len (xs : List D) : (enumD xs).length = xs.length := by simp [enumD]
theorem enumD_get {xs : List D} {i : Nat} {d : D} (h : xs[i]? = some d) : (enumD xs)[i]? = some (.tup [.int (i : Nat), d]) := by
  have hi := (List.getElem?_eq_some_iff.mp h).1
  unfold enumD
  rw [List.getElem?_zipWith, h]
  simp [hi]
theorem enumD_inv {xs : List D} {i : Nat} {d : D} (h : (enumD xs)[i]? = some d) : ∃ x, xs[i]? = some x ∧ d = .tup [.int (i : Nat), x] := by
  have hi : i < xs.length := by rw [← enumD_len]; exact (List.getElem?_eq_some_iff.mp h).1
  have hx : xs[i]? = some xs[i] := by simp [hi]
  rw [enumD_get hx] at h
  exact ⟨_, hx, (Option.some.inj h).symm⟩
/-- a new pair joins the still part -/
theorem pair_new {G H : Hp} {p : Addr} {x y : V} {a b : D} (j : J Z G H) (hp : H p = none) (ra : Rp Z.K Z.pl G x a) (rb : Rp Z.K Z.pl G y b) : ∃ G'', J (Z.at H G) G'' (upd H p (.tup [x, y])) ∧ Rp Z.K Z.pl G'' (.ref p) (.tup [a, b]) := by
  have x := Ex.new (o := .tup [x, y]) (j.sub.back hp)
  exact ⟨_, j.enter.new hp, .tup upd_same (.cons (ra.mono x) (.cons (rb.mono x) .nil))⟩
theorem deni_enumT {Q : List D → List B → Prop} (h : DenA Z tr Γ fun xs Γ1 => ∃ ys, (xs = [.tup ys] ∨ xs = [.lst ys]) ∧ Q (enumD ys) Γ1) : DenI Z (iEnumA Z.K tr) Γ Q := fun σ G H j e k kk =>
  h σ G H j e _ fun xs Γ1 vs G1 H1 q s1 j1 e1 r1 => by
    obtain ⟨ys, hx, q⟩ := q
    rcases hx with rfl | rfl
    · cases r1 with
      | cons a b =>
        cases b
        cases a with
        | @tup a ws _ h1 r =>
          refine ⟨a, ws, rfl, .inr ⟨sqt_of h1 (Ex.refl _) j1, kk _ Γ1 _ G1 H1 q s1 j1 e1 ⟨fun G' H' i x j' hi => ?_, fun G' H' x j' => ?_, fun G' H' i v H'' x j' hi y => ?_⟩⟩⟩
          · rw [enumD_len, ← r.length] at hi
            exact ⟨ws, ws[i], sqt_of h1 x j', by simp [hi]⟩
          · exact ⟨ws, sqt_of h1 x j', by rw [enumD_len, r.length]; exact Nat.le_refl _⟩
          · obtain ⟨T, v0, rfl, hT, rfl, hv⟩ := y
            obtain ⟨d, hd, hr⟩ := r.getV (hv ws (sqt_of h1 x j'))
            obtain ⟨G2, j2, r2⟩ := pair_new j' hT (.int (i : Nat)) (hr.mono x)
            exact ⟨G2, _, enumD_get hd, j2, r2⟩
    · cases r1 with
      | cons a b =>
        cases b
        cases a with
        | @lst a ws _ h1 r =>
          refine ⟨a, ws, rfl, .inl ⟨sql_of h1 (Ex.refl _) j1, kk _ Γ1 _ G1 H1 q s1 j1 e1 ⟨fun G' H' i x j' hi => ?_, fun G' H' x j' => ?_, fun G' H' i v H'' x j' hi y => ?_⟩⟩⟩
          · rw [enumD_len, ← r.length] at hi
            exact ⟨ws, ws[i], sql_of h1 x j', by simp [hi]⟩
          · exact ⟨ws, sql_of h1 x j', by rw [enumD_len, r.length]; exact Nat.le_refl _⟩
          · obtain ⟨T, v0, rfl, hT, rfl, hv⟩ := y
            obtain ⟨d, hd, hr⟩ := r.getV (hv ws (sql_of h1 x j'))
            obtain ⟨G2, j2, r2⟩ := pair_new j' hT (.int (i : Nat)) (hr.mono x)
            exact ⟨G2, _, enumD_get hd, j2, r2⟩
/-- zip of two tuples or two lists -/
def zipD (xs ys : List D) : List D := List.zipWith (fun x y => .tup [x, y]) xs ys
theorem zipD_len (xs ys : List D) : (zipD xs ys).length = min xs.length ys.length := by simp [zipD]
theorem zipD_get {xs ys : List D} {i : Nat} {a b : D} (h : xs[i]? = some a) (g : ys[i]? = some b) : (zipD xs ys)[i]? = some (.tup [a, b]) := by
  unfold zipD
  rw [List.getElem?_zipWith, h, g]
theorem zipD_inv {xs ys : List D} {i : Nat} {d : D} (h : (zipD xs ys)[i]? = some d) : ∃ a b, xs[i]? = some a ∧ ys[i]? = some b ∧ d = .tup [a, b] := by
  have hi : i < min xs.length ys.length := by rw [← zipD_len]; exact (List.getElem?_eq_some_iff.mp h).1
  have hx : xs[i]? = some xs[i] := by simp [show i < xs.length by omega]
  have hy : ys[i]? = some ys[i] := by simp [show i < ys.length by omega]
  rw [zipD_get hx hy] at h
  exact ⟨_, _, hx, hy, (Option.some.inj h).symm⟩
theorem deni_zip {Q : List D → List B → Prop} (h : DenA Z tr Γ fun xs Γ1 => ∃ us ys, (xs = [.tup us, .tup ys] ∨ xs = [.lst us, .lst ys]) ∧ Q (zipD us ys) Γ1) : DenI Z (RZ.iZipA Z.K tr) Γ Q := fun σ G H j e k kk =>
  h σ G H j e _ fun xs Γ1 vs G1 H1 q s1 j1 e1 r1 => by
    obtain ⟨us, ys, hx, q⟩ := q
    rcases hx with rfl | rfl
    · cases r1 with
      | cons a b => cases b with
        | cons b c =>
          cases c
          cases a with
          | @tup a ws _ h1 r => cases b with
            | @tup b zs _ h2 r' =>
              refine ⟨a, b, ws, zs, rfl, .inr ⟨sqt_of h1 (Ex.refl _) j1, sqt_of h2 (Ex.refl _) j1, kk _ Γ1 _ G1 H1 q s1 j1 e1 ⟨fun G' H' i x j' hi => ?_, fun G' H' x j' => ?_, fun G' H' i v H'' x j' hi y => ?_⟩⟩⟩
              · rw [zipD_len, ← r.length, ← r'.length] at hi
                exact ⟨ws, zs, ws[i], zs[i], sqt_of h1 x j', sqt_of h2 x j', by simp [show i < ws.length by omega], by simp [show i < zs.length by omega]⟩
              · exact ⟨ws, zs, sqt_of h1 x j', sqt_of h2 x j', by rw [zipD_len, r.length, r'.length]; omega⟩
              · obtain ⟨T, v0, v1, rfl, hT, rfl, hv, hw⟩ := y
                obtain ⟨d, hd, hr⟩ := r.getV (hv ws (sqt_of h1 x j'))
                obtain ⟨d', hd', hr'⟩ := r'.getV (hw zs (sqt_of h2 x j'))
                obtain ⟨G2, j2, r2⟩ := pair_new j' hT (hr.mono x) (hr'.mono x)
                exact ⟨G2, _, zipD_get hd hd', j2, r2⟩
    · cases r1 with
      | cons a b => cases b with
        | cons b c =>
          cases c
          cases a with
          | @lst a ws _ h1 r => cases b with
            | @lst b zs _ h2 r' =>
              refine ⟨a, b, ws, zs, rfl, .inl ⟨sql_of h1 (Ex.refl _) j1, sql_of h2 (Ex.refl _) j1, kk _ Γ1 _ G1 H1 q s1 j1 e1 ⟨fun G' H' i x j' hi => ?_, fun G' H' x j' => ?_, fun G' H' i v H'' x j' hi y => ?_⟩⟩⟩
              · rw [zipD_len, ← r.length, ← r'.length] at hi
                exact ⟨ws, zs, ws[i], zs[i], sql_of h1 x j', sql_of h2 x j', by simp [show i < ws.length by omega], by simp [show i < zs.length by omega]⟩
              · exact ⟨ws, zs, sql_of h1 x j', sql_of h2 x j', by rw [zipD_len, r.length, r'.length]; omega⟩
              · obtain ⟨T, v0, v1, rfl, hT, rfl, hv, hw⟩ := y
                obtain ⟨d, hd, hr⟩ := r.getV (hv ws (sql_of h1 x j'))
                obtain ⟨d', hd', hr'⟩ := r'.getV (hw zs (sql_of h2 x j'))
                obtain ⟨G2, j2, r2⟩ := pair_new j' hT (hr.mono x) (hr'.mono x)
                exact ⟨G2, _, zipD_get hd hd', j2, r2⟩
end
end Ab
namespace Ab
open PySem L2
section
variable {X : Cx} {x : Str} {C f : Addr} {e : Expr} {es : List Expr} {t : TA} {k n j : Nat} {S : ISpec} {p pos : Pos} {fd : FuncData} {ps : List Str} {sp : Sp} {E : L2.St → XK} {CX : CXT}
theorem run_makeS {pins : List (Addr × Obj)} {σ : L2.St} {H : Hp} {s : Shared} {Q : VK} {us : List Value} {vs : List V} (M : Mk X.K C f) (F : FnOk X.prog X.w X.K X.mg X.base CX k f fd ps sp) (hr : Room (k + 1) X.A) (hb : Binds X.K fd ps [])
    (hx : PassesAt CX X σ (E σ)) (I : Inv X pins σ H s) (r : Vals vs us)
    (h : ∀ x dx, H x = none → H dx = none → dx ≠ x → sp (.ref x :: vs) (upd (upd H dx (.own x)) x (.ins C dx [])) (fun v H2 => v = .non ∧ Q (.ref x) H2) (E σ)) :
    PySem.wpAny (model X.prog X.w) X.A (call (.ref C) us) (EP X pins σ Q) X.xe s := by
  have hq := h (s.heap.objs.size + 1) s.heap.objs.size (I.hok.fresh (Nat.le_succ _)) (I.hok.fresh (Nat.le_refl _)) (Nat.ne_of_lt (Nat.lt_succ_self _))
  have I2 := Inv.made (C := C) I
  have r2 : Vals (V.ref (s.heap.objs.size + 1) :: vs) (Value.ref (s.heap.objs.size + 1) :: us) := .cons rfl r
  have hl : (Value.ref (s.heap.objs.size + 1) :: us).length = ps.length := by
    have e := r2.length
    rw [F.len _ _ _ _ hq] at e
    exact e.symm
  have b := hb _ (Value.ref (s.heap.objs.size + 1) :: us) I2.kIn (by rw [List.append_nil]; exact hl)
  rw [List.append_nil] at b
  refine PySem.wpAny_call (make_map (f := f) I.kIn M.makes M.init (beq_iff_eq.mp M.fn) (codeAny_mono (F.run _ X.stack _ _ ⟨Value.ref (s.heap.objs.size + 1) :: us, []⟩ (Value.ref (s.heap.objs.size + 1) :: us) _ _ (E σ) (hr.make C us [])
    (I2.env0.make C us []) b r2 hq) fun r s' hq' => ?_))
  cases r with
  | error e => exact hx pins _ _ e s' I2 hq'
  | ok fl =>
    cases fl with
    | ret u =>
      obtain ⟨v, H', I3, rv, ev, q3⟩ := I2.after hq'
      subst ev
      exact ⟨rv, ⟨V.ref (s.heap.objs.size + 1), H', I3, rfl, q3⟩⟩
    | next => exact False.elim hq'
    | brk => exact False.elim hq'
    | cont => exact False.elim hq'
theorem pe_makeS (M : Mk X.K C f) (F : FnOk X.prog X.w X.K X.mg X.base CX k f fd ps sp) (hr : Room (k + 1) X.A) (hg : Gl X x) (hm : X.mg x = some (.ref C)) (hb : Binds X.K fd ps []) (hx : ∀ σ, PassesAt CX X σ (E σ))
    (ha : PA X (e :: es) t) (hdb : (x == ("__debug__" : Str)) = false := by decide) (he : starEach (e :: es) X.env = (false, eval e X.env) :: starEach es X.env := by rfl) (hpl : (backTo pos (starEach es X.env)).any (·.1) = false := by rfl) :
    PE X (.Call (.Name x p) (e :: es) [] pos) (tMakeS C sp E t) := by
  refine ⟨fun pins s σ H Q I h => ?_⟩
  refine PySem.wpAny_Call_Name_kw (ld_glob I hg hm ?_ hdb)
  refine PySem.W.callWith_K (h₀ := X.base) I.ok.mod.kin M.kp (thn (ha.run pos pins s σ H _ I h) fun us s1 ⟨vs, H1, I1, r, q⟩ => ⟨I1.kIn, ?_⟩) he hpl
  exact run_makeS M F hr hb (hx σ) I1 r q
theorem pe_mkX {W : WX} (tk : Takes X W) (c : Mak X.prog X.w X.K X.mg X.base x C k n S) (hr : Room j X.A) (hk : k + 1 ≤ j) (hg : Gl X x) (ha : PA X (e :: es) t) (hdb : (x == ("__debug__" : Str)) = false := by decide)
    (he : starEach (e :: es) X.env = (false, eval e X.env) :: starEach es X.env := by rfl) (hpl : (backTo pos (starEach es X.env)).any (·.1) = false := by rfl) : PE X (.Call (.Name x p) (e :: es) [] pos) (tMakeS C (spI X.K C n S) (WE W) t) := by
  obtain ⟨f, fd, ps, M, h1, h2, h4⟩ := c.ex
  exact pe_makeS M h1 (hr.mono hk) hg h2 h4 (fun σ => passAt tk σ) ha hdb he hpl
theorem pe_mk0 (c : Mak X.prog X.w X.K X.mg X.base x C k n S) (hr : Room j X.A) (hk : k + 1 ≤ j) (hg : Gl X x) (ha : PA X (e :: es) t) (hdb : (x == ("__debug__" : Str)) = false := by decide)
    (he : starEach (e :: es) X.env = (false, eval e X.env) :: starEach es X.env := by rfl) (hpl : (backTo pos (starEach es X.env)).any (·.1) = false := by rfl) : PE X (.Call (.Name x p) (e :: es) [] pos) (tMakeS C (spI X.K C n S) (fun _ => E0) t) := by
  obtain ⟨f, fd, ps, M, h1, h2, h4⟩ := c.ex
  exact pe_makeS M h1 (hr.mono hk) hg h2 h4 (fun σ pins H s e s' I c => passL pins σ H s e s' I c) ha hdb he hpl
end
section
variable {Z : Cz} {Γ : List B} {te ta tb tc : TE} {tt tu : TT} {tr : TA} {P : Po}
theorem made_state {G H G' H' : Hp} {σ : L2.St} {x dx' C : Addr} {ns : List Str} {xs : List V} {fs : List D} (j : J Z G H) (e : En Z G H σ Γ) (nx : H x = none) (i : J (Z.at H G) G' H') (hx : H' x = some (.ins C dx' (ns.zip xs))) (hl : ns.length = xs.length) (r : Rps Z.K Z.pl G' xs fs) (gx : G' x = none) :
    ∃ G'', Sp1 Z σ Γ Γ G H G'' H' ∧ J Z G'' H' ∧ En Z G'' H' σ Γ ∧ Rp Z.K Z.pl G'' (.ref x) (.obj C ns fs) := by
  have j' := j.leave i
  have e' := e.called j.toJ0 i.toJ0
  have s := Sp1.of (σ := σ) (Γ := Γ) i
  refine ⟨upd G' x (.ins C dx' (ns.zip xs)), ⟨s.ex.trans (Ex.new gx), fun _ h => h, fun a o ha n w => ?_, s.tr⟩, j'.still (j.old nx) hx gx, e'.mono (Ex.new gx) fun l o b1 b2 b3 ⟨m, o1, o2⟩ => ⟨b1, ?_⟩, .obj upd_same hl (r.mono (Ex.new gx))⟩
  · obtain ⟨h1, h2⟩ := s.fr a o ha n w
    exact ⟨h1, fun z => by rw [upd_ne (ne_of_none ha nx)]; exact h2 z⟩
  · have : l ≠ x := fun z => e.noown nx m o1 (by rw [o2, z])
    rw [upd_ne this]; exact b2
theorem den_makeX {n : Nat} {C : Addr} {S : ISpec} {Q : D → List B → Prop} (h : DenA Z tr Γ fun ds Γ1 => ds.length = n ∧ S.P ds ∧ (∀ fs, S.R ds fs → Q (.obj C S.ns fs) Γ1) ∧ ∀ er, S.X ds er → Z.X er Γ1) : Den Z (tMakeS C (spI Z.K C n S) (WE Z.W) tr) Γ Q := fun σ G H j e k kk =>
  h σ G H j e _ fun ds Γ1 vs G1 H1 q s1 j1 e1 r1 x dx nx ndx ne => by
    obtain ⟨hn, hp, hr, hx⟩ := q
    refine ⟨Z.pl, G1, ds, H1, x, dx, vs, rfl, rfl, nx, ndx, ne, j1.enter, r1, hn, hp, fun fs G' H' dx' xs a i h1 h2 r gx => ⟨rfl, ?_⟩, fun er cls d G' H' a i re => ?_⟩
    · obtain ⟨G2, s2, j2, e2, r2⟩ := made_state j1 e1 nx i h1 h2 r gx
      exact kk _ Γ1 _ G2 H' (hr fs a) (s1.trans s2) j2 e2 r2
    · exact j1.acc er cls d σ G' H' Γ1 (hx er a) i.g0 (j1.leave i).toJ0 (e1.called j1.toJ0 i.toJ0) re
theorem den_make0 {n : Nat} {C : Addr} {S : ISpec} {E : L2.St → XK} {Q : D → List B → Prop} (h : DenA Z tr Γ fun ds Γ1 => ds.length = n ∧ S.P ds ∧ (∀ fs, S.R ds fs → Q (.obj C S.ns fs) Γ1) ∧ ∀ er, ¬ S.X ds er) : Den Z (tMakeS C (spI Z.K C n S) E tr) Γ Q := fun σ G H j e k kk =>
  h σ G H j e _ fun ds Γ1 vs G1 H1 q s1 j1 e1 r1 x dx nx ndx ne => by
    obtain ⟨hn, hp, hr, hx⟩ := q
    refine ⟨Z.pl, G1, ds, H1, x, dx, vs, rfl, rfl, nx, ndx, ne, j1.enter, r1, hn, hp, fun fs G' H' dx' xs a i h1 h2 r gx => ⟨rfl, ?_⟩, fun er cls d G' H' a i re => absurd a (hx er)⟩
    obtain ⟨G2, s2, j2, e2, r2⟩ := made_state j1 e1 nx i h1 h2 r gx
    exact kk _ Γ1 _ G2 H' (hr fs a) (s1.trans s2) j2 e2 r2
/-! ### globals, chained tests, more walks, the pool -/
theorem den_ty {T : String} {Q : D → List B → Prop} (q : Q (.ty T) Γ) : Den Z (tC (.ty T)) Γ Q := fun σ G H j e k kk => kk _ _ _ G H q .refl j e (.ty T)
theorem den_cls {C : Addr} {Q : D → List B → Prop} (q : Q (.cls C) Γ) : Den Z (tC (.ref C)) Γ Q := fun σ G H j e k kk => kk _ _ _ G H q .refl j e (.cls C)
theorem dent_chain {r r' : R2} {Q : Bool → List B → Prop} (h : Den Z (tChain r r' ta tb tc) Γ fun x Γ1 => ∃ b, x = .bl b ∧ Q b Γ1) : DenT Z (tTest (tChain r r' ta tb tc)) Γ Q := dent_test h
end
end Ab
namespace L2
open PySem PySem.Spec PyProof.Rows
section
variable {X : Cx} {tg : Expr}
/-- a walk over a list or a tuple -/
def iSeq (K : PySem.W.Frag) (tl : TE) : TI := fun σ H R => tl σ H fun x H1 => ∃ a, x = .ref a ∧ (((∃ xs, SqL K H1 a xs) ∧ R (Itl K a) H1) ∨ ((∃ xs, SqT K H1 a xs) ∧ R (Itt K a) H1))
theorem pi_seq {l : Expr} {tl : TE} (hl : PE X l tl) : PI X tg l (iSeq X.K tl) := by
  refine ⟨fun pins s σ H R I h => ?_⟩
  refine thn (hl.run pins s σ H _ I h) fun v s1 ⟨x, H1, I1, r1, q1⟩ => ?_
  obtain ⟨a, e, q1⟩ := q1
  subst e
  cases r1
  have fr : ∀ b ∈ [s1.heap.objs.size], FpOk X pins H1 b := fun b hb => by
    have e : b = s1.heap.objs.size := by simpa using hb
    subst e
    exact I1.fpOk (Nat.le_refl _) (I1.hok.fresh (Nat.le_refl _))
  rcases q1 with ⟨⟨xs, hq⟩, q⟩ | ⟨⟨xs, hq⟩, q⟩
  · obtain ⟨its, rv, p, hz⟩ := I1.list hq
    refine wpAny_pyIter_list p.isList ?_
    exact ⟨s1.heap.objs.size, [s1.heap.objs.size], _, _, H1, rfl, I1.kept (t' := s1.toks) fun b o e => Heap.get?_push_of_some _ e, turn_list a _, ⟨_, Heap.get?_push_size _ rfl, rfl, rfl⟩, fr, q⟩
  · obtain ⟨its, rv, p, hz⟩ := I1.tuple hq
    refine wpAny_pyIter_tuple (show s1.heap.IsTuple a its.toArray from p) ?_
    exact ⟨s1.heap.objs.size, [s1.heap.objs.size], _, _, H1, rfl, I1.kept (t' := s1.toks) fun b o e => Heap.get?_push_of_some _ e, turn_tuple a _, ⟨_, Heap.get?_push_size _ rfl, rfl, rfl⟩, fr, q⟩
/-! operators whatever the kinds -/
def rAddI : R2 := rI0 fun i j => .int (i + j)
def rAddS : R2 := fun x y H Q => ∃ i j, x = .str i ∧ y = .str j ∧ i.length + j.length ≤ sizeLine ∧ Q (.str (i ++ j)) H
def rPlus (K : PySem.W.Frag) : R2 := fun x y H Q => rAddI x y H Q ∨ (rCatA K x y H Q ∨ (rCat x y H Q ∨ rAddS x y H Q))
theorem op_plus : OpR X (binaryOp .Add) (rPlus X.K) := op_add.or (op_catA.or (op_cat.or op_add_str))
def rMulI : R2 := rI CMul fun i j => .int (i * j)
def rMulW : R2 := rI CMulW fun i j => .int (i * j)
def rTimes (K : PySem.W.Frag) : R2 := fun x y H Q => rMulI x y H Q ∨ (rRepT K x y H Q ∨ (rRep x y H Q ∨ rMulW x y H Q))
theorem op_times : OpR X (binaryOp .Mult) (rTimes X.K) := op_mul.or (op_repT.or (op_rep.or op_mulW))
def rEqq (K : PySem.W.Frag) : R2 := fun x y H Q => rEq x y H Q ∨ rEqD K x y H Q
theorem op_eqq (hu : X.A.units + 64 < cLine) : OpR X (compareOp .Eq) (rEqq X.K) := op_eq.or (op_eqD hu)
def rNeq (K : PySem.W.Frag) : R2 := fun x y H Q => rNe x y H Q ∨ rNeD K x y H Q
theorem op_neqq (hu : X.A.units + 64 < cLine) : OpR X (compareOp .NotEq) (rNeq X.K) := op_ne.or (op_neD hu)
def rSlG (K : PySem.W.Frag) : V → Option Int → Option Int → Hp → VK → Prop := fun x lo hi H Q => rSlA K x lo hi H Q ∨ rSlL K x lo hi H Q
theorem sl_any : SlR X (rSlG X.K) := sl_tupA.or sl_list
end
end L2
namespace Ab
open PySem L2
section
variable {Z : Cz} {Γ : List B} {te ta tb tc : TE} {tt tu : TT} {tr : TA} {P : Po}
theorem OpD.inl {r r' : R2} {x y : D} {Q : D → Prop} (h : OpD Z r x y Q) : OpD Z (fun x y H Q => r x y H Q ∨ r' x y H Q) x y Q := fun G H vx vy j rx ry k kk => .inl (h G H vx vy j rx ry k kk)
theorem OpD.inr {r r' : R2} {x y : D} {Q : D → Prop} (h : OpD Z r' x y Q) : OpD Z (fun x y H Q => r x y H Q ∨ r' x y H Q) x y Q := fun G H vx vy j rx ry k kk => .inr (h G H vx vy j rx ry k kk)
theorem OpL.inl {r r' : R2} {x y : D} {Q : List D → Prop} (h : OpL Z r x y Q) : OpL Z (fun x y H Q => r x y H Q ∨ r' x y H Q) x y Q := fun G H vx vy j rx ry k kk => .inl (h G H vx vy j rx ry k kk)
theorem OpL.inr {r r' : R2} {x y : D} {Q : List D → Prop} (h : OpL Z r' x y Q) : OpL Z (fun x y H Q => r x y H Q ∨ r' x y H Q) x y Q := fun G H vx vy j rx ry k kk => .inr (h G H vx vy j rx ry k kk)
theorem plus_int {i j : Int} {Q : D → Prop} (q : Q (.int (i + j))) : OpD Z (rPlus Z.K) (.int i) (.int j) Q := (opd_i0 (f := fun i j => i + j) q).inl
theorem plus_tup {xs ys : List D} {Q : D → Prop} (hz : xs.length + ys.length ≤ 100000) (q : Q (.tup (xs ++ ys))) : OpD Z (rPlus Z.K) (.tup xs) (.tup ys) Q := ((opd_cat hz q).inl).inr
theorem times_int {i j : Int} {Q : D → Prop} (c : CMul i j) (q : Q (.int (i * j))) : OpD Z (rTimes Z.K) (.int i) (.int j) Q := (opd_ic (f := fun i j => i * j) c q).inl
theorem times_wide {i j : Int} {Q : D → Prop} (c : CMulW i j) (q : Q (.int (i * j))) : OpD Z (rTimes Z.K) (.int i) (.int j) Q := ((((opd_ic (f := fun i j => i * j) c q).inr).inr).inr)
theorem opd_repT {xs : List D} {n : Int} {Q : D → Prop} (h0 : xs ≠ []) (h1 : 2 ≤ n) (h2 : n ≤ 1000) (h3 : xs.length ≤ 1000) (q : Q (.tup (List.replicate n.toNat xs).flatten)) : OpD Z (rRepT Z.K) (.tup xs) (.int n) Q := fun G H vx vy jj rx ry k kk => by
  cases rx with
  | @tup a vs _ g1 r1 =>
    cases ry
    exact ⟨a, n, vs, rfl, rfl, SqT.of (jj.sub _ _ g1), fun e => h0 (r1.nil_iff.mp e), h1, h2, by rw [r1.length]; exact h3, fun p hp => kk _ _ _ _ q (jj.sp hp) (.tup upd_same ((r1.mono (Ex.new (jj.sub.back hp))).flat _))⟩
theorem times_tup {xs : List D} {n : Int} {Q : D → Prop} (h0 : xs ≠ []) (h1 : 2 ≤ n) (h2 : n ≤ 1000) (h3 : xs.length ≤ 1000) (q : Q (.tup (List.replicate n.toNat xs).flatten)) : OpD Z (rTimes Z.K) (.tup xs) (.int n) Q := ((opd_repT h0 h1 h2 h3 q).inl).inr
theorem plus_lst {xs ys : List D} {Q : List D → Prop} (hz : xs.length + ys.length ≤ 100000) (q : Q (xs ++ ys)) : OpL Z (rPlus Z.K) (.lst xs) (.lst ys) Q := (((opl_cat hz q).inl).inr).inr
theorem times_lst {xs : List D} {n : Int} {Q : List D → Prop} (h1 : -(2 ^ 63) ≤ n) (h2 : n < 2 ^ 63) (hz : xs.length * n.toNat ≤ 100000) (q : Q (List.replicate n.toNat xs).flatten) : OpL Z (rTimes Z.K) (.lst xs) (.int n) Q := (((opl_rep h1 h2 hz q).inl).inr).inr
theorem eqg_int {i j : Int} {Q : D → Prop} (q : Q (.bl (decide (i = j)))) : OpD Z (rEqq Z.K) (.int i) (.int j) Q := (opd_eqI q).inl
theorem neg_int {i j : Int} {Q : D → Prop} (q : Q (.bl (!decide (i = j)))) : OpD Z (rNeq Z.K) (.int i) (.int j) Q := (opd_neI q).inl
theorem eqg_str {i j : Str} {Q : D → Prop} (q : Q (.bl (decide (i = j)))) : OpD Z (rEqq Z.K) (.str i) (.str j) Q := (opd_eqS q).inl
theorem neg_str {i j : Str} {Q : D → Prop} (q : Q (.bl (!decide (i = j)))) : OpD Z (rNeq Z.K) (.str i) (.str j) Q := (opd_neS q).inl
theorem eqg_bl {i j : Bool} {Q : D → Prop} (q : Q (.bl (decide (i = j)))) : OpD Z (rEqq Z.K) (.bl i) (.bl j) Q := (opd_eqB q).inl
theorem neg_bl {i j : Bool} {Q : D → Prop} (q : Q (.bl (!decide (i = j)))) : OpD Z (rNeq Z.K) (.bl i) (.bl j) Q := (opd_neB q).inl
theorem eqg_data {x y : D} {Q : D → Prop} (px : plainD x = true) (py : plainD y = true) (sx : SeqAt.shaped (pyD x) = true) (sy : SeqAt.shaped (pyD y) = true) (q : Q (.bl (PyData.eqv (pyD x) (pyD y)))) : OpD Z (rEqq Z.K) x y Q := (opd_eqD px py sx sy q).inr
theorem neg_data {x y : D} {Q : D → Prop} (px : plainD x = true) (py : plainD y = true) (sx : SeqAt.shaped (pyD x) = true) (sy : SeqAt.shaped (pyD y) = true) (q : Q (.bl (!PyData.eqv (pyD x) (pyD y)))) : OpD Z (rNeq Z.K) x y Q := (opd_neD px py sx sy q).inr
/-- slices -/
theorem den_slA {to1 to2 : TO} {Q : D → List B → Prop} (h : Den Z te Γ fun x Γ1 => ∃ xs, x = .tup xs ∧ DenO Z to1 Γ1 fun lo Γ2 => DenO Z to2 Γ2 fun hi Γ3 => Q (.tup (cutD xs lo hi)) Γ3) : Den Z (tSl (rSlG Z.K) te to1 to2) Γ Q := fun σ G H j e k kk =>
  h σ G H j e _ fun x Γ1 v G1 H1 q s1 j1 e1 r1 => by
    obtain ⟨xs, rfl, q⟩ := q
    refine q σ G1 H1 j1 e1 _ fun lo Γ2 G2 H2 q2 s2 j2 e2 => q2 σ G2 H2 j2 e2 _ fun hi Γ3 G3 H3 q3 s3 j3 e3 => .inl ?_
    have r3 := (r1.mono s2.ex).mono s3.ex
    have s := (s1.trans s2).trans s3
    cases r3 with
    | @tup a vs _ h1 r3 =>
      refine ⟨a, vs, rfl, SqT.of (j3.sub _ _ h1), fun w => ?_, fun w p hp => ?_⟩
      · rw [r3.length] at w
        have q3 : Q (.tup (cutD xs lo hi)) Γ3 := q3
        rw [cut_whole w] at q3
        exact kk _ Γ3 _ G3 H3 q3 s j3 e3 (.tup h1 r3)
      · exact kk _ Γ3 _ _ _ q3 (s.trans (.of (j3.sp hp))) (j3.new hp) (e3.new j3.toJ0 hp) (.tup upd_same (cut_rps (r3.mono (Ex.new (j3.sub.back hp))) lo hi))
theorem denl_slA {to1 to2 : TO} {Q : List D → List B → Prop} (h : Den Z te Γ fun x Γ1 => ∃ xs, x = .lst xs ∧ DenO Z to1 Γ1 fun lo Γ2 => DenO Z to2 Γ2 fun hi Γ3 => Q (cutD xs lo hi) Γ3) : DenL Z (tSl (rSlG Z.K) te to1 to2) Γ Q := fun σ G H j e k kk =>
  h σ G H j e _ fun x Γ1 v G1 H1 q s1 j1 e1 r1 => by
    obtain ⟨xs, rfl, q⟩ := q
    refine q σ G1 H1 j1 e1 _ fun lo Γ2 G2 H2 q2 s2 j2 e2 => q2 σ G2 H2 j2 e2 _ fun hi Γ3 G3 H3 q3 s3 j3 e3 => .inr ?_
    have r3 := (r1.mono s2.ex).mono s3.ex
    have s := (s1.trans s2).trans s3
    cases r3 with
    | @lst a vs _ h1 r3 =>
      have sq : SqL Z.K H3 a vs := .inl (.inl (j3.sub _ _ h1))
      refine ⟨a, vs, rfl, sq, fun p hp => ?_⟩
      have n := j3.sub.back hp
      refine kk _ Γ3 p _ G3 (upd H3 p (.lst (cutV vs lo hi))) q3 (s.trans ⟨Ex.refl _, fun _ h => h, fun a o ha _ _ => ⟨?_, fun z => z⟩, fun a o ha => ⟨o, ?_⟩⟩) (j3.put (j3.old hp) n) (e3.newM hp) upd_same (cut_rps r3 lo hi) ⟨n, j3.old hp, fun i o => e3.noown hp i o⟩ (s.back hp)
      · rw [upd_ne (ne_of_none ha hp)]; exact ha
      · rw [upd_ne (ne_of_none ha hp)]; exact ha
theorem deni_seq {Q : List D → List B → Prop} (h : Den Z te Γ fun x Γ1 => ∃ xs, (x = .lst xs ∨ x = .tup xs) ∧ Q xs Γ1) : DenI Z (iSeq Z.K te) Γ Q := fun σ G H j e k kk =>
  h σ G H j e _ fun x Γ1 v G1 H1 q s1 j1 e1 r1 => by
    obtain ⟨xs, hx, q⟩ := q
    rcases hx with rfl | rfl
    · cases r1 with
      | @lst a vs _ h1 r1 =>
        refine ⟨a, rfl, .inl ⟨⟨vs, sql_of h1 (Ex.refl _) j1⟩, kk xs Γ1 _ G1 H1 q s1 j1 e1 ⟨fun G' H' i x j' hi => ?_, fun G' H' x j' => ?_, fun G' H' i x H'' ex j' hi y => ?_⟩⟩⟩
        · rw [← r1.length] at hi
          exact ⟨vs, vs[i], sql_of h1 x j', by simp [hi]⟩
        · exact ⟨vs, sql_of h1 x j', by rw [r1.length]; exact Nat.le_refl _⟩
        · obtain ⟨rfl, y⟩ := y
          obtain ⟨d, hd, hr⟩ := r1.getV (y vs (sql_of h1 ex j'))
          exact ⟨G', d, hd, j'.enter, hr.mono ex⟩
    · cases r1 with
      | @tup a vs _ h1 r1 =>
        refine ⟨a, rfl, .inr ⟨⟨vs, sqt_of h1 (Ex.refl _) j1⟩, kk xs Γ1 _ G1 H1 q s1 j1 e1 ⟨fun G' H' i x j' hi => ?_, fun G' H' x j' => ?_, fun G' H' i x H'' ex j' hi y => ?_⟩⟩⟩
        · rw [← r1.length] at hi
          exact ⟨vs, vs[i], sqt_of h1 x j', by simp [hi]⟩
        · exact ⟨vs, sqt_of h1 x j', by rw [r1.length]; exact Nat.le_refl _⟩
        · obtain ⟨rfl, y⟩ := y
          obtain ⟨d, hd, hr⟩ := r1.getV (y vs (sqt_of h1 ex j'))
          exact ⟨G', d, hd, j'.enter, hr.mono ex⟩
end
end Ab
/-! the rules with the written part as a letter of its own (for comprehensions and tries) -/
namespace Ab
open PySem L2
section
variable {X : Cx} (K : PySem.W.Frag)
theorem k_plus (h : X.K = K := by rfl) : OpR X (binaryOp .Add) (rPlus K) := by subst h; exact op_plus
theorem k_times (h : X.K = K := by rfl) : OpR X (binaryOp .Mult) (rTimes K) := by subst h; exact op_times
theorem k_eq (hu : X.A.units + 64 < cLine) (h : X.K = K := by rfl) : OpR X (compareOp .Eq) (rEqq K) := by subst h; exact op_eqq hu
theorem k_ne (hu : X.A.units + 64 < cLine) (h : X.K = K := by rfl) : OpR X (compareOp .NotEq) (rNeq K) := by subst h; exact op_neqq hu
theorem k_in (h : X.K = K := by rfl) : OpR X (compareOp .In) (rIn K false) := by subst h; exact op_in_seq
theorem k_nin (h : X.K = K := by rfl) : OpR X (compareOp .NotIn) (rIn K true) := by subst h; exact op_notIn_seq
theorem k_ix (h : X.K = K := by rfl) : IxR X (rIx K) := by subst h; exact ix_seq
theorem k_sl (h : X.K = K := by rfl) : SlR X (rSlG K) := by subst h; exact sl_any
theorem k_len (h : X.K = K := by rfl) : CallR X (.builtin "len") (rLen K) := by subst h; exact call_len
theorem k_tuple (h : X.K = K := by rfl) : CallR X (.type "tuple") (rTupleOf K) := by subst h; exact call_tuple_of
theorem k_list (h : X.K = K := by rfl) : CallR X (.type "list") (rListOf K) := by subst h; exact call_list_of
theorem k_all (hc : X.calm = true) (h : X.K = K := by rfl) : CallR X (.builtin "all") (rAll K) := by subst h; exact cr_all hc
theorem k_any (hc : X.calm = true) (h : X.K = K := by rfl) : CallR X (.builtin "any") (rAny K) := by subst h; exact cr_any hc
theorem k_sum (hc : X.calm = true) (h : X.K = K := by rfl) : CallR X (.builtin "sum") (rSum K) := by subst h; exact cr_sum hc
theorem k_isi (h : X.K = K := by rfl) : CallR X (.builtin "isinstance") (rIsi K) := by subst h; exact call_isi
theorem k_sorted (h : X.K = K := by rfl) : CallR X (.builtin "sorted") (rSorted K) := by subst h; exact cr_sorted
section
variable {tg e o : Expr} {te to : TE} {ta : TA} {p pos tpos apos cpos : Pos} {elts es : List Expr} {kk : Nat}
theorem ki_seq (he : PE X e te) (h : X.K = K := by rfl) : PI X tg e (iSeq K te) := by subst h; exact pi_seq he
theorem ki_enum (hg : Gl X "enumerate") (hm : X.mg "enumerate" = none) (ha : PA X [e] ta) (h : X.K = K := by rfl) (hs : starEach [e] X.env = [(false, eval e X.env)] := by rfl) :
    PI X (.Tuple elts kk tpos) (.Call (.Name "enumerate" p) [e] [] pos) (iEnumA K ta) := by subst h; exact pi_enumA hg hm ha hs
theorem ki_zip {e2 : Expr} (hg : Gl X "zip") (hm : X.mg "zip" = none) (ha : PA X [e, e2] ta) (h : X.K = K := by rfl)
    (hs : starEach [e, e2] X.env = (false, eval e X.env) :: starEach [e2] X.env := by rfl) (hpl : (backTo pos (starEach [e2] X.env)).any (·.1) = false := by rfl) :
    PI X (.Tuple elts kk tpos) (.Call (.Name "zip" p) [e, e2] [] pos) (RZ.iZipA K ta) := by subst h; exact RZ.pi_zipA hg hm ha hs hpl
theorem kg_tup {t : TGs} {n : Nat} (hc : X.calm = true) (h : PGs X elts t) (hk : X.K = K := by rfl) (hn : (assignEach elts X.env).length = n := by rfl) (hst : List.findIdx? (fun x => x.fst) (assignEach elts X.env) = none := by rfl) : PG X (.Tuple elts kk pos) (gTup K n t) := by
  subst hk
  exact pg_tup hc h hn hst
theorem k_fld {f : Str} (he : PE X e te) (h : X.K = K := by rfl) (hb : attributeBase e f X.env (eval e X.env) = eval e X.env := by rfl) : PE X (.Attribute e f pos) (tFld K te f) := by subst h; exact pe_fld he hb
theorem ks_fld {f : Str} {value : Expr} {tv : TE} {pos' : Pos} (ha : PE X o to) (hv : PE X value tv) (h : X.K = K := by rfl) (hs : swapsWith value (some (.Attribute o f pos')) pos.line X.env = pure false := by rfl) : PS X (.Assign [.Attribute o f pos'] value pos) (sFld K to tv f) := by subst h; exact ps_fld ha hv hs
end
variable {K}
section
variable {P : Program} {w : World} {mg : Str → Option Value} {base : Heap} {x : Str} {e : Expr} {es : List Expr} {t : TA} {k n j : Nat} {S : FSpec} {p pos : Pos}
theorem kc_fn (c : Dfn P w K mg base x k n S) (hr : Room j X.A) (hk : k ≤ j) (hX : X.prog = P ∧ X.w = w ∧ X.K = K ∧ X.mg = mg ∧ X.base = base) (hg : Gl X x) (ha : PA X (e :: es) t) (hdb : (x == ("__debug__" : Str)) = false := by decide)
    (he : starEach (e :: es) X.env = (false, eval e X.env) :: starEach es X.env := by rfl) (hpl : (backTo pos (starEach es X.env)).any (·.1) = false := by rfl) : PE X (.Call (.Name x p) (e :: es) [] pos) (tCall (spS K n S) [] E0 t) := by
  obtain ⟨rfl, rfl, rfl, rfl, rfl⟩ := hX
  exact pe_fn c hr hk hg ha hdb he hpl
theorem kc_fn0 (c : Dfn P w K mg base x k n S) (hr : Room j X.A) (hk : k ≤ j) (hX : X.prog = P ∧ X.w = w ∧ X.K = K ∧ X.mg = mg ∧ X.base = base) (hg : Gl X x) (hdb : (x == ("__debug__" : Str)) = false := by decide)
    (hpl : (backTo pos (starEach [] X.env)).any (·.1) = false := by rfl) : PE X (.Call (.Name x p) [] [] pos) (tCall (spS K n S) [] E0 tNil) := by
  obtain ⟨rfl, rfl, rfl, rfl, rfl⟩ := hX
  exact pe_fn0 c hr hk hg hdb hpl
theorem kc_fnX {W : WX} (tk : Takes X W) (c : Dfn P w K mg base x k n S) (hr : Room j X.A) (hk : k ≤ j) (hX : X.prog = P ∧ X.w = w ∧ X.K = K ∧ X.mg = mg ∧ X.base = base) (hg : Gl X x) (ha : PA X (e :: es) t) (hdb : (x == ("__debug__" : Str)) = false := by decide)
    (he : starEach (e :: es) X.env = (false, eval e X.env) :: starEach es X.env := by rfl) (hpl : (backTo pos (starEach es X.env)).any (·.1) = false := by rfl) : PE X (.Call (.Name x p) (e :: es) [] pos) (tCallS (spS K n S) (WE W) t) := by
  obtain ⟨rfl, rfl, rfl, rfl, rfl⟩ := hX
  exact pe_fnX tk c hr hk hg ha hdb he hpl
theorem kc_mkX {C : Addr} {S : ISpec} {W : WX} (tk : Takes X W) (c : Mak P w K mg base x C k n S) (hr : Room j X.A) (hk : k + 1 ≤ j) (hX : X.prog = P ∧ X.w = w ∧ X.K = K ∧ X.mg = mg ∧ X.base = base) (hg : Gl X x) (ha : PA X (e :: es) t) (hdb : (x == ("__debug__" : Str)) = false := by decide)
    (he : starEach (e :: es) X.env = (false, eval e X.env) :: starEach es X.env := by rfl) (hpl : (backTo pos (starEach es X.env)).any (·.1) = false := by rfl) : PE X (.Call (.Name x p) (e :: es) [] pos) (tMakeS C (spI K C n S) (WE W) t) := by
  obtain ⟨rfl, rfl, rfl, rfl, rfl⟩ := hX
  exact pe_mkX tk c hr hk hg ha hdb he hpl
theorem kc_mk0 {C : Addr} {S : ISpec} (c : Mak P w K mg base x C k n S) (hr : Room j X.A) (hk : k + 1 ≤ j) (hX : X.prog = P ∧ X.w = w ∧ X.K = K ∧ X.mg = mg ∧ X.base = base) (hg : Gl X x) (ha : PA X (e :: es) t) (hdb : (x == ("__debug__" : Str)) = false := by decide)
    (he : starEach (e :: es) X.env = (false, eval e X.env) :: starEach es X.env := by rfl) (hpl : (backTo pos (starEach es X.env)).any (·.1) = false := by rfl) : PE X (.Call (.Name x p) (e :: es) [] pos) (tMakeS C (spI K C n S) (fun _ => E0) t) := by
  obtain ⟨rfl, rfl, rfl, rfl, rfl⟩ := hX
  exact pe_mk0 c hr hk hg ha hdb he hpl
end
/-- a def of the text, found and walked, as its callers know it -/
theorem dfn_mk {P : Program} {w : World} {mg : Str → Option Value} {base : Heap} {x qual : Str} {st : Stmt} {f : Addr} {fd : FuncData} {ps : List Str} {k : Nat} {S : FSpec} (F : Fun K x qual st f fd) (m : mg x = some (.ref f)) (b : Binds K fd ps [])
    (h : FnOk P w K mg base (L2.CX P w) k f fd ps (spS K ps.length S)) : Dfn P w K mg base x k ps.length S := ⟨⟨f, fd, ps, h, m, F.kp, b⟩⟩
end
end Ab
namespace Ab
open PySem L2
/-! helpers for comprehensions and loops -/
/-- two lists of one length, place by place -/
inductive Each {α β : Type} (R : α → β → Prop) : List α → List β → Prop
  | nil : Each R [] []
  | cons {a : α} {b : β} {as : List α} {bs : List β} : R a b → Each R as bs → Each R (a :: as) (b :: bs)
theorem Each.length {α β : Type} {R : α → β → Prop} : ∀ {as : List α} {bs : List β}, Each R as bs → as.length = bs.length
  | _, _, .nil => rfl
  | _, _, .cons _ t => by simp [Each.length t]
theorem Each.snoc {α β : Type} {R : α → β → Prop} : ∀ {as : List α} {bs : List β} {a : α} {b : β}, Each R as bs → R a b → Each R (as ++ [a]) (bs ++ [b])
  | _, _, _, _, .nil, r => .cons r .nil
  | _, _, _, _, .cons q t, r => .cons q (Each.snoc t r)
theorem Each.get {α β : Type} {R : α → β → Prop} : ∀ {as : List α} {bs : List β} {i : Nat} {a : α}, Each R as bs → as[i]? = some a → ∃ b, bs[i]? = some b ∧ R a b
  | _, _, _, _, .nil, h => by simp at h
  | _, _, 0, _, .cons r _, h => by simp at h; subst h; exact ⟨_, rfl, r⟩
  | _, _, i + 1, _, .cons _ t, h => by
    obtain ⟨b, h1, h2⟩ := Each.get (i := i) t (by simpa using h)
    exact ⟨b, by simpa using h1, h2⟩
theorem Each.getR {α β : Type} {R : α → β → Prop} : ∀ {as : List α} {bs : List β} {i : Nat} {b : β}, Each R as bs → bs[i]? = some b → ∃ a, as[i]? = some a ∧ R a b
  | _, _, _, _, .nil, h => by simp at h
  | _, _, 0, _, .cons r _, h => by simp at h; subst h; exact ⟨_, rfl, r⟩
  | _, _, i + 1, _, .cons _ t, h => by
    obtain ⟨b, h1, h2⟩ := Each.getR (i := i) t (by simpa using h)
    exact ⟨b, by simpa using h1, h2⟩
theorem Each.map_eq {α β : Type} {f : α → β} : ∀ {as : List α} {bs : List β}, Each (fun a b => b = f a) as bs → bs = as.map f
  | _, _, .nil => rfl
  | _, _, .cons r t => by rw [r, Each.map_eq t]; rfl
theorem Each.imp {α β : Type} {R R' : α → β → Prop} (h : ∀ a b, R a b → R' a b) : ∀ {as : List α} {bs : List β}, Each R as bs → Each R' as bs
  | _, _, .nil => .nil
  | _, _, .cons r t => .cons (h _ _ r) (t.imp h)
theorem Each.all {α β : Type} {R : α → β → Prop} {p : β → Prop} (h : ∀ a b, R a b → p b) : ∀ {as : List α} {bs : List β}, Each R as bs → ∀ b ∈ bs, p b
  | _, _, .nil, _, m => by cases m
  | _, _, .cons r t, b, m => by
    rcases List.mem_cons.mp m with e | m
    · subst e; exact h _ _ r
    · exact Each.all h t b m
theorem take_snoc {α : Type} : ∀ {l : List α} {i : Nat} {x : α}, l[i]? = some x → l.take (i + 1) = l.take i ++ [x]
  | [], i, x, h => by simp at h
  | a :: l, 0, x, h => by simp at h; subst h; simp
  | a :: l, i + 1, x, h => by
    have ih := take_snoc (l := l) (i := i) (x := x) (by simpa using h)
    simp only [List.take_succ_cons, ih, List.cons_append]
section
variable {Z : Cz} {Γ : List B} {te ta tb tc : TE} {tt tu : TT} {tr : TA} {P : Po}
/-- [e for x in xs] -/
theorem denl_rel {wi : TI} {g : TG} {vs : List Nat} {Q : List D → List B → Prop} (hg : GOff g vs) (hm : GMono g)
    (h : DenI Z wi Γ fun ds Γ1 => (∀ i ∈ vs, ¬ IsOwn Γ1[i]?) ∧ ds.length < 100000 ∧ ∃ R : D → D → Prop,
      (∀ (i : Nat) d, ds[i]? = some d → DenG Z g d (wipeB Γ1 vs) fun Γ2 => wipeB Γ2 vs = wipeB Γ1 vs ∧ (∀ i ∈ vs, ¬ IsOwn Γ2[i]?) ∧ Den Z te Γ2 fun y Γ4 => Γ4 = Γ2 ∧ R d y) ∧
      ∀ ys, Each R ds ys → Q ys Γ1) : DenL Z (tLc wi g tYes te vs) Γ Q := by
  refine denl_lc hg hm fun σ G H j e k kk => h σ G H j e k fun ds Γ1 Jt G1 H1 q s1 j1 e1 it => kk ds Γ1 Jt G1 H1 ?_ s1 j1 e1 it
  obtain ⟨h1, h2, R, h3, h4⟩ := q
  refine ⟨h1, h2, fun i acc => Each R (ds.take i) acc, .nil, fun i d acc hd ha iv => ?_, fun acc _ iv => h4 acc (by have iv : Each R (ds.take ds.length) acc := iv; rw [List.take_length] at iv; exact iv)⟩
  intro σ2 G2 H2 v j2 e2 r2 k2 kk2
  refine h3 i d hd σ2 G2 H2 v j2 e2 r2 k2 fun Γ2 σ3 ⟨q1, q2, q3⟩ e3 => kk2 Γ2 σ3 ⟨q1, q2, dent_yes ⟨rfl, ?_⟩⟩ e3
  rw [if_pos rfl]
  refine q3.mono fun y Γ4 ⟨z1, z2⟩ => ⟨z1, ?_⟩
  show Each R (ds.take (i + 1)) _
  rw [take_snoc hd]; exact Each.snoc iv z2
/-- [e for x in xs], e a function of x -/
theorem denl_map {wi : TI} {g : TG} {vs : List Nat} {Q : List D → List B → Prop} (hg : GOff g vs) (hm : GMono g)
    (h : DenI Z wi Γ fun ds Γ1 => (∀ i ∈ vs, ¬ IsOwn Γ1[i]?) ∧ ds.length < 100000 ∧ ∃ f : D → D,
      (∀ (i : Nat) d, ds[i]? = some d → DenG Z g d (wipeB Γ1 vs) fun Γ2 => wipeB Γ2 vs = wipeB Γ1 vs ∧ (∀ i ∈ vs, ¬ IsOwn Γ2[i]?) ∧ Den Z te Γ2 fun y Γ4 => Γ4 = Γ2 ∧ y = f d) ∧
      Q (ds.map f) Γ1) : DenL Z (tLc wi g tYes te vs) Γ Q :=
  denl_rel hg hm fun σ G H j e k kk => h σ G H j e k fun ds Γ1 Jt G1 H1 ⟨a, b, f, c, d⟩ => kk ds Γ1 Jt G1 H1 ⟨a, b, fun x y => y = f x, c, fun ys z => by rw [z.map_eq]; exact d⟩
/-- [e for x in xs if t]: t and e functions of x -/
theorem denl_filter {wi : TI} {g : TG} {vs : List Nat} {Q : List D → List B → Prop} (hg : GOff g vs) (hm : GMono g)
    (h : DenI Z wi Γ fun ds Γ1 => (∀ i ∈ vs, ¬ IsOwn Γ1[i]?) ∧ ds.length < 100000 ∧ ∃ (p : D → Bool → Prop) (R : D → D → Prop),
      (∀ (i : Nat) d, ds[i]? = some d → DenG Z g d (wipeB Γ1 vs) fun Γ2 => wipeB Γ2 vs = wipeB Γ1 vs ∧ (∀ i ∈ vs, ¬ IsOwn Γ2[i]?) ∧ DenT Z tt Γ2 fun b Γ3 => Γ3 = Γ2 ∧ p d b ∧ (b = true → Den Z te Γ2 fun y Γ4 => Γ4 = Γ2 ∧ R d y)) ∧
      ∀ bs ys, Each p ds bs → Each R ((ds.zip bs).filterMap fun z => if z.2 then some z.1 else none) ys → Q ys Γ1) : DenL Z (tLc wi g tt te vs) Γ Q := by
  refine denl_lc hg hm fun σ G H j e k kk => h σ G H j e k fun ds Γ1 Jt G1 H1 q s1 j1 e1 it => kk ds Γ1 Jt G1 H1 ?_ s1 j1 e1 it
  obtain ⟨h1, h2, p, R, h3, h4⟩ := q
  have zs : ∀ {l : List D} {bs : List Bool} {d : D} {b : Bool}, l.length = bs.length → ((l ++ [d]).zip (bs ++ [b])).filterMap (fun z => if z.2 then some z.1 else none) = (l.zip bs).filterMap (fun z => if z.2 then some z.1 else none) ++ (if b then [d] else []) := by
    intro l bs d b hl
    rw [zip_snoc hl, List.filterMap_append]
    cases b <;> simp
  refine ⟨h1, h2, fun i acc => ∃ bs, Each p (ds.take i) bs ∧ Each R (((ds.take i).zip bs).filterMap fun z => if z.2 then some z.1 else none) acc, ⟨[], .nil, .nil⟩, fun i d acc hd ha ⟨bs, iv1, iv2⟩ => ?_, fun acc _ ⟨bs, iv1, iv2⟩ => h4 bs acc (by rw [List.take_length] at iv1; exact iv1) (by rw [List.take_length] at iv2; exact iv2)⟩
  intro σ2 G2 H2 v j2 e2 r2 k2 kk2
  refine h3 i d hd σ2 G2 H2 v j2 e2 r2 k2 fun Γ2 σ3 ⟨q1, q2, q3⟩ e3 => kk2 Γ2 σ3 ⟨q1, q2, q3.mono fun b Γ3 ⟨y1, y2, y3⟩ => ⟨y1, ?_⟩⟩ e3
  have hz := zs (d := d) (b := b) iv1.length
  cases b with
  | true =>
    rw [if_pos rfl]
    refine (y3 rfl).mono fun y Γ4 ⟨w1, w2⟩ => ⟨w1, bs ++ [true], ?_, ?_⟩
    · rw [take_snoc hd]; exact iv1.snoc y2
    · rw [take_snoc hd, hz]; exact iv2.snoc w2
  | false =>
    rw [if_neg (by simp)]
    refine ⟨bs ++ [false], ?_, ?_⟩
    · rw [take_snoc hd]; exact iv1.snoc y2
    · rw [take_snoc hd, hz]; simpa using iv2
end
end Ab
namespace Ab
open PySem L2
/-- an exception class of one's own with one field -/
structure Exn1 (P : Program) (w : World) (K : PySem.W.Frag) (mg : Str → Option Value) (base : Heap) (x : Str) (C : Addr) (f : Str) : Prop where
  o : OexC K C
  ex : ∃ fI fd ps, PySem.W.findIn K (.ref C) "__init__" = some (some (.ref fI)) ∧ PySem.W.typeIn K (.ref fI) = some (.type "function") ∧ FnOk P w K mg base (L2.CX P w) 1 fI fd ps (spXI C f) ∧ Binds K fd ps []
  m : mg x = some (.ref C)
section
variable {P : Program} {w : World} {K : PySem.W.Frag} {mg : Str → Option Value} {base : Heap}
theorem init_x {qual : Str} {st : Stmt} {fI C : Addr} {fd : FuncData} {N : List Str} {fn : Str} (F : Fun K "__init__" qual st fI fd) (Sc : FnScope N ["self", fn] (defScope st)) (T : OexC K C) (hno : PySem.W.findIn K (.ref C) fn = some none)
    (hb : ∀ (cdv : Value) (A : Around) (outer : List PySem.Env) (s : Shared) (H : Hp) (E : XK), PSs (cxOf (L2.CX P w) P w K mg base N qual (defScope st) fI cdv A outer s H E) (defBody st) (tOst K fn (tVar 0) (tVar 1))) (hN : 2 ≤ N.length) :
    FnOk P w K mg base (L2.CX P w) 1 fI fd ["self", fn] (spXI C fn) := by
  refine F.okX Sc (fun vs H Q E h => ?_) (fun cdv A outer s H vs Q E hr h => ?_)
  · obtain ⟨a, y, rfl, _⟩ := h; rfl
  · obtain ⟨a, y, rfl, ha, k⟩ := h
    refine ⟨_, hb cdv A outer s H E, ?_⟩
    have s0 : (L2.start N [.ref a, y])[0]? = some (some (.ref a)) := by simp [L2.start]
    have s1 : (L2.start N [.ref a, y])[1]? = some (some y) := by simp [L2.start]
    exact ⟨y, s1, .ref a, s0, a, C, rfl, T, hno, .inl ⟨ha, fun dx hd ne => k dx hd ne⟩⟩
end
section
variable {X : Cx} {P : Program} {w : World} {K : PySem.W.Frag} {mg : Str → Option Value} {base : Heap} {x fn : Str} {C : Addr} {e : Expr} {es : List Expr} {ta : TA} {j : Nat} {p pos pos2 : Pos}
theorem ks_raise {W : WX} (hc : X.calm = true) (tk : Takes X W) (c : Exn1 P w K mg base x C fn) (hr : Room j X.A) (hk : 2 ≤ j) (hX : X.prog = P ∧ X.w = w ∧ X.K = K ∧ X.mg = mg ∧ X.base = base) (hg : Gl X x) (ha : PA X (e :: es) ta) (hdb : (x == ("__debug__" : Str)) = false := by decide)
    (he : starEach (e :: es) X.env = (false, eval e X.env) :: starEach es X.env := by rfl) (hpl : (backTo pos (starEach es X.env)).any (·.1) = false := by rfl) :
    PS X (.Raise (some (.Call (.Name x p) (e :: es) [] pos)) none pos2) (fun _ σ H => tMkO C (spXI C fn) [] ta σ H fun cls d H' => W cls d σ H') := by
  obtain ⟨rfl, rfl, rfl, rfl, rfl⟩ := hX
  obtain ⟨fI, fd, ps, h1, h2, h3, h4⟩ := c.ex
  exact ps_raise hc tk (pmk_oex c.o h1 h2 h3 (hr.mono hk) h4 .nil passL hg c.m ha hdb he hpl)
end
/-! ### data without objects -/
mutual
def kD : D → Bool
  | .non => true | .bl _ => true | .int i => decide (i.natAbs < 2 ^ 1000) | .str x => decide (x.length < 1000) | .dic => true
  | .tup xs => decide (xs.length < 1000) && ksD xs | .lst xs => decide (xs.length < 1000) && ksD xs | _ => false
def ksD : List D → Bool
  | [] => true
  | x :: xs => kD x && ksD xs
end
theorem ksD_all : ∀ {xs : List D}, ksD xs = true ↔ ∀ x ∈ xs, kD x = true
  | [] => by simp [ksD]
  | x :: xs => by simp [ksD, ksD_all (xs := xs)]
theorem kD_tup {xs : List D} (h : kD (.tup xs) = true) : ∀ x ∈ xs, kD x = true := by
  unfold kD at h; exact ksD_all.mp (Bool.and_eq_true_iff.mp h).2
theorem kD_len {xs : List D} (h : kD (.tup xs) = true) : xs.length < 1000 := by
  unfold kD at h; exact of_decide_eq_true (Bool.and_eq_true_iff.mp h).1
theorem kD_lst {xs : List D} (h : kD (.lst xs) = true) : ∀ x ∈ xs, kD x = true := by
  unfold kD at h; exact ksD_all.mp (Bool.and_eq_true_iff.mp h).2
theorem kD_lenL {xs : List D} (h : kD (.lst xs) = true) : xs.length < 1000 := by
  unfold kD at h; exact of_decide_eq_true (Bool.and_eq_true_iff.mp h).1
theorem kD_mk {xs : List D} (h : ∀ x ∈ xs, kD x = true) (hl : xs.length < 1000) : kD (.tup xs) = true := by
  unfold kD; exact Bool.and_eq_true_iff.mpr ⟨decide_eq_true hl, ksD_all.mpr h⟩
theorem kD_mkL {xs : List D} (h : ∀ x ∈ xs, kD x = true) (hl : xs.length < 1000) : kD (.lst xs) = true := by
  unfold kD; exact Bool.and_eq_true_iff.mpr ⟨decide_eq_true hl, ksD_all.mpr h⟩
theorem kD_tag {x : D} (h : kD x = true) : ∃ t, tagD x = some t := by
  cases x <;> first | exact ⟨_, rfl⟩ | (unfold kD at h; cases h)
/-! isinstance with a written type, told by a test of the data -/
def isTy (T : String) : D → Bool
  | .bl _ => T == "bool" || T == "int"
  | .int _ => T == "int"
  | .str _ => T == "str"
  | .tup _ => T == "tuple"
  | .lst _ => T == "list"
  | .dic => T == "dict"
  | _ => false
theorem kit_all : ∀ t ∈ ["NoneType", "bool", "int", "str", "tuple", "list", "dict"], ∀ T ∈ ["bool", "int", "str", "tuple", "list", "dict"], kitB t T = some ((t == T) || (t == "bool" && T == "int")) := by decide +kernel
section
variable {Z : Cz} {Γ : List B} {te ta tb tc : TE} {tt tu : TT} {tr : TA} {P : Po}
theorem cad_is {x : D} {T : String} {Q : D → Prop} (h : kD x = true) (hT : T ∈ ["bool", "int", "str", "tuple", "list", "dict"]) (q : Q (.bl (isTy T x))) : CaD Z (rIsi Z.K) [x, .ty T] Q := by
  obtain ⟨t, ht⟩ := kD_tag h
  have ht' : t ∈ ["NoneType", "bool", "int", "str", "tuple", "list", "dict"] := by
    cases x <;> simp only [tagD, Option.some.injEq, reduceCtorEq] at ht <;> subst ht <;> simp
  refine cad_isi ht (kit_all t ht' T hT) ?_
  have e : ((t == T) || (t == "bool" && T == "int")) = isTy T x := by
    have f : ∀ T ∈ ["bool", "int", "str", "tuple", "list", "dict"], (("NoneType" == T) || ("NoneType" == "bool" && T == "int")) = false ∧ (("int" == T) || ("int" == "bool" && T == "int")) = (T == "int") ∧ (("str" == T) || ("str" == "bool" && T == "int")) = (T == "str") ∧
        (("tuple" == T) || ("tuple" == "bool" && T == "int")) = (T == "tuple") ∧ (("list" == T) || ("list" == "bool" && T == "int")) = (T == "list") ∧ (("dict" == T) || ("dict" == "bool" && T == "int")) = (T == "dict") ∧ (("bool" == T) || ("bool" == "bool" && T == "int")) = (T == "bool" || T == "int") := by decide +kernel
    obtain ⟨f1, f2, f3, f4, f5, f6, f7⟩ := f T hT
    cases x <;> simp only [tagD, Option.some.injEq, reduceCtorEq] at ht <;> subst ht <;> simp only [isTy] <;> first | exact f1 | exact f2 | exact f3 | exact f4 | exact f5 | exact f6 | exact f7
  rw [e]; exact q
theorem ite_b {b : Bool} {A B : Prop} (h : b = true → A) (h' : b = false → B) : if b = true then A else B := by
  cases b with
  | true => exact h rfl
  | false => exact h' rfl
end
end Ab
namespace Ab
open PySem L2
/-- a def that is a function of its arguments -/
def fun_spec (P : List D → Prop) (f : List D → D) : FSpec := { P := P, R := fun ds r => r = f ds }
section
variable {Z : Cz} {Γ : List B} {te ta tb tc : TE} {tt tu : TT} {tr : TA} {P : Po}
theorem den_fun {n : Nat} {P : List D → Prop} {f : List D → D} {E : XK} {Q : D → List B → Prop} (h : DenA Z tr Γ fun ds Γ1 => ds.length = n ∧ P ds ∧ Q (f ds) Γ1) : Den Z (tCall (spS Z.K n (fun_spec P f)) [] E tr) Γ Q :=
  den_call fun σ G H j e k kk => h σ G H j e k fun ds Γ1 vs G1 H1 ⟨a, b, c⟩ => kk ds Γ1 vs G1 H1 ⟨a, b, fun d hd => by rw [show d = f ds from hd]; exact c, fun _ x => x⟩
theorem den_fun0 {P : List D → Prop} {f : List D → D} {E : XK} {Q : D → List B → Prop} (hp : P []) (q : Q (f []) Γ) : Den Z (tCall (spS Z.K 0 (fun_spec P f)) [] E tNil) Γ Q := den_fun (dena_nil ⟨rfl, hp, q⟩)
theorem DenA.mono {Q Q' : List D → List B → Prop} (h : DenA Z tr Γ Q) (w : ∀ d Γ', Q d Γ' → Q' d Γ') : DenA Z tr Γ Q' := fun σ G H j e k q => h σ G H j e k fun d Γ' v G' H' a => q d Γ' v G' H' (w _ _ a)
theorem DenS.mono {ts : TS} {P P' : Po} (h : DenS Z ts Γ P) (n : ∀ x, P.N x → P'.N x) (r : ∀ x, P.R x → P'.R x) (b : ∀ x, P.Bk x → P'.Bk x) (c : ∀ x, P.Ct x → P'.Ct x) : DenS Z ts Γ P' := fun σ G H j e De d =>
  h σ G H j e De ⟨fun Γ σ G H a => d.n Γ σ G H (n _ a), fun x v G H a => d.r x v G H (r _ a), fun Γ σ G H a => d.b Γ σ G H (b _ a), fun Γ σ G H a => d.c Γ σ G H (c _ a)⟩
end
end Ab
namespace Ab
open PySem L2
section
variable {Z : Cz} {Γ : List B} {te ta tb tc : TE} {tt tu : TT} {tr : TA} {P : Po}
/-- while, by an invariant and a measure -/
theorem dens_while {t : TS} (Iv : Nat → List B → Prop) (h0 : ∃ m, Iv m Γ) (hs : ∀ m Γ1, Iv m Γ1 → DenT Z tt Γ1 fun b Γ2 => if b = true then DenS Z t Γ2 ⟨fun Γ3 => ∃ m', m' < m ∧ Iv m' Γ3, P.R, P.N, fun Γ3 => ∃ m', m' < m ∧ Iv m' Γ3⟩ else P.N Γ2) : DenS Z (tWhile tt t) Γ P := fun σ G H j e De d => by
  obtain ⟨m0, i0⟩ := h0
  refine ⟨fun m σ H => ∃ Γ2 G2, Iv m Γ2 ∧ Ex G G2 ∧ J Z G2 H ∧ En Z G2 H σ Γ2, ⟨m0, Γ, G, i0, Ex.refl _, j, e⟩, ?_⟩
  rintro m σ2 H2 ⟨Γ2, G2, iv, x2, j2, e2⟩
  refine hs m Γ2 iv σ2 G2 H2 j2 e2 _ fun b Γ3 G3 H3 q s3 j3 e3 => ?_
  cases b with
  | true =>
    refine ⟨fun σ H => ∃ m', m' < m ∧ ∃ Γ2 G2, Iv m' Γ2 ∧ Ex G G2 ∧ J Z G2 H ∧ En Z G2 H σ Γ2, fun σ' H' ⟨m', h1, h2⟩ => ⟨m', h1, h2⟩, ?_⟩
    refine q σ2 G3 H3 j3 e3 _ ⟨fun Γ4 σ4 G4 H4 ⟨m', a, b⟩ x4 j4 e4 => ⟨m', a, Γ4, G4, b, (x2.trans s3.ex).trans x4, j4, e4⟩, fun z v G4 H4 a x4 j4 r4 => d.r z v G4 H4 a ((x2.trans s3.ex).trans x4) j4 r4,
      fun Γ4 σ4 G4 H4 a x4 j4 e4 => d.n Γ4 σ4 G4 H4 a ((x2.trans s3.ex).trans x4) j4 e4, fun Γ4 σ4 G4 H4 ⟨m', a, b⟩ x4 j4 e4 => ⟨m', a, Γ4, G4, b, (x2.trans s3.ex).trans x4, j4, e4⟩⟩
  | false => exact d.n Γ3 σ2 G3 H3 q (x2.trans s3.ex) j3 e3
theorem cut_from (xs : List D) (k : Nat) : cutD xs (some (k : Int)) none = xs.drop k := by
  unfold cutD
  rw [HT.sIx_nat, HT.sIx_none]
  by_cases h : k ≤ xs.length
  · rw [Nat.min_eq_left h, List.take_of_length_le (by simp)]
  · rw [Nat.min_eq_right (by omega), List.drop_eq_nil_of_le (Nat.le_refl _), List.drop_eq_nil_of_le (by omega)]; simp
theorem cut_to (xs : List D) (k : Nat) : cutD xs none (some (k : Int)) = xs.take k := by
  unfold cutD
  rw [HT.sIx_nat, HT.sIx_none]
  simp only [List.drop_zero, Nat.sub_zero]
  rcases Nat.le_total k xs.length with h | h
  · rw [Nat.min_eq_left h]
  · rw [Nat.min_eq_right h, List.take_of_length_le (Nat.le_refl _), List.take_of_length_le h]
theorem cut_last (xs : List D) : cutD xs none (some (-1)) = xs.dropLast := by
  unfold cutD
  rw [HT.sIx_none]
  have : HT.sIx xs.length xs.length (some (-1)) = xs.length - 1 := by
    have := HT.clip_eq (-1) xs.length xs.length
    rw [if_pos (by decide)] at this
    omega
  rw [this, List.drop_zero, Nat.sub_zero, List.dropLast_eq_take]
end
end Ab
namespace Ab
open PySem L2
theorem kg_c {X : Cx} {x : Str} {v : V} {pos : Pos} (hg : Gl X x) (h : ∃ u, X.mg x = some u ∧ RelV v u) (hd : (x == ("__debug__" : Str)) = false := by decide) : PE X (.Name x pos) (tC v) := by
  obtain ⟨u, h1, h2⟩ := h
  exact pe_glob hg h1 h2 hd
theorem ifT {A B : Prop} (h : A) : if true = true then A else B := h
theorem ifF {A B : Prop} (h : B) : if false = true then A else B := by simpa using h
end Ab
/-! the pool of a law: pure readings over one heap, and what a draw leaves -/
namespace Ab
open PySem L2
/-- te is v, and the heap stays -/
def Pu (te : TE) (σ : L2.St) (H : Hp) (v : V) : Prop := ∀ Q : VK, Q v H → te σ H Q
section
variable {σ : L2.St} {H : Hp} {v x y z : V} {ta tb te : TE} {r : R2} {K : PySem.W.Frag} {D : Ends}
theorem pu_var {i : Nat} (h : σ[i]? = some (some v)) : Pu (tVar i) σ H v := fun Q q => ⟨v, h, q⟩
theorem pu_c : Pu (tC v) σ H v := fun Q q => q
theorem pu_op (ha : Pu ta σ H x) (hb : Pu tb σ H y) (hr : ∀ Q : VK, Q z H → r x y H Q) : Pu (tOp r ta tb) σ H z := fun Q q => ha _ (hb _ (hr Q q))
theorem pu_add {i j : Int} (ha : Pu ta σ H (.int i)) (hb : Pu tb σ H (.int j)) : Pu (tOp (rPlus K) ta tb) σ H (.int (i + j)) := pu_op ha hb fun Q q => .inl ⟨i, j, rfl, rfl, q⟩
theorem pu_mul {i j : Int} (ha : Pu ta σ H (.int i)) (hb : Pu tb σ H (.int j)) (c : CMul i j) : Pu (tOp (rTimes K) ta tb) σ H (.int (i * j)) := pu_op ha hb fun Q q => .inl ⟨i, j, rfl, rfl, c, q⟩
theorem pu_I {C : Int → Int → Prop} {f : Int → Int → Int} {i j : Int} (ha : Pu ta σ H (.int i)) (hb : Pu tb σ H (.int j)) (c : C i j) : Pu (tOp (rI C fun i j => .int (f i j)) ta tb) σ H (.int (f i j)) := pu_op ha hb fun Q q => ⟨i, j, rfl, rfl, c, q⟩
theorem pu_ix {l : Addr} {xs : List V} {i : Int} (ha : Pu ta σ H (.ref l)) (hb : Pu tb σ H (.int i)) (hl : H l = some (.lst xs)) (h : atI xs i = some z) : Pu (tOp (rIx K) ta tb) σ H z := pu_op ha hb fun Q q => .inl ⟨l, xs, i, z, rfl, rfl, SqL.of hl, h, q⟩
theorem pu_int {i : Int} (ha : Pu ta σ H (.int i)) : Pu (tCB rInt1 (tCons ta tNil)) σ H (.int i) := fun Q q => ha _ (.inl ⟨i, rfl, q⟩)
theorem pu_len {l : Addr} {xs : List V} (ha : Pu ta σ H (.ref l)) (hl : H l = some (.lst xs)) : Pu (tCB (rLen K) (tCons ta tNil)) σ H (.int xs.length) := fun Q q => ha _ ⟨.ref l, xs.length, rfl, .inl ⟨xs, SqL.of hl, rfl⟩, q⟩
theorem ps_name {i : Nat} (h : Pu te σ H v) (k : D.nx (σ.set i (some v)) H) : tAsg te (gName i) D σ H := h _ k
theorem ps_item {l : Addr} {xs : List V} {i : Int} {n : Nat} (h : Pu te σ H v) (ha : Pu ta σ H (.ref l)) (hb : Pu tb σ H (.int i)) (hl : H l = some (.lst xs)) (hi : ixN xs.length i = some n) (k : D.nx σ (upd H l (.lst (xs.set n v)))) : tAsg te (gSub ta tb rSetL) D σ H :=
  h _ (ha _ (hb _ ⟨l, xs, i, n, rfl, rfl, hl, hi, k⟩))
theorem ps_when {b : Bool} {t u : TS} (h : Pu te σ H (.bl b)) (k1 : b = true → t D σ H) (k2 : b = false → u D σ H) : tIfS (tTest te) t u D σ H := h _ ⟨b, rfl, by
  cases b with
  | true => exact k1 rfl
  | false => exact k2 rfl⟩
theorem pu_B {f : Int → Int → Bool} {i j : Int} (ha : Pu ta σ H (.int i)) (hb : Pu tb σ H (.int j)) : Pu (tOp (rI0 fun i j => .bl (f i j)) ta tb) σ H (.bl (f i j)) := pu_op ha hb fun Q q => ⟨i, j, rfl, rfl, q⟩
theorem pu_eqI {i j : Int} (ha : Pu ta σ H (.int i)) (hb : Pu tb σ H (.int j)) : Pu (tOp (rEqq K) ta tb) σ H (.bl (decide (i = j))) := pu_op ha hb fun Q q => .inl ⟨rfl, by rw [show decide (V.int i = V.int j) = decide (i = j) by simp]; exact q⟩
theorem ps_give (h : Pu te σ H v) (k : D.rt v H) : tRet te D σ H := h _ k
end
section
variable {Z : Cz} {G H H' : Hp}
theorem J0.pl {p c : Addr} {seed k : Int} {ns : List Int} (j : J0 Z G H) (e : Z.pl = some (p, c)) (hp : H' p = some (.lst [.int seed, .int k, .ref c])) (hc : H' c = some (.lst (ns.map V.int)))
    (b : 0 ≤ seed ∧ seed < 2147483647 ∧ 0 ≤ k ∧ (∀ n ∈ ns, 0 ≤ n) ∧ ns.length ≤ 63) (h : ∀ a, a ≠ p → a ≠ c → H' a = H a) : J0 Z G H' := by
  obtain ⟨z0, z1, z2, z3, z4, _⟩ := j.pool p c e
  refine ⟨fun a o ha => ?_, j.g0, j.out, fun a o ha n => ?_, fun p' c' e' => ?_⟩
  · rw [h a (fun z => by rw [z, z1] at ha; cases ha) (fun z => by rw [z, z2] at ha; cases ha)]; exact j.sub a o ha
  · obtain ⟨n1, n2⟩ := n p c e
    rw [h a n1 n2]; exact j.fr a o ha n
  · rw [e] at e'; cases e'
    exact ⟨z0, z1, z2, z3, z4, seed, k, ns, hp, hc, b⟩
theorem J.pl {p c : Addr} {seed k : Int} {ns : List Int} (j : J Z G H) (e : Z.pl = some (p, c)) (hp : H' p = some (.lst [.int seed, .int k, .ref c])) (hc : H' c = some (.lst (ns.map V.int)))
    (b : 0 ≤ seed ∧ seed < 2147483647 ∧ 0 ≤ k ∧ (∀ n ∈ ns, 0 ≤ n) ∧ ns.length ≤ 63) (h : ∀ a, a ≠ p → a ≠ c → H' a = H a) : J Z G H' := ⟨j.toJ0.pl e hp hc b h, j.acc⟩
end
theorem rps_ints {K : PySem.W.Frag} {pl : Option (Addr × Addr)} {G : Hp} : ∀ ns : List Int, Rps K pl G (ns.map V.int) (ns.map D.int)
  | [] => .nil
  | x :: xs => .cons (.int x) (rps_ints xs)
section
variable {Z : Cz} {Γ : List B} {te : TE} {tr : TA}
/-- a slice of the script -/
theorem denl_slS {to1 to2 : TO} {Q : List D → List B → Prop} (h : Den Z te Γ fun x Γ1 => ∃ ns, x = .scr ns ∧ DenO Z to1 Γ1 fun lo Γ2 => DenO Z to2 Γ2 fun hi Γ3 => Q (cutD (ns.map D.int) lo hi) Γ3) : DenL Z (tSl (rSlG Z.K) te to1 to2) Γ Q := fun σ G H j e k kk =>
  h σ G H j e _ fun x Γ1 v G1 H1 q s1 j1 e1 r1 => by
    obtain ⟨ns, rfl, q⟩ := q
    refine q σ G1 H1 j1 e1 _ fun lo Γ2 G2 H2 q2 s2 j2 e2 => q2 σ G2 H2 j2 e2 _ fun hi Γ3 G3 H3 q3 s3 j3 e3 => .inr ?_
    have r3 := (r1.mono s2.ex).mono s3.ex
    have s := (s1.trans s2).trans s3
    cases r3 with
    | @scr a _ h1 =>
      refine ⟨a, _, rfl, j3.sub.sql h1, fun p hp => ?_⟩
      have n := j3.sub.back hp
      have rr : Rps Z.K Z.pl G3 (ns.map V.int) (ns.map D.int) := rps_ints ns
      refine kk _ Γ3 p _ G3 (upd H3 p (.lst (cutV (ns.map V.int) lo hi))) q3 (s.trans ⟨Ex.refl _, fun _ h => h, fun a o ha _ _ => ⟨?_, fun z => z⟩, fun a o ha => ⟨o, ?_⟩⟩) (j3.put (j3.old hp) n) (e3.newM hp) upd_same (cut_rps rr lo hi) ⟨n, j3.old hp, fun i o => e3.noown hp i o⟩ (s.back hp)
      · rw [upd_ne (ne_of_none ha hp)]; exact ha
      · rw [upd_ne (ne_of_none ha hp)]; exact ha
theorem cad_lenS {ns : List Int} {Q : D → Prop} (q : Q (.int ns.length)) : CaD Z (rLen Z.K) [.scr ns] Q := fun G H vs jj r k kk => by
  cases r with
  | cons a b =>
    cases b
    cases a with
    | @scr a _ h1 => exact ⟨.ref a, ns.length, rfl, .inl ⟨_, jj.sub.sql h1, by simp⟩, kk _ _ G H q jj.enter (.int _)⟩
end
/-- a slice of a tuple, a list, the script -/
def slR (lo hi : Option Int) : D → Option D
  | .tup xs => some (.tup (cutD xs lo hi))
  | .lst xs => some (.lst (cutD xs lo hi))
  | .scr ns => some (.lst (cutD (ns.map D.int) lo hi))
  | _ => none
section
variable {Z : Cz} {Γ : List B} {te : TE}
theorem slR_cases {lo hi : Option Int} {x d : D} (h : slR lo hi x = some d) : (∃ xs, x = .tup xs) ∨ (∃ xs, x = .lst xs) ∨ ∃ ns, x = .scr ns := by
  cases x with
  | tup xs => exact .inl ⟨xs, rfl⟩
  | lst xs => exact .inr (.inl ⟨xs, rfl⟩)
  | scr xs => exact .inr (.inr ⟨xs, rfl⟩)
  | _ => cases h
theorem den_sl {to1 to2 : TO} {Q : D → List B → Prop} (h : Den Z te Γ fun x Γ1 => DenO Z to1 Γ1 fun lo Γ2 => DenO Z to2 Γ2 fun hi Γ3 => ∃ d, slR lo hi x = some d ∧ Q d Γ3) : Den Z (tSl (rSlG Z.K) te to1 to2) Γ Q := fun σ G H j e k kk =>
  h σ G H j e _ fun x Γ1 v G1 H1 q s1 j1 e1 r1 => by
    refine q σ G1 H1 j1 e1 _ fun lo Γ2 G2 H2 q2 s2 j2 e2 => q2 σ G2 H2 j2 e2 _ fun hi Γ3 G3 H3 q3 s3 j3 e3 => ?_
    obtain ⟨d, hd, q3⟩ := q3
    have r3 := (r1.mono s2.ex).mono s3.ex
    have s := (s1.trans s2).trans s3
    have new : ∀ {vs : List V} {ds : List D}, Rps Z.K Z.pl G3 vs ds → d = .lst (cutD ds lo hi) → ∀ p, H3 p = none → k (.ref p) (upd H3 p (.lst (cutV vs lo hi))) := fun {vs ds} rr hd p hp => by
      subst hd
      have x := Ex.new (o := .lst (cutV vs lo hi)) (j3.sub.back hp)
      exact kk _ Γ3 _ (upd G3 p (.lst (cutV vs lo hi))) _ q3 (s.trans (.of (j3.sp hp))) (j3.new hp) (e3.new j3.toJ0 hp) (.lst upd_same (cut_rps (rr.mono x) lo hi))
    cases r3 with
    | @tup a vs xs h1 r3 =>
      cases hd
      refine .inl ⟨a, vs, rfl, SqT.of (j3.sub _ _ h1), fun w => ?_, fun w p hp => ?_⟩
      · rw [r3.length] at w
        rw [cut_whole w] at q3
        exact kk _ Γ3 _ G3 H3 q3 s j3 e3 (.tup h1 r3)
      · exact kk _ Γ3 _ _ _ q3 (s.trans (.of (j3.sp hp))) (j3.new hp) (e3.new j3.toJ0 hp) (.tup upd_same (cut_rps (r3.mono (Ex.new (j3.sub.back hp))) lo hi))
    | @lst a vs xs h1 r3 =>
      cases hd
      exact .inr ⟨a, vs, rfl, .inl (.inl (j3.sub _ _ h1)), new r3 rfl⟩
    | @scr a ns h1 =>
      cases hd
      exact .inr ⟨a, _, rfl, j3.sub.sql h1, new (rps_ints ns) rfl⟩
    | _ => cases hd
end
theorem cut_map {α : Type} (f : α → D) (xs : List α) (k : Nat) : cutD (xs.map f) none (some (k : Int)) = (xs.take k).map f := by rw [cut_to, List.map_take]
/-- a draw: some number from 0 on, below many -/
abbrev S_draw : FSpec := ⟨fun ds => ∃ m : Int, ds = [.pool, .int m] ∧ 1 ≤ m ∧ m < 2 ^ 30, fun ds d => ∃ m i : Int, ds = [.pool, .int m] ∧ d = .int i ∧ 0 ≤ i ∧ i < m, fun _ _ => False⟩
section
variable {Z : Cz} {Γ : List B} {tr : TA}
theorem den_draw {E : XK} {Q : D → List B → Prop} (h : DenA Z tr Γ fun ds Γ1 => ∃ m : Int, ds = [.pool, .int m] ∧ 1 ≤ m ∧ m < 2 ^ 30 ∧ ∀ i : Int, 0 ≤ i → i < m → Q (.int i) Γ1) : Den Z (tCall (spS Z.K 2 S_draw) [] E tr) Γ Q :=
  den_call fun σ G H j e k kk => h σ G H j e k fun ds Γ1 vs G1 H1 ⟨m, a, b, c, d⟩ => kk ds Γ1 vs G1 H1 ⟨by rw [a]; rfl, ⟨m, a, b, c⟩, fun x ⟨m', i, e1, e2, h1, h2⟩ => by rw [a] at e1; cases e1; rw [e2]; exact d i h1 h2, fun _ z => z⟩
end
end Ab
namespace Ab
open PySem L2
section
variable {Z : Cz} {Γ : List B} {te ta tb tc : TE} {tt tu : TT} {tr : TA} {P : Po}
theorem und_neg {i : Int} {Q : D → Prop} (q : Q (.int (-i))) : UnD Z (rU fun i => .int (-i)) (.int i) Q := und_i (f := fun i => -i) q
theorem mod_pos {i j : Int} {Q : D → Prop} (c : 0 < j) (q : Q (.int (i % j))) : OpD Z (rI (fun _ j => 0 < j) fun i j => .int (i % j)) (.int i) (.int j) Q := opd_ic (f := fun i j => i % j) c q
theorem div_pos {i j : Int} {Q : D → Prop} (c : 0 < j ∧ j.natAbs.log2 < 9000) (q : Q (.int (i / j))) : OpD Z (rI CDivW fun i j => .int (i / j)) (.int i) (.int j) Q := opd_ic (C := CDivW) (f := fun i j => i / j) c q
theorem not_own_ite {b : B} (h : ¬ IsOwn (some b)) : ¬ IsOwn (some b) := h
end
/-- a list n deep -/
def deepD : Nat → D
  | 0 => .lst [.non]
  | n + 1 => .lst [deepD n]
theorem kD_deep : ∀ n, kD (deepD n) = true
  | 0 => by decide
  | n + 1 => by
    unfold deepD
    exact kD_mkL (fun x hx => by rw [List.mem_singleton.mp hx]; exact kD_deep n) (by simp)
end Ab
namespace Ab
open PySem L2
/-! equality of nested tuples and lists of numbers -/
mutual
def intD : D → Bool
  | .non => true | .bl _ => true | .int _ => true
  | .tup xs => intsD xs | .lst xs => intsD xs | _ => false
def intsD : List D → Bool
  | [] => true
  | x :: xs => intD x && intsD xs
end
mutual
def depD : D → Nat
  | .tup xs => depsD xs + 1 | .lst xs => depsD xs + 1 | _ => 0
def depsD : List D → Nat
  | [] => 0
  | x :: xs => max (depD x) (depsD xs)
end
mutual
theorem intD_plain : ∀ {d : D}, intD d = true → plainD d = true ∧ (pyD d).canLay0 = true
  | .non, _ => ⟨rfl, rfl⟩ | .bl _, _ => ⟨rfl, rfl⟩ | .int _, _ => ⟨rfl, rfl⟩
  | .tup xs, h => by
    have := intsD_plain (xs := xs) (by unfold intD at h; exact h)
    exact ⟨by unfold plainD; exact this.1, by unfold pyD PyData.canLay0; exact this.2⟩
  | .lst xs, h => by
    have := intsD_plain (xs := xs) (by unfold intD at h; exact h)
    exact ⟨by unfold plainD; exact this.1, by unfold pyD PyData.canLay0; exact this.2⟩
  | .str _, h => by unfold intD at h; cases h
  | .dic, h => by unfold intD at h; cases h
  | .obj _ _ _, h => by unfold intD at h; cases h
  | .pool, h => by unfold intD at h; cases h
  | .ty _, h => by unfold intD at h; cases h
  | .cls _, h => by unfold intD at h; cases h
  | .scr _, h => by unfold intD at h; cases h
theorem intsD_plain : ∀ {xs : List D}, intsD xs = true → plainsD xs = true ∧ PyData.canLayAll0 (pysD xs) = true
  | [], _ => ⟨rfl, rfl⟩
  | x :: xs, h => by
    unfold intsD at h
    obtain ⟨h1, h2⟩ := Bool.and_eq_true_iff.mp h
    have a := intD_plain h1
    have b := intsD_plain h2
    exact ⟨by unfold plainsD; rw [a.1, b.1]; rfl, by unfold pysD PyData.canLayAll0; rw [a.2, b.2]; rfl⟩
end
mutual
theorem depD_py : ∀ {d : D}, intD d = true → (pyD d).depth = depD d
  | .non, _ => rfl | .bl _, _ => rfl | .int _, _ => rfl
  | .tup xs, h => by
    have := depsD_py (xs := xs) (by unfold intD at h; exact h)
    unfold pyD depD PyData.depth; rw [this]
  | .lst xs, h => by
    have := depsD_py (xs := xs) (by unfold intD at h; exact h)
    unfold pyD depD PyData.depth; rw [this]
  | .str _, h => by unfold intD at h; cases h
  | .dic, h => by unfold intD at h; cases h
  | .obj _ _ _, h => by unfold intD at h; cases h
  | .pool, h => by unfold intD at h; cases h
  | .ty _, h => by unfold intD at h; cases h
  | .cls _, h => by unfold intD at h; cases h
  | .scr _, h => by unfold intD at h; cases h
theorem depsD_py : ∀ {xs : List D}, intsD xs = true → PyData.depthAll (pysD xs) = depsD xs
  | [], _ => rfl
  | x :: xs, h => by
    unfold intsD at h
    obtain ⟨h1, h2⟩ := Bool.and_eq_true_iff.mp h
    unfold pysD depsD PyData.depthAll
    rw [depD_py h1, depsD_py h2]
end
theorem intsD_all : ∀ {xs : List D}, intsD xs = true ↔ ∀ x ∈ xs, intD x = true
  | [] => by simp [intsD]
  | x :: xs => by simp [intsD, intsD_all (xs := xs)]
theorem depsD_le : ∀ {xs : List D} {n : Nat}, depsD xs ≤ n ↔ ∀ x ∈ xs, depD x ≤ n
  | [], n => by simp [depsD]
  | x :: xs, n => by simp [depsD, Nat.max_le, depsD_le (xs := xs)]
/-- numbers nested at most n deep -/
def eqD (n : Nat) (d : D) : Prop := intD d = true ∧ depD d ≤ n
theorem eqD.mono {n m : Nat} {d : D} (h : eqD n d) (k : n ≤ m) : eqD m d := ⟨h.1, Nat.le_trans h.2 k⟩
theorem eqD_int (i : Int) : eqD 0 (.int i) := ⟨rfl, Nat.le_refl _⟩
theorem eqD_non : eqD 0 .non := ⟨rfl, Nat.le_refl _⟩
theorem eqD_tup {n : Nat} {xs : List D} (h : ∀ x ∈ xs, eqD n x) : eqD (n + 1) (.tup xs) := ⟨by unfold intD; exact intsD_all.mpr fun x hx => (h x hx).1, by unfold depD; exact Nat.succ_le_succ (depsD_le.mpr fun x hx => (h x hx).2)⟩
theorem eqD_lst {n : Nat} {xs : List D} (h : ∀ x ∈ xs, eqD n x) : eqD (n + 1) (.lst xs) := ⟨by unfold intD; exact intsD_all.mpr fun x hx => (h x hx).1, by unfold depD; exact Nat.succ_le_succ (depsD_le.mpr fun x hx => (h x hx).2)⟩
theorem eqD.shaped {n : Nat} {d : D} (h : eqD n d) (k : n ≤ 64) : SeqAt.shaped (pyD d) = true := by
  unfold SeqAt.shaped
  rw [(intD_plain h.1).2, depD_py h.1]
  simp; have := h.2; omega
def eqvD (x y : D) : Bool := PyData.eqv (pyD x) (pyD y)
theorem eqvD_refl {n : Nat} {d : D} (h : eqD n d) : eqvD d d = true := SeqAt.eqv_refl _ (intD_plain h.1).2
theorem eqvD_tup3 (a b c a' b' c' : D) : eqvD (.tup [a, b, c]) (.tup [a', b', c']) = (eqvD a a' && (eqvD b b' && eqvD c c')) := by
  unfold eqvD; simp [pyD, pysD, PyData.eqv, PyData.eqvAll]
section
variable {Z : Cz} {x y : D} {n m : Nat}
theorem eqg_eqv {Q : D → Prop} (hx : eqD n x) (hy : eqD m y) (hn : n ≤ 64) (hm : m ≤ 64) (q : Q (.bl (eqvD x y))) : OpD Z (rEqq Z.K) x y Q := eqg_data (intD_plain hx.1).1 (intD_plain hy.1).1 (hx.shaped hn) (hy.shaped hm) q
theorem neg_eqv {Q : D → Prop} (hx : eqD n x) (hy : eqD m y) (hn : n ≤ 64) (hm : m ≤ 64) (q : Q (.bl (!eqvD x y))) : OpD Z (rNeq Z.K) x y Q := neg_data (intD_plain hx.1).1 (intD_plain hy.1).1 (hx.shaped hn) (hy.shaped hm) q
end
end Ab
namespace L2
open PySem PySem.Spec PyProof.Rows
/-- set(t), t a tuple of ints -/
def rSetT (K : PySem.W.Frag) (w : World) : List V → Hp → VK → Prop := fun vs H Q => ∃ (a : Addr) (ns : List Int), vs = [.ref a] ∧ SqT K H a (ns.map V.int) ∧ ns.length ≤ 1000 ∧ ∀ p c, H p = none → c ≤ ns.length → Q (.ref p) (upd H p (SetO w p (fun j => decide (j ∈ ns)) c))
theorem cr_setT {X : Cx} (hc : X.calm = true) : CallR X (.type "set") (rSetT X.K X.w) := by
  intro pins s σ H vs us Q I r h
  obtain ⟨a, ns, rfl, ht, hl, q⟩ := h
  rw [Vals.ref1 r]
  obtain ⟨its, rv, pl, hz⟩ := I.tuple ht
  have hi : IntsAre its.toArray.toList ns := by
    have := intsAre_of rv
    simpa using this
  refine call_set_tupI ns (I.ok.hd hc) pl hi (Nat.lt_of_le_of_lt (Nat.succ_le_succ hl) (by decide)) fun h' tk c R hcn k => ?_
  have hn : H s.heap.objs.size = none := I.hok.fresh (Nat.le_refl _)
  exact ⟨.ref _, _, I.laid k (Nat.le_refl _) (setO_new R), rfl, q _ c hn hcn⟩
end L2
namespace Ab
open PySem L2
section
variable {Z : Cz} {Γ : List B} {te ta tb tc : TE} {tt tu : TT} {tr : TA} {P : Po} {w : World}
theorem rps_ints_inv {K : PySem.W.Frag} {pl : Option (Addr × Addr)} {G : Hp} {vs : List V} {ns : List Int} (h : Rps K pl G vs (ns.map D.int)) : vs = ns.map V.int := ints_vs h
/-- sorted(set(t)) of a tuple of ints -/
theorem den_sortedSet {Q : D → List B → Prop} (h : Den Z te Γ fun x Γ1 => ∃ ns : List Int, x = .tup (ns.map D.int) ∧ ns.length < 64 ∧ ∀ js : List Int, js.Pairwise (· < ·) → (∀ k, k ∈ js ↔ k ∈ ns) → Q (.lst (js.map D.int)) Γ1) :
    Den Z (tCB (rSortedSet w) (tCons (tCB (rSetT Z.K w) (tCons te tNil)) tNil)) Γ Q := fun σ G H j e k kk =>
  h σ G H j e _ fun x Γ1 v G1 H1 q s1 j1 e1 r1 => by
    obtain ⟨ns, rfl, hl, q⟩ := q
    cases r1 with
    | @tup a vs _ h1 r1 =>
      have := rps_ints_inv r1
      subst this
      refine ⟨a, ns, rfl, SqT.of (j1.sub _ _ h1), by omega, fun p c hp hc => ⟨p, _, c, rfl, upd_same, by omega, fun js p2 hs hm _ hp2 => ?_⟩⟩
      have j2 := j1.new (o := SetO w p (fun j => decide (j ∈ ns)) c) hp
      have e2 := e1.new (o := SetO w p (fun j => decide (j ∈ ns)) c) j1.toJ0 hp
      have s2 : Sp1 Z σ Γ1 Γ1 G1 H1 (upd G1 p (SetO w p (fun j => decide (j ∈ ns)) c)) (upd H1 p (SetO w p (fun j => decide (j ∈ ns)) c)) := .of (j1.sp hp)
      refine kk (.lst (js.map D.int)) Γ1 (.ref p2) _ _ (q js hs fun k => by rw [hm k]; simp) ((s1.trans s2).trans (.of (j2.sp hp2))) (j2.new hp2) (e2.new j2.toJ0 hp2) (.lst upd_same (rps_ints js))
/-- list(range(n)) -/
theorem den_listRg {Q : D → List B → Prop} (h : Den Z te Γ fun x Γ1 => ∃ n : Int, x = .int n ∧ 0 ≤ n ∧ n ≤ 100000 ∧ Q (.lst (((List.range n.toNat).map fun i => ((i : Nat) : Int)).map D.int)) Γ1) : Den Z (tLstRg (tRg1 te)) Γ Q := fun σ G H j e k kk =>
  h σ G H j e _ fun x Γ1 v G1 H1 q s1 j1 e1 r1 => by
    obtain ⟨n, rfl, h1, h2, q⟩ := q
    cases r1
    refine ⟨n, rfl, .of_le (by omega) (by omega) (by omega) h1, fun p hp => ?_⟩
    refine kk _ Γ1 (.ref p) _ _ q (s1.trans (.of (j1.sp hp))) (j1.new hp) (e1.new j1.toJ0 hp) (.lst upd_same ?_)
    have : rgV 0 n = ((List.range n.toNat).map fun i => ((i : Nat) : Int)).map V.int := by
      unfold rgV; rw [List.map_map]; simp [Function.comp_def]
    rw [this]; exact rps_ints _
/-- i in a list or a tuple of ints -/
theorem opd_inI {i : Int} {js : List Int} {x : D} {Q : D → Prop} (hx : x = .lst (js.map D.int) ∨ x = .tup (js.map D.int)) (q : Q (.bl (decide (i ∈ js)))) : OpD Z (rIn Z.K false) (.int i) x Q := fun G H vx vy jj rx ry k kk => by
  cases rx
  have fl : (js.map V.int).all flatV = true := by simp [List.all_eq_true, flatV]
  have iv : inV (.int i) (js.map V.int) = decide (i ∈ js) := by
    unfold inV
    rw [Bool.eq_iff_iff]
    simp only [List.any_eq_true, List.mem_map, decide_eq_true_eq, eqV]
    constructor
    · rintro ⟨y, ⟨z, hz, rfl⟩, e⟩
      have : z = i := by simpa [eqV] using e
      rw [← this]; exact hz
    · intro h; exact ⟨.int i, ⟨i, h, rfl⟩, by simp [eqV]⟩
  rcases hx with rfl | rfl
  · cases ry with
    | @lst a vs _ h1 r1 =>
      have := rps_ints_inv r1
      subst this
      exact ⟨a, _, rfl, .inl (.inl (.inl (jj.sub _ _ h1))), rfl, fl, by rw [iv]; exact kk _ _ G H q jj.enter (.bl _)⟩
  · cases ry with
    | @tup a vs _ h1 r1 =>
      have := rps_ints_inv r1
      subst this
      exact ⟨a, _, rfl, .inr (SqT.of (jj.sub _ _ h1)), rfl, fl, by rw [iv]; exact kk _ _ G H q jj.enter (.bl _)⟩
/-- a cut between two statements -/
theorem dens_cut {t u : TS} (M : List B → Prop) (h : DenS Z t Γ ⟨M, P.R, P.Bk, P.Ct⟩) (k : ∀ Γ1, M Γ1 → DenS Z u Γ1 P) : DenS Z (tSeq t u) Γ P := dens_seq (h.mono (fun x m => k x m) (fun _ x => x) (fun _ x => x) fun _ x => x)
theorem atI_lt {α : Type} {xs : List α} {i : Int} (h0 : 0 ≤ i) (h1 : i < xs.length) : ∃ d, atI xs i = some d ∧ d ∈ xs := by
  unfold atI ixN
  rw [if_pos h0, if_pos h1]
  have : i.toNat < xs.length := by omega
  exact ⟨xs[i.toNat], by simp [this], by simp⟩
theorem atI_len {α : Type} {xs : List α} {i : Int} {n : Nat} (h0 : 0 ≤ i) (h1 : i < n) (hl : xs.length = n) : ∃ d, atI xs i = some d ∧ d ∈ xs := atI_lt h0 (by omega)
end
end Ab
namespace Ab
open PySem L2
section
variable {Z : Cz} {Γ : List B} {te ta tb tc : TE} {tt tu : TT} {tr : TA} {P : Po} {w : World}
/-- a new list of an operator joins the still part -/
theorem opd_of_l {r : R2} {x y : D} {Q : D → Prop} (h : OpL Z r x y fun ds => Q (.lst ds)) : OpD Z r x y Q := fun G H vx vy jj rx ry k kk => h G H vx vy jj rx ry k fun ds l vs G' H' q i hl rs hn hg =>
  kk (.lst ds) (.ref l) (upd G' l (.lst vs)) H' q (i.still hn hl hg) (.lst upd_same (rs.mono (Ex.new hg)))
theorem cad_of_l {r : List V → Hp → VK → Prop} {xs : List D} {Q : D → Prop} (h : CaL Z r xs fun ds => Q (.lst ds)) : CaD Z r xs Q := fun G H vs jj rx k kk => h G H vs jj rx k fun ds l ws G' H' q i hl rs hn hg =>
  kk (.lst ds) (.ref l) (upd G' l (.lst ws)) H' q (i.still hn hl hg) (.lst upd_same (rs.mono (Ex.new hg)))
theorem plusD_lst {xs ys : List D} {Q : D → Prop} (hz : xs.length + ys.length ≤ 100000) (q : Q (.lst (xs ++ ys))) : OpD Z (rPlus Z.K) (.lst xs) (.lst ys) Q := opd_of_l (plus_lst hz q)
theorem timesD_lst {xs : List D} {n : Int} {Q : D → Prop} (h1 : -(2 ^ 63) ≤ n) (h2 : n < 2 ^ 63) (hz : xs.length * n.toNat ≤ 100000) (q : Q (.lst (List.replicate n.toNat xs).flatten)) : OpD Z (rTimes Z.K) (.lst xs) (.int n) Q := opd_of_l (times_lst h1 h2 hz q)
theorem cad_listT {xs : List D} {Q : D → Prop} (q : Q (.lst xs)) : CaD Z (rListOf Z.K) [.tup xs] Q := cad_of_l (cal_listT q)
theorem cad_listL {xs : List D} {Q : D → Prop} (q : Q (.lst xs)) : CaD Z (rListOf Z.K) [.lst xs] Q := cad_of_l (cal_listL q)
end
theorem opd_ixL_mem {Z : Cz} {xs : List D} {i : Int} {n : Nat} {Q : D → Prop} (h0 : 0 ≤ i) (h1 : i < n) (hl : xs.length = n) (q : ∀ d ∈ xs, Q d) : OpD Z (rIx Z.K) (.lst xs) (.int i) Q := by
  obtain ⟨d, hd, hm⟩ := atI_len h0 h1 hl
  exact opd_ixL hd (q d hm)
theorem cutD_mem {xs : List D} {lo hi : Option Int} {x : D} (h : x ∈ cutD xs lo hi) : x ∈ xs := List.mem_of_mem_drop (List.mem_of_mem_take h)
theorem cutD_len {xs : List D} {lo hi : Option Int} : (cutD xs lo hi).length ≤ xs.length := by
  unfold cutD
  rw [List.length_take, List.length_drop]; omega
theorem kD_cut {xs : List D} {lo hi : Option Int} (h : kD (.tup xs) = true) : kD (.tup (cutD xs lo hi)) = true := kD_mk (fun x m => kD_tup h x (cutD_mem m)) (Nat.lt_of_le_of_lt cutD_len (kD_len h))
theorem kD_app {xs ys : List D} (h : kD (.tup xs) = true) (g : kD (.tup ys) = true) (hl : xs.length + ys.length < 1000) : kD (.tup (xs ++ ys)) = true := kD_mk (fun x m => (List.mem_append.mp m).elim (kD_tup h x) (kD_tup g x)) (by simpa using hl)
theorem kD_one {x : D} (h : kD x = true) : kD (.tup [x]) = true := kD_mk (fun y m => by rw [List.mem_singleton.mp m]; exact h) (by simp)
end Ab
namespace L2
open PySem PySem.Spec PyProof.Rows
/-- what an own exception class must have for isinstance -/
structure KitE (K : PySem.W.Frag) (C : Addr) : Prop where
  cl : (PySem.W.clsIn K C).isSome = true
  xf : XfC K C
  ha : PySem.W.findIn K (.ref C) "__class__" = some (some (.builtin "object.__class__"))
  hn : PySem.W.specialIn K (.builtin "object.__class__") "__get__" = some (some (.builtin "getset_descriptor.__get__"))
  tk : PySem.W.takesIn K (.builtin "object.__class__") = some true
  hm : PySem.W.mroIn K C (.type "object") = some true
/-- isinstance(e, c) of the caught exception a -/
def tIsX (K : PySem.W.Frag) (a : Addr) (cls : Value) (d : Option Addr) (C : Addr) (ta : TA) : TE := fun σ H Q => ta σ H fun vs H1 => ∃ c u b, vs = [V.ref a, c] ∧ cls = .ref C ∧ (∃ dd fs, d = some dd ∧ H1 dd = some (.xd fs)) ∧ ClsV c u ∧ PySem.W.kitOne K (.ref C) u = some b ∧ Q (.bl b) H1
theorem pe_isX {X : Cx} {a C : Addr} {oe : Obj} {cls : Value} {d : Option Addr} {pn : List (Addr × Obj)} {e1 e2 : Expr} {ta : TA} {p pos : Pos} (T : KitE X.K C) (hz : Zc cls d oe) (hf : ∃ vs, oe.data = .fields vs)
    (hg : Gl (X.suite a ((a, oe) :: pn)) "isinstance") (hm : (X.suite a ((a, oe) :: pn)).mg "isinstance" = none) (hv : bootBuiltins "isinstance" = some (.builtin "isinstance")) (ha : PA (X.suite a ((a, oe) :: pn)) [e1, e2] ta)
    (he : starEach [e1, e2] (X.suite a ((a, oe) :: pn)).env = (false, eval e1 (X.suite a ((a, oe) :: pn)).env) :: starEach [e2] (X.suite a ((a, oe) :: pn)).env := by rfl) (hpl : (backTo pos (starEach [e2] (X.suite a ((a, oe) :: pn)).env)).any (·.1) = false := by rfl) :
    PE (X.suite a ((a, oe) :: pn)) (.Call (.Name "isinstance" p) [e1, e2] [] pos) (tIsX X.K a cls d C ta) := by
  refine ⟨fun pins s σ H Q I h => ?_⟩
  refine wpAny_Call_Name_kw (ld_blt I hg hm hv ?_ (by decide) (by decide))
  refine PyProof.Rows.callWith_builtin1 (thn (ha.run pos pins s σ H _ I h) fun us s1 ⟨vs, H1, I1, r1, c, u, b, ev, ec, ⟨dd, fs, ed, ea⟩, k, e, q⟩ => ?_) he hpl
  subst ev
  obtain ⟨u1, u2, rfl, r1, r2⟩ := vals2 r1
  have e2 := k.eq r2
  subst e2
  obtain rfl : u1 = Value.ref a := r1
  subst ec
  obtain ⟨hx, _⟩ := I1.pin (a, oe) (List.mem_append_left _ List.mem_cons_self)
  obtain ⟨vs, hd⟩ := hf
  subst ed
  have xo : ObjOk X.prog X.w H1 s1.heap dd (.xd fs) := I1.hok dd _ ea
  obtain ⟨mA, hns, _⟩ := xo
  obtain ⟨od, ho, _⟩ := lookIn_ns hns
  have J : PySem.W.InstAt s1.heap a oe C (some od) := ⟨hx, hz.1, by (unfold PySem.W.notCls; rw [hd]) <;> rfl, by rw [hz.2]; exact ho⟩
  exact PySem.W.kia_one (PySem.W.kitx_exc T.cl T.xf.ga T.xf.gg T.xf.exC T.ha T.hn T.tk T.hm) I1.kIn J e (fun z => nomatch z) fun tk => ⟨.bl b, H1, I1.tok tk, rfl, q⟩
end L2
namespace Ab
open PySem L2
section
variable {Z : Cz} {Γ : List B}
theorem den_isX {i : Nat} {a : Addr} {cls : Value} {d : Option Addr} {er : Er} {C : Addr} {c : V} {u : Value} {b : Bool} {f : Str} {Q : D → List B → Prop} (h : Γ[i]? = some (.exc a cls d er)) (hc : er.cls = C) (hn : er.ns = [f]) (k : ClsV c u) (e : PySem.W.kitOne Z.K (.ref C) u = some b) (q : Q (.bl b) Γ) :
    Den Z (tIsX Z.K a cls d C (tCons (tVar i) (tCons (tC c) tNil))) Γ Q := fun σ G H j en kk q' => by
  obtain ⟨v, h1, h2, re⟩ := en.at_ i _ h
  subst h2
  refine ⟨.ref a, h1, c, u, b, rfl, by rw [re.c, hc], ?_, k, e, q' _ Γ _ G H q .refl j en (.bl b)⟩
  rcases re.f with ⟨_, z, _⟩ | ⟨dd, xs, h3, h4, _⟩
  · rw [hn] at z; cases z
  · exact ⟨dd, _, h3, j.sub _ _ h4⟩
end
end Ab
namespace Ab
open PySem L2
/-- try: .. except C as n: .., the body and the suite as letters of their own -/
def tTry (K : PySem.W.Frag) (c : Value) (i : Nat) (tb : WX → TS) (ts : Addr → Value → Option Addr → TS) (W : WX) : TS := fun D σ H => tb (wAs K c i ts W D) D σ H
section
variable {X : Cx} (K : PySem.W.Frag) {x n : Str} {c : Value} {i : Nat} {body suite : List Stmt} {b₀ : Stmt} {np pos pos' : Pos} {tb : WX → TS} {ts : Addr → Value → Option Addr → TS} {Wout : WX}
theorem ks_try_as (hs : X.stack = X.env :: X.outer) (hf : X.env.frame = some X.env.locals) (hN : X.N.Nodup) (hi : X.N[i]? = some n) (hln : X.env.kindOf n = some .local) (hc : Names X x c) (tk : Takes X Wout)
    (hb : ∀ (W : WX) (pn : List (Addr × Obj)) (xe : Value → Shared → Prop), Takes (X.tr pn xe) W → PassesOwn (model X.prog X.w) X.A X.env xe → PSs (X.tr pn xe) body (tb W))
    (hsu : ∀ (a : Addr) (oe : Obj) (cls : Value) (d : Option Addr) (pn : List (Addr × Obj)), Zc cls d oe → (∃ vs, oe.data = .fields vs) → PSs (X.suite a ((a, oe) :: pn)) (b₀ :: suite) (ts a cls d)) (hK : X.K = K := by rfl) :
    PS X (.Try body [.ExceptHandler (some (.Name x np)) (some n) (b₀ :: suite) pos'] [] [] pos) (tTry K c i tb ts Wout) := by
  subst hK
  exact ps_try_as hs hf hN hi hln hc tk hb hsu
end
section
variable {Z : Cz} {Γ : List B} {P : Po}
theorem dens_tryT {c : Value} {i : Nat} {tb : WX → TS} {ts : Addr → Value → Option Addr → TS} {Y : Er → List B → Prop}
    (hb : ∀ W, DenS (Z.wx W Y) (tb W) Γ P)
    (hs : ∀ er Γ', Y er Γ' → ∃ b, PySem.W.exmOne Z.K (.ref er.cls) c = some b ∧ (b = true → ∀ a d, DenS Z (ts a (.ref er.cls) d) (Γ'.set i (.exc a (.ref er.cls) d er)) ⟨fun Γ2 => P.N (unset Γ2 i), P.R, fun Γ2 => P.Bk (unset Γ2 i), fun Γ2 => P.Ct (unset Γ2 i)⟩) ∧ (b = false → Z.X er Γ')) :
    DenS Z (tTry Z.K c i tb ts Z.W) Γ P := dens_try hb hs
end
theorem eqD_pair (a b : Int) : eqD 1 (.tup [.int a, .int b]) := eqD_tup fun z hz => by
  simp at hz
  rcases hz with rfl | rfl
  · exact eqD_int _
  · exact eqD_int _
end Ab
/-! == by an own __eq__, isinstance with an own class, repr -/
namespace L2
open PySem PySem.Spec PyProof.Rows
/-- what an own class must have for isinstance of its objects -/
structure KitO (K : PySem.W.Frag) (C : Addr) : Prop where
  cl : Cls K C
  ha : PySem.W.findIn K (.ref C) "__class__" = some (some (.builtin "object.__class__"))
  hn : PySem.W.specialIn K (.builtin "object.__class__") "__get__" = some (some (.builtin "getset_descriptor.__get__"))
  tk : PySem.W.takesIn K (.builtin "object.__class__") = some true
  hm : PySem.W.mroIn K C (.type "object") = some true
def rEqO (K : PySem.W.Frag) (C : Addr) (sp : Sp) : R2 := fun x y H Q => ∃ a dx fs, x = .ref a ∧ H a = some (.ins C dx fs) ∧ (∃ t : Value, TyX K H y t ∧ PySem.W.notFirst K C t = true) ∧ sp [x, y] H (fun v H' => (∃ k, v = .bl k) ∧ Q v H') (fun _ _ _ => False)
theorem op_eqO {X : Cx} {C f : Addr} {fd : FuncData} {ps : List Str} {sp : Sp} {k : Nat} (F : FnOk X.prog X.w X.K X.mg X.base (L2.CX X.prog X.w) k f fd ps sp) (hr : Room k X.A) (hs : PySem.W.findIn X.K (.ref C) "__eq__" = some (some (.ref f))) (hf : PySem.W.isFn X.K (.ref f) = true) (hb : Binds X.K fd ps []) :
    OpR X (compareOp .Eq) (rEqO X.K C sp) := by
  intro pins s σ H x y v u Q I rx ry h
  obtain ⟨a, dx, fs, rfl, ha, ⟨t, ty, nf⟩, hsp⟩ := h
  obtain rfl : v = Value.ref a := rx
  obtain ⟨mA, J, _⟩ := ins_get I.hok ha
  obtain ⟨od, J, _⟩ := J.look
  obtain ⟨m, hF⟩ := I.fr
  obtain ⟨Pz, Z, pz, _⟩ := kit_of I ry ty
  show wpAny (model X.prog X.w) X.A (richCompare .Eq (.ref a) u) _ _ _
  refine PySem.W.cmp_K (op := .Eq) (tb := t) hr.units0 hF I.ok.mod.kin J (Z.ty _ _ I.kIn pz) nf hs hf ?_
  refine wpAny_mono (run_fn F hr hb .nil passL I (.cons (show RelV (.ref a) (Value.ref a) from rfl) (.cons ry .nil)) (by rw [List.append_nil]; exact hsp)) (fun w s' q => ?_) fun _ _ x => x
  obtain ⟨z, H', I', rz, ⟨b, ek⟩, q⟩ := q
  subst ek
  cases rz
  exact ⟨.bl b, H', I', rfl, q⟩
/-- repr(v) of plain data, nothing else under way -/
def rRepr (K : PySem.W.Frag) : List V → Hp → VK → Prop := fun vs H Q => ∃ v d, vs = [v] ∧ Dp K H v d ∧ d.showable = true ∧ d.hasDict = false ∧ d.depth ≤ 60 ∧ d.shown.length ≤ sizeLine ∧ Q (.str d.shown) H
theorem cr_repr {X : Cx} (hg : X.A.guards = some []) (hu : X.A.units + 64 < cLine) : CallR X (.builtin "repr") (rRepr X.K) := by
  intro pins s σ H vs us Q I r h
  obtain ⟨v, d, rfl, dp, h1, h2, h3, h4, q⟩ := h
  obtain ⟨u, rfl, ru⟩ := vals1 r
  cases dp with
  | non => cases (show u = Value.none from ru); exact PySem.P.repr_of_none ⟨.str _, H, I.tok _, ⟨_, rfl⟩, q⟩
  | bl b => cases (show u = Value.bool b from ru); exact PySem.P.repr_of_bool ⟨.str _, H, I.tok _, ⟨_, rfl⟩, q⟩
  | int i => obtain ⟨t, rfl⟩ := (show ∃ t, u = Value.int i t from ru); exact PySem.P.repr_of_int (by simpa [PyData.showable] using h1) ⟨.str _, H, I.tok _, ⟨_, rfl⟩, q⟩
  | str x => obtain ⟨t, rfl⟩ := (show ∃ t, u = Value.str x t from ru); exact PySem.P.repr_of_str ⟨.str _, H, I.tok _, ⟨_, rfl⟩, q⟩ (by simpa only [PyData.shown] using h4)
  | @lst a xs ds sq al =>
    obtain rfl : u = Value.ref a := ru
    obtain ⟨as, rd⟩ := Dp.reads I _ _ _ (.lst sq al) (rfl : RelV (.ref a) (.ref a))
    exact repr_of_reads' rd h1 (fun z => by rw [h2] at z; cases z) hg (by omega) (fun _ _ e => e) (fun h' w tk k => ⟨.str _, H, I.kept k, ⟨_, rfl⟩, q⟩) h4
  | @tup a xs ds sq al =>
    obtain rfl : u = Value.ref a := ru
    obtain ⟨as, rd⟩ := Dp.reads I _ _ _ (.tup sq al) (rfl : RelV (.ref a) (.ref a))
    exact repr_of_reads' rd h1 (fun z => by rw [h2] at z; cases z) hg (by omega) (fun _ _ e => e) (fun h' w tk k => ⟨.str _, H, I.kept k, ⟨_, rfl⟩, q⟩) h4
/-! defs that are called only where nothing is under way -/
structure FnOkG (P : Program) (w : World) (K : PySem.W.Frag) (mg : Str → Option Value) (base : Heap) (CX : CXT) (k : Nat) (f : Addr) (fd : FuncData) (ps : List Str) (sp : Sp) : Prop where
  lenG : ∀ ws G R D, sp ws G R D → ws.length = ps.length
  runG : ∀ (Ar : Around) (out : List Env) (sh : Shared) (G : Hp) (as : Args) (vus : List Value) (ws : List V) (R : VK) (D : XK), Ar.guards = some [] → Room k Ar → Env0 P w K mg base Ar out sh G → BindsTo sh fd as (ps.zip vus) → Vals ws vus → sp ws G R D →
    codeAny (model P w) Ar (.call (.ref f) as) (CR CX out P w G sh R D) sh
section
variable {P : Program} {w : World} {K : PySem.W.Frag} {mg : Str → Option Value} {base : Heap}
theorem fnG_of {x qual : Str} {st : Stmt} {f : Addr} {fd : FuncData} {N ps : List Str} {k : Nat} {sp : Sp} (F : Fun K x qual st f fd) (Sc : FnScope N ps (defScope st)) (ln : ∀ ws G R D, sp ws G R D → ws.length = ps.length)
    (hb : ∀ (cdv : Value) (Ar : Around) (out : List Env) (sh : Shared) (G : Hp) (ws : List V) (R : VK) (D : XK), (Ar.deeper (envOfC qual (defScope st) sh.heap.objs.size f cdv)).guards = some [] → Room k (Ar.deeper (envOfC qual (defScope st) sh.heap.objs.size f cdv)) → sp ws G R D →
      ∃ t, PSs (cxOf (L2.CX P w) P w K mg base N qual (defScope st) f cdv Ar out sh G D) (defBody st) t ∧ t { nx := fun _ H' => R .non H', rt := R } (start N ws) G) : FnOkG P w K mg base (L2.CX P w) (k + 1) f fd ps sp := by
  obtain ⟨c1, c2, c3, c4, c5, c6, cdv, c7, c8, rfl, look, code⟩ := F.ex
  constructor
  · exact ln
  · intro Ar out sh G as vus ws R D g0 room env bnd rel ask
    have long : ws.length = ps.length := ln _ _ _ _ ask
    have inK : K.In sh.heap := env.mod.kin.keeps (fun b o z => (env.bs b o z).1)
    have noLim : sh.heap.NoLimit := env.mod.nolimit.keeps (fun b o z => (env.bs b o z).1)
    obtain ⟨t, walk, wish⟩ := hb cdv Ar out sh G ws R D g0 (room.deeper _) ask
    have kinds : ∀ y ∈ ps.zip vus, (defScope st).names.lookup y.1 = some .local ∨ ((defScope st).names.lookup y.1 = some .cell ∧ ((cellsFrom (sh.heap.objs.size + 1) (defScope st).names []).lookup y.1).isSome = true) := by
      intro y hy
      cases Sc.par y.1 (List.of_mem_zip (a := y.1) (b := y.2) hy).1 with
      | inl z => exact .inl z
      | inr z => exact .inr ⟨z, PySem.W.cellsFrom_some _ _ _ (.inl z)⟩
    apply codeAny_call_function room.depth (inK _ _ look) rfl Sc.co Sc.gen rfl (PySem.W.codeRec_of inK code)
    apply bnd
    apply wpAny_newFunctionEnv_cells Sc.kind kinds
    intro en hen s1 laid
    cases hen
    refine And.intro (noLim.keeps laid.toInCall.keep) (codeAny_func ?_)
    have i0 : Inv (cxOf (L2.CX P w) P w K mg base N qual (defScope st) f cdv Ar out sh G D) [] (start N ws) G s1 := inv_start Sc room.hd env long rel laid
    have run := walk.run [] s1 (start N ws) G _ i0 wish
    apply wpAny_mono run
    · intro fl s' how
      match fl, how with
      | .ret u, ⟨v, σ', H', J, rv, q⟩ => exact ⟨v, H', J.os, J.bare, J.base, J.hok, rv, q⟩
      | .next, ⟨σ', H', J, q⟩ => exact ⟨V.non, H', J.os, J.bare, J.base, J.hok, rfl, q⟩
      | .brk, ⟨_, _, _, q⟩ => exact q.elim
      | .cont, ⟨_, _, _, q⟩ => exact q.elim
    · exact fun e s' how => how
end
section
variable {X : Cx} {x : Str} {f : Addr} {e : Expr} {es : List Expr} {t : TA} {k : Nat} {sp : Sp} {p pos : Pos} {fd : FuncData} {ps : List Str}
theorem pe_callG (F : FnOkG X.prog X.w X.K X.mg X.base (L2.CX X.prog X.w) k f fd ps sp) (g0 : X.A.guards = some []) (room : Room k X.A) (hg : Gl X x) (hm : X.mg x = some (.ref f)) (hk : PySem.W.keepIn X.K (.ref f) = true) (hb : Binds X.K fd ps [])
    (ha : PA X (e :: es) t) (hdb : (x == ("__debug__" : Str)) = false := by decide) (he : starEach (e :: es) X.env = (false, eval e X.env) :: starEach es X.env := by rfl) (hpl : (backTo pos (starEach es X.env)).any (·.1) = false := by rfl) :
    PE X (.Call (.Name x p) (e :: es) [] pos) (tCall sp [] (fun _ _ _ => False) t) := by
  constructor
  intro pins s σ H Q I h
  apply wpAny_Call_Name_kw (ld_glob I hg hm ?_ hdb)
  refine PySem.W.callWith_K (h₀ := X.base) I.ok.mod.kin hk (thn (ha.run pos pins s σ H _ I h) ?_) he hpl
  rintro us s1 ⟨vs, H1, I1, rel, ask⟩
  rw [List.append_nil] at ask
  refine ⟨I1.kIn, wpAny_call (codeAny_mono (F.runG X.A X.stack s1 H1 ⟨us, []⟩ us vs Q (fun _ _ _ => False) g0 room I1.env0 ?_ rel ask) ?_)⟩
  · have z := hb s1 us I1.kIn (by rw [List.append_nil, ← rel.length]; exact F.lenG _ _ _ _ ask)
    rwa [List.append_nil] at z
  · intro r s' got
    match r, got with
    | .error e, got => exact passL pins σ H1 s1 e s' I1 got
    | .ok (.ret u), got => exact I1.after got
    | .ok .next, got => exact got.elim
    | .ok .brk, got => exact got.elim
    | .ok .cont, got => exact got.elim
end
end L2
namespace Ab
open PySem L2
theorem k_repr {X : Cx} (K : PySem.W.Frag) (hg : X.A.guards = some []) (hu : X.A.units + 64 < cLine) (h : X.K = K := by rfl) : CallR X (.builtin "repr") (rRepr K) := by subst h; exact cr_repr hg hu
section
variable {P : Program} {w : World} {K : PySem.W.Frag} {mg : Str → Option Value} {base : Heap}
/-- a def that is called only where nothing is under way; it lets nothing out -/
theorem fn_abG {x qual : Str} {st : Stmt} {f : Addr} {fd : FuncData} {N ps : List Str} {k : Nat} (F : Fun K x qual st f fd) (Sc : FnScope N ps (defScope st)) (S : FSpec) (hl : ps.length ≤ N.length)
    (hbody : ∀ (cdv : Value) (A : Around) (outer : List PySem.Env) (s : Shared) (H : Hp) (E : XK) (ds : List D), (A.deeper (PyProof.Rows.envOfC qual (defScope st) s.heap.objs.size f cdv)).guards = some [] → Room k (A.deeper (PyProof.Rows.envOfC qual (defScope st) s.heap.objs.size f cdv)) → ds.length = ps.length → S.P ds →
      ∃ t, PSs (cxOf (L2.CX P w) P w K mg base N qual (defScope st) f cdv A outer s H E) (defBody st) t ∧
        ∀ Z : Cz, Z.K = K → DenS Z t (ds.map B.d ++ List.replicate (N.length - ds.length) .un) ⟨fun _ => S.R ds .non, S.R ds, fun _ => False, fun _ => False⟩) : FnOkG P w K mg base (L2.CX P w) (k + 1) f fd ps (spS K ps.length S) := by
  refine fnG_of F Sc (fun vs H Q E h => ?_) (fun cdv A outer s H vs Q E g0 hr h => ?_)
  · obtain ⟨pl, G, ds, _, r, hn, _⟩ := h
    rw [r.length, hn]
  · obtain ⟨pl, G, ds, j, r, hn, hp, hq, he⟩ := h
    obtain ⟨t, h1, h2⟩ := hbody cdv A outer s H E ds g0 hr hn hp
    refine ⟨t, h1, h2 ⟨K, pl, H, G, fun cls d _ H => E cls d H, fun er _ => False⟩ rfl _ G H ⟨j.toJ0.re rfl rfl rfl, fun _ _ _ _ _ _ _ z => z.elim⟩ (en_start r (by omega)) _ ⟨fun Γ σ G' H' hN _ j' _ => hq .non .non G' H' hN ⟨j'.toJ0.re rfl rfl rfl, fun _ _ _ _ _ _ _ z => z.elim⟩ .non,
      fun x v G' H' hR _ j' rx => hq x v G' H' hR ⟨j'.toJ0.re rfl rfl rfl, fun _ _ _ _ _ _ _ z => z.elim⟩ rx, fun _ _ _ _ z => z.elim, fun _ _ _ _ z => z.elim⟩⟩
structure DfnG (P : Program) (w : World) (K : PySem.W.Frag) (mg : Str → Option Value) (base : Heap) (x : Str) (k n : Nat) (S : FSpec) : Prop where
  ex : ∃ f fd ps, FnOkG P w K mg base (L2.CX P w) k f fd ps (spS K n S) ∧ mg x = some (.ref f) ∧ PySem.W.keepIn K (.ref f) = true ∧ Binds K fd ps []
end
section
variable {X : Cx} {P : Program} {w : World} {K : PySem.W.Frag} {mg : Str → Option Value} {base : Heap} {x : Str} {e : Expr} {es : List Expr} {t : TA} {k n j : Nat} {S : FSpec} {p pos : Pos}
theorem kc_fnG (g0 : X.A.guards = some []) (c : DfnG P w K mg base x k n S) (hr : Room j X.A) (hk : k ≤ j) (hX : X.prog = P ∧ X.w = w ∧ X.K = K ∧ X.mg = mg ∧ X.base = base) (hg : Gl X x) (ha : PA X (e :: es) t) (hdb : (x == ("__debug__" : Str)) = false := by decide)
    (he : starEach (e :: es) X.env = (false, eval e X.env) :: starEach es X.env := by rfl) (hpl : (backTo pos (starEach es X.env)).any (·.1) = false := by rfl) : PE X (.Call (.Name x p) (e :: es) [] pos) (tCall (spS K n S) [] (fun _ _ _ => False) t) := by
  obtain ⟨rfl, rfl, rfl, rfl, rfl⟩ := hX
  obtain ⟨f, fd, ps, h1, h2, h3, h4⟩ := c.ex
  exact pe_callG h1 g0 (hr.mono hk) hg h2 h3 h4 ha hdb he hpl
theorem dfnG_mk {qual : Str} {st : Stmt} {f : Addr} {fd : FuncData} {ps : List Str} (F : Fun K x qual st f fd) (m : mg x = some (.ref f)) (b : Binds K fd ps [])
    (h : FnOkG P w K mg base (L2.CX P w) k f fd ps (spS K ps.length S)) : DfnG P w K mg base x k ps.length S := ⟨⟨f, fd, ps, h, m, F.kp, b⟩⟩
/-- an own == , as its callers know it -/
structure EqO (P : Program) (w : World) (K : PySem.W.Frag) (mg : Str → Option Value) (base : Heap) (C : Addr) (k : Nat) (S : FSpec) : Prop where
  kit : KitO K C
  ex : ∃ f fd ps, FnOk P w K mg base (L2.CX P w) k f fd ps (spS K 2 S) ∧ PySem.W.findIn K (.ref C) "__eq__" = some (some (.ref f)) ∧ PySem.W.isFn K (.ref f) = true ∧ Binds K fd ps []
  nfO : PySem.W.notFirst K C (.ref C) = true
  nfT : PySem.W.notFirst K C (.type "tuple") = true
def rEqW (K : PySem.W.Frag) (C : Addr) (S : FSpec) : R2 := fun x y H Q => rEqO K C (spS K 2 S) x y H Q ∨ rEqq K x y H Q
theorem k_eqO {C : Addr} (q : EqO P w K mg base C k S) (hr : Room j X.A) (hk : k ≤ j) (hX : X.prog = P ∧ X.w = w ∧ X.K = K ∧ X.mg = mg ∧ X.base = base) : OpR X (compareOp .Eq) (rEqW K C S) := by
  obtain ⟨rfl, rfl, rfl, rfl, rfl⟩ := hX
  obtain ⟨f, fd, ps, h1, h2, h3, h4⟩ := q.ex
  exact (op_eqO h1 (hr.mono hk) h2 h3 h4).or (op_eqq hr.units)
end
section
variable {Z : Cz} {Γ : List B}
theorem opd_eqO {P : Program} {w : World} {mg : Str → Option Value} {base : Heap} {C : Addr} {k : Nat} {S : FSpec} {ns : List Str} {vs : List D} {y : D} {Q : D → Prop} (q : EqO P w Z.K mg base C k S) (hy : (∃ ms us, y = .obj C ms us) ∨ ∃ us, y = .tup us)
    (hp : S.P [.obj C ns vs, y]) (hr : ∀ d, S.R [.obj C ns vs, y] d → ∃ b, d = .bl b ∧ Q (.bl b)) (hx : ∀ er, ¬ S.X [.obj C ns vs, y] er) : OpD Z (rEqW Z.K C S) (.obj C ns vs) y Q := fun G H vx vy jj rx ry kk fin => by
  refine .inl ?_
  cases rx with
  | @obj a _ dx _ xs _ h1 h2 r1 =>
    refine ⟨a, dx, _, rfl, jj.sub _ _ h1, ?_, Z.pl, G, [.obj C ns vs, y], jj.enter, .cons (.obj h1 h2 r1) (.cons ry .nil), rfl, hp, fun d v G' H' a j r => ?_, fun er _ _ _ _ z => absurd z (hx er)⟩
    · rcases hy with ⟨ms, us, rfl⟩ | ⟨us, rfl⟩
      · cases ry with
        | @obj b _ dy _ ys _ g1 g2 g3 => exact ⟨_, .base (.ins (jj.sub _ _ g1) q.kit.cl q.kit.ha q.kit.hn q.kit.tk q.kit.hm), q.nfO⟩
      · cases ry with
        | @tup b ys _ g1 g2 => exact ⟨_, .base (.tup (jj.sub _ _ g1)), q.nfT⟩
    · obtain ⟨b, rfl, q'⟩ := hr d a
      cases r
      exact ⟨⟨b, rfl⟩, fin _ _ G' H' q' j (.bl b)⟩
/-- isinstance(x, C) of an object of C, of a tuple -/
theorem cad_isO {C : Addr} {ns : List Str} {vs : List D} {Q : D → Prop} (kt : KitO Z.K C) (q : Q (.bl true)) : CaD Z (rIsi Z.K) [.obj C ns vs, .cls C] Q := fun G H us jj r kk fin => by
  cases r with
  | cons a c => cases c with
    | cons c d =>
      cases d; cases c
      cases a with
      | @obj a _ dx _ xs _ h1 h2 r1 =>
        exact ⟨_, _, _, _, true, rfl, .own C, .base (.ins (jj.sub _ _ h1) kt.cl kt.ha kt.hn kt.tk kt.hm), by unfold PySem.W.kitOne; rw [if_pos (by simp)], fin _ _ G H q jj.enter (.bl _)⟩
theorem cad_isT {C : Addr} {xs : List D} {b : Bool} {Q : D → Prop} (hk : PySem.W.kitOne Z.K (.type "tuple") (.ref C) = some b) (q : Q (.bl b)) : CaD Z (rIsi Z.K) [.tup xs, .cls C] Q := fun G H us jj r kk fin => by
  cases r with
  | cons a c => cases c with
    | cons c d =>
      cases d; cases c
      exact ⟨_, _, _, _, b, rfl, .own C, tag_ty jj.sub rfl a, hk, fin _ _ G H q jj.enter (.bl _)⟩
/-- what can be shown -/
structure ShowOk (x : D) : Prop where
  pl : plainD x = true
  sh : (pyD x).showable = true
  nd : (pyD x).hasDict = false
  dp : (pyD x).depth ≤ 60
  ln : (pyD x).shown.length ≤ sizeLine
theorem cad_repr {x : D} {Q : D → Prop} (h : ShowOk x) (q : Q (.str (pyD x).shown)) : CaD Z (rRepr Z.K) [x] Q := fun G H us jj r kk fin => by
  cases r with
  | cons a c =>
    cases c
    exact ⟨_, _, rfl, a.dp jj.sub h.pl, h.sh, h.nd, h.dp, h.ln, fin _ _ G H q jj.enter (.str _)⟩
end
end Ab
namespace Ab
open PySem L2
/-- how a law begins: pool = _law_pool(script); from then on the pool's two lists are its own -/
theorem lawpool_start {K : PySem.W.Frag} {N : List Str} {a : Addr} {ns : List Int} {H : Hp} {rest : TS} {Q : VK} {S : FSpec} (hS : SqL K H a (ns.map V.int)) (hlen : ns.length ≤ 63) (hO : Only H)
    (hR : ∀ d, S.R [.scr ns] d → ∃ (seed : Int) (cs : List Int), d = .lst [.int seed, .int 0, .lst (cs.map D.int)] ∧ 0 ≤ seed ∧ seed < 2147483647 ∧ (∀ n ∈ cs, 0 ≤ n) ∧ cs.length ≤ 63) (hP : S.P [.scr ns]) (hX : ∀ er, ¬ S.X [.scr ns] er) (hN : 2 ≤ N.length)
    (go : ∀ Z : Cz, Z.K = K → DenS Z rest ((B.d (.scr ns) :: .d .pool :: List.replicate (N.length - 2) .un)) ⟨fun _ => False, fun x => x = .bl true, fun _ => False, fun _ => False⟩) (hQ : ∀ H', Q (.bl true) H') {De : Ends} (hD : De.rt = Q) :
    tSeq (tAsg (tCall (spS K 1 S) [] (fun _ _ _ => False) (tCons (tVar 0) tNil)) (gName 1)) rest De (L2.start N [.ref a]) H := by
  refine ⟨.ref a, rfl, none, H, [.scr ns], ⟨⟨Ex.refl H, Ex.refl H, (fun _ _ _ n => n), (fun _ _ e _ => e), (fun _ _ z => by cases z)⟩, fun _ _ _ _ _ _ _ z => z.elim⟩, .one (.scr hS), rfl, hP, fun d v G' H' hd j r => ?_, fun er _ _ _ _ z => absurd z (hX er)⟩
  obtain ⟨seed, cs, rfl, b1, b2, b3, b4⟩ := hR d hd
  cases r with
  | @lst l xs _ gl rs =>
    cases rs with
    | cons r1 rs => cases rs with
      | cons r2 rs => cases rs with
        | cons r3 rs =>
          cases rs; cases r1; cases r2
          cases r3 with
          | @lst c ys _ gc rc =>
            have := ints_vs rc
            subst this
            have hl := j.sub _ _ gl
            have hc := j.sub _ _ gc
            have old : ∀ b o, H b = some o → H' b = some o := fun b o e => j.fr b o e fun _ _ z => by cases z
            have fresh : ∀ b ws, H' b = some (.lst ws) → H b = none := fun b ws e => by
              rcases hO b with z | ⟨ob, zs, z⟩
              · exact z
              · have := old b _ z
                rw [e] at this; cases this
            have lc : l ≠ c := fun z => by
              subst z
              rw [hl] at hc
              have e : [V.int seed, .int 0, .ref l] = cs.map V.int := by simpa using hc
              match cs, e with
              | [_, _, _], e => simp at e
              | [], e => simp at e
              | [_], e => simp at e
              | [_, _], e => simp at e
              | _ :: _ :: _ :: _ :: _, e => simp at e
            let Z : Cz := ⟨K, some (l, c), H', H, fun _ _ _ _ => False, fun _ _ => False⟩
            have jZ : J Z H H' := ⟨⟨old, Ex.refl H, fun _ _ _ n => n, fun _ _ e _ => e, fun p' c' e => by
              cases e
              exact ⟨lc, fresh _ _ hl, fresh _ _ hc, ⟨_, hl⟩, ⟨_, hc⟩, seed, 0, cs, hl, hc, b1, b2, Int.le_refl _, b3, b4⟩⟩, fun _ _ _ _ _ _ _ z => z.elim⟩
            have e0 : En Z H H' (L2.start N [.ref a]) ([D.scr ns].map B.d ++ List.replicate (N.length - 1) .un) := en_start (Z := Z) (.one (.scr hS)) (by simp; omega)
            have e1 := e0.setD (i := 1) (x := .pool) (v := .ref l) (.pool rfl)
            have eΓ : ([D.scr ns].map B.d ++ List.replicate (N.length - 1) B.un).set 1 (.d .pool) = B.d (.scr ns) :: .d .pool :: List.replicate (N.length - 2) .un := by
              obtain ⟨m, hm⟩ : ∃ m, N.length = m + 2 := ⟨N.length - 2, by omega⟩
              rw [hm]; rfl
            rw [eΓ] at e1
            refine go Z rfl _ H H' jZ e1 De ⟨fun _ _ _ _ z => z.elim, fun x v G2 H2 hx _ _ rx => ?_, fun _ _ _ _ z => z.elim, fun _ _ _ _ z => z.elim⟩
            subst hx
            cases rx
            rw [hD]; exact hQ _
end Ab
/-! the end of a law whose def is called where nothing is under way -/
namespace L2
open PySem PySem.Spec PyProof.Rows
section
variable {P : Program} {w : World} {K : PySem.W.Frag} {mg mb : Str → Option Value} {k : Nat} {fa a : Addr} {fd : FuncData} {x : Str} {sp : Sp} {s1 : Shared} {us : List Value} {ms : List Int}
/-- from a heap of wishes in which at most the script is told -/
theorem endG_core (inK : K.In s1.heap) (nsM : s1.heap.Ns mainGlobals mg) (nsB : s1.heap.Ns builtinsNs mb) (boot : ∀ x : Str, x ≠ "__name__" → mb x = bootBuiltins x) (noLim : s1.heap.NoLimit) (noGen : s1.gens = #[])
    (obj : s1.heap.get? a = some { cls := .type "list", data := .seq us.toArray }) (room : Room k callerA) (F : ∀ base : Heap, K.In base → base.Ns mainGlobals mg → FnOkG P w K mg base (L2.CX P w) k fa fd [x] sp)
    (bnd : ∀ (s : Shared) (u : Value), BindsTo s fd ⟨[u], []⟩ [(x, u)]) (ask : ∀ H : Hp, Only H → SqL K H a (ms.map V.int) → sp [.ref a] H (fun v _ => v = .bl true) fun _ _ _ => False)
    {G : Hp} (only : Only G) (sq : SqL K G a (ms.map V.int)) (ok : HOk P w G s1.heap) (just : ∀ b, G b ≠ none → b = a) (apart : G a ≠ none → K.lookup a = none) :
    codeAny (model P w) callerA (.call (.ref fa) ⟨[.ref a], []⟩) (fun r s' => r = .ok (.ret (.bool true)) ∧ OldK s1.heap s'.heap ∧ s'.os = s1.os ∧ AllBare s'.gens) s1 := by
  have keepD : ∀ {b : Addr} {o : Obj} {es : Array DictEntry} {ep : Nat}, s1.heap.get? b = some o → o.data = .dict es ep → (hidT s1.heap G).get? b = some o := by
    intro b o es ep eo ed
    apply hidT_get eo
    by_cases z : G b = none
    · exact z
    · have := just b z
      subst this
      rw [obj] at eo
      cases eo
      exact Data.noConfusion ed
  have nsH : ∀ {b : Addr} {m : Str → Option Value}, s1.heap.Ns b m → (hidT s1.heap G).Ns b m := by
    rintro b m ⟨o, es, ep, eo, ed, rest⟩
    exact ⟨o, es, ep, keepD eo ed, ed, rest⟩
  have inH : K.In (hidT s1.heap G) := by
    intro b o eo
    apply hidT_get (inK b o eo)
    by_cases z : G b = none
    · exact z
    · have q := just b z
      subst q
      rw [apart z] at eo
      cases eo
  obtain ⟨mc, l1, l2⟩ := noLim
  have env : Env0 P w K mg (hidT s1.heap G) callerA [] s1 G :=
    { frames := rfl, mod := ⟨inH, nsH nsM, ⟨mb, nsH nsB, boot⟩, ⟨mc, nsH l1, l2⟩⟩, bs := fun b o z => of_hidT z, bsz := by rw [hidT_size]; exact Nat.le_refl _, funs := trivial, frf := by intro b hb; simp [frs] at hb, hok := ok, bare := .of_eq noGen }
  have run := (F _ inH (nsH nsM)).runG callerA [] s1 G ⟨[.ref a], []⟩ [.ref a] [.ref a] (fun v _ => v = .bl true) (fun _ _ _ => False) rfl room env (bnd s1 (.ref a)) (.cons rfl .nil) (ask G only sq)
  apply codeAny_mono run
  intro r s' got
  match r, got with
  | .error e, ⟨_, _, _, _, _, _, _, _, _, _, _, _, z⟩ => exact z.elim
  | .ok .next, got => exact got.elim
  | .ok .brk, got => exact got.elim
  | .ok .cont, got => exact got.elim
  | .ok (.ret u), ⟨v, H', sameOs, bare, un, ok', rv, ev⟩ =>
    have ev : v = .bl true := ev
    subst ev
    have eu : u = Value.bool true := rv
    refine ⟨by rw [eu], OldK.of_keep ?_, sameOs, bare⟩
    intro b o eo
    rcases only b with z | ⟨ob, zs, z⟩
    · exact un.keep b o eo z (by simp [frs]) (by simp)
    · obtain ⟨e1, _⟩ := ok b _ z
      obtain ⟨e2, _⟩ := ok' b _ (un.frzs b ob _ z)
      rw [eo] at e1
      cases e1
      exact e2
end
/-- the goal that the head leaves -/
theorem endG {l : PySem.W.OpenLaw} {n k : Nat} {q : Program} {loose : List Str} {XP : (Str → Option Value) → Heap → Prop} {YP : World → Heap → Prop} {d : DefRec} {K : Params → PySem.W.Frag} {sp : World → Sp} {x : Str}
    (most : l.most = some n) (fits : n ≤ sizeLine) (plain : d.params.defaults = []) (room : Room k callerA) (says : ∀ (w : World) (h : Heap), YP w h → (K w.params).In h)
    (F : ∀ (w : World) (mg : Str → Option Value) (fa : Addr) (h : Heap), (K w.params).In h → h.Ns mainGlobals mg → mg d.name = some (.ref fa) → ∃ fd : FuncData, (∀ (s : Shared) (u : Value), BindsTo s fd ⟨[u], []⟩ [(x, u)]) ∧
        ∀ base : Heap, (K w.params).In base → base.Ns mainGlobals mg → FnOkG l.prog w (K w.params) mg base (L2.CX l.prog w) k fa fd [x] (sp w))
    (ask : ∀ (w : World) (H : Hp) (a : Addr) (ms : List Int), ms.length ≤ n → Only H → SqL (K w.params) H a (ms.map V.int) → sp w [.ref a] H (fun v _ => v = .bl true) fun _ _ _ => False) :
    PySem.W.WalkO q loose XP YP l.row.toRowW d [] (fun f vs => PySem.call f vs) := by
  apply Att.attach_call most plain
  intro w s0 s1 mg mb fa o pm cd doc a us ms gr yy _ _ _ named obj hin short noGen
  have inK := says w _ yy
  obtain ⟨fd, bnd, law⟩ := F w mg fa _ inK gr.T.g named
  have rel : Vals (ms.map V.int) us := vals_ints hin
  have len : us.length = ms.length := hin.length
  have fit : (ms.map V.int).length ≤ sizeLine := by rw [List.length_map]; exact Nat.le_trans short fits
  have go := fun (G : Hp) (o1 : Only G) (o2 : SqL (K w.params) G a (ms.map V.int)) (o3 : HOk l.prog w G s1.heap) o4 o5 =>
    endG_core inK gr.T.g gr.T.b gr.T.builtins gr.T.nolimit noGen obj room law bnd (fun H hO hS => ask w H a ms short hO hS) o1 o2 o3 o4 o5
  cases told : (K w.params).lookup a with
  | some ob =>
    have eo := inK a ob told
    rw [obj] at eo
    cases eo
    refine go (fun _ => none) (fun _ => .inl rfl) ?_ (fun b u z => nomatch (show (none : Option HO) = some u from z)) (fun b z => absurd rfl z) (fun z => absurd rfl z)
    exact .inr ⟨_, us.toArray, _, told, rfl, rfl, rfl, by rw [List.size_toArray, len, ← List.length_map (f := V.int)]; exact fit, by simpa using rel⟩
  | none =>
    let ob : Obj := { cls := .type "list", data := .seq us.toArray }
    let G : Hp := fun b => if b = a then some (.frz ob (.lst (ms.map V.int))) else none
    have at_ : G a = some (.frz ob (.lst (ms.map V.int))) := if_pos rfl
    have off : ∀ b, b ≠ a → G b = none := fun b z => if_neg z
    refine go G (fun b => ?_) (.inl (.inr ⟨ob, at_⟩)) (fun b u z => ?_) (fun b z => ?_) fun _ => told
    · by_cases z : b = a
      · subst z; exact .inr ⟨_, _, at_⟩
      · exact .inl (off b z)
    · by_cases y : b = a
      · subst y
        rw [at_] at z
        cases z
        exact ⟨obj, fit, us, _, rel, obj⟩
      · rw [off b y] at z; cases z
    · by_cases y : b = a
      · exact y
      · exact absurd (off b y) z
end L2
namespace Ab
open PySem L2
theorem kitCls_ref {K : PySem.W.Frag} {t : Value} {C : Addr} {b : Bool} (h1 : PySem.W.isClsIn K C = true) (h2 : PySem.W.typeIn K (.ref C) = some (.type "type")) (h3 : PySem.W.subIn K t (.ref C) = some b) : PySem.W.kitCls K t (.ref C) = some b := by
  have z : ((PySem.W.clsIn K C).isSome && PySem.W.typeIn K (.ref C) == some (.type "type")) = true := by
    rw [show (PySem.W.clsIn K C).isSome = true from h1, h2]; rfl
  unfold PySem.W.kitCls
  simp only [z, if_true]
  exact h3
theorem kitOne_yes {K : PySem.W.Frag} {t c : Value} (h : PySem.W.kitCls K t c = some true) : PySem.W.kitOne K t c = some true := by
  unfold PySem.W.kitOne
  split
  · rfl
  · exact h
theorem kitOne_other {K : PySem.W.Frag} {t c : Value} {b : Bool} (n : (t == c) = false) (h : PySem.W.kitCls K t c = some b) : PySem.W.kitOne K t c = some b := by
  unfold PySem.W.kitOne
  rw [n]; exact h
theorem kitCls_ty {K : PySem.W.Frag} {t : Value} {T : String} {b : Bool} (m : PySem.W.kitMeta T = true) (h : PySem.W.subIn K t (.type T) = some b) : PySem.W.kitCls K t (.type T) = some b := by
  unfold PySem.W.kitCls
  simp only [m, if_true]
  exact h
theorem exm_own {K : PySem.W.Frag} {t : Value} {C : Addr} {b : Bool} (e : PySem.W.subIn K (.ref C) (.type "BaseException") = some true) (h : PySem.W.kitCls K t (.ref C) = some b) : PySem.W.exmOne K t (.ref C) = some b := by
  unfold PySem.W.exmOne
  rw [e]; exact h
end Ab
namespace My
open PySem L2 Ab
def top (i : Nat) : Stmt := PySem.Challenge.pw_oncetwice_k01_wishes_judged_and_compared.main.body.getD i (.Pass ⟨0, 0, 0, 0⟩)
abbrev s_BadWish_init : Stmt := inClass (top 3) 0
abbrev N_BadWish_init : List Str := ["self", "part"]
theorem sc_BadWish_init : FnScope N_BadWish_init ["self", "part"] (defScope s_BadWish_init) := ⟨rfl, rfl, rfl, by decide +kernel, rfl, by decide +kernel, by decide +kernel⟩
abbrev s_is_whole : Stmt := top 5
abbrev N_is_whole : List Str := ["thing"]
theorem sc_is_whole : FnScope N_is_whole ["thing"] (defScope s_is_whole) := ⟨rfl, rfl, rfl, by decide +kernel, rfl, by decide +kernel, by decide +kernel⟩
abbrev s_is_from_to : Stmt := top 6
abbrev N_is_from_to : List Str := ["thing", "low", "high"]
theorem sc_is_from_to : FnScope N_is_from_to ["thing", "low", "high"] (defScope s_is_from_to) := ⟨rfl, rfl, rfl, by decide +kernel, rfl, by decide +kernel, by decide +kernel⟩
abbrev s_is_tuple_of : Stmt := top 7
abbrev N_is_tuple_of : List Str := ["thing", "many"]
theorem sc_is_tuple_of : FnScope N_is_tuple_of ["thing", "many"] (defScope s_is_tuple_of) := ⟨rfl, rfl, rfl, by decide +kernel, rfl, by decide +kernel, by decide +kernel⟩
abbrev s_is_number : Stmt := top 8
abbrev N_is_number : List Str := ["thing", "top", "bottom"]
theorem sc_is_number : FnScope N_is_number ["thing"] (defScope s_is_number) := ⟨rfl, rfl, rfl, by decide +kernel, rfl, by decide +kernel, by decide +kernel⟩
abbrev s_is_row : Stmt := top 9
abbrev N_is_row : List Str := ["thing", "many", "item"]
theorem sc_is_row : FnScope N_is_row ["thing", "many"] (defScope s_is_row) := ⟨rfl, rfl, rfl, by decide +kernel, rfl, by decide +kernel, by decide +kernel⟩
abbrev s_is_lot : Stmt := top 10
abbrev N_is_lot : List Str := ["thing", "many", "cell", "after"]
theorem sc_is_lot : FnScope N_is_lot ["thing", "many"] (defScope s_is_lot) := ⟨rfl, rfl, rfl, by decide +kernel, rfl, by decide +kernel, by decide +kernel⟩
abbrev s_Wish_init : Stmt := inClass (top 14) 0
abbrev N_Wish_init : List Str := ["self", "rows", "locked", "spare"]
theorem sc_Wish_init : FnScope N_Wish_init ["self", "rows", "locked", "spare"] (defScope s_Wish_init) := ⟨rfl, rfl, rfl, by decide +kernel, rfl, by decide +kernel, by decide +kernel⟩
abbrev s_Wish_eq : Stmt := inClass (top 14) 1
abbrev N_Wish_eq : List Str := ["self", "other"]
theorem sc_Wish_eq : FnScope N_Wish_eq ["self", "other"] (defScope s_Wish_eq) := ⟨rfl, rfl, rfl, by decide +kernel, rfl, by decide +kernel, by decide +kernel⟩
abbrev s_check_rows : Stmt := top 15
abbrev N_check_rows : List Str := ["rows", "cell", "row"]
theorem sc_check_rows : FnScope N_check_rows ["rows"] (defScope s_check_rows) := ⟨rfl, rfl, rfl, by decide +kernel, rfl, by decide +kernel, by decide +kernel⟩
abbrev s__law_pool : Stmt := top 17
abbrev N__law_pool : List Str := ["script", "seed", "cell"]
theorem sc__law_pool : FnScope N__law_pool ["script"] (defScope s__law_pool) := ⟨rfl, rfl, rfl, by decide +kernel, rfl, by decide +kernel, by decide +kernel⟩
abbrev s__law_draw : Stmt := top 18
abbrev N__law_draw : List Str := ["pool", "many", "cells", "digit", "mixed"]
theorem sc__law_draw : FnScope N__law_draw ["pool", "many"] (defScope s__law_draw) := ⟨rfl, rfl, rfl, by decide +kernel, rfl, by decide +kernel, by decide +kernel⟩
abbrev s__law_mixed : Stmt := top 19
abbrev N__law_mixed : List Str := ["pool", "things", "left", "put", "k"]
theorem sc__law_mixed : FnScope N__law_mixed ["pool", "things"] (defScope s__law_mixed) := ⟨rfl, rfl, rfl, by decide +kernel, rfl, by decide +kernel, by decide +kernel⟩
abbrev s__law_deep : Stmt := top 20
abbrev N__law_deep : List Str := ["thing", "turn"]
theorem sc__law_deep : FnScope N__law_deep [] (defScope s__law_deep) := ⟨rfl, rfl, rfl, by decide +kernel, rfl, by decide +kernel, by decide +kernel⟩
abbrev s__law_is : Stmt := top 21
abbrev N__law_is : List Str := ["told", "due"]
theorem sc__law_is : FnScope N__law_is ["told", "due"] (defScope s__law_is) := ⟨rfl, rfl, rfl, by decide +kernel, rfl, by decide +kernel, by decide +kernel⟩
abbrev s__law_low : Stmt := top 22
abbrev N__law_low : List Str := ["top", "bottom", "one", "other"]
theorem sc__law_low : FnScope N__law_low ["top", "bottom"] (defScope s__law_low) := ⟨rfl, rfl, rfl, by decide +kernel, rfl, by decide +kernel, by decide +kernel⟩
abbrev s__law_unit : Stmt := top 23
abbrev N__law_unit : List Str := ["size", "at", "place"]
theorem sc__law_unit : FnScope N__law_unit ["size", "at"] (defScope s__law_unit) := ⟨rfl, rfl, rfl, by decide +kernel, rfl, by decide +kernel, by decide +kernel⟩
abbrev s__law_number : Stmt := top 24
abbrev N__law_number : List Str := ["pool", "some"]
theorem sc__law_number : FnScope N__law_number ["pool"] (defScope s__law_number) := ⟨rfl, rfl, rfl, by decide +kernel, rfl, by decide +kernel, by decide +kernel⟩
abbrev s__law_some_row : Stmt := top 25
abbrev N__law_some_row : List Str := ["pool", "many", "cell", "kind", "row", "place"]
theorem sc__law_some_row : FnScope N__law_some_row ["pool", "many", "cell"] (defScope s__law_some_row) := ⟨rfl, rfl, rfl, by decide +kernel, rfl, by decide +kernel, by decide +kernel⟩
abbrev s__law_wish : Stmt := top 26
abbrev N__law_wish : List Str := ["pool", "most", "many", "kind", "rows", "locked", "cell", "source", "row"]
theorem sc__law_wish : FnScope N__law_wish ["pool", "most"] (defScope s__law_wish) := ⟨rfl, rfl, rfl, by decide +kernel, rfl, by decide +kernel, by decide +kernel⟩
abbrev s__law_made_wish : Stmt := top 27
abbrev N__law_made_wish : List Str := ["spec"]
theorem sc__law_made_wish : FnScope N__law_made_wish ["spec"] (defScope s__law_made_wish) := ⟨rfl, rfl, rfl, by decide +kernel, rfl, by decide +kernel, by decide +kernel⟩
abbrev s__law_is_int : Stmt := top 28
abbrev N__law_is_int : List Str := ["thing"]
theorem sc__law_is_int : FnScope N__law_is_int ["thing"] (defScope s__law_is_int) := ⟨rfl, rfl, rfl, by decide +kernel, rfl, by decide +kernel, by decide +kernel⟩
abbrev s__law_is_number : Stmt := top 29
abbrev N__law_is_number : List Str := ["thing"]
theorem sc__law_is_number : FnScope N__law_is_number ["thing"] (defScope s__law_is_number) := ⟨rfl, rfl, rfl, by decide +kernel, rfl, by decide +kernel, by decide +kernel⟩
abbrev s__law_due : Stmt := top 30
abbrev N__law_due : List Str := ["rows", "locked", "spare", "cell", "row", "right", "item"]
theorem sc__law_due : FnScope N__law_due ["rows", "locked", "spare"] (defScope s__law_due) := ⟨rfl, rfl, rfl, by decide +kernel, rfl, by decide +kernel, by decide +kernel⟩
abbrev s__law_tried : Stmt := top 31
abbrev N__law_tried : List Str := ["rows", "locked", "spare", "found", "made", "e"]
theorem sc__law_tried : FnScope N__law_tried ["rows", "locked", "spare"] (defScope s__law_tried) := ⟨rfl, rfl, rfl, by decide +kernel, rfl, by decide +kernel, by decide +kernel⟩
abbrev s__law_bent_row : Stmt := top 32
abbrev N__law_bent_row : List Str := ["pool", "row", "many", "odd", "at", "thing", "rows"]
theorem sc__law_bent_row : FnScope N__law_bent_row ["pool", "row", "many"] (defScope s__law_bent_row) := ⟨rfl, rfl, rfl, by decide +kernel, rfl, by decide +kernel, by decide +kernel⟩
abbrev s__law_bent : Stmt := top 33
abbrev N__law_bent : List Str := ["pool", "spec", "rows", "locked", "spare", "kind", "at", "some"]
theorem sc__law_bent : FnScope N__law_bent ["pool", "spec"] (defScope s__law_bent) := ⟨rfl, rfl, rfl, by decide +kernel, rfl, by decide +kernel, by decide +kernel⟩
abbrev s_law : Stmt := top 34
abbrev N_law : List Str := ["script", "pool", "specs", "turn", "spec", "bent", "one", "made", "other"]
theorem sc_law : FnScope N_law ["script"] (defScope s_law) := ⟨rfl, rfl, rfl, by decide +kernel, rfl, by decide +kernel, by decide +kernel⟩
local macro_rules | `(tactic| walk_at "den") => `(tactic| first
  | ((with_reducible refine' den_var ?h ?_); (case h => rfl))
  | with_reducible refine ifT ?_ | with_reducible refine ifF ?_
  | with_reducible refine den_int ?_ | with_reducible refine den_bl ?_ | with_reducible refine den_non ?_ | with_reducible refine den_str ?_ | with_reducible refine den_ty ?_
  | with_reducible refine dens_nil ?_ | with_reducible refine dens_seq ?_ | with_reducible refine dens_ret ?_ | with_reducible refine dens_if ?_ | with_reducible refine dens_asg ?_ | with_reducible refine dens_drop ?_ | with_reducible refine dens_raise ?_
  | with_reducible refine dena_nil ?_ | with_reducible refine dena_cons ?_
  | with_reducible refine den_and ?_ | with_reducible refine den_or ?_ | with_reducible refine den_not ?_ | with_reducible refine den_chain ?_ | with_reducible refine den_cb ?_ | with_reducible refine den_op ?_ | with_reducible refine den_tup ?_ | with_reducible refine den_un ?_ | with_reducible refine den_isN ?_ | with_reducible refine den_notN ?_
  | with_reducible refine dent_test ?_ | with_reducible refine dent_B ?_ | with_reducible refine dent_and ?_ | with_reducible refine dent_or ?_ | with_reducible refine dent_not ?_ | with_reducible refine dent_yes ?_
  | with_reducible refine den_fun ?_ | with_reducible refine den_l (denl_lst ?_) | with_reducible refine den_sl ?_ | with_reducible refine cad_lenS ?_ | with_reducible refine deno_none ?_ | with_reducible refine deno_some ?_
  | with_reducible refine deng_name ?_ | ((with_reducible refine' deng_tup ?h ?_); (case h => rfl)) | with_reducible refine dengs_cons ?_ | with_reducible refine dengs_nil ?_
  | with_reducible refine plus_int ?_ | with_reducible refine opd_b0 ?_ | with_reducible refine eqg_int ?_ | with_reducible refine neg_int ?_ | with_reducible refine opd_i0 ?_ | with_reducible refine und_neg ?_
  | with_reducible refine dens_retN ?_ | with_reducible refine dens_cont ?_ | with_reducible refine dens_break ?_ | with_reducible refine dens_par ?_ | with_reducible refine den_if ?_ | with_reducible refine den_dic ?_ | with_reducible refine den_cls ?_)
local macro_rules | `(tactic| walk_at "dem") => `(tactic| first
  | ((with_reducible refine' den_lenO ?h ?_); (case h => rfl)) | ((with_reducible refine' den_var ?h ?_); (case h => rfl))
  | with_reducible refine ifT ?_ | with_reducible refine ifF ?_
  | with_reducible refine den_int ?_ | with_reducible refine den_bl ?_ | with_reducible refine den_non ?_ | with_reducible refine den_str ?_ | with_reducible refine den_ty ?_
  | with_reducible refine dens_nil ?_ | with_reducible refine dens_seq ?_ | with_reducible refine dens_ret ?_ | with_reducible refine dens_if ?_ | with_reducible refine dens_drop ?_ | with_reducible refine dens_raise ?_
  | with_reducible refine dena_nil ?_ | with_reducible refine dena_cons ?_
  | with_reducible refine den_and ?_ | with_reducible refine den_or ?_ | with_reducible refine den_not ?_ | with_reducible refine den_chain ?_ | with_reducible refine den_cb ?_ | with_reducible refine den_op ?_ | with_reducible refine den_tup ?_ | with_reducible refine den_un ?_ | with_reducible refine den_isN ?_ | with_reducible refine den_notN ?_
  | with_reducible refine dent_test ?_ | with_reducible refine dent_B ?_ | with_reducible refine dent_and ?_ | with_reducible refine dent_or ?_ | with_reducible refine dent_not ?_ | with_reducible refine dent_yes ?_
  | with_reducible refine den_fun ?_ | with_reducible refine den_l (denl_lst ?_) | with_reducible refine den_sl ?_ | with_reducible refine cad_lenS ?_ | with_reducible refine deno_none ?_ | with_reducible refine deno_some ?_
  | with_reducible refine deng_name ?_ | ((with_reducible refine' deng_tup ?h ?_); (case h => rfl)) | with_reducible refine dengs_cons ?_ | with_reducible refine dengs_nil ?_
  | with_reducible refine plus_int ?_ | with_reducible refine opd_b0 ?_ | with_reducible refine eqg_int ?_ | with_reducible refine neg_int ?_ | with_reducible refine opd_i0 ?_ | with_reducible refine und_neg ?_
  | with_reducible refine dens_retN ?_ | with_reducible refine dens_cont ?_ | with_reducible refine dens_break ?_ | with_reducible refine dens_par ?_ | with_reducible refine den_if ?_ | with_reducible refine den_dic ?_ | with_reducible refine den_cls ?_)
local macro_rules | `(tactic| walk_at "fin") => `(tactic| (first | refine (show (_ : D) = _ from ?_) | skip))
structure Tx (mg : Str → Option Value) : Prop where
  ValueError : mg "ValueError" = none
  abs : mg "abs" = none
  all : mg "all" = none
  bool : mg "bool" = none
  enumerate : mg "enumerate" = none
  gcd : mg "gcd" = some (.builtin "math.gcd")
  int : mg "int" = none
  isinstance : mg "isinstance" = none
  len : mg "len" = none
  list : mg "list" = none
  range : mg "range" = none
  repr : mg "repr" = none
  set : mg "set" = none
  sorted : mg "sorted" = none
  sum : mg "sum" = none
  tuple : mg "tuple" = none
  zip : mg "zip" = none
  c_MOST_CELLS : ∃ u, mg "MOST_CELLS" = some u ∧ RelV (.int 6) u
  c_MOST_SPARE : ∃ u, mg "MOST_SPARE" = some u ∧ RelV (.int 2) u
def isWhole : D → Bool
  | .int _ => true
  | _ => false
def fromTo (lo hi : Int) : D → Bool
  | .int i => decide (lo ≤ i) && decide (i ≤ hi)
  | _ => false
def tupOf (n : Int) : D → Bool
  | .tup xs => decide ((xs.length : Int) = n)
  | _ => false
def numOk : D → Bool
  | .tup [.int a, .int b] => decide (1 ≤ b) && decide (Nat.gcd a.natAbs b.natAbs = 1)
  | _ => false
def rowOk (n : Int) : D → Bool
  | .tup xs => decide ((xs.length : Int) = n) && xs.all numOk
  | _ => false
abbrev f_is_whole : List D → D
  | [x] => .bl (isWhole x)
  | _ => .non
abbrev f_is_from_to : List D → D
  | [x, .int lo, .int hi] => .bl (fromTo lo hi x)
  | _ => .non
abbrev f_is_tuple_of : List D → D
  | [x, .int n] => .bl (tupOf n x)
  | _ => .non
abbrev f_is_number : List D → D
  | [x] => .bl (numOk x)
  | _ => .non
abbrev f_is_row : List D → D
  | [x, .int n] => .bl (rowOk n x)
  | _ => .non
abbrev S_is_whole := fun_spec (fun ds => ∃ x, ds = [x] ∧ kD x = true) f_is_whole
abbrev S_is_from_to := fun_spec (fun ds => ∃ x lo hi, ds = [x, .int lo, .int hi] ∧ kD x = true) f_is_from_to
abbrev S_is_tuple_of := fun_spec (fun ds => ∃ x n, ds = [x, .int n] ∧ kD x = true) f_is_tuple_of
abbrev S_is_number := fun_spec (fun ds => ∃ x, ds = [x] ∧ kD x = true) f_is_number
abbrev S_is_row := fun_spec (fun ds => ∃ x n, ds = [x, .int n] ∧ kD x = true) f_is_row
def pairLt : D → Bool
  | .tup [.int a, .int b] => decide (a < b)
  | _ => false
def lotOk (n : Int) : D → Bool
  | .tup xs => xs.all (fromTo 0 (n - 1)) && (zipD xs (xs.drop 1)).all pairLt
  | _ => false
abbrev f_is_lot : List D → D
  | [x, .int n] => .bl (lotOk n x)
  | _ => .non
abbrev S_is_lot := fun_spec (fun ds => ∃ x n, ds = [x, .int n] ∧ kD x = true) f_is_lot
/-- an item of rows that is neither None nor a row -/
def badRow (n : Int) : D → Bool
  | .non => false
  | d => !rowOk n d
def badRows : D → Option D
  | .tup xs => if 1 ≤ xs.length ∧ xs.length ≤ 6 then (xs.findIdx? (badRow xs.length)).map fun i => .tup [.str "row", .int (i : Nat)] else some (.tup [.str "rows"])
  | _ => some (.tup [.str "rows"])
abbrev S_check_rows (C : Addr) : FSpec := ⟨fun ds => ∃ x, ds = [x] ∧ kD x = true, fun ds r => ∃ x, ds = [x] ∧ badRows x = none ∧ r = .non, fun ds er => ∃ x q, ds = [x] ∧ badRows x = some q ∧ er = ⟨C, ["part"], [q]⟩⟩
def lenD : D → Int
  | .tup xs => xs.length
  | _ => 0
def dueW (r l s : D) : Option D :=
  match badRows r with
  | some p => some p
  | none => if lotOk (lenD r) l = true then (if fromTo 0 2 s = true then none else some (.tup [.str "spare"])) else some (.tup [.str "locked"])
abbrev S_Wish (C : Addr) : ISpec := ⟨["rows", "locked", "spare"], fun ds => ∃ r l s, ds = [r, l, s] ∧ kD r = true ∧ kD l = true ∧ kD s = true,
  fun ds fs => ∃ r l s, ds = [r, l, s] ∧ dueW r l s = none ∧ fs = [r, l, s], fun ds er => ∃ r l s p, ds = [r, l, s] ∧ dueW r l s = some p ∧ er = ⟨C, ["part"], [p]⟩⟩
section
variable {P : Program} {w : World} {K : PySem.W.Frag} {mg : Str → Option Value} {base : Heap}
theorem ok_is_whole {f : Addr} {fd : FuncData} (F : Fun K "is_whole" "is_whole" s_is_whole f fd) (T : Tx mg) : FnOk P w K mg base (L2.CX P w) 1 f fd ["thing"] (spS K 1 S_is_whole) := by
  refine fn_ab F sc_is_whole S_is_whole (by decide) fun cdv A outer s H E ds W hr tk hn hp => ?_
  refine ⟨_, (pss_one (ps_ret (pe_and (pe_callB (k_isi K) rfl T.isinstance (by decide +kernel) (pa_cons (pv 0) (pa_cons (pe_bltn (v := .ty "int") rfl T.int (by decide +kernel) rfl) pa_nil))) (pe_one (pe_not (pe_callB (k_isi K) rfl T.isinstance (by decide +kernel) (pa_cons (pv 0) (pa_cons (pe_bltn (v := .ty "bool") rfl T.bool (by decide +kernel) rfl) pa_nil)))))))), ?_⟩
  rintro Z rfl rfl hX
  obtain ⟨x, rfl, hx⟩ := hp
  repeat walk_at "den"
  refine cad_is hx (by simp) ⟨_, rfl, ite_b (fun h => ?_) fun h => ?_⟩
  · repeat walk_at "den"
    refine cad_is hx (by simp) ⟨_, rfl, ?_⟩
    walk_at "fin"; cases x <;> simp_all [isTy, isWhole, f_is_whole]
  · walk_at "fin"; cases x <;> simp_all [isTy, isWhole, f_is_whole]
theorem ok_is_from_to {f : Addr} {fd : FuncData} (F : Fun K "is_from_to" "is_from_to" s_is_from_to f fd) (T : Tx mg) (c_is_whole : Dfn P w K mg base "is_whole" 1 1 S_is_whole) : FnOk P w K mg base (L2.CX P w) 2 f fd ["thing", "low", "high"] (spS K 3 S_is_from_to) := by
  refine fn_ab F sc_is_from_to S_is_from_to (by decide) fun cdv A outer s H E ds W hr tk hn hp => ?_
  refine ⟨_, (pss_one (ps_ret (pe_and (kc_fn c_is_whole hr (by decide) ⟨rfl, rfl, rfl, rfl, rfl⟩ rfl (pa_cons (pv 0) pa_nil)) (pe_one (pe_chain op_le op_le (pv 1) (pv 0) (pv 2)))))), ?_⟩
  rintro Z rfl rfl hX
  obtain ⟨x, lo, hi, rfl, hx⟩ := hp
  repeat walk_at "den"
  refine ⟨rfl, ⟨x, rfl, hx⟩, _, rfl, ite_b (fun h => ?_) fun h => ?_⟩
  · obtain ⟨i, rfl⟩ : ∃ i, x = .int i := by cases x <;> simp_all [isWhole]
    repeat walk_at "den"
    refine ⟨_, rfl, ite_b (fun h => ?_) fun h => ?_⟩
    · repeat walk_at "den"
      walk_at "fin"; simp_all [f_is_from_to, fromTo]
    · walk_at "fin"; simp_all [f_is_from_to, fromTo]; try omega
  · walk_at "fin"; cases x <;> simp_all [isWhole, fromTo, f_is_from_to]
theorem ok_is_tuple_of {f : Addr} {fd : FuncData} (F : Fun K "is_tuple_of" "is_tuple_of" s_is_tuple_of f fd) (T : Tx mg) : FnOk P w K mg base (L2.CX P w) 1 f fd ["thing", "many"] (spS K 2 S_is_tuple_of) := by
  refine fn_ab F sc_is_tuple_of S_is_tuple_of (by decide) fun cdv A outer s H E ds W hr tk hn hp => ?_
  refine ⟨_, (pss_one (ps_ret (pe_and (pe_callB (k_isi K) rfl T.isinstance (by decide +kernel) (pa_cons (pv 0) (pa_cons (pe_bltn (v := .ty "tuple") rfl T.tuple (by decide +kernel) rfl) pa_nil))) (pe_one (pe_cmpR (k_eq K hr.units) (pe_callB (k_len K) rfl T.len (by decide +kernel) (pa_cons (pv 0) pa_nil)) (pv 1) (nomark _)))))), ?_⟩
  rintro Z rfl rfl hX
  obtain ⟨x, n, rfl, hx⟩ := hp
  repeat walk_at "den"
  refine cad_is hx (by simp) ⟨_, rfl, ite_b (fun h => ?_) fun h => ?_⟩
  · obtain ⟨xs, rfl⟩ : ∃ xs, x = .tup xs := by cases x <;> simp_all [isTy]
    repeat walk_at "den"
    refine cad_lenT ?_
    repeat walk_at "den"
    walk_at "fin"; simp [f_is_tuple_of, tupOf]
  · walk_at "fin"; cases x <;> simp_all [isTy, tupOf, f_is_tuple_of]
theorem ok_is_number {f : Addr} {fd : FuncData} (F : Fun K "is_number" "is_number" s_is_number f fd) (T : Tx mg) (c_is_whole : Dfn P w K mg base "is_whole" 1 1 S_is_whole) (c_is_tuple_of : Dfn P w K mg base "is_tuple_of" 1 2 S_is_tuple_of) : FnOk P w K mg base (L2.CX P w) 2 f fd ["thing"] (spS K 1 S_is_number) := by
  refine fn_ab F sc_is_number S_is_number (by decide) fun cdv A outer s H E ds W hr tk hn hp => ?_
  refine ⟨_, (pss_cons (ps_if (pt_not (pt_val (kc_fn c_is_tuple_of hr (by decide) ⟨rfl, rfl, rfl, rfl, rfl⟩ rfl (pa_cons (pv 0) (pa_cons pe_int pa_nil))))) (pss_one (ps_ret pe_bl)) pss_nil)
      (pss_cons (ps_asg (pv 0) (kg_tup (n := 2) K rfl (pgs_cons (pg_name (i := 1) sc_is_number.nd rfl (Or.inl rfl)) (pgs_cons (pg_name (i := 2) sc_is_number.nd rfl (Or.inl rfl)) pgs_nil))))
      (pss_one (ps_ret (pe_and (kc_fn c_is_whole hr (by decide) ⟨rfl, rfl, rfl, rfl, rfl⟩ rfl (pa_cons (pv 1) pa_nil)) (pe_and (kc_fn c_is_whole hr (by decide) ⟨rfl, rfl, rfl, rfl, rfl⟩ rfl (pa_cons (pv 2) pa_nil)) (pe_and (pe_cmpR op_ge (pv 2) pe_int (nomark _)) (pe_one (pe_cmpR (k_eq K hr.units) (pe_callBfun cr_gcd rfl T.gcd (pa_cons (pv 1) (pa_cons (pv 2) pa_nil))) pe_int (nomark _)))))))))), ?_⟩
  rintro Z rfl rfl hX
  obtain ⟨x, rfl, hx⟩ := hp
  repeat walk_at "den"
  refine ⟨rfl, ⟨x, 2, rfl, hx⟩, _, rfl, ite_b (fun h => ?_) fun h => ?_⟩
  · repeat walk_at "den"
    cases x with
    | tup xs => match xs, h with
      | [], _ => (walk_at "fin"; simp [f_is_number, numOk])
      | [_], _ => (walk_at "fin"; simp [f_is_number, numOk])
      | [_, _], h => simp [tupOf] at h
      | _ :: _ :: _ :: _, _ => (walk_at "fin"; simp [f_is_number, numOk])
    | _ => (walk_at "fin"; simp [f_is_number, numOk])
  · obtain ⟨a, b, rfl⟩ : ∃ a b, x = .tup [a, b] := by
      cases x with
      | tup xs => match xs, h with
        | [], h => simp [tupOf] at h
        | [_], h => simp [tupOf] at h
        | [a, b], _ => exact ⟨a, b, rfl⟩
        | _ :: _ :: _ :: _, h => simp [tupOf] at h; omega
      | _ => simp [tupOf] at h
    have ha : kD a = true := kD_tup hx a (by simp)
    have hb : kD b = true := kD_tup hx b (by simp)
    repeat walk_at "den"
    refine ⟨rfl, ⟨a, rfl, ha⟩, _, rfl, ite_b (fun h1 => ?_) fun h1 => ?_⟩
    · obtain ⟨i, rfl⟩ : ∃ i, a = .int i := by cases a <;> simp_all [isWhole]
      repeat walk_at "den"
      refine ⟨rfl, ⟨b, rfl, hb⟩, _, rfl, ite_b (fun h2 => ?_) fun h2 => ?_⟩
      · obtain ⟨j, rfl⟩ : ∃ j, b = .int j := by cases b <;> simp_all [isWhole]
        repeat walk_at "den"
        refine ⟨_, rfl, ite_b (fun h3 => ?_) fun h3 => ?_⟩
        · repeat walk_at "den"
          refine cad_gcd ?_
          repeat walk_at "den"
          walk_at "fin"; simp_all [f_is_number, numOk]; omega
        · walk_at "fin"; simp_all [f_is_number, numOk]; omega
      · walk_at "fin"; cases b <;> simp_all [f_is_number, numOk, isWhole]
    · walk_at "fin"; cases a <;> simp_all [f_is_number, numOk, isWhole]
theorem no_own1 {Γ : List B} {k : Nat} (h : ¬ IsOwn Γ[k]?) : ∀ i ∈ [k], ¬ IsOwn Γ[i]? := fun i hi => by
  have e : i = k := by simpa using hi
  rw [e]; exact h
theorem no_own2 {Γ : List B} {k l : Nat} (h : ¬ IsOwn Γ[k]?) (h' : ¬ IsOwn Γ[l]?) : ∀ i ∈ [k, l], ¬ IsOwn Γ[i]? := fun i hi => by
  have e : i = k ∨ i = l := by simpa using hi
  rcases e with e | e
  · rw [e]; exact h
  · rw [e]; exact h'
theorem ok_is_row {f : Addr} {fd : FuncData} (F : Fun K "is_row" "is_row" s_is_row f fd) (T : Tx mg) (c_is_number : Dfn P w K mg base "is_number" 2 1 S_is_number) (c_is_tuple_of : Dfn P w K mg base "is_tuple_of" 1 2 S_is_tuple_of) : FnOk P w K mg base (L2.CX P w) 3 f fd ["thing", "many"] (spS K 2 S_is_row) := by
  refine fn_ab F sc_is_row S_is_row (by decide) fun cdv A outer s H E ds W hr tk hn hp => ?_
  refine ⟨_, (pss_one (ps_ret (pe_and (kc_fn c_is_tuple_of hr (by decide) ⟨rfl, rfl, rfl, rfl, rfl⟩ rfl (pa_cons (pv 0) (pa_cons (pv 1) pa_nil))) (pe_one (pe_callB (k_all K rfl) rfl T.all (by decide +kernel) (pa_cons (pe_lc (own := [("item", 2)]) rfl sc_is_row.nd (ki_seq K (pv 0)) (blkOk_by (own := [("item", 2)]) (N := N_is_row) (sc := defScope s_is_row) (by decide +kernel))
        (fun _ _ _ _ _ => (pg_name (i := 2) sc_is_row.nd rfl (Or.inl rfl))) (fun _ _ _ _ _ => pts_nil) (fun _ _ _ _ _ => (kc_fn c_is_number hr (by decide) ⟨rfl, rfl, rfl, rfl, rfl⟩ rfl (pa_cons (pv 2) pa_nil)))) pa_nil)))))), ?_⟩
  rintro Z rfl rfl hX
  obtain ⟨x, n, rfl, hx⟩ := hp
  repeat walk_at "den"
  refine ⟨rfl, ⟨x, n, rfl, hx⟩, _, rfl, ite_b (fun h => ?_) fun h => ?_⟩
  · obtain ⟨xs, rfl⟩ : ∃ xs, x = .tup xs := by cases x <;> simp_all [tupOf]
    have hl := kD_len hx
    repeat walk_at "den"
    refine den_l (denl_map (goff_name (by simp)) gmono_name (deni_seq (den_var rfl ⟨xs, .inr rfl, no_own1 (fun z => z), by omega, fun x => .bl (numOk x), fun i d hd => ?_, ?_⟩)))
    · refine deng_name ⟨rfl, no_own1 (fun z => z), ?_⟩
      repeat walk_at "den"
      exact ⟨rfl, ⟨d, rfl, kD_tup hx d (List.mem_of_getElem? hd)⟩, rfl, rfl⟩
    · repeat walk_at "den"
      have e : List.map (fun x => D.bl (numOk x)) xs = (xs.map numOk).map D.bl := by rw [List.map_map]; rfl
      rw [e]
      refine cad_all ?_
      walk_at "fin"
      simp_all [f_is_row, rowOk, tupOf, List.all_map]
  · walk_at "fin"; cases x <;> simp_all [tupOf, rowOk, f_is_row]
theorem ok_is_lot {f : Addr} {fd : FuncData} (F : Fun K "is_lot" "is_lot" s_is_lot f fd) (T : Tx mg) (c_is_from_to : Dfn P w K mg base "is_from_to" 2 3 S_is_from_to) : FnOk P w K mg base (L2.CX P w) 3 f fd ["thing", "many"] (spS K 2 S_is_lot) := by
  refine fn_ab F sc_is_lot S_is_lot (by decide) fun cdv A outer s H E ds W hr tk hn hp => ?_
  refine ⟨_, (pss_cons (ps_if (PW.pt (pw_or (pt_not (pt_val (pe_callB (k_isi K) rfl T.isinstance (by decide +kernel) (pa_cons (pv 0) (pa_cons (pe_bltn (v := .ty "tuple") rfl T.tuple (by decide +kernel) rfl) pa_nil))))) (pw_or1 (pt_not (pt_val (pe_callB (k_all K rfl) rfl T.all (by decide +kernel) (pa_cons (pe_lc (own := [("cell", 2)]) rfl sc_is_lot.nd (ki_seq K (pv 0)) (blkOk_by (own := [("cell", 2)]) (N := N_is_lot) (sc := defScope s_is_lot) (by decide +kernel))
        (fun _ _ _ _ _ => (pg_name (i := 2) sc_is_lot.nd rfl (Or.inl rfl))) (fun _ _ _ _ _ => pts_nil) (fun _ _ _ _ _ => (kc_fn c_is_from_to hr (by decide) ⟨rfl, rfl, rfl, rfl, rfl⟩ rfl (pa_cons (pv 2) (pa_cons pe_int (pa_cons (pe_op op_sub (pv 1) pe_int) pa_nil)))))) pa_nil))))))) (pss_one (ps_ret pe_bl)) pss_nil)
      (pss_one (ps_ret (pe_callB (k_all K rfl) rfl T.all (by decide +kernel) (pa_cons (pe_lc (own := [("cell", 2), ("after", 3)]) rfl sc_is_lot.nd (ki_zip K rfl T.zip (pa_cons (pv 0) (pa_cons (pe_slice (k_sl K) (pv 0) (po_some pe_int) po_none) pa_nil))) (blkOk_by (own := [("cell", 2), ("after", 3)]) (N := N_is_lot) (sc := defScope s_is_lot) (by decide +kernel))
        (fun _ _ _ _ _ => (kg_tup (n := 2) K rfl (pgs_cons (pg_name (i := 2) sc_is_lot.nd rfl (Or.inl rfl)) (pgs_cons (pg_name (i := 3) sc_is_lot.nd rfl (Or.inl rfl)) pgs_nil)))) (fun _ _ _ _ _ => pts_nil) (fun _ _ _ _ _ => (pe_cmpR op_lt (pv 2) (pv 3) (nomark _)))) pa_nil))))), ?_⟩
  rintro Z rfl rfl hX
  obtain ⟨x, n, rfl, hx⟩ := hp
  repeat walk_at "den"
  refine cad_is hx (by simp) ⟨_, rfl, ite_b (fun h => ?_) fun h => ?_⟩
  · repeat walk_at "den"
    walk_at "fin"; cases x <;> simp_all [isTy, lotOk, f_is_lot]
  · obtain ⟨xs, rfl⟩ : ∃ xs, x = .tup xs := by cases x <;> simp_all [isTy]
    have hl := kD_len hx
    repeat walk_at "den"
    refine den_l (denl_map (goff_name (by simp)) gmono_name (deni_seq (den_var rfl ⟨xs, .inr rfl, no_own1 (fun z => z), by omega, fun x => .bl (fromTo 0 (n - 1) x), fun i d hd => ?_, ?_⟩)))
    · refine deng_name ⟨rfl, no_own1 (fun z => z), ?_⟩
      repeat walk_at "den"
      exact ⟨rfl, ⟨d, _, _, rfl, kD_tup hx d (List.mem_of_getElem? hd)⟩, rfl, rfl⟩
    · repeat walk_at "den"
      have e : List.map (fun x => D.bl (fromTo 0 (n - 1) x)) xs = (xs.map (fromTo 0 (n - 1))).map D.bl := by rw [List.map_map]; rfl
      rw [e]
      refine cad_all ⟨_, rfl, ite_b (fun h2 => ?_) fun h2 => ?_⟩
      · repeat walk_at "den"
        walk_at "fin"
        have : xs.all (fromTo 0 (n - 1)) = false := by simpa [List.all_map, Function.comp_def] using h2
        simp [f_is_lot, lotOk, this]
      · repeat walk_at "den"
        have hall : ∀ d ∈ xs, fromTo 0 (n - 1) d = true := by simpa [List.all_map, Function.comp_def] using h2
        refine den_l (denl_map (goff_tup (gsoff_cons (goff_name (by simp)) gmono_name (gsoff_cons (goff_name (by simp)) gmono_name gsoff_nil gsmono_nil) (gsmono_cons gmono_name gsmono_nil))) (gmono_tup (gsmono_cons gmono_name (gsmono_cons gmono_name gsmono_nil))) (deni_zip ?_))
        repeat walk_at "den"
        refine ⟨1, rfl, ?_⟩
        repeat walk_at "den"
        refine ⟨_, rfl, ?_⟩
        repeat walk_at "den"
        have e1 : cutD xs (some 1) none = xs.drop 1 := cut_from xs 1
        rw [e1]
        refine ⟨xs, xs.drop 1, .inl rfl, no_own2 (fun z => z) (fun z => z), by rw [zipD_len]; omega, fun d => .bl (pairLt d), fun i d hd => ?_, ?_⟩
        · obtain ⟨a, b, ha, hb, rfl⟩ := zipD_inv hd
          have h3 := hall a (List.mem_of_getElem? ha)
          have h4 := hall b (List.mem_of_mem_drop (List.mem_of_getElem? hb))
          obtain ⟨u, rfl⟩ : ∃ u, a = .int u := by cases a <;> simp_all [fromTo]
          obtain ⟨v, rfl⟩ : ∃ v, b = .int v := by cases b <;> simp_all [fromTo]
          refine deng_tup rfl (dengs_cons (deng_name (dengs_cons (deng_name (dengs_nil ⟨rfl, no_own2 (fun z => z) (fun z => z), ?_⟩)))))
          repeat walk_at "den"
          exact ⟨rfl, rfl⟩
        · repeat walk_at "den"
          have e2 : List.map (fun d => D.bl (pairLt d)) (zipD xs (xs.drop 1)) = ((zipD xs (xs.drop 1)).map pairLt).map D.bl := by rw [List.map_map]; rfl
          rw [e2]
          refine cad_all ?_
          walk_at "fin"
          have : xs.all (fromTo 0 (n - 1)) = true := by simpa using hall
          simp [f_is_lot, lotOk, this, List.all_map, Function.comp_def]
end
section
variable {P : Program} {w : World} {K : PySem.W.Frag} {mg : Str → Option Value} {base : Heap}
theorem ok_BadWish {fI C : Addr} {fd : FuncData} (F : Fun K "__init__" "BadWish.__init__" s_BadWish_init fI fd) (O : OexC K C) (hno : PySem.W.findIn K (.ref C) "part" = some none) : FnOk P w K mg base (L2.CX P w) 1 fI fd ["self", "part"] (spXI C "part") :=
  init_x F sc_BadWish_init O hno (fun cdv A outer s H E => pss_one (ps_ost (pv 0) (pv 1))) (by decide)
theorem badRows_at {xs : List D} {i : Nat} {d : D} (h1 : 1 ≤ xs.length ∧ xs.length ≤ 6) (h : xs[i]? = some d) (hb : badRow xs.length d = true) (hn : ∀ m < i, ∀ d, xs[m]? = some d → badRow xs.length d = false) : badRows (.tup xs) = some (.tup [.str "row", .int (i : Nat)]) := by
  have e : xs.findIdx? (badRow xs.length) = some i := by
    obtain ⟨hi, hg⟩ := List.getElem?_eq_some_iff.mp h
    rw [List.findIdx?_eq_some_iff_getElem]
    refine ⟨hi, by rw [hg]; exact hb, fun m hm => ?_⟩
    have := hn m hm xs[m] (by simp)
    simp [this]
  simp only [badRows]
  rw [if_pos h1, e]; rfl
theorem badRows_no {xs : List D} (h1 : 1 ≤ xs.length ∧ xs.length ≤ 6) (hn : ∀ m < xs.length, ∀ d, xs[m]? = some d → badRow xs.length d = false) : badRows (.tup xs) = none := by
  have e : xs.findIdx? (badRow xs.length) = none := by
    rw [List.findIdx?_eq_none_iff]
    intro x hx
    obtain ⟨m, hm, e⟩ := List.getElem_of_mem hx
    exact hn m hm x (by rw [List.getElem?_eq_getElem hm, e])
  simp only [badRows]
  rw [if_pos h1, e]; rfl
theorem ok_check_rows {f C : Addr} {fd : FuncData} (F : Fun K "check_rows" "check_rows" s_check_rows f fd) (T : Tx mg) (x_BadWish : Exn1 P w K mg base "BadWish" C "part") (c_is_row : Dfn P w K mg base "is_row" 3 2 S_is_row) : FnOk P w K mg base (L2.CX P w) 4 f fd ["rows"] (spS K 1 (S_check_rows C)) := by
  refine fn_ab F sc_check_rows (S_check_rows C) (by decide) fun cdv A outer s H E ds W hr tk hn hp => ?_
  refine ⟨_, (pss_cons (ps_if (PW.pt (pw_or (pt_not (pt_val (pe_callB (k_isi K) rfl T.isinstance (by decide +kernel) (pa_cons (pv 0) (pa_cons (pe_bltn (v := .ty "tuple") rfl T.tuple (by decide +kernel) rfl) pa_nil))))) (pw_or1 (pt_not (pt_chain op_le op_le pe_int (pe_callB (k_len K) rfl T.len (by decide +kernel) (pa_cons (pv 0) pa_nil)) (kg_c (v := .int 6) rfl T.c_MOST_CELLS)))))) (pss_one (ks_raise rfl tk x_BadWish hr (by decide) ⟨rfl, rfl, rfl, rfl, rfl⟩ rfl (pa_cons (pe_tup (pa_cons pe_str pa_nil)) pa_nil))) pss_nil)
      (pss_one (ps_for (passes_of rfl) rfl (ki_enum K rfl T.enumerate (pa_cons (pv 0) pa_nil)) (kg_tup (n := 2) K rfl (pgs_cons (pg_name (i := 1) sc_check_rows.nd rfl (Or.inl rfl)) (pgs_cons (pg_name (i := 2) sc_check_rows.nd rfl (Or.inl rfl)) pgs_nil)))
      (pss_one (ps_if (PW.pt (pw_and (pt_cmp (pc_notN (pv 2))) (pw_and1 (pt_not (pt_val (kc_fn c_is_row hr (by decide) ⟨rfl, rfl, rfl, rfl, rfl⟩ rfl (pa_cons (pv 2) (pa_cons (pe_callB (k_len K) rfl T.len (by decide +kernel) (pa_cons (pv 0) pa_nil)) pa_nil)))))))) (pss_one (ks_raise rfl tk x_BadWish hr (by decide) ⟨rfl, rfl, rfl, rfl, rfl⟩ rfl (pa_cons (pe_tup (pa_cons pe_str (pa_cons (pv 1) pa_nil))) pa_nil))) pss_nil))))), ?_⟩
  rintro Z rfl rfl hX
  obtain ⟨x, rfl, hx⟩ := hp
  have raise1 : badRows x = some (.tup [.str "rows"]) → ∀ Γ, Z.X ⟨C, ["part"], [.tup [.str "rows"]]⟩ Γ := fun e Γ => hX _ Γ ⟨x, _, rfl, e, rfl⟩
  repeat walk_at "den"
  refine cad_is hx (by simp) ⟨_, rfl, ite_b (fun h => ?_) fun h => ?_⟩
  · repeat walk_at "den"
    refine ⟨by decide, raise1 ?_ _⟩
    cases x <;> simp_all [isTy, badRows]
  · obtain ⟨xs, rfl⟩ : ∃ xs, x = .tup xs := by cases x <;> simp_all [isTy]
    have hl := kD_len hx
    repeat walk_at "den"
    refine cad_lenT ?_
    repeat walk_at "den"
    refine ⟨_, rfl, ite_b (fun h1 => ?_) fun h1 => ?_⟩
    · repeat walk_at "den"
      refine ⟨_, rfl, ite_b (fun h2 => ?_) fun h2 => ?_⟩
      · repeat walk_at "den"
        refine ⟨by decide, raise1 ?_ _⟩
        simp at h1 h2
        simp only [badRows]
        rw [if_neg (by omega)]
      · have hlen : 1 ≤ xs.length ∧ xs.length ≤ 6 := by simp at h1 h2; omega
        repeat walk_at "den"
        refine dens_for (deni_enumT ?_)
        repeat walk_at "den"
        refine ⟨xs, .inl rfl, fun i Γ => (∃ b1 b2, Γ = [.d (.tup xs), b1, b2]) ∧ ∀ m < i, ∀ d, xs[m]? = some d → badRow xs.length d = false, ⟨⟨_, _, rfl⟩, fun m hm => absurd hm (Nat.not_lt_zero _)⟩, ?_, ?_⟩
        · rintro i d Γ hd ⟨⟨b1, b2, rfl⟩, hno⟩
          obtain ⟨r, hr', rfl⟩ := enumD_inv hd
          have hkr := kD_tup hx r (List.mem_of_getElem? hr')
          have good : badRow xs.length r = false → ∀ m < i + 1, ∀ d, xs[m]? = some d → badRow xs.length d = false := fun e m hm d' hd' => by
            rcases Nat.lt_or_ge m i with h | h
            · exact hno m h d' hd'
            · obtain rfl : m = i := by omega
              rw [hr'] at hd'; cases hd'; exact e
          repeat walk_at "den"
          refine ⟨_, rfl, ite_b (fun h3 => ?_) fun h3 => ?_⟩
          · repeat walk_at "den"
            refine cad_lenT ?_
            repeat walk_at "den"
            refine ⟨rfl, ⟨r, _, rfl, hkr⟩, _, rfl, ite_b (fun h4 => ?_) fun h4 => ?_⟩
            · repeat walk_at "den"
              refine ⟨by simp, hX _ _ ⟨.tup xs, _, rfl, badRows_at hlen hr' ?_ hno, rfl⟩⟩
              cases r <;> simp_all [badRow]
            · repeat walk_at "den"
              refine ⟨⟨_, _, rfl⟩, good ?_⟩
              cases r <;> simp_all [badRow]
          · repeat walk_at "den"
            refine ⟨⟨_, _, rfl⟩, good ?_⟩
            cases r <;> simp_all [badRow]
        · rintro Γ ⟨⟨b1, b2, rfl⟩, hno⟩
          rw [enumD_len] at hno
          repeat walk_at "den"
          exact ⟨_, rfl, badRows_no hlen hno, rfl⟩
    · refine ⟨_, rfl, ifT ?_⟩
      repeat walk_at "den"
      refine ⟨by decide, raise1 ?_ _⟩
      simp at h1
      simp only [badRows]
      rw [if_neg (by omega)]
theorem ok_Wish_init {fI Cw C : Addr} {fd : FuncData} (F : Fun K "__init__" "Wish.__init__" s_Wish_init fI fd) (T : Tx mg) (hc : Cls K Cw) (n1 : NoAttr K Cw "rows") (n2 : NoAttr K Cw "locked") (n3 : NoAttr K Cw "spare") (x_BadWish : Exn1 P w K mg base "BadWish" C "part")
    (c_check_rows : Dfn P w K mg base "check_rows" 4 1 (S_check_rows C)) (c_is_lot : Dfn P w K mg base "is_lot" 3 2 S_is_lot) (c_is_from_to : Dfn P w K mg base "is_from_to" 2 3 S_is_from_to) : FnOk P w K mg base (L2.CX P w) 5 fI fd ["self", "rows", "locked", "spare"] (spI K Cw 3 (S_Wish C)) := by
  refine init_ab F sc_Wish_init (S_Wish C) (by decide) rfl fun cdv A outer s H E x ds W hr tk hn hp => ?_
  refine ⟨_, (pss_cons (ps_expr (kc_fnX tk c_check_rows hr (by decide) ⟨rfl, rfl, rfl, rfl, rfl⟩ rfl (pa_cons (pv 1) pa_nil)))
      (pss_cons (ps_if (pt_not (pt_val (kc_fn c_is_lot hr (by decide) ⟨rfl, rfl, rfl, rfl, rfl⟩ rfl (pa_cons (pv 2) (pa_cons (pe_callB (k_len K) rfl T.len (by decide +kernel) (pa_cons (pv 1) pa_nil)) pa_nil))))) (pss_one (ks_raise rfl tk x_BadWish hr (by decide) ⟨rfl, rfl, rfl, rfl, rfl⟩ rfl (pa_cons (pe_tup (pa_cons pe_str pa_nil)) pa_nil))) pss_nil)
      (pss_cons (ps_if (pt_not (pt_val (kc_fn c_is_from_to hr (by decide) ⟨rfl, rfl, rfl, rfl, rfl⟩ rfl (pa_cons (pv 3) (pa_cons pe_int (pa_cons (kg_c (v := .int 2) rfl T.c_MOST_SPARE) pa_nil)))))) (pss_one (ks_raise rfl tk x_BadWish hr (by decide) ⟨rfl, rfl, rfl, rfl, rfl⟩ rfl (pa_cons (pe_tup (pa_cons pe_str pa_nil)) pa_nil))) pss_nil)
      (pss_cons (ks_fld K (pv 0) (pv 1))
      (pss_cons (ks_fld K (pv 0) (pv 2))
      (pss_one (ks_fld K (pv 0) (pv 3)))))))), ?_⟩
  rintro Z rfl rfl hX
  obtain ⟨r, l, s', rfl, kr, kl, ks⟩ := hp
  have raise1 : ∀ p Γ, dueW r l s' = some p → Z.X ⟨C, ["part"], [p]⟩ Γ := fun p Γ e => hX _ Γ ⟨r, l, s', p, rfl, e, rfl⟩
  repeat walk_at "den"
  refine den_callX ?_
  repeat walk_at "den"
  refine ⟨rfl, ⟨r, rfl, kr⟩, ?_, ?_⟩
  · rintro d ⟨x, e, hb, rfl⟩
    cases e
    obtain ⟨rs, rfl⟩ : ∃ rs, r = .tup rs := by cases r <;> simp_all [badRows]
    repeat walk_at "den"
    refine cad_lenT ?_
    repeat walk_at "den"
    refine ⟨rfl, ⟨l, _, rfl, kl⟩, _, rfl, ite_b (fun h => ?_) fun h => ?_⟩
    · repeat walk_at "den"
      refine ⟨by simp, raise1 _ _ ?_⟩
      simp_all [dueW, lenD]
    · repeat walk_at "den"
      refine ⟨rfl, ⟨s', _, _, rfl, ks⟩, _, rfl, ite_b (fun h2 => ?_) fun h2 => ?_⟩
      · repeat walk_at "den"
        refine ⟨by simp, raise1 _ _ ?_⟩
        simp_all [dueW, lenD]
      · repeat walk_at "den"
        refine dens_fld rfl hc n1 (by simp) (by simp) ?_
        repeat walk_at "den"
        refine ⟨rfl, ?_⟩
        repeat walk_at "den"
        refine dens_fld rfl hc n2 (by decide) (by simp) ?_
        repeat walk_at "den"
        refine ⟨rfl, ?_⟩
        repeat walk_at "den"
        refine dens_fld rfl hc n3 (by decide) (by simp) ?_
        repeat walk_at "den"
        refine ⟨rfl, [.tup rs, l, s'], ⟨.tup rs, l, s', rfl, ?_, rfl⟩, rfl⟩
        simp_all [dueW, lenD]
  · rintro er ⟨x, q, e, hb, rfl⟩
    cases e
    exact raise1 _ _ (by simp only [dueW, hb])
end
section
variable {P : Program} {w : World} {K : PySem.W.Frag} {mg : Str → Option Value} {base : Heap}
theorem ixN0 (n : Nat) : ixN (n + 1) 0 = some 0 := by
  unfold ixN
  rw [if_pos (by decide), if_pos (by omega)]; rfl
theorem atI0 {α : Type} (x : α) (xs : List α) : atI (x :: xs) 0 = some x := by
  unfold atI
  rw [List.length_cons, ixN0]; rfl
theorem lowlog {m : Int} (h0 : 0 ≤ m) (h : m < 2 ^ 30) : m.natAbs.log2 < 9000 := by
  have : m.natAbs < 2 ^ 30 := by omega
  by_cases z : m.natAbs = 0
  · rw [z]; decide
  · exact Nat.lt_trans ((Nat.log2_lt z).mpr this) (by decide)
theorem ok_law_draw {f : Addr} {fd : FuncData} (F : Fun K "_law_draw" "_law_draw" s__law_draw f fd) (T : Tx mg) : FnOk P w K mg base (L2.CX P w) 1 f fd ["pool", "many"] (spS K 2 S_draw) := by
  refine F.okX sc__law_draw (fun vs H Q E h => ?_) (fun cdv A outer s H vs Q E hr h => ?_)
  · obtain ⟨pl, G, ds, _, r, hn, _⟩ := h
    rw [r.length, hn]; rfl
  · refine ⟨_, (pss_cons (ps_asg (pe_op (k_plus K) (pe_ix (k_ix K) (pv 0) pe_int (fun _ _ => rfl)) pe_int) (pg_sub (pv 0) pe_int set_list))
      (pss_cons (ps_set (i := 2) sc__law_draw.nd rfl (Or.inl rfl) (pe_ix (k_ix K) (pv 0) pe_int (fun _ _ => rfl)))
      (pss_cons (ps_if (pt_cmpR op_gt (pe_callB (k_len K) rfl T.len (by decide +kernel) (pa_cons (pv 2) pa_nil)) pe_int (nomark _)) (pss_cons (ps_set (i := 3) sc__law_draw.nd rfl (Or.inl rfl) (pe_op op_mod (pe_callTy call_int1 rfl T.int (by decide +kernel) (pa_cons (pe_ix (k_ix K) (pv 2) pe_int (fun _ _ => rfl)) pa_nil)) (pv 1)))
      (pss_cons (ps_asg (pe_op op_fdivW (pe_callTy call_int1 rfl T.int (by decide +kernel) (pa_cons (pe_ix (k_ix K) (pv 2) pe_int (fun _ _ => rfl)) pa_nil)) (pv 1)) (pg_sub (pv 2) pe_int set_list))
      (pss_cons (ps_if (pt_cmpR (k_eq K hr.units) (pe_ix (k_ix K) (pv 2) pe_int (fun _ _ => rfl)) pe_int (nomark _)) (pss_one (ps_expr (pe_bm PySem.F.plainAttrs_list PySem.F.slot_list_pop PySem.F.type_list_pop mt_popAt (pv 2) (pa_cons pe_int pa_nil)))) pss_nil)
      (pss_one (ps_ret (pv 3)))))) pss_nil)
      (pss_cons (ps_set (i := 4) sc__law_draw.nd rfl (Or.inl rfl) (pe_op op_mod (pe_callTy call_int1 rfl T.int (by decide +kernel) (pa_cons (pe_op (k_times K) (pe_op (k_plus K) (pe_ix (k_ix K) (pv 0) pe_int (fun _ _ => rfl)) (pe_op (k_times K) pe_int (pe_ix (k_ix K) (pv 0) pe_int (fun _ _ => rfl)))) pe_int) pa_nil)) pe_int))
      (pss_cons (ps_set (i := 4) sc__law_draw.nd rfl (Or.inl rfl) (pe_op op_mod (pe_callTy call_int1 rfl T.int (by decide +kernel) (pa_cons (pe_op (k_times K) (pv 4) (pe_op (k_plus K) (pe_op op_fdivW (pv 4) pe_int) pe_int)) pa_nil)) pe_int))
      (pss_cons (ps_set (i := 4) sc__law_draw.nd rfl (Or.inl rfl) (pe_op op_mod (pe_callTy call_int1 rfl T.int (by decide +kernel) (pa_cons (pe_op (k_times K) (pv 4) (pe_op (k_plus K) (pe_op op_fdivW (pv 4) pe_int) pe_int)) pa_nil)) pe_int))
      (pss_one (ps_ret (pe_op op_mod (pe_callTy call_int1 rfl T.int (by decide +kernel) (pa_cons (pe_op op_fdivW (pv 4) pe_int) pa_nil)) (pv 1)))))))))), ?_⟩
    obtain ⟨pl, G, ds, j, r, hn, ⟨m, rfl, hm1, hm2⟩, hq, _⟩ := h
    cases r with
    | cons r1 r2 => cases r2 with
      | cons r2 r3 =>
        cases r3; cases r2
        cases r1 with
        | @pool p c hpl =>
          obtain ⟨pc, gp, gc, _, _, seed, k, ns, hp, hc, b1, b2, b3, b4, b5⟩ := j.pool p c hpl
          have fin : ∀ (i : Int) (seed' k' : Int) (ns' : List Int) (H' : Hp), 0 ≤ i → i < m → H' p = some (.lst [.int seed', .int k', .ref c]) → H' c = some (.lst (ns'.map V.int)) →
              (0 ≤ seed' ∧ seed' < 2147483647 ∧ 0 ≤ k' ∧ (∀ n ∈ ns', 0 ≤ n) ∧ ns'.length ≤ 63) → (∀ a, a ≠ p → a ≠ c → H' a = H a) → Q (.int i) H' := fun i seed' k' ns' H' i1 i2 e1 e2 e3 e4 =>
            hq (.int i) (.int i) G H' ⟨m, i, rfl, rfl, i1, i2⟩ (j.pl hpl e1 e2 e3 e4) (.int i)
          have s0 : (start N__law_draw [.ref p, .int m])[0]? = some (some (.ref p)) := rfl
          have s1 : (start N__law_draw [.ref p, .int m])[1]? = some (some (.int m)) := rfl
          refine ps_item (D := { nx := _, rt := Q }) (v := .int (k + 1)) (l := p) (i := 1) (n := 1) (pu_add (pu_ix (pu_var s0) pu_c hp rfl) pu_c) (pu_var s0) pu_c hp rfl ?_
          have hp1 : upd H p (.lst ([.int seed, .int k, .ref c].set 1 (.int (k + 1)))) p = some (.lst [.int seed, .int (k + 1), .ref c]) := upd_same
          have hc1 : upd H p (.lst ([.int seed, .int k, .ref c].set 1 (.int (k + 1)))) c = some (.lst (ns.map V.int)) := by rw [upd_ne (Ne.symm pc)]; exact hc
          have hf1 : ∀ a, a ≠ p → a ≠ c → upd H p (.lst ([.int seed, .int k, .ref c].set 1 (.int (k + 1)))) a = H a := fun a n1 _ => upd_ne n1
          revert hp1 hc1 hf1
          generalize upd H p (.lst ([.int seed, .int k, .ref c].set 1 (.int (k + 1)))) = H1
          intro hp1 hc1 hf1
          refine ps_name (v := .ref c) (pu_ix (pu_var s0) pu_c hp1 rfl) ?_
          have t1 : ((start N__law_draw [.ref p, .int m]).set 2 (some (.ref c)))[1]? = some (some (.int m)) := rfl
          have t2 : ((start N__law_draw [.ref p, .int m]).set 2 (some (.ref c)))[2]? = some (some (.ref c)) := rfl
          have t0 : ((start N__law_draw [.ref p, .int m]).set 2 (some (.ref c)))[0]? = some (some (.ref p)) := rfl
          have hl3 : 3 < ((start N__law_draw [.ref p, .int m]).set 2 (some (.ref c))).length := by simp [L2.start]
          have hl4 : 4 < ((start N__law_draw [.ref p, .int m]).set 2 (some (.ref c))).length := by simp [L2.start]
          revert t0 t1 t2 hl3 hl4
          generalize (start N__law_draw [.ref p, .int m]).set 2 (some (.ref c)) = σ
          intro t1 t2 t0 hl3 hl4
          refine ps_when (pu_B (f := fun i j => decide (i > j)) (pu_len (pu_var t2) hc1) pu_c) (fun hlt => ?_) (fun _ => ?_)
          · cases ns with
            | nil => simp at hlt
            | cons n ns =>
              have hn0 : 0 ≤ n := b4 n (by simp)
              have pix : ∀ {H} {x : V} {xs : List V}, H c = some (.lst (x :: xs)) → Pu (tOp (rIx K) (tVar 2) (tC (.int 0))) σ H x := fun h => pu_ix (pu_var t2) pu_c h (atI0 _ _)
              refine ps_name (v := .int (n % m)) (pu_I (C := fun _ j => 0 < j) (f := fun i j => i % j) (pu_int (pix hc1)) (pu_var t1) (by omega)) ?_
              have u0 : (σ.set 3 (some (.int (n % m))))[0]? = some (some (.ref p)) := by rw [List.getElem?_set_ne (by decide)]; exact t0
              have u1 : (σ.set 3 (some (.int (n % m))))[1]? = some (some (.int m)) := by rw [List.getElem?_set_ne (by decide)]; exact t1
              have u2 : (σ.set 3 (some (.int (n % m))))[2]? = some (some (.ref c)) := by rw [List.getElem?_set_ne (by decide)]; exact t2
              have u3 : (σ.set 3 (some (.int (n % m))))[3]? = some (some (.int (n % m))) := List.getElem?_set_self (by simpa using hl3)
              revert u0 u1 u2 u3
              generalize σ.set 3 (some (.int (n % m))) = σ'
              intro u0 u1 u2 u3
              have pix' : ∀ {H} {x : V} {xs : List V}, H c = some (.lst (x :: xs)) → Pu (tOp (rIx K) (tVar 2) (tC (.int 0))) σ' H x := fun h => pu_ix (pu_var u2) pu_c h (atI0 _ _)
              refine ps_item (v := .int (n / m)) (n := 0) (pu_I (C := CDivW) (f := fun i j => i / j) (pu_int (pix' hc1)) (pu_var u1) ⟨by omega, lowlog (by omega) hm2⟩) (pu_var u2) pu_c hc1 (by rw [List.length_map, List.length_cons]; exact ixN0 _) ?_
              have hp2 : upd H1 c (.lst (((n :: ns).map V.int).set 0 (.int (n / m)))) p = some (.lst [.int seed, .int (k + 1), .ref c]) := by rw [upd_ne pc]; exact hp1
              have hc2 : upd H1 c (.lst (((n :: ns).map V.int).set 0 (.int (n / m)))) c = some (.lst ((n / m :: ns).map V.int)) := upd_same
              have hf2 : ∀ a, a ≠ p → a ≠ c → upd H1 c (.lst (((n :: ns).map V.int).set 0 (.int (n / m)))) a = H a := fun a n1 n2 => by rw [upd_ne n2]; exact hf1 a n1 n2
              revert hp2 hc2 hf2
              generalize upd H1 c (.lst (((n :: ns).map V.int).set 0 (.int (n / m)))) = H2
              intro hp2 hc2 hf2
              have hq0 : 0 ≤ n / m := Int.ediv_nonneg hn0 (by omega)
              have hr0 : 0 ≤ n % m := Int.emod_nonneg _ (by omega)
              have hr1 : n % m < m := Int.emod_lt_of_pos _ (by omega)
              have hmem : ∀ x ∈ ns, 0 ≤ x := fun x hx => b4 x (by simp [hx])
              have hlen : ns.length + 1 ≤ 63 := by simpa using b5
              refine ps_when (pu_eqI (pix' hc2) pu_c) (fun _ => ?_) (fun _ => ?_)
              · refine ⟨.ref c, u2, .inl ⟨rfl, _, SqL.of hc2⟩, ⟨c, _, 0, 0, .int (n / m), rfl, rfl, hc2, by decide, by decide, (ixN_seq (by rw [List.length_map, List.length_cons]; exact ixN0 _)).1, rfl, ?_⟩⟩
                refine ps_give (pu_var u3) ?_
                exact fin _ seed (k + 1) ns _ hr0 hr1 (by rw [upd_ne pc]; exact hp2) (by rw [upd_same]; rfl) ⟨b1, b2, by omega, hmem, by omega⟩ fun a n1 n2 => by rw [upd_ne n2]; exact hf2 a n1 n2
              · refine ps_give (pu_var u3) ?_
                exact fin _ seed (k + 1) (n / m :: ns) _ hr0 hr1 hp2 hc2 ⟨b1, b2, by omega, fun x hx => by
                  rcases List.mem_cons.mp hx with e | e
                  · rw [e]; exact hq0
                  · exact hmem x e, by simpa using hlen⟩ hf2
          · have pix0 : Pu (tOp (rIx K) (tVar 0) (tC (.int 0))) σ H1 (.int seed) := pu_ix (pu_var t0) pu_c hp1 rfl
            have pix1 : Pu (tOp (rIx K) (tVar 0) (tC (.int 1))) σ H1 (.int (k + 1)) := pu_ix (pu_var t0) pu_c hp1 rfl
            refine ps_name (pu_I (C := fun _ j => 0 < j) (f := fun i j => i % j) (pu_int (pu_mul (pu_add pix0 (pu_mul pu_c pix1 (.inl (by decide)))) pu_c (.inr (by decide)))) pu_c (by decide)) ?_
            have step : ∀ (a d e : Int) (M : Int), 0 < M → M < 2147483648 → 0 < a → a < 1073741824 → 0 ≤ d → d < 2147483648 → ∀ σ x, σ[4]? = some (some (V.int x)) → 0 ≤ x → x < 2147483648 → 
                Pu (tOp (rI (fun _ j => 0 < j) fun i j => .int (i % j)) (tCB rInt1 (tCons (tOp (rTimes K) (tVar 4) (tOp (rPlus K) (tOp (rI CDivW fun i j => .int (i / j)) (tVar 4) (tC (.int a))) (tC (.int d)))) tNil)) (tC (.int M))) σ H1 (.int ((x * (x / a + d)) % M)) := fun a d e M h1 h2 h3 h4 h5 h6 σ x hx hx0 hx1 =>
              pu_I (C := fun _ j => 0 < j) (f := fun i j => i % j) (pu_int (pu_mul (pu_var hx) (pu_add (pu_I (C := CDivW) (f := fun i j => i / j) (pu_var hx) pu_c ⟨h3, lowlog (by omega) (by simpa using h4)⟩) pu_c) (.inl (by omega)))) pu_c h1
            have md : ∀ (x M : Int), 0 < M → 0 ≤ x % M ∧ x % M < M := fun x M h => ⟨Int.emod_nonneg _ (by omega), Int.emod_lt_of_pos _ h⟩
            have sl : ∀ (σ : L2.St) (v : V), 4 < σ.length → (σ.set 4 (some v))[4]? = some (some v) := fun σ v h => List.getElem?_set_self h
            have g1 := md ((seed + 7919 * (k + 1)) * 48271) 2147483647 (by decide)
            revert g1
            generalize (seed + 7919 * (k + 1)) * 48271 % 2147483647 = x1
            intro g1
            refine ps_name (step 1009 69621 0 2147483647 (by decide) (by decide) (by decide) (by decide) (by decide) (by decide) _ x1 (sl _ _ hl4) g1.1 (by omega)) ?_
            have g2 := md (x1 * (x1 / 1009 + 69621)) 2147483647 (by decide)
            revert g2
            generalize x1 * (x1 / 1009 + 69621) % 2147483647 = x2
            intro g2
            refine ps_name (step 2003 40692 0 2147483399 (by decide) (by decide) (by decide) (by decide) (by decide) (by decide) _ x2 (sl _ _ (by simpa using hl4)) g2.1 (by omega)) ?_
            generalize x2 * (x2 / 2003 + 40692) % 2147483399 = x3
            refine ps_give (v := .int (x3 / 16 % m)) (pu_I (C := fun _ j => 0 < j) (f := fun i j => i % j) (pu_int (pu_I (C := CDivW) (f := fun i j => i / j) (pu_var (sl _ _ (by simpa using hl4))) pu_c ⟨by decide, lowlog (by decide) (by decide)⟩)) (pu_var (by
              rw [List.getElem?_set_ne (by decide), List.getElem?_set_ne (by decide), List.getElem?_set_ne (by decide)]; exact t1)) (by omega)) ?_
            have g4 := md (x3 / 16) m (by omega)
            exact fin _ seed (k + 1) ns _ g4.1 g4.2 hp1 hc1 ⟨b1, b2, by omega, b4, b5⟩ hf1
end
section
variable {P : Program} {w : World} {K : PySem.W.Frag} {mg : Str → Option Value} {base : Heap}
abbrev S_pool : FSpec := ⟨fun ds => ∃ ns : List Int, ds = [.scr ns] ∧ ns.length ≤ 63, fun ds d => ∃ (seed : Int) (cs : List Int), d = .lst [.int seed, .int 0, .lst (cs.map D.int)] ∧ 0 ≤ seed ∧ seed < 2147483647 ∧ (∀ n ∈ cs, 0 ≤ n) ∧ cs.length ≤ 63, fun _ _ => False⟩
theorem ok_law_pool {f : Addr} {fd : FuncData} (F : Fun K "_law_pool" "_law_pool" s__law_pool f fd) (T : Tx mg) : FnOk P w K mg base (L2.CX P w) 1 f fd ["script"] (spS K 1 S_pool) := by
  refine fn_ab F sc__law_pool S_pool (by decide) fun cdv A outer s H E ds W hr tk hn hp => ?_
  refine ⟨_, (pss_cons (ps_set (i := 1) sc__law_pool.nd rfl (Or.inl rfl) (pe_op (k_plus K) (pe_op (k_plus K) (pe_op op_mod (pe_callTy call_int1 rfl T.int (by decide +kernel) (pa_cons (pe_callB (k_sum K rfl) rfl T.sum (by decide +kernel) (pa_cons (pe_slice (k_sl K) (pv 0) po_none (po_some pe_int)) pa_nil)) pa_nil)) pe_int) (pe_callB (k_len K) rfl T.len (by decide +kernel) (pa_cons (pv 0) pa_nil))) pe_int))
      (pss_cons (ps_for (passes_of rfl) rfl (ki_seq K (pe_slice (k_sl K) (pv 0) po_none (po_some pe_int))) (pg_name (i := 2) sc__law_pool.nd rfl (Or.inl rfl))
      (pss_one (ps_set (i := 1) sc__law_pool.nd rfl (Or.inl rfl) (pe_op op_mod (pe_callTy call_int1 rfl T.int (by decide +kernel) (pa_cons (pe_op (k_plus K) (pe_op (k_plus K) (pe_op (k_times K) (pv 1) pe_int) (pe_op op_mod (pe_callTy call_int1 rfl T.int (by decide +kernel) (pa_cons (pv 2) pa_nil)) pe_int)) pe_int) pa_nil)) pe_int))))
      (pss_one (ps_ret (pe_lst (pa_cons (pv 1) (pa_cons pe_int (pa_cons (pe_lc (own := [("cell", 2)]) rfl sc__law_pool.nd (ki_seq K (pe_slice (k_sl K) (pv 0) po_none (po_some pe_int))) (blkOk_by (own := [("cell", 2)]) (N := N__law_pool) (sc := defScope s__law_pool) (by decide +kernel))
        (fun _ _ _ _ _ => (pg_name (i := 2) sc__law_pool.nd rfl (Or.inl rfl))) (fun _ _ _ _ _ => (pts_one (pt_cmpR op_ge (pe_callB call_abs rfl T.abs (by decide +kernel) (pa_cons (pv 2) pa_nil)) (pe_op op_pow pe_int pe_int) (nomark _)))) (fun _ _ _ _ _ => (pe_callB call_abs rfl T.abs (by decide +kernel) (pa_cons (pv 2) pa_nil)))) pa_nil)))))))), ?_⟩
  rintro Z rfl rfl hX
  obtain ⟨ns, rfl, hns⟩ := hp
  repeat walk_at "den"
  refine ⟨1, rfl, ?_⟩
  repeat walk_at "den"
  refine ⟨_, rfl, ?_⟩
  repeat walk_at "den"
  rw [show ((1 : Int)) = ((1 : Nat) : Int) from rfl, cut_map]
  refine cad_sum ?_
  repeat walk_at "den"
  refine cad_intI ?_
  repeat walk_at "den"
  refine opd_ic (f := fun i j => i % j) (by decide) ?_
  repeat walk_at "den"
  have b0 : 0 ≤ (ns.take 1).sum % 1000003 ∧ (ns.take 1).sum % 1000003 < 1000003 := ⟨Int.emod_nonneg _ (by decide), Int.emod_lt_of_pos _ (by decide)⟩
  refine dens_for (deni_seq ?_)
  repeat walk_at "den"
  refine ⟨63, rfl, ?_⟩
  repeat walk_at "den"
  refine ⟨_, rfl, ?_⟩
  rw [show ((63 : Int)) = ((63 : Nat) : Int) from rfl, cut_map]
  refine ⟨_, .inl rfl, fun i Γ => ∃ (seed : Int) (b : B), Γ = [.d (.scr ns), .d (.int seed), b] ∧ ¬ IsOwn (some b) ∧ 0 ≤ seed ∧ seed < 2147483647, ⟨_, .un, rfl, fun z => z, by omega, by omega⟩, ?_, ?_⟩
  · rintro i d Γ hd ⟨seed, b, rfl, hb, h1, h2⟩
    obtain ⟨c, rfl⟩ : ∃ c, d = .int c := by
      rw [List.getElem?_map] at hd
      cases e : (ns.take 63)[i]? with
      | none => rw [e] at hd; cases hd
      | some c => rw [e] at hd; cases hd; exact ⟨c, rfl⟩
    repeat walk_at "den"
    refine times_int (.inr (by decide)) ?_
    repeat walk_at "den"
    refine cad_intI ?_
    repeat walk_at "den"
    refine opd_ic (f := fun i j => i % j) (by decide) ?_
    repeat walk_at "den"
    refine cad_intI ?_
    repeat walk_at "den"
    refine opd_ic (f := fun i j => i % j) (by decide) ?_
    repeat walk_at "den"
    exact ⟨_, _, rfl, fun z => z, Int.emod_nonneg _ (by decide), Int.emod_lt_of_pos _ (by decide)⟩
  · rintro Γ ⟨seed, b, rfl, hb, h1, h2⟩
    repeat walk_at "den"
    refine den_l (denl_lc (goff_name (by simp)) gmono_name (deni_seq ?_))
    repeat walk_at "den"
    refine ⟨63, rfl, ?_⟩
    repeat walk_at "den"
    refine ⟨_, rfl, ?_⟩
    rw [show ((63 : Int)) = ((63 : Nat) : Int) from rfl, cut_map]
    refine ⟨_, .inl rfl, fun i hi => by
      have e : i = 2 := by simpa using hi
      rw [e]; exact hb, by simp; omega, fun i acc => ∃ cs : List Int, acc = cs.map D.int ∧ (∀ n ∈ cs, 0 ≤ n) ∧ cs.length ≤ i, ⟨[], rfl, by simp, Nat.le_refl _⟩, ?_, ?_⟩
    · rintro i d acc hd hl ⟨cs, rfl, hc, hl2⟩
      obtain ⟨c, rfl⟩ : ∃ c, d = .int c := by
        rw [List.getElem?_map] at hd
        cases e : (ns.take 63)[i]? with
        | none => rw [e] at hd; cases hd
        | some c => rw [e] at hd; cases hd; exact ⟨c, rfl⟩
      refine deng_name ⟨rfl, no_own1 (fun z => z), ?_⟩
      repeat walk_at "den"
      refine cad_abs ?_
      repeat walk_at "den"
      refine opd_ic (f := fun i j => i ^ j.toNat) ⟨by decide, by decide, by decide⟩ ?_
      repeat walk_at "den"
      refine ⟨_, rfl, rfl, ite_b (fun h => ?_) fun h => ?_⟩
      · repeat walk_at "den"
        refine cad_abs ⟨rfl, cs ++ [_], by rw [List.map_append]; rfl, fun n hn => ?_, by simp; omega⟩
        rcases List.mem_append.mp hn with e | e
        · exact hc n e
        · rw [List.mem_singleton.mp e]; split <;> omega
      · exact ⟨cs, rfl, hc, by omega⟩
    · rintro acc hl ⟨cs, rfl, hc, hl2⟩
      repeat walk_at "den"
      refine ⟨by simp, seed, cs, rfl, h1, h2, hc, ?_⟩
      simp at hl2; omega
end
section
variable {P : Program} {w : World} {K : PySem.W.Frag} {mg : Str → Option Value} {base : Heap}
abbrev S_deep := fun_spec (fun ds => ds = []) (fun _ => deepD 35)
theorem ok_law_deep {f : Addr} {fd : FuncData} (F : Fun K "_law_deep" "_law_deep" s__law_deep f fd) (T : Tx mg) : FnOk P w K mg base (L2.CX P w) 1 f fd [] (spS K 0 S_deep) := by
  refine fn_ab F sc__law_deep S_deep (by decide) fun cdv A outer s H E ds W hr tk hn hp => ?_
  refine ⟨_, (pss_cons (ps_set (i := 0) sc__law_deep.nd rfl (Or.inl rfl) (pe_lst (pa_cons pe_non pa_nil)))
      (pss_cons (ps_for (passes_of rfl) rfl (pi_range1 rfl T.range (pa_cons pe_int pa_nil)) (pg_name (i := 1) sc__law_deep.nd rfl (Or.inl rfl))
      (pss_one (ps_set (i := 0) sc__law_deep.nd rfl (Or.inl rfl) (pe_lst (pa_cons (pv 0) pa_nil)))))
      (pss_one (ps_ret (pv 0))))), ?_⟩
  rintro Z rfl rfl hX
  obtain rfl : ds = [] := hp
  repeat walk_at "den"
  refine ⟨by simp, ?_⟩
  repeat walk_at "den"
  refine dens_for (deni_rng1 ?_)
  repeat walk_at "den"
  refine ⟨35, rfl, by decide, by decide, fun i Γ => ∃ b, Γ = [.d (deepD i), b], ⟨_, rfl⟩, ?_, ?_⟩
  · rintro i d Γ hd ⟨b, rfl⟩
    repeat walk_at "den"
    refine ⟨by simp, ?_⟩
    repeat walk_at "den"
    exact ⟨_, rfl⟩
  · rintro Γ ⟨b, rfl⟩
    repeat walk_at "den"
    walk_at "fin"; rfl
abbrev S_is_int := fun_spec (fun ds => ∃ x, ds = [x] ∧ kD x = true) f_is_whole
theorem ok_law_is_int {f : Addr} {fd : FuncData} (F : Fun K "_law_is_int" "_law_is_int" s__law_is_int f fd) (T : Tx mg) : FnOk P w K mg base (L2.CX P w) 1 f fd ["thing"] (spS K 1 S_is_int) := by
  refine fn_ab F sc__law_is_int S_is_int (by decide) fun cdv A outer s H E ds W hr tk hn hp => ?_
  refine ⟨_, (pss_one (ps_ret (pe_and (pe_callB (k_isi K) rfl T.isinstance (by decide +kernel) (pa_cons (pv 0) (pa_cons (pe_bltn (v := .ty "int") rfl T.int (by decide +kernel) rfl) pa_nil))) (pe_one (pe_not (pe_callB (k_isi K) rfl T.isinstance (by decide +kernel) (pa_cons (pv 0) (pa_cons (pe_bltn (v := .ty "bool") rfl T.bool (by decide +kernel) rfl) pa_nil)))))))), ?_⟩
  rintro Z rfl rfl hX
  obtain ⟨x, rfl, hx⟩ := hp
  repeat walk_at "den"
  refine cad_is hx (by simp) ⟨_, rfl, ite_b (fun h => ?_) fun h => ?_⟩
  · repeat walk_at "den"
    refine cad_is hx (by simp) ⟨_, rfl, ?_⟩
    walk_at "fin"; cases x <;> simp_all [isTy, isWhole, f_is_whole]
  · walk_at "fin"; cases x <;> simp_all [isTy, isWhole, f_is_whole]
def lowD (a b : Int) : D := .tup [.int (a / (Int.gcd a b : Nat)), .int (b / (Int.gcd a b : Nat))]
abbrev f_low : List D → D
  | [.int a, .int b] => lowD a b
  | _ => .non
abbrev S_low := fun_spec (fun ds => ∃ a b : Int, ds = [.int a, .int b] ∧ 0 < b ∧ b.natAbs < 2 ^ 1000) f_low
theorem log_1000 {m : Int} (h0 : 0 < m) (h : m.natAbs < 2 ^ 1000) : m.natAbs.log2 < 9000 := Nat.lt_trans ((Nat.log2_lt (by omega)).mpr h) (by decide)
theorem ok_law_low {f : Addr} {fd : FuncData} (F : Fun K "_law_low" "_law_low" s__law_low f fd) (T : Tx mg) : FnOk P w K mg base (L2.CX P w) 1 f fd ["top", "bottom"] (spS K 2 S_low) := by
  refine fn_ab F sc__law_low S_low (by decide) fun cdv A outer s H E ds W hr tk hn hp => ?_
  refine ⟨_, (pss_cons (ps_par (i := 2) (j := 3) rfl sc__law_low.nd rfl rfl (by decide) rfl rfl (pa_cons (pe_callB call_abs rfl T.abs (by decide +kernel) (pa_cons (pv 0) pa_nil)) (pa_cons (pe_callB call_abs rfl T.abs (by decide +kernel) (pa_cons (pv 1) pa_nil)) pa_nil)) (by rfl))
      (pss_cons (ps_while (passes_of rfl) (pt_cmpR op_gt (pv 3) pe_int (nomark _))
      (pss_one (ps_par (i := 2) (j := 3) rfl sc__law_low.nd rfl rfl (by decide) rfl rfl (pa_cons (pv 3) (pa_cons (pe_op op_mod (pe_callTy call_int1 rfl T.int (by decide +kernel) (pa_cons (pv 2) pa_nil)) (pv 3)) pa_nil)) (by rfl))))
      (pss_cons (ps_set (i := 2) sc__law_low.nd rfl (Or.inl rfl) (pe_ifExp (pt_cmpR op_gt (pv 1) pe_int (nomark _)) (pv 2) (pe_un un_neg (pv 2))))
      (pss_one (ps_ret (pe_tup (pa_cons (pe_op op_fdivW (pv 0) (pv 2)) (pa_cons (pe_op op_fdivW (pv 1) (pv 2)) pa_nil)))))))), ?_⟩
  rintro Z rfl rfl hX
  obtain ⟨a, b, rfl, hb, hb2⟩ := hp
  repeat walk_at "den"
  refine cad_abs ?_
  repeat walk_at "den"
  refine cad_abs ?_
  repeat walk_at "den"
  refine ⟨_, _, rfl, ?_⟩
  repeat walk_at "den"
  refine dens_while (fun m Γ => ∃ x y : Nat, Γ = [.d (.int a), .d (.int b), .d (.int x), .d (.int y)] ∧ Nat.gcd x y = Int.gcd a b ∧ m = y) ⟨_, a.natAbs, b.natAbs, ?_, rfl, rfl⟩ ?_
  · have e1 : (if a < 0 then -a else a) = (a.natAbs : Int) := by split <;> omega
    have e2 : (if b < 0 then -b else b) = (b.natAbs : Int) := by split <;> omega
    rw [e1, e2]; rfl
  · rintro y Γ ⟨x, _, rfl, hg, rfl⟩
    repeat walk_at "den"
    refine ⟨_, rfl, ite_b (fun h => ?_) fun h => ?_⟩
    · have hy : 0 < y := by simpa using h
      repeat walk_at "den"
      refine cad_intI ?_
      repeat walk_at "den"
      refine mod_pos (by omega) ?_
      repeat walk_at "den"
      refine ⟨_, _, rfl, x % y, Nat.mod_lt _ hy, y, x % y, rfl, ?_, rfl⟩
      rw [← hg, Nat.gcd_comm x y, Nat.gcd_rec y x, Nat.gcd_comm]
    · obtain rfl : y = 0 := by simpa using h
      have hx : x = Int.gcd a b := by rw [← hg]; simp
      have hx0 : 0 < x := by rw [hx]; exact Int.gcd_pos_of_ne_zero_right _ (by omega)
      have hxb : x ≤ b.natAbs := by rw [hx]; exact Nat.le_of_dvd (by omega) (Int.natAbs_dvd_natAbs.mpr (Int.gcd_dvd_right ..) |> fun h => by simpa using h)
      repeat walk_at "den"
      refine ⟨_, rfl, ite_b (fun h => ?_) fun h => ?_⟩
      · repeat walk_at "den"
        refine div_pos ⟨by omega, log_1000 (by omega) (by omega)⟩ ?_
        repeat walk_at "den"
        refine div_pos ⟨by omega, log_1000 (by omega) (by omega)⟩ ?_
        repeat walk_at "den"
        refine ⟨by simp, ?_⟩
        walk_at "fin"
        rw [hx]; rfl
      · simp at h; omega
end
/-- a number of small parts in lowest terms -/
def smallNum : D → Bool
  | .tup [.int a, .int b] => numOk (.tup [.int a, .int b]) && decide (a.natAbs ≤ 1000) && decide (b.natAbs ≤ 1000)
  | _ => false
/-- a row of n such numbers -/
def rowS (n : Nat) (d : D) : Prop := ∃ xs, d = .tup xs ∧ xs.length = n ∧ ∀ x ∈ xs, smallNum x = true
theorem small_inv {x : D} (h : smallNum x = true) : ∃ a b : Int, x = .tup [.int a, .int b] ∧ numOk x = true ∧ a.natAbs ≤ 1000 ∧ b.natAbs ≤ 1000 := by
  cases x with
  | tup xs =>
    match xs, h with
    | [.int a, .int b], h =>
      simp only [smallNum, Bool.and_eq_true, decide_eq_true_eq] at h
      exact ⟨a, b, rfl, h.1.1, h.1.2, h.2⟩
    | [], h => simp [smallNum] at h
    | [_], h => simp [smallNum] at h
    | _ :: _ :: _ :: _, h => simp [smallNum] at h
  | _ => simp [smallNum] at h
theorem small_num {x : D} (h : smallNum x = true) : numOk x = true := (small_inv h).elim fun _ h => h.elim fun _ h => h.2.1
theorem rowS_ok {n : Nat} {d : D} (h : rowS n d) : rowOk n d = true := by
  obtain ⟨xs, rfl, hl, hx⟩ := h
  simp only [rowOk, Bool.and_eq_true, decide_eq_true_eq, List.all_eq_true]
  exact ⟨by omega, fun x m => small_num (hx x m)⟩
theorem small_eqD {x : D} (h : smallNum x = true) : eqD 1 x := by
  obtain ⟨a, b, rfl, _⟩ := small_inv h
  exact eqD_tup fun y hy => by
    simp at hy
    rcases hy with rfl | rfl
    · exact eqD_int _
    · exact eqD_int _
theorem rowS_eqD {n : Nat} {d : D} (h : rowS n d) : eqD 2 d := by
  obtain ⟨xs, rfl, hl, hx⟩ := h
  exact eqD_tup fun x m => small_eqD (hx x m)
theorem kD_i {i : Int} (h : i.natAbs ≤ 1000) : kD (.int i) = true := by
  unfold kD
  exact decide_eq_true (Nat.lt_of_le_of_lt h (Nat.lt_trans (by decide : 1000 < 2 ^ 10) (Nat.pow_lt_pow_right (by decide) (by decide))))
theorem small_kD {x : D} (h : smallNum x = true) : kD x = true := by
  obtain ⟨a, b, rfl, _, h1, h2⟩ := small_inv h
  exact kD_mk (fun y hy => by
    simp at hy
    rcases hy with rfl | rfl
    · exact kD_i h1
    · exact kD_i h2) (by simp)
theorem rowS_kD {n : Nat} {d : D} (h : rowS n d) (hn : n < 1000) : kD d = true := by
  obtain ⟨xs, rfl, hl, hx⟩ := h
  exact kD_mk (fun x m => small_kD (hx x m)) (by omega)
section
variable {P : Program} {w : World} {K : PySem.W.Frag} {mg : Str → Option Value} {base : Heap}
abbrev S_is_num := fun_spec (fun ds => ∃ x, ds = [x] ∧ kD x = true) f_is_number
theorem low_one {a b : Int} (hb : 0 < b) : eqvD (lowD a b) (.tup [.int a, .int b]) = decide (Nat.gcd a.natAbs b.natAbs = 1) := by
  have e : eqvD (lowD a b) (.tup [.int a, .int b]) = (decide (a / (Int.gcd a b : Nat) = a) && decide (b / (Int.gcd a b : Nat) = b)) := by
    unfold eqvD lowD; simp [pyD, pysD, PyData.eqv, PyData.eqvAll]; rfl
  rw [e]
  show _ = decide (Int.gcd a b = 1)
  have g0 : 0 < Int.gcd a b := Int.gcd_pos_of_ne_zero_right _ (by omega)
  have hd : ((Int.gcd a b : Nat) : Int) ∣ b := Int.gcd_dvd_right ..
  revert g0 hd
  generalize Int.gcd a b = g
  intro g0 hd
  by_cases h : g = 1
  · rw [h]; simp
  · have : ¬ b / (g : Int) = b := fun z => by
      obtain ⟨c, hc⟩ := hd
      have g1 : (2 : Int) ≤ (g : Int) := by omega
      rw [hc, Int.mul_ediv_cancel_left _ (by omega)] at z
      have : 0 < c := by
        rcases Int.lt_trichotomy c 0 with h | h | h
        · have : (g : Int) * c < 0 := Int.mul_neg_of_pos_of_neg (by omega) h
          omega
        · rw [h] at hc; omega
        · exact h
      have : 2 * c ≤ (g : Int) * c := Int.mul_le_mul_of_nonneg_right g1 (by omega)
      omega
    simp [h, this]
theorem ok_law_is_number {f : Addr} {fd : FuncData} (F : Fun K "_law_is_number" "_law_is_number" s__law_is_number f fd) (T : Tx mg) (c__law_is_int : Dfn P w K mg base "_law_is_int" 1 1 S_is_int) (c__law_low : Dfn P w K mg base "_law_low" 1 2 S_low) : FnOk P w K mg base (L2.CX P w) 2 f fd ["thing"] (spS K 1 S_is_num) := by
  refine fn_ab F sc__law_is_number S_is_num (by decide) fun cdv A outer s H E ds W hr tk hn hp => ?_
  refine ⟨_, (pss_cons (ps_if (PW.pt (pw_or (pt_not (pt_val (pe_callB (k_isi K) rfl T.isinstance (by decide +kernel) (pa_cons (pv 0) (pa_cons (pe_bltn (v := .ty "tuple") rfl T.tuple (by decide +kernel) rfl) pa_nil))))) (pw_or (pt_cmpR (k_ne K hr.units) (pe_callB (k_len K) rfl T.len (by decide +kernel) (pa_cons (pv 0) pa_nil)) pe_int (nomark _)) (pw_or (pt_not (pt_val (kc_fn c__law_is_int hr (by decide) ⟨rfl, rfl, rfl, rfl, rfl⟩ rfl (pa_cons (pe_ix (k_ix K) (pv 0) pe_int (fun _ _ => rfl)) pa_nil)))) (pw_or1 (pt_not (pt_val (kc_fn c__law_is_int hr (by decide) ⟨rfl, rfl, rfl, rfl, rfl⟩ rfl (pa_cons (pe_ix (k_ix K) (pv 0) pe_int (fun _ _ => rfl)) pa_nil))))))))) (pss_one (ps_ret pe_bl)) pss_nil)
      (pss_one (ps_ret (pe_and (pe_cmpR op_gt (pe_ix (k_ix K) (pv 0) pe_int (fun _ _ => rfl)) pe_int (nomark _)) (pe_one (pe_cmpR (k_eq K hr.units) (kc_fn c__law_low hr (by decide) ⟨rfl, rfl, rfl, rfl, rfl⟩ rfl (pa_cons (pe_ix (k_ix K) (pv 0) pe_int (fun _ _ => rfl)) (pa_cons (pe_ix (k_ix K) (pv 0) pe_int (fun _ _ => rfl)) pa_nil))) (pv 0) (nomark _))))))), ?_⟩
  rintro Z rfl rfl hX
  obtain ⟨x, rfl, hx⟩ := hp
  repeat walk_at "den"
  refine cad_is hx (by simp) ⟨_, rfl, ite_b (fun h => ?_) fun h => ?_⟩
  · repeat walk_at "den"
    walk_at "fin"; cases x <;> simp_all [isTy, numOk, f_is_number]
  · obtain ⟨xs, rfl⟩ : ∃ xs, x = .tup xs := by cases x <;> simp_all [isTy]
    repeat walk_at "den"
    refine cad_lenT ?_
    repeat walk_at "den"
    refine ⟨_, rfl, ite_b (fun h2 => ?_) fun h2 => ?_⟩
    · repeat walk_at "den"
      walk_at "fin"
      simp at h2
      match xs, h2 with
      | [], _ => simp [f_is_number, numOk]
      | [_], _ => simp [f_is_number, numOk]
      | [_, _], h2 => simp at h2
      | _ :: _ :: _ :: _, _ => simp [f_is_number, numOk]
    · obtain ⟨a, b, rfl⟩ : ∃ a b, xs = [a, b] := by
        simp at h2
        match xs, h2 with
        | [], h2 => simp at h2
        | [_], h2 => simp at h2
        | [a, b], _ => exact ⟨a, b, rfl⟩
        | _ :: _ :: _ :: _, h2 => simp at h2; omega
      have ha : kD a = true := kD_tup hx a (by simp)
      have hb : kD b = true := kD_tup hx b (by simp)
      repeat walk_at "den"
      refine opd_ixT (d := a) rfl ?_
      repeat walk_at "den"
      refine ⟨rfl, ⟨a, rfl, ha⟩, _, rfl, ite_b (fun h3 => ?_) fun h3 => ?_⟩
      · repeat walk_at "den"
        walk_at "fin"; cases a <;> simp_all [isWhole, numOk, f_is_number]
      · obtain ⟨i, rfl⟩ : ∃ i, a = .int i := by cases a <;> simp_all [isWhole]
        repeat walk_at "den"
        refine opd_ixT (d := b) rfl ?_
        repeat walk_at "den"
        refine ⟨rfl, ⟨b, rfl, hb⟩, _, rfl, ite_b (fun h4 => ?_) fun h4 => ?_⟩
        · repeat walk_at "den"
          walk_at "fin"; cases b <;> simp_all [isWhole, numOk, f_is_number]
        · obtain ⟨j, rfl⟩ : ∃ j, b = .int j := by cases b <;> simp_all [isWhole]
          repeat walk_at "den"
          refine opd_ixT (d := .int j) rfl ?_
          repeat walk_at "den"
          refine ⟨_, rfl, ite_b (fun h5 => ?_) fun h5 => ?_⟩
          · repeat walk_at "den"
            refine opd_ixT (d := .int i) rfl ?_
            repeat walk_at "den"
            refine opd_ixT (d := .int j) rfl ?_
            repeat walk_at "den"
            have hj : 0 < j := by simpa using h5
            refine ⟨rfl, ⟨i, j, rfl, hj, by unfold kD at hb; exact of_decide_eq_true hb⟩, ?_⟩
            repeat walk_at "den"
            have two : ∀ x y : Int, eqD 1 (.tup [.int x, .int y]) := fun x y => eqD_tup fun z hz => by
              simp at hz
              rcases hz with rfl | rfl
              · exact eqD_int _
              · exact eqD_int _
            refine eqg_eqv (two _ _) (two _ _) (by decide) (by decide) ?_
            walk_at "fin"
            show D.bl (eqvD (lowD i j) _) = D.bl _
            rw [low_one hj]
            have : 1 ≤ j := hj
            simp [numOk, this]
          · walk_at "fin"
            simp_all [numOk, f_is_number]; try omega
end
section
variable {P : Program} {w : World} {K : PySem.W.Frag} {mg : Str → Option Value} {base : Heap}
abbrev S_unit : FSpec := ⟨fun ds => ∃ n a : Int, ds = [.int n, .int a] ∧ 0 ≤ n ∧ n ≤ 6, fun ds d => ∃ n a : Int, ds = [.int n, .int a] ∧ rowS n.toNat d, fun _ _ => False⟩
theorem small_flag (b : Bool) : smallNum (.tup [.int (if b = true then 1 else 0), .int 1]) = true := by cases b <;> decide
theorem ok_law_unit {f : Addr} {fd : FuncData} (F : Fun K "_law_unit" "_law_unit" s__law_unit f fd) (T : Tx mg) : FnOk P w K mg base (L2.CX P w) 1 f fd ["size", "at"] (spS K 2 S_unit) := by
  refine fn_ab F sc__law_unit S_unit (by decide) fun cdv A outer s H E ds W hr tk hn hp => ?_
  refine ⟨_, (pss_one (ps_ret (pe_callTy (k_tuple K) rfl T.tuple (by decide +kernel) (pa_cons (pe_lc (own := [("place", 2)]) rfl sc__law_unit.nd (pi_range1 rfl T.range (pa_cons (pv 0) pa_nil)) (blkOk_by (own := [("place", 2)]) (N := N__law_unit) (sc := defScope s__law_unit) (by decide +kernel))
        (fun _ _ _ _ _ => (pg_name (i := 2) sc__law_unit.nd rfl (Or.inl rfl))) (fun _ _ _ _ _ => pts_nil) (fun _ _ _ _ _ => (pe_tup (pa_cons (pe_callTy call_int1 rfl T.int (by decide +kernel) (pa_cons (pe_cmpR (k_eq K hr.units) (pv 2) (pv 1) (nomark _)) pa_nil)) (pa_cons pe_int pa_nil))))) pa_nil)))), ?_⟩
  rintro Z rfl rfl hX
  obtain ⟨n, a, rfl, h0, h6⟩ := hp
  repeat walk_at "den"
  refine den_l (denl_rel (goff_name (by simp)) gmono_name (deni_rng1 ?_))
  repeat walk_at "den"
  refine ⟨n, rfl, by omega, by omega, no_own1 (fun z => z), by simp [rgAt]; omega, fun _ y => smallNum y = true, fun i d hd => ?_, fun ys hys => ?_⟩
  · obtain ⟨p, rfl⟩ : ∃ p : Int, d = .int p := by
      unfold rgAt at hd
      rw [List.getElem?_map] at hd
      cases e : (List.range n.toNat)[i]? with
      | none => rw [e] at hd; cases hd
      | some c => rw [e] at hd; cases hd; exact ⟨_, rfl⟩
    refine deng_name ⟨rfl, no_own1 (fun z => z), ?_⟩
    repeat walk_at "den"
    refine cad_intB ?_
    repeat walk_at "den"
    exact ⟨by simp, rfl, small_flag _⟩
  · repeat walk_at "den"
    refine cad_tupleL ⟨n, a, rfl, ys, rfl, ?_, fun x m => Each.all (p := fun y => smallNum y = true) (fun _ _ z => z) hys x m⟩
    rw [← hys.length]; simp [rgAt]
abbrev S_number : FSpec := ⟨fun ds => ds = [.pool], fun ds d => smallNum d = true, fun _ _ => False⟩
def numsL : List D := [D.tup [.int 0, .int 1], .tup [.int 1, .int 1], .tup [.int (-1), .int 1], .tup [.int 2, .int 1], .tup [.int 1, .int 2], .tup [.int (-2), .int 3], .tup [.int 3, .int 1], .tup [.int 0, .int 1], .tup [.int 1, .int 1], .tup [.int 101, .int 7]]
theorem ok_law_number {f : Addr} {fd : FuncData} (F : Fun K "_law_number" "_law_number" s__law_number f fd) (T : Tx mg) (c__law_draw : Dfn P w K mg base "_law_draw" 1 2 S_draw) : FnOk P w K mg base (L2.CX P w) 2 f fd ["pool"] (spS K 1 S_number) := by
  refine fn_ab F sc__law_number S_number (by decide) fun cdv A outer s H E ds W hr tk hn hp => ?_
  refine ⟨_, (pss_cons (ps_set (i := 1) sc__law_number.nd rfl (Or.inl rfl) (pe_lst (pa_cons (pe_tup (pa_cons pe_int (pa_cons pe_int pa_nil))) (pa_cons (pe_tup (pa_cons pe_int (pa_cons pe_int pa_nil))) (pa_cons (pe_tup (pa_cons (pe_un un_neg pe_int) (pa_cons pe_int pa_nil))) (pa_cons (pe_tup (pa_cons pe_int (pa_cons pe_int pa_nil))) (pa_cons (pe_tup (pa_cons pe_int (pa_cons pe_int pa_nil))) (pa_cons (pe_tup (pa_cons (pe_un un_neg pe_int) (pa_cons pe_int pa_nil))) (pa_cons (pe_tup (pa_cons pe_int (pa_cons pe_int pa_nil))) (pa_cons (pe_tup (pa_cons pe_int (pa_cons pe_int pa_nil))) (pa_cons (pe_tup (pa_cons pe_int (pa_cons pe_int pa_nil))) (pa_cons (pe_tup (pa_cons pe_int (pa_cons pe_int pa_nil))) pa_nil))))))))))))
      (pss_one (ps_ret (pe_ix (k_ix K) (pv 1) (kc_fn c__law_draw hr (by decide) ⟨rfl, rfl, rfl, rfl, rfl⟩ rfl (pa_cons (pv 0) (pa_cons pe_int pa_nil))) (fun _ _ => rfl))))), ?_⟩
  rintro Z rfl rfl hX
  obtain rfl : ds = [.pool] := hp
  repeat (first | walk_at "den" | refine ⟨(by simp : _ ≤ 100000), ?_⟩)
  refine den_draw ?_
  repeat walk_at "den"
  refine ⟨10, rfl, by decide, by decide, fun i h0 h1 => ?_⟩
  obtain ⟨d, hd, hm⟩ := atI_len (xs := numsL) (n := 10) h0 h1 rfl
  refine opd_ixL hd ?_
  have all : ∀ x ∈ numsL, smallNum x = true := by
    intro x hx
    simp only [numsL, List.mem_cons, List.not_mem_nil, or_false] at hx
    rcases hx with rfl | rfl | rfl | rfl | rfl | rfl | rfl | rfl | rfl | rfl <;> decide
  exact all d hm
abbrev S_mixed : FSpec := ⟨fun ds => ∃ js : List Int, ds = [.pool, .lst (js.map D.int)] ∧ js.length ≤ 1000, fun ds d => ∃ js ks : List Int, ds = [.pool, .lst (js.map D.int)] ∧ d = .lst (ks.map D.int) ∧ ks.length = js.length, fun _ _ => False⟩
theorem er_map : ∀ (js : List Int) (i : Nat), (js.map D.int).eraseIdx i = (js.eraseIdx i).map D.int
  | [], _ => by simp
  | _ :: _, 0 => by simp
  | x :: xs, i + 1 => by simp [er_map xs i]
theorem erase_map (js : List Int) (i : Nat) : (js.map D.int).eraseIdx i = (js.eraseIdx i).map D.int := (er_map js i)
theorem ok_law_mixed {f : Addr} {fd : FuncData} (F : Fun K "_law_mixed" "_law_mixed" s__law_mixed f fd) (T : Tx mg) (c__law_draw : Dfn P w K mg base "_law_draw" 1 2 S_draw) : FnOk P w K mg base (L2.CX P w) 2 f fd ["pool", "things"] (spS K 2 S_mixed) := by
  refine fn_ab F sc__law_mixed S_mixed (by decide) fun cdv A outer s H E ds W hr tk hn hp => ?_
  refine ⟨_, (pss_cons (ps_set (i := 2) sc__law_mixed.nd rfl (Or.inl rfl) (pe_callTy (k_list K) rfl T.list (by decide +kernel) (pa_cons (pv 1) pa_nil)))
      (pss_cons (ps_set (i := 3) sc__law_mixed.nd rfl (Or.inl rfl) (pe_lst pa_nil))
      (pss_cons (ps_for (passes_of rfl) rfl (pi_range1 rfl T.range (pa_cons (pe_callB (k_len K) rfl T.len (by decide +kernel) (pa_cons (pv 1) pa_nil)) pa_nil)) (pg_name (i := 4) sc__law_mixed.nd rfl (Or.inl rfl))
      (pss_one (ps_expr (pe_bm PySem.F.plainAttrs_list PySem.F.slot_list_append PySem.F.type_list_append mt_append (pv 3) (pa_cons (pe_bm PySem.F.plainAttrs_list PySem.F.slot_list_pop PySem.F.type_list_pop mt_popAt (pv 2) (pa_cons (kc_fn c__law_draw hr (by decide) ⟨rfl, rfl, rfl, rfl, rfl⟩ rfl (pa_cons (pv 0) (pa_cons (pe_callB (k_len K) rfl T.len (by decide +kernel) (pa_cons (pv 2) pa_nil)) pa_nil))) pa_nil)) pa_nil)))))
      (pss_one (ps_ret (pv 3)))))), ?_⟩
  rintro Z rfl rfl hX
  obtain ⟨js, rfl, hl⟩ := hp
  refine dens_seq (dens_own (denl_cb ?_))
  repeat walk_at "dem"
  refine cal_listL ?_
  refine dens_seq (dens_own (denl_lst ?_))
  repeat walk_at "dem"
  refine ⟨by simp, ?_⟩
  refine dens_seq (dens_for (deni_rng1 ?_))
  repeat walk_at "dem"
  refine cad_lenL ?_
  repeat walk_at "dem"
  refine ⟨_, rfl, by simp; omega, by omega, fun i Γ => ∃ (ls ks : List Int) (b : B), Γ = [.d .pool, .d (.lst (js.map D.int)), .own (ls.map D.int), .own (ks.map D.int), b] ∧ ls.length + i = js.length ∧ ks.length = i, ⟨js, [], .un, rfl, rfl, rfl⟩, ?_, ?_⟩
  · rintro i d Γ hd ⟨ls, ks, b, rfl, h1, h2⟩
    have hi : i < js.length := by
      have := (List.getElem?_eq_some_iff.mp hd).1
      simpa [rgAt] using this
    refine deng_name ?_
    refine dens_drop (den_append (xs := ks.map D.int) rfl rfl (den_popAt (xs := ls.map D.int) rfl rfl (den_draw ?_)))
    repeat walk_at "dem"
    refine ⟨_, rfl, by simp; omega, by simp; omega, fun q hq0 hq1 => ?_⟩
    have hq : q.toNat < ls.length := by simp at hq1; omega
    refine ⟨ls.map D.int, rfl, q.toNat, .int ls[q.toNat], by rw [Int.toNat_of_nonneg hq0], by simp [hq], by simp; omega, ?_⟩
    refine ⟨ks.map D.int, rfl, by simp; omega, ls.eraseIdx q.toNat, ks ++ [ls[q.toNat]], .d d, by rw [erase_map, List.map_append]; rfl, ?_, by simp [h2]⟩
    · rw [List.length_eraseIdx_of_lt hq]; omega
  · rintro Γ ⟨ls, ks, b, rfl, h1, h2⟩
    refine dens_ret (den_move (xs := ks.map D.int) rfl ⟨js, ks, rfl, rfl, ?_⟩)
    simp [rgAt] at h2
    omega
abbrev S_some_row : FSpec := ⟨fun ds => ∃ n a : Int, ds = [.pool, .int n, .int a] ∧ 1 ≤ n ∧ n ≤ 6, fun ds d => ∃ n a : Int, ds = [.pool, .int n, .int a] ∧ rowS n.toNat d, fun _ _ => False⟩
theorem ixN_lt {n : Nat} {i : Int} (h0 : 0 ≤ i) (h1 : i < n) : ixN n i = some i.toNat := by
  unfold ixN; rw [if_pos h0, if_pos h1]
theorem ok_law_some_row {f : Addr} {fd : FuncData} (F : Fun K "_law_some_row" "_law_some_row" s__law_some_row f fd) (T : Tx mg) (c__law_draw : Dfn P w K mg base "_law_draw" 1 2 S_draw) (c__law_unit : Dfn P w K mg base "_law_unit" 1 2 S_unit) (c__law_number : Dfn P w K mg base "_law_number" 2 1 S_number) : FnOk P w K mg base (L2.CX P w) 3 f fd ["pool", "many", "cell"] (spS K 3 S_some_row) := by
  refine fn_ab F sc__law_some_row S_some_row (by decide) fun cdv A outer s H E ds W hr tk hn hp => ?_
  refine ⟨_, (pss_cons (ps_set (i := 3) sc__law_some_row.nd rfl (Or.inl rfl) (kc_fn c__law_draw hr (by decide) ⟨rfl, rfl, rfl, rfl, rfl⟩ rfl (pa_cons (pv 0) (pa_cons pe_int pa_nil))))
      (pss_cons (ps_if (pt_cmpR (k_eq K hr.units) (pv 3) pe_int (nomark _)) (pss_one (ps_ret (kc_fn c__law_unit hr (by decide) ⟨rfl, rfl, rfl, rfl, rfl⟩ rfl (pa_cons (pv 1) (pa_cons (pv 2) pa_nil))))) pss_nil)
      (pss_cons (ps_set (i := 4) sc__law_some_row.nd rfl (Or.inl rfl) (pe_callTy (k_list K) rfl T.list (by decide +kernel) (pa_cons (kc_fn c__law_unit hr (by decide) ⟨rfl, rfl, rfl, rfl, rfl⟩ rfl (pa_cons (pv 1) (pa_cons (kc_fn c__law_draw hr (by decide) ⟨rfl, rfl, rfl, rfl, rfl⟩ rfl (pa_cons (pv 0) (pa_cons (pv 1) pa_nil))) pa_nil))) pa_nil)))
      (pss_cons (ps_if (pt_cmpR op_gt (pv 3) pe_int (nomark _)) (pss_one (ps_asg (kc_fn c__law_number hr (by decide) ⟨rfl, rfl, rfl, rfl, rfl⟩ rfl (pa_cons (pv 0) pa_nil)) (pg_sub (pv 4) (kc_fn c__law_draw hr (by decide) ⟨rfl, rfl, rfl, rfl, rfl⟩ rfl (pa_cons (pv 0) (pa_cons (pv 1) pa_nil))) set_list))) pss_nil)
      (pss_cons (ps_if (pt_cmpR (k_eq K hr.units) (pv 3) pe_int (nomark _)) (pss_one (ps_setLc (i := 4) (own := [("place", 5)]) rfl sc__law_some_row.nd rfl rfl (sw_true rfl rfl rfl (by decide +kernel)) (pi_range1 rfl T.range (pa_cons (pv 1) pa_nil)) (blkOk_by (own := [("place", 5)]) (N := N__law_some_row) (sc := defScope s__law_some_row) (by decide +kernel))
        (fun _ _ _ _ _ => (pg_name (i := 5) sc__law_some_row.nd rfl (Or.inl rfl))) (fun _ _ _ _ _ => pts_nil) (fun _ _ _ _ _ => (kc_fn c__law_number hr (by decide) ⟨rfl, rfl, rfl, rfl, rfl⟩ rfl (pa_cons (pv 0) pa_nil))))) pss_nil)
      (pss_one (ps_ret (pe_callTy (k_tuple K) rfl T.tuple (by decide +kernel) (pa_cons (pv 4) pa_nil))))))))), ?_⟩
  rintro Z rfl rfl hX
  obtain ⟨n, a, rfl, h1, h6⟩ := hp
  repeat walk_at "den"
  refine den_draw ?_
  repeat walk_at "den"
  refine ⟨6, rfl, by decide, by decide, fun kd k0 k1 => ?_⟩
  repeat walk_at "den"
  refine ⟨_, rfl, ite_b (fun h => ?_) fun h => ?_⟩
  · repeat walk_at "den"
    refine den_call ?_
    repeat walk_at "den"
    refine ⟨rfl, ⟨n, a, rfl, by omega, h6⟩, ?_, fun _ z => z⟩
    rintro d ⟨n', a', e, hd⟩
    cases e
    exact ⟨n, a, rfl, hd⟩
  · refine dens_nil ?_
    refine dens_cut (fun Γ => ∃ xs, Γ = [.d .pool, .d (.int n), .d (.int a), .d (.int kd), .own xs, .un] ∧ xs.length = n.toNat ∧ ∀ x ∈ xs, smallNum x = true) (dens_own (denl_cb ?_)) ?_
    · repeat walk_at "dem"
      refine den_call ?_
      repeat walk_at "dem"
      refine den_draw ?_
      repeat walk_at "dem"
      refine ⟨n, rfl, h1, by omega, fun q q0 q1 => ?_⟩
      repeat walk_at "dem"
      refine ⟨rfl, ⟨n, q, rfl, by omega, h6⟩, ?_, fun _ z => z⟩
      rintro d ⟨n', a', e, xs, rfl, hl, hx⟩
      cases e
      repeat walk_at "dem"
      exact cal_listT ⟨xs, rfl, hl, hx⟩
    · rintro Γ ⟨xs, rfl, hl, hx⟩
      refine dens_cut (fun Γ => ∃ xs, Γ = [.d .pool, .d (.int n), .d (.int a), .d (.int kd), .own xs, .un] ∧ xs.length = n.toNat ∧ ∀ x ∈ xs, smallNum x = true) ?_ ?_
      · repeat walk_at "dem"
        refine ⟨_, rfl, ite_b (fun h => ?_) fun h => ?_⟩
        · refine dens_setO (m := 4) (xs := xs) rfl ?_
          refine den_call ?_
          repeat walk_at "dem"
          refine ⟨rfl, rfl, ?_, fun _ z => z⟩
          rintro d hd
          refine ⟨⟨xs, rfl⟩, den_draw ?_⟩
          repeat walk_at "dem"
          refine ⟨n, rfl, h1, by omega, fun q q0 q1 => ⟨xs, rfl, q, q.toNat, rfl, ixN_lt q0 (by omega), xs.set q.toNat d, rfl, by simpa using hl, fun x m => ?_⟩⟩
          rcases List.mem_or_eq_of_mem_set m with e | e
          · exact hx x e
          · rw [e]; exact hd
        · exact dens_nil ⟨xs, rfl, hl, hx⟩
      · rintro Γ ⟨xs, rfl, hl, hx⟩
        refine dens_cut (fun Γ => ∃ xs, Γ = [.d .pool, .d (.int n), .d (.int a), .d (.int kd), .own xs, .un] ∧ xs.length = n.toNat ∧ ∀ x ∈ xs, smallNum x = true) ?_ ?_
        · repeat walk_at "dem"
          refine ⟨_, rfl, ite_b (fun h => ?_) fun h => ?_⟩
          · refine dens_own (denl_rel (goff_name (by simp)) gmono_name (deni_rng1 ?_))
            repeat walk_at "dem"
            refine ⟨n, rfl, by omega, by omega, no_own1 (fun z => z), by simp [rgAt]; omega, fun _ y => smallNum y = true, fun i d hd => ?_, fun ys hys => ⟨ys, rfl, ?_, fun x m => Each.all (p := fun y => smallNum y = true) (fun _ _ z => z) hys x m⟩⟩
            · refine deng_name ⟨rfl, no_own1 (fun z => z), ?_⟩
              refine den_call ?_
              repeat walk_at "dem"
              exact ⟨rfl, rfl, fun d hd => ⟨rfl, hd⟩, fun _ z => z⟩
            · rw [← hys.length]; simp [rgAt]
          · exact dens_nil ⟨xs, rfl, hl, hx⟩
        · rintro Γ ⟨xs, rfl, hl, hx⟩
          refine dens_ret (den_tupleO (m := 4) (xs := xs) rfl ⟨n, a, rfl, xs, rfl, hl, hx⟩)
end
def cellS (n : Nat) (r : D) : Prop := r = .non ∨ rowS n r
def lotJ (n : Nat) (js : List Int) : Prop := js.Pairwise (· < ·) ∧ ∀ j ∈ js, 0 ≤ j ∧ j < n
def wishT (d : D) : Prop := ∃ (n : Nat) (rs : List D) (js : List Int) (s : Int), d = .tup [.tup rs, .tup (js.map D.int), .int s] ∧ rs.length = n ∧ 1 ≤ n ∧ n ≤ 6 ∧ (∀ r ∈ rs, cellS n r) ∧ lotJ n js ∧ 0 ≤ s ∧ s ≤ 2
theorem pick_sub : ∀ (ds : List D) (bs : List Bool), ((ds.zip bs).filterMap fun z => if z.2 then some z.1 else none).Sublist ds
  | [], _ => by simp
  | _ :: _, [] => by simp
  | d :: ds, true :: bs => by simpa using pick_sub ds bs
  | d :: ds, false :: bs => by simpa using (pick_sub ds bs).cons d
theorem sub_rg {n : Nat} {ys : List D} (h : ys.Sublist (rgAt 0 n)) : ∃ js : List Int, ys = js.map D.int ∧ lotJ n js ∧ js.length ≤ n := by
  unfold rgAt at h
  obtain ⟨l, h1, h2⟩ := List.sublist_map_iff.mp h
  refine ⟨l.map fun i => (0 : Int) + (i : Nat), by rw [h2, List.map_map]; rfl, ⟨?_, fun j hj => ?_⟩, ?_⟩
  · have p : (List.range n).Pairwise (· < ·) := List.pairwise_lt_range
    have p2 := p.sublist h1
    rw [List.pairwise_map]
    exact p2.imp fun hab => by omega
  · obtain ⟨i, hi, rfl⟩ := List.mem_map.mp hj
    have := List.mem_range.mp (h1.subset hi)
    omega
  · rw [List.length_map]; exact Nat.le_trans h1.length_le (by simp)
theorem rg_int {n i : Nat} {d : D} (h : (rgAt 0 n)[i]? = some d) : d = .int i ∧ i < n := by
  unfold rgAt at h
  rw [List.getElem?_map] at h
  cases e : (List.range n)[i]? with
  | none => rw [e] at h; cases h
  | some c =>
    rw [e] at h; cases h
    obtain ⟨h1, h2⟩ := List.getElem?_eq_some_iff.mp e
    simp at h1 h2
    subst h2
    exact ⟨by simp, h1⟩
section
variable {P : Program} {w : World} {K : PySem.W.Frag} {mg : Str → Option Value} {base : Heap}
abbrev S_wish : FSpec := ⟨fun ds => ds = [.pool, .int 6], fun ds d => wishT d, fun _ _ => False⟩
theorem ok_law_wish {f : Addr} {fd : FuncData} (F : Fun K "_law_wish" "_law_wish" s__law_wish f fd) (T : Tx mg) (c__law_draw : Dfn P w K mg base "_law_draw" 1 2 S_draw) (c__law_unit : Dfn P w K mg base "_law_unit" 1 2 S_unit)
    (c__law_mixed : Dfn P w K mg base "_law_mixed" 2 2 S_mixed) (c__law_some_row : Dfn P w K mg base "_law_some_row" 3 3 S_some_row) : FnOk P w K mg base (L2.CX P w) 4 f fd ["pool", "most"] (spS K 2 S_wish) := by
  refine fn_ab F sc__law_wish S_wish (by decide) fun cdv A outer s H E ds W hr tk hn hp => ?_
  refine ⟨_, (pss_cons (ps_set (i := 2) sc__law_wish.nd rfl (Or.inr rfl) (pe_op (k_plus K) pe_int (kc_fn c__law_draw hr (by decide) ⟨rfl, rfl, rfl, rfl, rfl⟩ rfl (pa_cons (pv 0) (pa_cons (pv 1) pa_nil)))))
      (pss_cons (ps_set (i := 3) sc__law_wish.nd rfl (Or.inl rfl) (kc_fn c__law_draw hr (by decide) ⟨rfl, rfl, rfl, rfl, rfl⟩ rfl (pa_cons (pv 0) (pa_cons pe_int pa_nil))))
      (pss_cons (ps_set (i := 4) sc__law_wish.nd rfl (Or.inr rfl) (pe_lc (own := [("cell", 6)]) rfl sc__law_wish.nd (pi_range1 rfl T.range (pa_cons (pv 2) pa_nil)) (blkOk_by (own := [("cell", 6)]) (N := N__law_wish) (sc := defScope s__law_wish) (by decide +kernel))
        (fun _ _ _ _ _ => (pg_name (i := 6) sc__law_wish.nd rfl (Or.inl rfl))) (fun _ _ _ _ _ => pts_nil) (fun _ _ _ _ _ => (kc_fn c__law_some_row hr (by decide) ⟨rfl, rfl, rfl, rfl, rfl⟩ rfl (pa_cons (pv 0) (pa_cons (pv 2) (pa_cons (pv 6) pa_nil)))))))
      (pss_cons (ps_if (pt_cmpR (k_eq K hr.units) (pv 3) pe_int (nomark _)) (pss_one (ps_set (i := 4) sc__law_wish.nd rfl (Or.inr rfl) (pe_lc (own := [("source", 7)]) rfl sc__law_wish.nd (ki_seq K (kc_fn c__law_mixed hr (by decide) ⟨rfl, rfl, rfl, rfl, rfl⟩ rfl (pa_cons (pv 0) (pa_cons (pe_listRg rfl rfl T.list (prg_1 rfl T.range (pv 2))) pa_nil)))) (blkOk_by (own := [("source", 7)]) (N := N__law_wish) (sc := defScope s__law_wish) (by decide +kernel))
        (fun _ _ _ _ _ => (pg_name (i := 7) sc__law_wish.nd rfl (Or.inl rfl))) (fun _ _ _ _ _ => pts_nil) (fun _ _ _ _ _ => (kc_fn c__law_unit hr (by decide) ⟨rfl, rfl, rfl, rfl, rfl⟩ rfl (pa_cons (pv 2) (pa_cons (pv 7) pa_nil))))))) pss_nil)
      (pss_cons (ps_if (pt_cmpR (k_eq K hr.units) (pv 3) pe_int (nomark _)) (pss_one (ps_set (i := 4) sc__law_wish.nd rfl (Or.inr rfl) (pe_lc (own := [("cell", 6)]) rfl sc__law_wish.nd (pi_range1 rfl T.range (pa_cons (pv 2) pa_nil)) (blkOk_by (own := [("cell", 6)]) (N := N__law_wish) (sc := defScope s__law_wish) (by decide +kernel))
        (fun _ _ _ _ _ => (pg_name (i := 6) sc__law_wish.nd rfl (Or.inl rfl))) (fun _ _ _ _ _ => pts_nil) (fun _ _ _ _ _ => (kc_fn c__law_unit hr (by decide) ⟨rfl, rfl, rfl, rfl, rfl⟩ rfl (pa_cons (pv 2) (pa_cons (kc_fn c__law_draw hr (by decide) ⟨rfl, rfl, rfl, rfl, rfl⟩ rfl (pa_cons (pv 0) (pa_cons (pv 2) pa_nil))) pa_nil))))))) pss_nil)
      (pss_cons (ps_if (pt_cmpR op_gt (pv 3) pe_int (nomark _)) (pss_one (ps_set (i := 4) sc__law_wish.nd rfl (Or.inr rfl) (pe_lc (own := [("row", 8)]) rfl sc__law_wish.nd (ki_seq K (pv 4)) (blkOk_by (own := [("row", 8)]) (N := N__law_wish) (sc := defScope s__law_wish) (by decide +kernel))
        (fun _ _ _ _ _ => (pg_name (i := 8) sc__law_wish.nd rfl (Or.inl rfl))) (fun _ _ _ _ _ => pts_nil) (fun _ _ _ _ _ => (pe_ifExp (pt_cmpR (k_eq K hr.units) (kc_fn c__law_draw hr (by decide) ⟨rfl, rfl, rfl, rfl, rfl⟩ rfl (pa_cons (pv 0) (pa_cons pe_int pa_nil))) pe_int (nomark _)) pe_non (pv 8)))))) pss_nil)
      (pss_cons (ps_set (i := 5) sc__law_wish.nd rfl (Or.inr rfl) (pe_lst pa_nil))
      (pss_cons (ps_if (pt_cmpR (k_eq K hr.units) (kc_fn c__law_draw hr (by decide) ⟨rfl, rfl, rfl, rfl, rfl⟩ rfl (pa_cons (pv 0) (pa_cons pe_int pa_nil))) pe_int (nomark _)) (pss_cons (ps_set (i := 5) sc__law_wish.nd rfl (Or.inr rfl) (pe_lc (own := [("cell", 6)]) rfl sc__law_wish.nd (pi_range1 rfl T.range (pa_cons (pv 2) pa_nil)) (blkOk_by (own := [("cell", 6)]) (N := N__law_wish) (sc := defScope s__law_wish) (by decide +kernel))
        (fun _ _ _ _ _ => (pg_name (i := 6) sc__law_wish.nd rfl (Or.inl rfl))) (fun _ _ _ _ _ => (pts_one (pt_cmpR (k_eq K hr.units) (kc_fn c__law_draw hr (by decide) ⟨rfl, rfl, rfl, rfl, rfl⟩ rfl (pa_cons (pv 0) (pa_cons pe_int pa_nil))) pe_int (nomark _)))) (fun _ _ _ _ _ => (pv 6))))
      (pss_one (ps_set (i := 4) sc__law_wish.nd rfl (Or.inr rfl) (pe_lc (own := [("cell", 6)]) rfl sc__law_wish.nd (pi_range1 rfl T.range (pa_cons (pv 2) pa_nil)) (blkOk_by (own := [("cell", 6)]) (N := N__law_wish) (sc := defScope s__law_wish) (by decide +kernel))
        (fun _ _ _ _ _ => (pg_name (i := 6) sc__law_wish.nd rfl (Or.inl rfl))) (fun _ _ _ _ _ => pts_nil) (fun _ _ _ _ _ => (pe_ifExp (PW.pt (pw_and (pt_cmpR (k_in K) (pv 6) (pv 5) rfl) (pw_and1 (pt_cmpR op_gt (kc_fn c__law_draw hr (by decide) ⟨rfl, rfl, rfl, rfl, rfl⟩ rfl (pa_cons (pv 0) (pa_cons pe_int pa_nil))) pe_int (nomark _))))) (kc_fn c__law_unit hr (by decide) ⟨rfl, rfl, rfl, rfl, rfl⟩ rfl (pa_cons (pv 2) (pa_cons (pv 6) pa_nil))) (pe_ix (k_ix K) (pv 4) (pv 6) (fun _ _ => rfl)))))))) pss_nil)
      (pss_one (ps_ret (pe_tup (pa_cons (pe_callTy (k_tuple K) rfl T.tuple (by decide +kernel) (pa_cons (pv 4) pa_nil)) (pa_cons (pe_callTy (k_tuple K) rfl T.tuple (by decide +kernel) (pa_cons (pv 5) pa_nil)) (pa_cons (pe_ix (k_ix K) (pe_lst (pa_cons pe_int (pa_cons pe_int (pa_cons pe_int (pa_cons pe_int (pa_cons pe_int pa_nil)))))) (kc_fn c__law_draw hr (by decide) ⟨rfl, rfl, rfl, rfl, rfl⟩ rfl (pa_cons (pv 0) (pa_cons pe_int pa_nil))) (fun _ _ => rfl)) pa_nil)))))))))))))), ?_⟩
  rintro Z rfl rfl hX
  obtain rfl : ds = [.pool, .int 6] := hp
  repeat walk_at "den"
  refine den_draw ?_
  repeat walk_at "den"
  refine ⟨6, rfl, by decide, by decide, fun q q0 q1 => ?_⟩
  repeat walk_at "den"
  obtain ⟨n, hn'⟩ : ∃ n : Nat, (1 : Int) + q = n := ⟨(1 + q).toNat, by omega⟩
  rw [hn']
  have n1 : 1 ≤ n := by omega
  have n6 : n ≤ 6 := by omega
  refine den_draw ?_
  repeat walk_at "den"
  refine ⟨5, rfl, by decide, by decide, fun kd k0 k1 => ?_⟩
  have unit : ∀ {Γ : List B} {ta tb : TE} {a : Int} {Q : D → List B → Prop}, Den Z ta Γ (fun x Γ1 => x = .int n ∧ Γ1 = Γ) → Den Z tb Γ (fun x Γ1 => x = .int a ∧ Γ1 = Γ) → (∀ d, rowS n d → Q d Γ) → Den Z (tCall (spS Z.K 2 S_unit) [] E0 (tCons ta (tCons tb tNil))) Γ Q := fun {Γ ta tb a Q} ha hb q =>
    den_call (dena_cons (ha.mono fun x Γ1 ⟨e1, e2⟩ => dena_cons (by
      subst e1; subst e2
      exact hb.mono fun y Γ2 ⟨e3, e4⟩ => dena_nil (by
        subst e3; subst e4
        exact ⟨rfl, ⟨_, _, rfl, by omega, by omega⟩, fun d ⟨n', a', e, hd⟩ => by
          cases e
          exact q d (by simpa using hd), fun _ z => z⟩))))
  let M : List B → Prop := fun Γ => ∃ rs, Γ = [.d .pool, .d (.int 6), .d (.int n), .d (.int kd), .d (.lst rs), .un, .un, .un, .un] ∧ rs.length = n ∧ ∀ r ∈ rs, cellS n r
  refine deng_name ?_
  refine dens_cut M (dens_asg (den_l (denl_rel (goff_name (by simp)) gmono_name (deni_rng1 ?_)))) ?_
  · repeat walk_at "den"
    refine ⟨n, rfl, by omega, by omega, no_own1 (fun z => z), by simp [rgAt]; omega, fun _ y => cellS n y, fun i d hd => ?_, fun ys hys => ?_⟩
    · obtain ⟨rfl, hi⟩ := rg_int hd
      refine deng_name ⟨rfl, no_own1 (fun z => z), ?_⟩
      refine den_call ?_
      repeat walk_at "den"
      refine ⟨rfl, ⟨n, i, rfl, by omega, by omega⟩, ?_, fun _ z => z⟩
      rintro d ⟨n', a', e, hd⟩
      cases e
      exact ⟨rfl, .inr (by simpa using hd)⟩
    · refine deng_name ⟨ys, rfl, ?_, fun x m => Each.all (p := fun y => cellS n y) (fun _ _ z => z) hys x m⟩
      rw [← hys.length]; simp [rgAt]
  rintro Γ ⟨rs, rfl, hl, hr'⟩
  refine dens_cut M ?_ ?_
  · repeat walk_at "den"
    refine ⟨_, rfl, ite_b (fun h => ?_) fun h => ?_⟩
    · refine dens_asg (den_l (denl_rel (goff_name (by simp)) gmono_name (deni_seq ?_)))
      refine den_call ?_
      repeat walk_at "den"
      refine den_listRg ?_
      repeat walk_at "den"
      refine ⟨n, rfl, by omega, by omega, ?_⟩
      repeat walk_at "den"
      refine ⟨rfl, ⟨_, rfl, by simp; omega⟩, ?_, fun _ z => z⟩
      rintro d ⟨js, ks, e, rfl, hk⟩
      have hjs : js.length = n := by
        simp only [List.cons.injEq, D.lst.injEq, and_true, true_and] at e
        have := congrArg List.length e
        simpa using this.symm
      refine ⟨_, .inl rfl, no_own1 (fun z => z), by simp; omega, fun _ y => cellS n y, fun i d hd => ?_, fun ys hys => ?_⟩
      · obtain ⟨c, rfl⟩ : ∃ c, d = .int c := by
          rw [List.getElem?_map] at hd
          cases e : ks[i]? with
          | none => rw [e] at hd; cases hd
          | some c => rw [e] at hd; cases hd; exact ⟨c, rfl⟩
        refine deng_name ⟨rfl, no_own1 (fun z => z), ?_⟩
        exact unit (den_var rfl ⟨rfl, rfl⟩) (den_var rfl ⟨rfl, rfl⟩) fun d hd => ⟨rfl, .inr hd⟩
      · refine deng_name ⟨ys, rfl, ?_, fun x m => Each.all (p := fun y => cellS n y) (fun _ _ z => z) hys x m⟩
        rw [← hys.length]; simp; omega
    · exact dens_nil ⟨rs, rfl, hl, hr'⟩
  rintro Γ ⟨rs, rfl, hl, hr'⟩
  refine dens_cut M ?_ ?_
  · repeat walk_at "den"
    refine ⟨_, rfl, ite_b (fun h => ?_) fun h => ?_⟩
    · refine dens_asg (den_l (denl_rel (goff_name (by simp)) gmono_name (deni_rng1 ?_)))
      repeat walk_at "den"
      refine ⟨n, rfl, by omega, by omega, no_own1 (fun z => z), by simp [rgAt]; omega, fun _ y => cellS n y, fun i d hd => ?_, fun ys hys => ?_⟩
      · refine deng_name ⟨rfl, no_own1 (fun z => z), ?_⟩
        refine den_call ?_
        repeat walk_at "den"
        refine den_draw ?_
        repeat walk_at "den"
        refine ⟨n, rfl, by omega, by omega, fun a a0 a1 => ?_⟩
        repeat walk_at "den"
        refine ⟨rfl, ⟨n, a, rfl, by omega, by omega⟩, ?_, fun _ z => z⟩
        rintro d ⟨n', a', e, hd⟩
        cases e
        exact ⟨rfl, .inr (by simpa using hd)⟩
      · refine deng_name ⟨ys, rfl, ?_, fun x m => Each.all (p := fun y => cellS n y) (fun _ _ z => z) hys x m⟩
        rw [← hys.length]; simp [rgAt]
    · exact dens_nil ⟨rs, rfl, hl, hr'⟩
  rintro Γ ⟨rs, rfl, hl, hr'⟩
  refine dens_cut M ?_ ?_
  · repeat walk_at "den"
    refine ⟨_, rfl, ite_b (fun h => ?_) fun h => ?_⟩
    · refine dens_asg (den_l (denl_rel (goff_name (by simp)) gmono_name (deni_seq ?_)))
      repeat walk_at "den"
      refine ⟨rs, .inl rfl, no_own1 (fun z => z), by omega, fun _ y => cellS n y, fun i d hd => ?_, fun ys hys => ?_⟩
      · refine deng_name ⟨rfl, no_own1 (fun z => z), ?_⟩
        repeat walk_at "den"
        refine den_draw ?_
        repeat walk_at "den"
        refine ⟨5, rfl, by decide, by decide, fun a a0 a1 => ?_⟩
        repeat walk_at "den"
        refine ⟨_, rfl, ite_b (fun h => ?_) fun h => ?_⟩
        · repeat walk_at "den"
          exact ⟨rfl, .inl rfl⟩
        · repeat walk_at "den"
          exact ⟨rfl, hr' d (List.mem_of_getElem? hd)⟩
      · refine deng_name ⟨ys, rfl, ?_, fun x m => Each.all (p := fun y => cellS n y) (fun _ _ z => z) hys x m⟩
        rw [← hys.length]; exact hl
    · exact dens_nil ⟨rs, rfl, hl, hr'⟩
  rintro Γ ⟨rs, rfl, hl, hr'⟩
  repeat walk_at "den"
  refine ⟨by simp, ?_⟩
  refine deng_name ?_
  refine dens_cut (fun Γ => ∃ rs js, Γ = [.d .pool, .d (.int 6), .d (.int n), .d (.int kd), .d (.lst rs), .d (.lst (js.map D.int)), .un, .un, .un] ∧ rs.length = n ∧ (∀ r ∈ rs, cellS n r) ∧ lotJ n js ∧ js.length ≤ n) ?_ ?_
  · repeat walk_at "den"
    refine den_draw ?_
    repeat walk_at "den"
    refine ⟨4, rfl, by decide, by decide, fun a a0 a1 => ?_⟩
    repeat walk_at "den"
    refine ⟨_, rfl, ite_b (fun h => ?_) fun h => ?_⟩
    · refine dens_cut (fun Γ => ∃ js, Γ = [.d .pool, .d (.int 6), .d (.int n), .d (.int kd), .d (.lst rs), .d (.lst (js.map D.int)), .un, .un, .un] ∧ lotJ n js ∧ js.length ≤ n) (dens_asg (den_l (denl_filter (goff_name (by simp)) gmono_name (deni_rng1 ?_)))) ?_
      · repeat walk_at "den"
        refine ⟨n, rfl, by omega, by omega, no_own1 (fun z => z), by simp [rgAt]; omega, fun _ _ => True, fun d y => y = d, fun i d hd => ?_, fun bs ys hb hys => ?_⟩
        · refine deng_name ⟨rfl, no_own1 (fun z => z), ?_⟩
          repeat walk_at "den"
          refine den_draw ?_
          repeat walk_at "den"
          refine ⟨3, rfl, by decide, by decide, fun a a0 a1 => ?_⟩
          repeat walk_at "den"
          exact ⟨_, rfl, rfl, trivial, fun _ => den_var rfl ⟨rfl, rfl⟩⟩
        · have e := Each.map_eq (f := fun d => d) hys
          rw [List.map_id'] at e
          obtain ⟨js, e2, h1, h2⟩ := sub_rg (n := (n : Int).toNat) (ys := ys) (by rw [e]; exact pick_sub _ _)
          refine deng_name ⟨js, ?_, by simpa using h1, by simpa using h2⟩
          rw [e2]; rfl
      · rintro Γ ⟨js, rfl, hj, hjl⟩
        refine dens_asg (den_l (denl_rel (goff_name (by simp)) gmono_name (deni_rng1 ?_)))
        repeat walk_at "den"
        refine ⟨n, rfl, by omega, by omega, no_own1 (fun z => z), by simp [rgAt]; omega, fun _ y => cellS n y, fun i d hd => ?_, fun ys hys => ?_⟩
        · obtain ⟨rfl, hi⟩ := rg_int hd
          refine deng_name ⟨rfl, no_own1 (fun z => z), ?_⟩
          have last : Den Z (tOp (rIx Z.K) (tVar 4) (tVar 6)) ([.d .pool, .d (.int 6), .d (.int n), .d (.int kd), .d (.lst rs), .d (.lst (js.map D.int)), .d (.int i), .un, .un]) fun y Γ4 => Γ4 = [.d .pool, .d (.int 6), .d (.int n), .d (.int kd), .d (.lst rs), .d (.lst (js.map D.int)), .d (.int i), .un, .un] ∧ cellS n y := by
            refine den_op (den_var rfl (den_var rfl ?_))
            obtain ⟨r, h1, h2⟩ := atI_lt (xs := rs) (i := (i : Int)) (by omega) (by omega)
            exact opd_ixL h1 ⟨rfl, hr' r h2⟩
          repeat walk_at "den"
          refine opd_inI (.inl rfl) ⟨_, rfl, ite_b (fun h => ?_) fun h => ?_⟩
          · repeat walk_at "den"
            refine den_draw ?_
            repeat walk_at "den"
            refine ⟨4, rfl, by decide, by decide, fun a a0 a1 => ?_⟩
            repeat walk_at "den"
            refine ⟨_, rfl, ite_b (fun h => ?_) fun h => ?_⟩
            · exact unit (den_var rfl ⟨rfl, rfl⟩) (den_var rfl ⟨rfl, rfl⟩) fun d hd => ⟨rfl, .inr hd⟩
            · exact last
          · exact ifF last
        · refine deng_name ⟨ys, js, rfl, ?_, fun x m => Each.all (p := fun y => cellS n y) (fun _ _ z => z) hys x m, hj, hjl⟩
          rw [← hys.length]; simp [rgAt]
    · exact dens_nil ⟨rs, [], rfl, hl, hr', ⟨.nil, by simp⟩, by simp⟩
  · rintro Γ ⟨rs, js, rfl, hl, hr', hj, hjl⟩
    repeat walk_at "den"
    refine cad_tupleL ?_
    repeat walk_at "den"
    refine cad_tupleL ?_
    repeat walk_at "den"
    refine ⟨by simp, ?_⟩
    repeat walk_at "den"
    refine den_draw ?_
    repeat walk_at "den"
    refine ⟨5, rfl, by decide, by decide, fun a a0 a1 => ?_⟩
    obtain ⟨d, hd, hm⟩ := atI_len (xs := [D.int 0, .int 0, .int 0, .int 1, .int 2]) (n := 5) a0 a1 rfl
    refine opd_ixL hd ?_
    obtain ⟨s, rfl, s0, s2⟩ : ∃ s : Int, d = .int s ∧ 0 ≤ s ∧ s ≤ 2 := by
      simp only [List.mem_cons, List.not_mem_nil, or_false] at hm
      rcases hm with rfl | rfl | rfl | rfl | rfl <;> exact ⟨_, rfl, by decide, by decide⟩
    repeat walk_at "den"
    exact ⟨by simp, n, rs, js, s, rfl, hl, n1, n6, hr', hj, s0, s2⟩
end
section
variable {P : Program} {w : World} {K : PySem.W.Frag} {mg : Str → Option Value} {base : Heap}
abbrev S_bent_row : FSpec := ⟨fun ds => ∃ (r : D) (n : Nat), ds = [.pool, r, .int n] ∧ cellS n r ∧ 1 ≤ n ∧ n ≤ 6, fun ds d => kD d = true, fun _ _ => False⟩
def oddL : List D := [.tup [.int 2, .int 4], .tup [.int 0, .int 2], .tup [.int 1, .int 0], .tup [.int 1, .int (-1)], .tup [.int 1], .tup [.int 1, .int 1, .int 1], .int 1, .non, .bl true, .tup [.bl true, .int 1], .tup [.int 1, .bl true], .tup [.str "1", .int 1], .lst [.int 1, .int 1], deepD 35]
theorem kD_odd : ∀ x ∈ oddL, kD x = true := by
  have h : ksD oddL.dropLast = true := by decide +kernel
  intro x hx
  rcases List.mem_append.mp (show x ∈ oddL.dropLast ++ [deepD 35] from hx) with e | e
  · exact ksD_all.mp h x e
  · rw [List.mem_singleton.mp e]; exact kD_deep 35
theorem ok_law_bent_row {f : Addr} {fd : FuncData} (F : Fun K "_law_bent_row" "_law_bent_row" s__law_bent_row f fd) (T : Tx mg) (c__law_draw : Dfn P w K mg base "_law_draw" 1 2 S_draw) (c__law_unit : Dfn P w K mg base "_law_unit" 1 2 S_unit) (c__law_deep : Dfn P w K mg base "_law_deep" 1 0 S_deep) :
    FnOk P w K mg base (L2.CX P w) 2 f fd ["pool", "row", "many"] (spS K 3 S_bent_row) := by
  refine fn_ab F sc__law_bent_row S_bent_row (by decide) fun cdv A outer s H E ds W hr tk hn hp => ?_
  refine ⟨_, (pss_cons (ps_set (i := 3) sc__law_bent_row.nd rfl (Or.inl rfl) (pe_lst (pa_cons (pe_tup (pa_cons pe_int (pa_cons pe_int pa_nil))) (pa_cons (pe_tup (pa_cons pe_int (pa_cons pe_int pa_nil))) (pa_cons (pe_tup (pa_cons pe_int (pa_cons pe_int pa_nil))) (pa_cons (pe_tup (pa_cons pe_int (pa_cons (pe_un un_neg pe_int) pa_nil))) (pa_cons (pe_tup (pa_cons pe_int pa_nil)) (pa_cons (pe_tup (pa_cons pe_int (pa_cons pe_int (pa_cons pe_int pa_nil)))) (pa_cons pe_int (pa_cons pe_non (pa_cons pe_bl (pa_cons (pe_tup (pa_cons pe_bl (pa_cons pe_int pa_nil))) (pa_cons (pe_tup (pa_cons pe_int (pa_cons pe_bl pa_nil))) (pa_cons (pe_tup (pa_cons pe_str (pa_cons pe_int pa_nil))) (pa_cons (pe_lst (pa_cons pe_int (pa_cons pe_int pa_nil))) (pa_cons (kc_fn0 c__law_deep hr (by decide) ⟨rfl, rfl, rfl, rfl, rfl⟩ rfl) pa_nil))))))))))))))))
      (pss_cons (ps_set (i := 1) sc__law_bent_row.nd rfl (Or.inl rfl) (pe_ifExp (pt_cmp (pc_isN (pv 1))) (kc_fn c__law_unit hr (by decide) ⟨rfl, rfl, rfl, rfl, rfl⟩ rfl (pa_cons (pv 2) (pa_cons pe_int pa_nil))) (pv 1)))
      (pss_cons (ps_set (i := 4) sc__law_bent_row.nd rfl (Or.inl rfl) (kc_fn c__law_draw hr (by decide) ⟨rfl, rfl, rfl, rfl, rfl⟩ rfl (pa_cons (pv 0) (pa_cons (pv 2) pa_nil))))
      (pss_cons (ps_set (i := 5) sc__law_bent_row.nd rfl (Or.inl rfl) (pe_ix (k_ix K) (pv 3) (kc_fn c__law_draw hr (by decide) ⟨rfl, rfl, rfl, rfl, rfl⟩ rfl (pa_cons (pv 0) (pa_cons pe_int pa_nil))) (fun _ _ => rfl)))
      (pss_cons (ps_set (i := 6) sc__law_bent_row.nd rfl (Or.inl rfl) (pe_op (k_plus K) (pe_op (k_times K) (pe_lst (pa_cons (pe_op (k_plus K) (pe_op (k_plus K) (pe_slice (k_sl K) (pv 1) po_none (po_some (pv 4))) (pe_tup (pa_cons (pv 5) pa_nil))) (pe_slice (k_sl K) (pv 1) (po_some (pe_op (k_plus K) (pv 4) pe_int)) po_none)) pa_nil)) pe_int) (pe_lst (pa_cons (pe_slice (k_sl K) (pv 1) po_none (po_some (pe_un un_neg pe_int))) (pa_cons (pe_op (k_plus K) (pv 1) (pe_tup (pa_cons (pe_tup (pa_cons pe_int (pa_cons pe_int pa_nil))) pa_nil))) (pa_cons (pe_callTy (k_list K) rfl T.list (by decide +kernel) (pa_cons (pv 1) pa_nil)) (pa_cons (pe_tup pa_nil) (pa_cons pe_str (pa_cons pe_int (pa_cons pe_dnewK (pa_cons pe_bl (pa_cons (pv 1) (pa_cons pe_non pa_nil)))))))))))))
      (pss_one (ps_ret (pe_ix (k_ix K) (pv 6) (kc_fn c__law_draw hr (by decide) ⟨rfl, rfl, rfl, rfl, rfl⟩ rfl (pa_cons (pv 0) (pa_cons pe_int pa_nil))) (fun _ _ => rfl))))))))), ?_⟩
  rintro Z rfl rfl hX
  obtain ⟨r, n, rfl, hr', n1, n6⟩ := hp
  refine dens_cut (fun Γ => Γ = [.d .pool, .d r, .d (.int n), .d (.lst oddL), .un, .un, .un]) ?_ ?_
  · repeat (first | walk_at "den" | refine ⟨(by simp : _ ≤ 100000), ?_⟩)
    refine ⟨rfl, rfl, ?_⟩
    repeat (first | walk_at "den" | refine ⟨(by simp : _ ≤ 100000), ?_⟩)
    rfl
  rintro Γ rfl
  refine dens_cut (fun Γ => ∃ xs, Γ = [.d .pool, .d (.tup xs), .d (.int n), .d (.lst oddL), .un, .un, .un] ∧ xs.length = n ∧ kD (.tup xs) = true) ?_ ?_
  · repeat walk_at "den"
    have go : ∀ {xs}, rowS n (.tup xs) → xs.length = n ∧ kD (.tup xs) = true := fun {xs} h => by
      refine ⟨?_, rowS_kD h (by omega)⟩
      obtain ⟨ys, e, hl, _⟩ := h
      cases e; exact hl
    refine ⟨_, rfl, ite_b (fun h => ?_) fun h => ?_⟩
    · refine den_call ?_
      repeat walk_at "den"
      refine ⟨rfl, ⟨n, 0, rfl, by omega, by omega⟩, ?_, fun _ z => z⟩
      rintro d ⟨n', a', e, hd⟩
      cases e
      have hd : rowS n d := by simpa using hd
      obtain ⟨xs, rfl, hx⟩ := id hd
      exact deng_name ⟨xs, rfl, go hd⟩
    · have hd : rowS n r := by
        rcases hr' with e | e
        · rw [e] at h; simp at h
        · exact e
      obtain ⟨xs, rfl, hx⟩ := id hd
      repeat walk_at "den"
      exact ⟨xs, rfl, go hd⟩
  rintro Γ ⟨xs, rfl, hl, hk⟩
  repeat walk_at "den"
  refine den_draw ?_
  repeat walk_at "den"
  refine ⟨n, rfl, by omega, by omega, fun a a0 a1 => ?_⟩
  repeat walk_at "den"
  refine den_draw ?_
  repeat walk_at "den"
  refine ⟨14, rfl, by decide, by decide, fun b b0 b1 => ?_⟩
  obtain ⟨t, ht, hm⟩ := atI_len (xs := oddL) (n := 14) b0 b1 rfl
  have kt := kD_odd t hm
  refine opd_ixL ht ?_
  have cl : ∀ {lo hi : Option Int}, (cutD xs lo hi).length ≤ 6 := fun {lo hi} => by have := cutD_len (xs := xs) (lo := lo) (hi := hi); omega
  refine deng_name ?_
  refine dens_cut (fun Γ => ∃ ys, Γ = [.d .pool, .d (.tup xs), .d (.int n), .d (.lst oddL), .d (.int a), .d t, .d (.lst ys)] ∧ ys.length = 14 ∧ ∀ y ∈ ys, kD y = true) ?_ ?_
  · repeat walk_at "den"
    refine ⟨_, rfl, ?_⟩
    repeat walk_at "den"
    refine ⟨_, rfl, ?_⟩
    repeat walk_at "den"
    refine ⟨by simp, ?_⟩
    refine plus_tup (by have := cl (lo := none) (hi := some a); simp; omega) ?_
    repeat walk_at "den"
    refine ⟨_, rfl, ?_⟩
    repeat walk_at "den"
    refine ⟨_, rfl, ?_⟩
    refine plus_tup (by have := cl (lo := none) (hi := some a); have := cl (lo := some (a + 1)) (hi := none); simp; omega) ?_
    repeat walk_at "den"
    refine ⟨by simp, ?_⟩
    repeat walk_at "den"
    refine timesD_lst (by decide) (by decide) (by simp) ?_
    repeat walk_at "den"
    refine ⟨_, rfl, ?_⟩
    repeat walk_at "den"
    refine ⟨_, rfl, ?_⟩
    repeat walk_at "den"
    refine ⟨by simp, ?_⟩
    repeat walk_at "den"
    refine ⟨by simp, ?_⟩
    refine plus_tup (by simp; omega) ?_
    repeat walk_at "den"
    refine cad_listT ?_
    repeat (first | walk_at "den" | refine ⟨(by simp : _ ≤ 100000), ?_⟩)
    refine plusD_lst (by simp) ?_
    repeat walk_at "den"
    refine ⟨_, rfl, by simp, fun y hy => ?_⟩
    have k1 : kD (.tup (cutD xs none (some a) ++ [t] ++ cutD xs (some (a + 1)) none)) = true := by
      have c1 := cl (lo := none) (hi := some a)
      have c2 := cl (lo := some (a + 1)) (hi := none)
      exact kD_app (kD_app (kD_cut hk) (kD_one kt) (by simp; omega)) (kD_cut hk) (by simp; omega)
    simp at hy
    rcases hy with ⟨l, hy1, hy2⟩ | hy
    · first | (rw [hy1] at hy2; simp at hy2; rw [hy2]; simpa using k1) | (simp_all)
    · rcases hy with rfl | rfl | rfl | rfl | rfl | rfl | rfl | rfl | rfl | rfl
      · exact kD_cut hk
      · exact kD_app hk (by decide +kernel) (by simp; omega)
      · exact kD_mkL (kD_tup hk) (kD_len hk)
      · rfl
      · decide +kernel
      · exact kD_i (by decide)
      · rfl
      · rfl
      · exact hk
      · rfl
  rintro Γ ⟨ys, rfl, hy, hk2⟩
  repeat walk_at "den"
  refine den_draw ?_
  repeat walk_at "den"
  refine ⟨14, rfl, by decide, by decide, fun c c0 c1 => ?_⟩
  obtain ⟨d, hd, hm⟩ := atI_len c0 c1 hy
  exact opd_ixL hd (hk2 d hm)
end
/-- what a law's parts may be -/
def bentT (d : D) : Prop := ∃ r l s, d = .tup [r, l, s] ∧ kD r = true ∧ kD l = true ∧ kD s = true ∧ ∀ xs, l = .tup xs → xs.length < 64
theorem kD_cell {n : Nat} {r : D} (h : cellS n r) (hn : n ≤ 6) : kD r = true := by
  rcases h with rfl | h
  · rfl
  · exact rowS_kD h (by omega)
theorem lot_kD {n : Nat} {js : List Int} (h : lotJ n js) (hn : n ≤ 6) (hl : js.length < 1000) : kD (.tup (js.map D.int)) = true := kD_mk (fun x m => by
  obtain ⟨j, hj, rfl⟩ := List.mem_map.mp m
  have := h.2 j hj
  exact kD_i (by omega)) (by simpa using hl)
theorem lotJ_len {n : Nat} : ∀ {js : List Int}, lotJ n js → js.length ≤ n := fun {js} h => by
  have key : ∀ (js : List Int) (lo : Int), js.Pairwise (· < ·) → (∀ j ∈ js, lo ≤ j ∧ j < n) → (js.length : Int) ≤ (n : Int) - lo ∨ js = [] := by
    intro js
    induction js with
    | nil => intros; exact .inr rfl
    | cons a js ih =>
      intro lo p q
      rw [List.pairwise_cons] at p
      have qa := q a (by simp)
      rcases ih (a + 1) p.2 (fun j hj => ⟨by have := p.1 j hj; omega, (q j (by simp [hj])).2⟩) with h | h
      · left; simp; omega
      · left; subst h; simp; omega
  rcases key js 0 h.1 (fun j hj => h.2 j hj) with e | e
  · omega
  · rw [e]; simp
section
variable {P : Program} {w : World} {K : PySem.W.Frag} {mg : Str → Option Value} {base : Heap}
abbrev S_bent : FSpec := ⟨fun ds => ∃ d, ds = [.pool, d] ∧ wishT d, fun ds d => bentT d, fun _ _ => False⟩
theorem ok_law_bent {f : Addr} {fd : FuncData} (F : Fun K "_law_bent" "_law_bent" s__law_bent f fd) (T : Tx mg) (c__law_draw : Dfn P w K mg base "_law_draw" 1 2 S_draw) (c__law_bent_row : Dfn P w K mg base "_law_bent_row" 2 3 S_bent_row) (c__law_deep : Dfn P w K mg base "_law_deep" 1 0 S_deep) :
    FnOk P w K mg base (L2.CX P w) 3 f fd ["pool", "spec"] (spS K 2 S_bent) := by
  refine fn_ab F sc__law_bent S_bent (by decide) fun cdv A outer s H E ds W hr tk hn hp => ?_
  refine ⟨_, (pss_cons (ps_asg (pv 1) (kg_tup (n := 3) K rfl (pgs_cons (pg_name (i := 2) sc__law_bent.nd rfl (Or.inl rfl)) (pgs_cons (pg_name (i := 3) sc__law_bent.nd rfl (Or.inl rfl)) (pgs_cons (pg_name (i := 4) sc__law_bent.nd rfl (Or.inl rfl)) pgs_nil)))))
      (pss_cons (ps_set (i := 5) sc__law_bent.nd rfl (Or.inl rfl) (kc_fn c__law_draw hr (by decide) ⟨rfl, rfl, rfl, rfl, rfl⟩ rfl (pa_cons (pv 0) (pa_cons pe_int pa_nil))))
      (pss_cons (ps_set (i := 6) sc__law_bent.nd rfl (Or.inl rfl) (kc_fn c__law_draw hr (by decide) ⟨rfl, rfl, rfl, rfl, rfl⟩ rfl (pa_cons (pv 0) (pa_cons (pe_callB (k_len K) rfl T.len (by decide +kernel) (pa_cons (pv 2) pa_nil)) pa_nil))))
      (pss_cons (ps_if (pt_cmpR op_lt (pv 5) pe_int (nomark _)) (pss_one (ps_set (i := 2) sc__law_bent.nd rfl (Or.inl rfl) (pe_op (k_plus K) (pe_op (k_plus K) (pe_slice (k_sl K) (pv 2) po_none (po_some (pv 6))) (pe_tup (pa_cons (kc_fn c__law_bent_row hr (by decide) ⟨rfl, rfl, rfl, rfl, rfl⟩ rfl (pa_cons (pv 0) (pa_cons (pe_ix (k_ix K) (pv 2) (pv 6) (fun _ _ => rfl)) (pa_cons (pe_callB (k_len K) rfl T.len (by decide +kernel) (pa_cons (pv 2) pa_nil)) pa_nil)))) pa_nil))) (pe_slice (k_sl K) (pv 2) (po_some (pe_op (k_plus K) (pv 6) pe_int)) po_none)))) pss_nil)
      (pss_cons (ps_if (pt_cmpR (k_eq K hr.units) (pv 5) pe_int (nomark _)) (pss_one (ps_set (i := 2) sc__law_bent.nd rfl (Or.inl rfl) (pe_ix (k_ix K) (pe_lst (pa_cons (pe_callTy (k_list K) rfl T.list (by decide +kernel) (pa_cons (pv 2) pa_nil)) (pa_cons (pe_tup pa_nil) (pa_cons (pe_op (k_times K) (pv 2) pe_int) (pa_cons pe_non (pa_cons pe_str (pa_cons (pe_ix (k_ix K) (pv 2) pe_int (fun _ _ => rfl)) (pa_cons pe_dnewK (pa_cons (kc_fn0 c__law_deep hr (by decide) ⟨rfl, rfl, rfl, rfl, rfl⟩ rfl) (pa_cons (pe_op (k_plus K) (pv 2) (pe_tup (pa_cons pe_non pa_nil))) (pa_cons (pe_slice (k_sl K) (pv 2) (po_some pe_int) po_none) pa_nil))))))))))) (kc_fn c__law_draw hr (by decide) ⟨rfl, rfl, rfl, rfl, rfl⟩ rfl (pa_cons (pv 0) (pa_cons pe_int pa_nil))) (fun _ _ => rfl)))) pss_nil)
      (pss_cons (ps_if (pt_cmpR (k_eq K hr.units) (pv 5) pe_int (nomark _)) (pss_cons (ps_set (i := 7) sc__law_bent.nd rfl (Or.inl rfl) (pe_lst (pa_cons (pe_lst (pa_cons (pv 6) pa_nil)) (pa_cons (pe_tup (pa_cons (pv 6) (pa_cons (pv 6) pa_nil))) (pa_cons (pe_tup (pa_cons (pe_callB (k_len K) rfl T.len (by decide +kernel) (pa_cons (pe_ix (k_ix K) (pv 1) pe_int (fun _ _ => rfl)) pa_nil)) pa_nil)) (pa_cons (pe_tup (pa_cons (pe_un un_neg pe_int) pa_nil)) (pa_cons (pe_tup (pa_cons pe_bl pa_nil)) (pa_cons pe_non (pa_cons (pv 6) (pa_cons pe_str (pa_cons (pe_tup (pa_cons pe_int (pa_cons pe_int (pa_cons pe_int (pa_cons pe_int (pa_cons pe_int (pa_cons pe_int (pa_cons pe_int pa_nil)))))))) (pa_cons (pe_tup (pa_cons pe_non pa_nil)) (pa_cons (kc_fn0 c__law_deep hr (by decide) ⟨rfl, rfl, rfl, rfl, rfl⟩ rfl) (pa_cons (pe_tup (pa_cons (pv 6) pa_nil)) (pa_cons (pe_tup (pa_cons pe_int (pa_cons pe_int pa_nil))) pa_nil)))))))))))))))
      (pss_one (ps_set (i := 3) sc__law_bent.nd rfl (Or.inl rfl) (pe_ix (k_ix K) (pv 7) (kc_fn c__law_draw hr (by decide) ⟨rfl, rfl, rfl, rfl, rfl⟩ rfl (pa_cons (pv 0) (pa_cons pe_int pa_nil))) (fun _ _ => rfl))))) pss_nil)
      (pss_cons (ps_if (pt_cmpR (k_eq K hr.units) (pv 5) pe_int (nomark _)) (pss_one (ps_set (i := 4) sc__law_bent.nd rfl (Or.inl rfl) (pe_ix (k_ix K) (pe_lst (pa_cons pe_int (pa_cons (pe_un un_neg pe_int) (pa_cons pe_bl (pa_cons pe_bl (pa_cons pe_non (pa_cons pe_str (pa_cons (pe_tup (pa_cons pe_int pa_nil)) (pa_cons (pe_op op_pow pe_int pe_int) (pa_cons pe_int (pa_cons pe_int (pa_cons pe_int (pa_cons (kc_fn0 c__law_deep hr (by decide) ⟨rfl, rfl, rfl, rfl, rfl⟩ rfl) pa_nil))))))))))))) (kc_fn c__law_draw hr (by decide) ⟨rfl, rfl, rfl, rfl, rfl⟩ rfl (pa_cons (pv 0) (pa_cons pe_int pa_nil))) (fun _ _ => rfl)))) pss_nil)
      (pss_one (ps_ret (pe_tup (pa_cons (pv 2) (pa_cons (pv 3) (pa_cons (pv 4) pa_nil))))))))))))), ?_⟩
  rintro Z rfl rfl hX
  obtain ⟨d, rfl, n, rs, js, s, rfl, hl, n1, n6, hr', hj, s0, s2⟩ := hp
  have hjl := lotJ_len hj
  have krs : kD (.tup rs) = true := kD_mk (fun x m => kD_cell (hr' x m) n6) (by omega)
  have kl : kD (.tup (js.map D.int)) = true := lot_kD hj n6 (by omega)
  repeat walk_at "den"
  refine den_draw ?_
  repeat walk_at "den"
  refine ⟨6, rfl, by decide, by decide, fun kd k0 k1 => ?_⟩
  repeat walk_at "den"
  refine den_draw ?_
  repeat walk_at "den"
  refine cad_lenT ?_
  repeat walk_at "den"
  refine ⟨_, rfl, by omega, by omega, fun a a0 a1 => ?_⟩
  refine deng_name ?_
  have two : ∀ (x : D), kD (.tup [x]) = true → kD (.tup [x]) = true := fun _ h => h
  refine dens_cut (fun Γ => ∃ r, Γ = [.d .pool, .d (.tup [.tup rs, .tup (js.map D.int), .int s]), .d r, .d (.tup (js.map D.int)), .d (.int s), .d (.int kd), .d (.int a), .un] ∧ kD r = true ∧ (kd = 3 → r = .tup rs)) ?_ ?_
  · repeat walk_at "den"
    refine ⟨_, rfl, ite_b (fun h => ?_) fun h => ?_⟩
    · repeat walk_at "den"
      refine ⟨_, rfl, ?_⟩
      repeat walk_at "den"
      refine ⟨_, rfl, ?_⟩
      repeat walk_at "den"
      obtain ⟨r, hra, hrm⟩ := atI_lt (xs := rs) (i := a) a0 a1
      refine den_call ?_
      repeat walk_at "den"
      refine opd_ixT hra ?_
      repeat walk_at "den"
      refine cad_lenT ?_
      repeat walk_at "den"
      refine ⟨rfl, ⟨r, n, by rw [hl], hr' r hrm, n1, n6⟩, fun d hd => ?_, fun _ z => z⟩
      repeat walk_at "den"
      refine ⟨by simp, ?_⟩
      have c1 := cutD_len (xs := rs) (lo := none) (hi := some a)
      have c2 := cutD_len (xs := rs) (lo := some (a + 1)) (hi := none)
      refine plus_tup (by simp; omega) ?_
      repeat walk_at "den"
      refine ⟨_, rfl, ?_⟩
      repeat walk_at "den"
      refine ⟨_, rfl, ?_⟩
      refine plus_tup (by simp; omega) ?_
      repeat walk_at "den"
      exact ⟨_, rfl, kD_app (kD_app (kD_cut krs) (kD_one hd) (by simp; omega)) (kD_cut krs) (by simp; omega), fun e => by rw [e] at h; simp at h⟩
    · exact dens_nil ⟨_, rfl, krs, fun _ => rfl⟩
  rintro Γ ⟨r, rfl, kr, her⟩
  refine dens_cut (fun Γ => ∃ r, Γ = [.d .pool, .d (.tup [.tup rs, .tup (js.map D.int), .int s]), .d r, .d (.tup (js.map D.int)), .d (.int s), .d (.int kd), .d (.int a), .un] ∧ kD r = true) ?_ ?_
  · repeat walk_at "den"
    refine ⟨_, rfl, ite_b (fun h => ?_) fun h => ?_⟩
    · obtain rfl := her (by simpa using h)
      repeat walk_at "den"
      refine cad_listT ?_
      repeat (first | walk_at "den" | refine ⟨(by simp : _ ≤ 100000), ?_⟩)
      have rne : rs ≠ [] := fun e => by rw [e] at hl; simp at hl; omega
      refine times_tup rne (by decide) (by decide) (by omega) ?_
      repeat walk_at "den"
      obtain ⟨r0, hra, hrm⟩ := atI_lt (xs := rs) (i := 0) (by decide) (by omega)
      refine opd_ixT hra ?_
      repeat walk_at "den"
      refine ⟨rfl, rfl, ?_⟩
      repeat (first | walk_at "den" | refine ⟨(by simp : _ ≤ 100000), ?_⟩)
      refine plus_tup (by simp; omega) ?_
      repeat walk_at "den"
      refine ⟨_, rfl, ?_⟩
      repeat walk_at "den"
      refine ⟨_, rfl, ?_⟩
      repeat walk_at "den"
      refine ⟨by simp, ?_⟩
      refine den_draw ?_
      repeat walk_at "den"
      refine ⟨10, rfl, by decide, by decide, fun b b0 b1 => ?_⟩
      refine opd_ixL_mem b0 b1 rfl fun d hm => ?_
      refine deng_name ⟨d, rfl, ?_⟩
      simp only [List.mem_cons, List.not_mem_nil, or_false] at hm
      rcases hm with rfl | rfl | rfl | rfl | rfl | rfl | rfl | rfl | rfl | rfl
      · exact kD_mkL (kD_tup krs) (kD_len krs)
      · rfl
      · refine kD_mk (fun x m => ?_) (by simp; omega)
        obtain ⟨l, hl1, hl2⟩ := List.mem_flatten.mp m
        rw [List.eq_of_mem_replicate hl1] at hl2
        exact kD_tup krs x hl2
      · rfl
      · decide +kernel
      · exact kD_cell (hr' _ hrm) n6
      · rfl
      · exact kD_deep 35
      · exact kD_app krs (by rfl) (by simp; omega)
      · exact kD_cut krs
    · exact dens_nil ⟨_, rfl, kr⟩
  rintro Γ ⟨r, rfl, kr⟩
  refine dens_cut (fun Γ => ∃ l b, Γ = [.d .pool, .d (.tup [.tup rs, .tup (js.map D.int), .int s]), .d r, .d l, .d (.int s), .d (.int kd), .d (.int a), b] ∧ kD l = true ∧ ∀ xs, l = .tup xs → xs.length < 64) ?_ ?_
  · repeat walk_at "den"
    refine ⟨_, rfl, ite_b (fun h => ?_) fun h => ?_⟩
    · repeat (first | walk_at "den" | refine ⟨(by simp : _ ≤ 100000), ?_⟩ | (refine opd_ixT (d := .tup rs) rfl ?_) | refine cad_lenT ?_ | refine ⟨rfl, rfl, ?_⟩)
      refine den_draw ?_
      repeat walk_at "den"
      refine ⟨13, rfl, by decide, by decide, fun b b0 b1 => ?_⟩
      refine opd_ixL_mem b0 b1 rfl fun d hm => ?_
      refine deng_name ⟨d, _, rfl, ?_, ?_⟩
      · have ka : kD (.int a) = true := kD_i (by omega)
        have kn : kD (.int rs.length) = true := kD_i (by omega)
        simp only [List.mem_cons, List.not_mem_nil, or_false] at hm
        rcases hm with rfl | rfl | rfl | rfl | rfl | rfl | rfl | rfl | rfl | rfl | rfl | rfl | rfl
        · exact kD_mkL (fun x m => by rw [List.mem_singleton.mp m]; exact ka) (by simp)
        · exact kD_mk (fun x m => by simp at m; rw [m]; exact ka) (by simp)
        · exact kD_one kn
        · decide +kernel
        · decide +kernel
        · rfl
        · exact ka
        · decide +kernel
        · decide +kernel
        · decide +kernel
        · exact kD_deep 35
        · exact kD_one ka
        · decide +kernel
      · simp only [List.mem_cons, List.not_mem_nil, or_false] at hm
        rcases hm with rfl | rfl | rfl | rfl | rfl | rfl | rfl | rfl | rfl | rfl | rfl | rfl | rfl <;> intro xs hx <;> first | (cases hx; simp; done) | cases hx
    · exact dens_nil ⟨_, _, rfl, kl, fun xs hx => by cases hx; simp; omega⟩
  rintro Γ ⟨l, b, rfl, kl', hll⟩
  refine dens_cut (fun Γ => ∃ s' b, Γ = [.d .pool, .d (.tup [.tup rs, .tup (js.map D.int), .int s]), .d r, .d l, .d s', .d (.int kd), .d (.int a), b] ∧ kD s' = true) ?_ ?_
  · repeat walk_at "den"
    refine ⟨_, rfl, ite_b (fun h => ?_) fun h => ?_⟩
    · repeat (first | walk_at "den" | refine ⟨(by simp : _ ≤ 100000), ?_⟩ | refine ⟨rfl, rfl, ?_⟩ | refine opd_ic (f := fun i j => i ^ j.toNat) ⟨by decide, by decide, by decide⟩ ?_)
      refine den_draw ?_
      repeat walk_at "den"
      refine ⟨12, rfl, by decide, by decide, fun b b0 b1 => ?_⟩
      refine opd_ixL_mem b0 b1 rfl fun d hm => ?_
      refine deng_name ⟨d, _, rfl, ?_⟩
      simp only [List.mem_cons, List.not_mem_nil, or_false] at hm
      rcases hm with rfl | rfl | rfl | rfl | rfl | rfl | rfl | rfl | rfl | rfl | rfl | rfl
      all_goals first | exact kD_deep 35 | decide +kernel
    · exact dens_nil ⟨_, _, rfl, kD_i (by omega)⟩
  rintro Γ ⟨s', b', rfl, ks⟩
  repeat walk_at "den"
  exact ⟨by simp, r, l, s', rfl, kr, kl', ks, hll⟩
end
theorem asc_iff : ∀ js : List Int, (zipD (js.map D.int) ((js.map D.int).drop 1)).all pairLt = true ↔ js.Pairwise (· < ·)
  | [] => by simp [zipD]
  | [a] => by simp [zipD]
  | a :: b :: r => by
    have ih := asc_iff (b :: r)
    have e : zipD ((a :: b :: r).map D.int) (((a :: b :: r).map D.int).drop 1) = .tup [.int a, .int b] :: zipD ((b :: r).map D.int) (((b :: r).map D.int).drop 1) := rfl
    rw [e, List.all_cons, Bool.and_eq_true_iff, ih]
    simp only [pairLt, decide_eq_true_eq]
    constructor
    · rintro ⟨h1, h2⟩
      refine List.pairwise_cons.mpr ⟨fun c hc => ?_, h2⟩
      rcases List.mem_cons.mp hc with e | e
      · rw [e]; exact h1
      · rw [List.pairwise_cons] at h2
        exact Int.lt_trans h1 (h2.1 c e)
    · intro h
      obtain ⟨h1, h2⟩ := List.pairwise_cons.mp h
      exact ⟨h1 b (by simp), h2⟩
theorem sorted_eq : ∀ {js ks : List Int}, js.Pairwise (· < ·) → ks.Pairwise (· < ·) → (∀ k, k ∈ ks ↔ k ∈ js) → js = ks
  | [], [], _, _, _ => rfl
  | [], k :: ks, _, _, h => by simpa using (h k)
  | j :: js, [], _, _, h => by simpa using (h j)
  | j :: js, k :: ks, p, q, h => by
    rw [List.pairwise_cons] at p q
    have hjk : j = k := by
      have h1 := (h j).mpr (by simp)
      have h2 := (h k).mp (by simp)
      rcases List.mem_cons.mp h1 with e | e
      · exact e
      · rcases List.mem_cons.mp h2 with e' | e'
        · exact e'.symm
        · have := p.1 k e'; have := q.1 j e; omega
    subst hjk
    rw [sorted_eq p.2 q.2 fun c => ?_]
    have hc := h c
    simp only [List.mem_cons] at hc
    constructor
    · intro m
      rcases hc.mp (.inr m) with e | e
      · have := q.1 c m; omega
      · exact e
    · intro m
      rcases hc.mpr (.inr m) with e | e
      · have := p.1 c m; omega
      · exact e
theorem eqv_ints : ∀ js ks : List Int, PyData.eqvAll (pysD (js.map D.int)) (pysD (ks.map D.int)) = decide (js = ks)
  | [], [] => by simp [pysD, PyData.eqvAll]
  | [], k :: ks => by simp [pysD, PyData.eqvAll]
  | j :: js, [] => by simp [pysD, PyData.eqvAll]
  | j :: js, k :: ks => by
    have := eqv_ints js ks
    simp only [List.map_cons, pysD, PyData.eqvAll, pyD, PyData.eqv, this]
    by_cases h : j = k <;> by_cases h2 : js = ks <;> simp [h, h2]
theorem eqvL_ints (js ks : List Int) : eqvD (.lst (js.map D.int)) (.lst (ks.map D.int)) = decide (js = ks) := by
  unfold eqvD; simp only [pyD, PyData.eqv, eqv_ints]
theorem eqD_ints (js : List Int) : eqD 1 (.lst (js.map D.int)) := eqD_lst fun x m => by
  obtain ⟨j, _, rfl⟩ := List.mem_map.mp m
  exact eqD_int j
theorem from_ints {lo hi : Int} {xs : List D} (h : xs.all (fromTo lo hi) = true) : ∃ js : List Int, xs = js.map D.int := by
  induction xs with
  | nil => exact ⟨[], rfl⟩
  | cons x xs ih =>
    rw [List.all_cons, Bool.and_eq_true_iff] at h
    obtain ⟨js, e⟩ := ih h.2
    obtain ⟨i, rfl⟩ : ∃ i, x = .int i := by cases x <;> simp_all [fromTo]
    exact ⟨i :: js, by rw [e]; rfl⟩
def dueD (r l s : D) : D := match dueW r l s with
  | none => .non
  | some p => p
section
variable {P : Program} {w : World} {K : PySem.W.Frag} {mg : Str → Option Value} {base : Heap}
abbrev S_due : FSpec := ⟨fun ds => ∃ r l s, ds = [r, l, s] ∧ kD r = true ∧ kD l = true ∧ kD s = true ∧ ∀ xs, l = .tup xs → xs.length < 64, fun ds d => ∃ r l s, ds = [r, l, s] ∧ d = dueD r l s, fun _ _ => False⟩
theorem ok_law_due {f : Addr} {fd : FuncData} (F : Fun K "_law_due" "_law_due" s__law_due f fd) (T : Tx mg) (c__law_is_int : Dfn P w K mg base "_law_is_int" 1 1 S_is_int) (c__law_is_number : Dfn P w K mg base "_law_is_number" 2 1 S_is_num) :
    FnOk P w K mg base (L2.CX P w) 3 f fd ["rows", "locked", "spare"] (spS K 3 S_due) := by
  refine fn_ab F sc__law_due S_due (by decide) fun cdv A outer s H E ds W hr tk hn hp => ?_
  refine ⟨_, (pss_cons (ps_if (PW.pt (pw_or (pt_not (pt_val (pe_callB (k_isi K) rfl T.isinstance (by decide +kernel) (pa_cons (pv 0) (pa_cons (pe_bltn (v := .ty "tuple") rfl T.tuple (by decide +kernel) rfl) pa_nil))))) (pw_or1 (pt_not (pt_chain op_le op_le pe_int (pe_callB (k_len K) rfl T.len (by decide +kernel) (pa_cons (pv 0) pa_nil)) pe_int))))) (pss_one (ps_ret (pe_tup (pa_cons pe_str pa_nil)))) pss_nil)
      (pss_cons (ps_for (passes_of rfl) rfl (pi_range1 rfl T.range (pa_cons (pe_callB (k_len K) rfl T.len (by decide +kernel) (pa_cons (pv 0) pa_nil)) pa_nil)) (pg_name (i := 3) sc__law_due.nd rfl (Or.inl rfl))
      (pss_cons (ps_set (i := 4) sc__law_due.nd rfl (Or.inl rfl) (pe_ix (k_ix K) (pv 0) (pv 3) (fun _ _ => rfl)))
      (pss_cons (ps_set (i := 5) sc__law_due.nd rfl (Or.inl rfl) (pe_and (pe_callB (k_isi K) rfl T.isinstance (by decide +kernel) (pa_cons (pv 4) (pa_cons (pe_bltn (v := .ty "tuple") rfl T.tuple (by decide +kernel) rfl) pa_nil))) (pe_and (pe_cmpR (k_eq K hr.units) (pe_callB (k_len K) rfl T.len (by decide +kernel) (pa_cons (pv 4) pa_nil)) (pe_callB (k_len K) rfl T.len (by decide +kernel) (pa_cons (pv 0) pa_nil)) (nomark _)) (pe_one (pe_callB (k_all K rfl) rfl T.all (by decide +kernel) (pa_cons (pe_lc (own := [("item", 6)]) rfl sc__law_due.nd (ki_seq K (pv 4)) (blkOk_by (own := [("item", 6)]) (N := N__law_due) (sc := defScope s__law_due) (by decide +kernel))
        (fun _ _ _ _ _ => (pg_name (i := 6) sc__law_due.nd rfl (Or.inl rfl))) (fun _ _ _ _ _ => pts_nil) (fun _ _ _ _ _ => (kc_fn c__law_is_number hr (by decide) ⟨rfl, rfl, rfl, rfl, rfl⟩ rfl (pa_cons (pv 6) pa_nil)))) pa_nil))))))
      (pss_one (ps_if (PW.pt (pw_and (pt_cmp (pc_notN (pv 4))) (pw_and1 (pt_not (pt_val (pv 5)))))) (pss_one (ps_ret (pe_tup (pa_cons pe_str (pa_cons (pv 3) pa_nil))))) pss_nil)))))
      (pss_cons (ps_if (PW.pt (pw_or (pt_not (pt_val (pe_callB (k_isi K) rfl T.isinstance (by decide +kernel) (pa_cons (pv 1) (pa_cons (pe_bltn (v := .ty "tuple") rfl T.tuple (by decide +kernel) rfl) pa_nil))))) (pw_or1 (pt_not (pt_val (pe_callB (k_all K rfl) rfl T.all (by decide +kernel) (pa_cons (pe_lc (own := [("cell", 3)]) rfl sc__law_due.nd (ki_seq K (pv 1)) (blkOk_by (own := [("cell", 3)]) (N := N__law_due) (sc := defScope s__law_due) (by decide +kernel))
        (fun _ _ _ _ _ => (pg_name (i := 3) sc__law_due.nd rfl (Or.inl rfl))) (fun _ _ _ _ _ => pts_nil) (fun _ _ _ _ _ => (pe_and (kc_fn c__law_is_int hr (by decide) ⟨rfl, rfl, rfl, rfl, rfl⟩ rfl (pa_cons (pv 3) pa_nil)) (pe_one (pe_chain op_le op_lt pe_int (pv 3) (pe_callB (k_len K) rfl T.len (by decide +kernel) (pa_cons (pv 0) pa_nil))))))) pa_nil))))))) (pss_one (ps_ret (pe_tup (pa_cons pe_str pa_nil)))) pss_nil)
      (pss_cons (ps_if (pt_cmpR (k_ne K hr.units) (pe_callTy (k_list K) rfl T.list (by decide +kernel) (pa_cons (pv 1) pa_nil)) (pe_callB (cr_sortedSet rfl) rfl T.sorted (by decide +kernel) (pa_cons (pe_callTy (cr_setT rfl) rfl T.set (by decide +kernel) (pa_cons (pv 1) pa_nil)) pa_nil)) (nomark _)) (pss_one (ps_ret (pe_tup (pa_cons pe_str pa_nil)))) pss_nil)
      (pss_one (ps_ret (pe_ifExp (PW.pt (pw_and (pt_val (kc_fn c__law_is_int hr (by decide) ⟨rfl, rfl, rfl, rfl, rfl⟩ rfl (pa_cons (pv 2) pa_nil))) (pw_and1 (pt_chain op_le op_le pe_int (pv 2) pe_int)))) pe_non (pe_tup (pa_cons pe_str pa_nil))))))))), ?_⟩
  rintro Z rfl rfl hX
  obtain ⟨r, l, sp, rfl, kr, kl, ks, hll⟩ := hp
  have give : ∀ {p}, dueW r l sp = some p → S_due.R [r, l, sp] p := fun {p} e => ⟨r, l, sp, rfl, by simp only [dueD, e]⟩
  refine dens_cut (fun Γ => ∃ xs, r = .tup xs ∧ 1 ≤ xs.length ∧ xs.length ≤ 6 ∧ Γ = [.d r, .d l, .d sp, .un, .un, .un, .un]) ?_ ?_
  · repeat walk_at "den"
    refine cad_is kr (by simp) ⟨_, rfl, ite_b (fun h => ?_) fun h => ?_⟩
    · repeat walk_at "den"
      refine ⟨by simp, give ?_⟩
      cases r <;> simp_all [isTy, dueW, badRows]
    · obtain ⟨xs, rfl⟩ : ∃ xs, r = .tup xs := by cases r <;> simp_all [isTy]
      repeat walk_at "den"
      refine cad_lenT ?_
      repeat walk_at "den"
      refine ⟨_, rfl, ite_b (fun h1 => ?_) fun h1 => ?_⟩
      · repeat walk_at "den"
        refine ⟨_, rfl, ite_b (fun h2 => ?_) fun h2 => ?_⟩
        · repeat walk_at "den"
          refine ⟨by simp, give ?_⟩
          simp only [dueW, badRows]
          rw [if_neg (by simp at h1 h2; omega)]
        · exact dens_nil ⟨xs, rfl, by simp at h1; omega, by simp at h2; omega, rfl⟩
      · refine ⟨_, rfl, ifT ?_⟩
        repeat walk_at "den"
        refine ⟨by simp, give ?_⟩
        simp only [dueW, badRows]
        rw [if_neg (by simp at h1; omega)]
  rintro Γ ⟨xs, rfl, x1, x6, rfl⟩
  have hlen : 1 ≤ xs.length ∧ xs.length ≤ 6 := ⟨x1, x6⟩
  refine dens_cut (fun Γ => (∃ b3 b4 b5, ¬ IsOwn (some b3) ∧ Γ = [.d (.tup xs), .d l, .d sp, b3, b4, b5, .un]) ∧ badRows (.tup xs) = none) (dens_for (deni_rng1 ?_)) ?_
  · repeat walk_at "den"
    refine cad_lenT ?_
    repeat walk_at "den"
    refine ⟨_, rfl, by omega, by omega, fun i Γ => (∃ b3 b4 b5, ¬ IsOwn (some b3) ∧ Γ = [.d (.tup xs), .d l, .d sp, b3, b4, b5, .un]) ∧ ∀ m < i, ∀ d, xs[m]? = some d → badRow xs.length d = false, ⟨⟨.un, .un, .un, fun z => z, rfl⟩, fun m hm => absurd hm (Nat.not_lt_zero _)⟩, ?_, ?_⟩
    · rintro i d Γ hd ⟨⟨b3, b4, b5, hb3, rfl⟩, hno⟩
      obtain ⟨rfl, hi⟩ := rg_int hd
      have hi : i < xs.length := by omega
      obtain ⟨row, hrow⟩ : ∃ row, xs[i]? = some row := ⟨xs[i], by simp [hi]⟩
      have krow := kD_tup kr row (List.mem_of_getElem? hrow)
      have good : badRow xs.length row = false → ∀ m < i + 1, ∀ d, xs[m]? = some d → badRow xs.length d = false := fun e m hm d' hd' => by
        rcases Nat.lt_or_ge m i with h | h
        · exact hno m h d' hd'
        · obtain rfl : m = i := by omega
          rw [hrow] at hd'; cases hd'; exact e
      refine deng_name ?_
      repeat walk_at "den"
      refine opd_ixT (d := row) ?_ ?_
      · unfold atI
        rw [ixN_lt (by omega) (by omega)]
        simpa using hrow
      refine deng_name ?_
      refine dens_cut (fun Γ => Γ = [.d (.tup xs), .d l, .d sp, .d (.int i), .d row, .d (.bl (rowOk xs.length row)), .un]) ?_ ?_
      · repeat walk_at "den"
        refine cad_is krow (by simp) ⟨_, rfl, ite_b (fun h => ?_) fun h => ?_⟩
        · obtain ⟨ys, rfl⟩ : ∃ ys, row = .tup ys := by cases row <;> simp_all [isTy]
          have hyl := kD_len krow
          repeat walk_at "den"
          refine cad_lenT ?_
          repeat walk_at "den"
          refine cad_lenT ?_
          repeat walk_at "den"
          refine ⟨_, rfl, ite_b (fun h2 => ?_) fun h2 => ?_⟩
          · repeat walk_at "den"
            refine den_l (denl_map (goff_name (by simp)) gmono_name (deni_seq (den_var rfl ⟨ys, .inr rfl, no_own1 (fun z => z), by omega, fun x => .bl (numOk x), fun k d hd => ?_, ?_⟩)))
            · refine deng_name ⟨rfl, no_own1 (fun z => z), ?_⟩
              repeat walk_at "den"
              exact ⟨rfl, ⟨d, rfl, kD_tup krow d (List.mem_of_getElem? hd)⟩, rfl, rfl⟩
            · repeat walk_at "den"
              have e : List.map (fun x => D.bl (numOk x)) ys = (ys.map numOk).map D.bl := by rw [List.map_map]; rfl
              rw [e]
              refine cad_all (deng_name ?_)
              have : rowOk xs.length (.tup ys) = (ys.map numOk).all id := by
                simp [rowOk, List.all_map] at h2 ⊢
                omega
              rw [this]; rfl
          · refine deng_name ?_
            have : rowOk xs.length (.tup ys) = false := by
              simp [rowOk] at h2 ⊢
              omega
            rw [this]; rfl
        · refine deng_name ?_
          have : rowOk xs.length row = false := by cases row <;> simp_all [isTy, rowOk]
          rw [this]; rfl
      rintro Γ rfl
      repeat walk_at "den"
      refine ⟨_, rfl, ite_b (fun h3 => ?_) fun h3 => ?_⟩
      · repeat walk_at "den"
        refine ⟨_, rfl, ite_b (fun h4 => ?_) fun h4 => ?_⟩
        · repeat walk_at "den"
          refine ⟨by simp, give ?_⟩
          have : badRows (.tup xs) = some (.tup [.str "row", .int (i : Nat)]) := badRows_at hlen hrow (by cases row <;> simp_all [badRow]) hno
          simp only [dueW, this]
        · exact dens_nil ⟨⟨.d (.int i), .d row, .d (.bl (rowOk xs.length row)), fun z => z, rfl⟩, good (by cases row <;> simp_all [badRow])⟩
      · refine ifF (dens_nil ⟨⟨.d (.int i), .d row, .d (.bl (rowOk xs.length row)), fun z => z, rfl⟩, good (by cases row <;> simp_all [badRow])⟩)
    · rintro Γ ⟨⟨b3, b4, b5, hb3, rfl⟩, hno⟩
      have e : (rgAt 0 ((xs.length : Int)).toNat).length = xs.length := by simp [rgAt]
      rw [e] at hno
      exact ⟨⟨_, _, _, hb3, rfl⟩, badRows_no hlen hno⟩
  rintro Γ ⟨⟨b3, b4, b5, hb3, rfl⟩, hb⟩
  refine dens_cut (fun Γ => (∃ js : List Int, l = .tup (js.map D.int) ∧ (js.map D.int).all (fromTo 0 (xs.length - 1)) = true) ∧ Γ = [.d (.tup xs), .d l, .d sp, b3, b4, b5, .un]) ?_ ?_
  · repeat walk_at "den"
    refine cad_is kl (by simp) ⟨_, rfl, ite_b (fun h => ?_) fun h => ?_⟩
    · repeat walk_at "den"
      refine ⟨by simp, give ?_⟩
      cases l <;> simp_all [isTy, dueW, lotOk, lenD]
    · obtain ⟨ys, rfl⟩ : ∃ ys, l = .tup ys := by cases l <;> simp_all [isTy]
      have hyl := kD_len kl
      repeat walk_at "den"
      refine den_l (denl_map (goff_name (by simp)) gmono_name (deni_seq (den_var rfl ⟨ys, .inr rfl, no_own1 hb3, by omega, fun x => .bl (fromTo 0 (xs.length - 1) x), fun k d hd => ?_, ?_⟩)))
      · refine deng_name ⟨rfl, no_own1 (fun z => z), ?_⟩
        repeat walk_at "den"
        refine ⟨rfl, ⟨d, rfl, kD_tup kl d (List.mem_of_getElem? hd)⟩, _, rfl, ite_b (fun h => ?_) fun h => ?_⟩
        · obtain ⟨c, rfl⟩ : ∃ c, d = .int c := by cases d <;> simp_all [isWhole]
          repeat walk_at "den"
          refine ⟨_, rfl, ite_b (fun h1 => ?_) fun h1 => ?_⟩
          · repeat walk_at "den"
            refine cad_lenT ?_
            repeat walk_at "den"
            refine ⟨rfl, ?_⟩
            simp only [fromTo, h1, Bool.true_and]
            congr 1; rw [Bool.eq_iff_iff]; simp; omega
          · refine ⟨rfl, ?_⟩
            simp [fromTo] at h1 ⊢
            omega
        · refine ⟨rfl, ?_⟩
          have : fromTo 0 (xs.length - 1) d = false := by cases d <;> simp_all [isWhole, fromTo]
          show D.bl false = D.bl (fromTo 0 (xs.length - 1) d)
          rw [this]
      · repeat walk_at "den"
        have e : List.map (fun x => D.bl (fromTo 0 (xs.length - 1) x)) ys = (ys.map (fromTo 0 (xs.length - 1))).map D.bl := by rw [List.map_map]; rfl
        rw [e]
        refine cad_all ⟨_, rfl, ite_b (fun h2 => ?_) fun h2 => ?_⟩
        · repeat walk_at "den"
          refine ⟨by simp, give ?_⟩
          have : ys.all (fromTo 0 (xs.length - 1)) = false := by simpa [List.all_map, Function.comp_def] using h2
          simp only [dueW, hb, lotOk, lenD, this, Bool.false_and]; rfl
        · have : ys.all (fromTo 0 (xs.length - 1)) = true := by simpa [List.all_map, Function.comp_def] using h2
          obtain ⟨js, rfl⟩ := from_ints this
          exact dens_nil ⟨⟨js, rfl, this⟩, rfl⟩
  rintro Γ ⟨⟨js, rfl, hja⟩, rfl⟩
  have hl64 : js.length < 64 := by simpa using hll _ rfl
  repeat walk_at "den"
  refine cad_listT ?_
  refine den_sortedSet ?_
  repeat walk_at "den"
  refine ⟨js, rfl, hl64, fun ks' hp hm => ?_⟩
  refine neg_eqv (eqD_ints _) (eqD_ints _) (by decide) (by decide) ?_
  rw [eqvL_ints]
  refine ⟨_, rfl, ite_b (fun h2 => ?_) fun h2 => ?_⟩
  · repeat walk_at "den"
    refine ⟨by simp, give ?_⟩
    have hne : ¬ js = ks' := by simpa using h2
    have : lotOk xs.length (.tup (js.map D.int)) = false := by
      rw [← Bool.not_eq_true]
      intro h
      simp only [lotOk, Bool.and_eq_true] at h
      exact hne (sorted_eq ((asc_iff js).mp h.2) hp hm)
    simp only [dueW, hb, lenD, this]; rfl
  · have heq : js = ks' := by simpa using h2
    have hlot : lotOk xs.length (.tup (js.map D.int)) = true := by
      simp only [lotOk, Bool.and_eq_true]
      exact ⟨hja, (asc_iff js).mpr (by rw [heq]; exact hp)⟩
    have fin : S_due.R [.tup xs, .tup (js.map D.int), sp] (if fromTo 0 2 sp = true then .non else .tup [.str "spare"]) := by
      refine ⟨_, _, _, rfl, ?_⟩
      cases hf : fromTo 0 2 sp <;> simp [dueD, dueW, hb, lenD, hlot, hf]
    repeat walk_at "den"
    refine ⟨rfl, ⟨sp, rfl, ks⟩, _, rfl, ite_b (fun h3 => ?_) fun h3 => ?_⟩
    · obtain ⟨c, rfl⟩ : ∃ c, sp = .int c := by cases sp <;> simp_all [isWhole]
      repeat walk_at "den"
      refine ⟨_, rfl, ite_b (fun h4 => ?_) fun h4 => ?_⟩
      · repeat walk_at "den"
        refine ⟨_, rfl, ite_b (fun h5 => ?_) fun h5 => ?_⟩
        · repeat walk_at "den"
          have : fromTo 0 2 (.int c) = true := by simp_all [fromTo]
          rw [this] at fin; exact fin
        · repeat walk_at "den"
          have : fromTo 0 2 (.int c) = false := by first | (simp_all [fromTo]; done) | (simp_all [fromTo]; omega)
          rw [this] at fin; exact ⟨by simp, fin⟩
      · refine ⟨_, rfl, ifF ?_⟩
        repeat walk_at "den"
        have : fromTo 0 2 (.int c) = false := by first | (simp_all [fromTo]; done) | (simp_all [fromTo]; omega)
        rw [this] at fin; exact ⟨by simp, fin⟩
    · refine ifF ?_
      repeat walk_at "den"
      have : fromTo 0 2 sp = false := by cases sp <;> simp_all [isWhole, fromTo]
      rw [this] at fin; exact ⟨by simp, fin⟩
end
theorem due_parts {r l s : D} (h : dueW r l s = none) : eqD 3 r ∧ eqD 1 l ∧ eqD 0 s := by
  unfold dueW at h
  cases hb : badRows r with
  | some p => rw [hb] at h; cases h
  | none =>
    rw [hb] at h
    simp only at h
    split at h
    · rename_i hl
      split at h
      · rename_i hs
        refine ⟨?_, ?_, ?_⟩
        · cases r with
          | tup xs =>
            simp only [badRows] at hb
            split at hb
            · have hn : xs.findIdx? (badRow xs.length) = none := by
                cases e : xs.findIdx? (badRow xs.length) with
                | none => rfl
                | some i => rw [e] at hb; cases hb
              rw [List.findIdx?_eq_none_iff] at hn
              refine eqD_tup fun x hx => ?_
              have := hn x hx
              cases x with
              | non => exact eqD_non.mono (by decide)
              | tup ys =>
                have hr : rowOk xs.length (.tup ys) = true := by simpa [badRow] using this
                simp only [rowOk, Bool.and_eq_true, List.all_eq_true] at hr
                refine eqD_tup fun y hy => ?_
                have := hr.2 y hy
                cases y with
                | tup zs => match zs, this with
                  | [.int a, .int b], _ => exact eqD_pair _ _
                  | [], h => simp [numOk] at h
                  | [_], h => simp [numOk] at h
                  | _ :: _ :: _ :: _, h => simp [numOk] at h
                | _ => simp [numOk] at this
              | _ => simp [badRow, rowOk] at this
            · cases hb
          | _ => simp [badRows] at hb
        · cases l with
          | tup xs =>
            simp only [lotOk, Bool.and_eq_true] at hl
            obtain ⟨js, rfl⟩ := from_ints hl.1
            exact eqD_tup fun x m => by
              obtain ⟨j, _, rfl⟩ := List.mem_map.mp m
              exact eqD_int j
          | _ => simp [lotOk] at hl
        · cases s with
          | int i => exact eqD_int i
          | _ => simp [fromTo] at hs
      · cases h
    · cases h
theorem wish_due {d : D} (h : wishT d) : ∃ r l s, d = .tup [r, l, s] ∧ kD r = true ∧ kD l = true ∧ kD s = true ∧ dueW r l s = none ∧ ∃ xs, r = .tup xs := by
  obtain ⟨n, rs, js, s, rfl, hl, n1, n6, hr, hj, s0, s2⟩ := h
  have hjl := lotJ_len hj
  refine ⟨_, _, _, rfl, kD_mk (fun x m => kD_cell (hr x m) n6) (by omega), lot_kD hj n6 (by omega), kD_i (by omega), ?_, rs, rfl⟩
  have hb : badRows (.tup rs) = none := badRows_no ⟨by omega, by omega⟩ fun m hm d hd => by
    rcases hr d (List.mem_of_getElem? hd) with e | e
    · rw [e]; rfl
    · have := rowS_ok e
      obtain ⟨ys, rfl, _⟩ := e
      simp only [badRow, hl, this]; rfl
  have hlot : lotOk rs.length (.tup (js.map D.int)) = true := by
    simp only [lotOk, Bool.and_eq_true]
    refine ⟨?_, (asc_iff js).mpr hj.1⟩
    rw [List.all_eq_true]
    intro x m
    obtain ⟨j, hjm, rfl⟩ := List.mem_map.mp m
    have := hj.2 j hjm
    simp [fromTo]; omega
  have hs : fromTo 0 2 (.int s) = true := by simp [fromTo]; omega
  simp only [dueW, hb, lenD, hlot, hs, if_true]
section
variable {P : Program} {w : World} {K : PySem.W.Frag} {mg : Str → Option Value} {base : Heap}
abbrev wishO (Cw : Addr) (r l s : D) : D := .obj Cw ["rows", "locked", "spare"] [r, l, s]
abbrev S_made (Cw : Addr) : FSpec := ⟨fun ds => ∃ d, ds = [d] ∧ wishT d, fun ds o => ∃ r l s, ds = [.tup [r, l, s]] ∧ o = wishO Cw r l s, fun _ _ => False⟩
theorem ok_law_made_wish {f C Cw : Addr} {fd : FuncData} (F : Fun K "_law_made_wish" "_law_made_wish" s__law_made_wish f fd) (T : Tx mg) (m_Wish : Mak P w K mg base "Wish" Cw 5 3 (S_Wish C)) : FnOk P w K mg base (L2.CX P w) 7 f fd ["spec"] (spS K 1 (S_made Cw)) := by
  refine fn_ab F sc__law_made_wish (S_made Cw) (by decide) fun cdv A outer s H E ds W hr tk hn hp => ?_
  refine ⟨_, (pss_one (ps_ret (kc_mk0 m_Wish hr (by decide) ⟨rfl, rfl, rfl, rfl, rfl⟩ rfl (pa_cons (pe_ix (k_ix K) (pv 0) pe_int (fun _ _ => rfl)) (pa_cons (pe_ix (k_ix K) (pv 0) pe_int (fun _ _ => rfl)) (pa_cons (pe_ix (k_ix K) (pv 0) pe_int (fun _ _ => rfl)) pa_nil)))))), ?_⟩
  rintro Z rfl rfl hX
  obtain ⟨d, rfl, hd⟩ := hp
  obtain ⟨r, l, s, rfl, kr, kl, ks, hdue, _⟩ := wish_due hd
  refine dens_ret (den_make0 ?_)
  repeat walk_at "den"
  refine opd_ixT (d := r) rfl ?_
  repeat walk_at "den"
  refine opd_ixT (d := l) rfl ?_
  repeat walk_at "den"
  refine opd_ixT (d := s) rfl ?_
  repeat walk_at "den"
  refine ⟨rfl, ⟨r, l, s, rfl, kr, kl, ks⟩, ?_, ?_⟩
  · rintro fs ⟨r', l', s', e, _, rfl⟩
    cases e
    exact ⟨r, l, s, rfl, rfl⟩
  · rintro er ⟨r', l', s', p, e, h, _⟩
    cases e
    rw [hdue] at h; cases h
abbrev S_tried : FSpec := ⟨fun ds => ∃ r l s, ds = [r, l, s] ∧ kD r = true ∧ kD l = true ∧ kD s = true, fun ds d => ∃ r l s, ds = [r, l, s] ∧ d = dueD r l s, fun _ _ => False⟩
theorem ok_law_tried {f C_BadWish C_CellError Cw : Addr} {fd : FuncData} (F : Fun K "_law_tried" "_law_tried" s__law_tried f fd) (T : Tx mg) (m_Wish : Mak P w K mg base "Wish" Cw 5 3 (S_Wish C_BadWish)) (x_BadWish : Exn1 P w K mg base "BadWish" C_BadWish "part")
    (ke_BadWish : KitE K C_BadWish) (no_BadWish_part : PySem.W.findIn K (.ref C_BadWish) "part" = some none) (k_CellError : mg "CellError" = some (.ref C_CellError)) (hexm : PySem.W.exmOne K (.ref C_BadWish) (.ref C_BadWish) = some true)
    (kit1 : PySem.W.kitOne K (.ref C_BadWish) (.ref C_CellError) = some true) (kit2 : PySem.W.kitOne K (.ref C_BadWish) (.type "ValueError") = some true) (hc : Cls K Cw) (n1 : NoAttr K Cw "rows") (n2 : NoAttr K Cw "locked") (n3 : NoAttr K Cw "spare") :
    FnOk P w K mg base (L2.CX P w) 7 f fd ["rows", "locked", "spare"] (spS K 3 S_tried) := by
  refine fn_ab F sc__law_tried S_tried (by decide) fun cdv A outer s H E ds W hr tk hn hp => ?_
  refine ⟨_, (pss_cons (ps_set (i := 3) sc__law_tried.nd rfl (Or.inl rfl) (pe_tup (pa_cons pe_str pa_nil)))
      (pss_cons (ks_try_as (i := 5) K rfl rfl sc__law_tried.nd rfl rfl ⟨rfl, by decide, Or.inl x_BadWish.m⟩ tk
   (fun W pn xe tk po => (pss_cons (ps_set (i := 4) sc__law_tried.nd rfl (Or.inl rfl) (kc_mkX tk m_Wish hr (by decide) ⟨rfl, rfl, rfl, rfl, rfl⟩ rfl (pa_cons (pv 0) (pa_cons (pv 1) (pa_cons (pv 2) pa_nil)))))
      (pss_one (ps_set (i := 3) sc__law_tried.nd rfl (Or.inl rfl) (pe_ifExp (pt_cmpR (k_eq K hr.units) (pe_tup (pa_cons (k_fld K (pv 4)) (pa_cons (k_fld K (pv 4)) (pa_cons (k_fld K (pv 4)) pa_nil)))) (pe_tup (pa_cons (pv 0) (pa_cons (pv 1) (pa_cons (pv 2) pa_nil)))) (nomark _)) pe_non (pe_tup (pa_cons pe_str pa_nil)))))))
   (fun a oe cls d pn hz hf => (pss_one (ps_set (i := 3) sc__law_tried.nd rfl (Or.inl rfl) (pe_ifExp (PW.pt (pw_and (pt_val (pe_isX ke_BadWish hz hf rfl T.isinstance (by decide +kernel) (pa_cons (pv 5) (pa_cons (pe_glob (v := .ref C_CellError) rfl k_CellError rfl) pa_nil)))) (pw_and1 (pt_val (pe_isX ke_BadWish hz hf rfl T.isinstance (by decide +kernel) (pa_cons (pv 5) (pa_cons (pe_bltn (v := .ty "ValueError") rfl T.ValueError (by decide +kernel) rfl) pa_nil))))))) (pe_xf ke_BadWish.xf no_BadWish_part hz hf (pv 5)) (pv 3))))))
      (pss_one (ps_ret (pv 3))))), ?_⟩
  rintro Z rfl rfl hX
  obtain ⟨r, l, sp, rfl, kr, kl, ks⟩ := hp
  repeat walk_at "den"
  refine ⟨by simp, ?_⟩
  refine deng_name ?_
  refine dens_cut (fun Γ => ∃ b4 b5, Γ = [.d r, .d l, .d sp, .d (dueD r l sp), b4, b5]) (dens_tryT (Y := fun er Γ' => ∃ p, dueW r l sp = some p ∧ er = ⟨C_BadWish, ["part"], [p]⟩ ∧ Γ' = [.d r, .d l, .d sp, .d (.tup [.str "other"]), .un, .un]) (fun W => ?_) ?_) ?_
  · refine dens_seq (dens_asg (den_makeX ?_))
    repeat walk_at "den"
    refine ⟨rfl, ⟨r, l, sp, rfl, kr, kl, ks⟩, ?_, ?_⟩
    · rintro fs ⟨r', l', s', e, hdue, rfl⟩
      cases e
      obtain ⟨e1, e2, e3⟩ := due_parts hdue
      repeat walk_at "den"
      refine den_fld ?_
      repeat walk_at "den"
      refine ⟨_, _, _, r, rfl, hc, n1, rfl, ?_⟩
      repeat walk_at "den"
      refine den_fld ?_
      repeat walk_at "den"
      refine ⟨_, _, _, l, rfl, hc, n2, rfl, ?_⟩
      repeat walk_at "den"
      refine den_fld ?_
      repeat walk_at "den"
      refine ⟨_, _, _, sp, rfl, hc, n3, rfl, ?_⟩
      repeat walk_at "den"
      refine ⟨by simp, ?_⟩
      repeat walk_at "den"
      refine ⟨by simp, ?_⟩
      have e3' : eqD 4 (.tup [r, l, sp]) := eqD_tup fun x hx => by
        simp at hx
        rcases hx with rfl | rfl | rfl
        · exact e1
        · exact e2.mono (by decide)
        · exact e3.mono (by decide)
      refine eqg_eqv e3' e3' (by decide) (by decide) ?_
      rw [eqvD_refl e3']
      refine ⟨_, rfl, ifT ?_⟩
      repeat walk_at "den"
      exact ⟨_, _, by simp only [dueD, hdue]; rfl⟩
    · rintro er ⟨r', l', s', p, e, h, rfl⟩
      cases e
      exact ⟨p, h, rfl, rfl⟩
  · rintro er Γ' ⟨p, hp, rfl, rfl⟩
    refine ⟨true, hexm, fun _ a d => ?_, fun z => by cases z⟩
    repeat walk_at "den"
    refine den_isX rfl rfl rfl (.own _) kit1 ⟨_, rfl, ifT ?_⟩
    repeat walk_at "den"
    refine den_isX rfl rfl rfl (.ty _) kit2 ⟨_, rfl, ?_⟩
    refine ifT ?_
    refine den_xf rfl rfl rfl rfl ?_
    repeat walk_at "den"
    exact ⟨_, _, by simp only [dueD, hp]; rfl⟩
  · rintro Γ ⟨b4, b5, rfl⟩
    repeat walk_at "den"
    exact ⟨r, l, sp, rfl, rfl⟩
end
theorem due_show {r l s : D} : ShowOk (.lst [dueD r l s]) := by
  have key : ∀ p, dueW r l s = some p → p = .tup [.str "rows"] ∨ p = .tup [.str "locked"] ∨ p = .tup [.str "spare"] ∨ ∃ i : Nat, i < 6 ∧ p = .tup [.str "row", .int i] := by
    intro p h
    unfold dueW at h
    cases hb : badRows r with
    | some q =>
      rw [hb] at h
      simp only [Option.some.injEq] at h
      subst h
      cases r with
      | tup xs =>
        simp only [badRows] at hb
        split at hb
        · rename_i hl
          cases e : xs.findIdx? (badRow xs.length) with
          | none => rw [e] at hb; cases hb
          | some i =>
            rw [e] at hb
            simp only [Option.map_some, Option.some.injEq] at hb
            have := (List.findIdx?_eq_some_iff_getElem.mp e).1
            exact .inr (.inr (.inr ⟨i, by omega, hb.symm⟩))
        · simp only [Option.some.injEq] at hb; exact .inl hb.symm
      | _ => simp only [badRows, Option.some.injEq] at hb; exact .inl hb.symm
    | none =>
      rw [hb] at h
      simp only at h
      split at h
      · split at h
        · cases h
        · simp only [Option.some.injEq] at h; exact .inr (.inr (.inl h.symm))
      · simp only [Option.some.injEq] at h; exact .inr (.inl h.symm)
  unfold dueD
  cases h : dueW r l s with
  | none => exact ⟨rfl, by decide +kernel, by decide +kernel, by decide +kernel, by decide +kernel⟩
  | some p =>
    rcases key p h with rfl | rfl | rfl | ⟨i, hi, rfl⟩
    · exact ⟨rfl, by decide +kernel, by decide +kernel, by decide +kernel, by decide +kernel⟩
    · exact ⟨rfl, by decide +kernel, by decide +kernel, by decide +kernel, by decide +kernel⟩
    · exact ⟨rfl, by decide +kernel, by decide +kernel, by decide +kernel, by decide +kernel⟩
    · match i, hi with
      | 0, _ => exact ⟨rfl, by decide +kernel, by decide +kernel, by decide +kernel, by decide +kernel⟩
      | 1, _ => exact ⟨rfl, by decide +kernel, by decide +kernel, by decide +kernel, by decide +kernel⟩
      | 2, _ => exact ⟨rfl, by decide +kernel, by decide +kernel, by decide +kernel, by decide +kernel⟩
      | 3, _ => exact ⟨rfl, by decide +kernel, by decide +kernel, by decide +kernel, by decide +kernel⟩
      | 4, _ => exact ⟨rfl, by decide +kernel, by decide +kernel, by decide +kernel, by decide +kernel⟩
      | 5, _ => exact ⟨rfl, by decide +kernel, by decide +kernel, by decide +kernel, by decide +kernel⟩
section
variable {P : Program} {w : World} {K : PySem.W.Frag} {mg : Str → Option Value} {base : Heap}
abbrev S_is : FSpec := ⟨fun ds => ∃ x, ds = [x, x] ∧ ShowOk x, fun ds d => d = .bl true, fun _ _ => False⟩
theorem ok_law_is {f : Addr} {fd : FuncData} (F : Fun K "_law_is" "_law_is" s__law_is f fd) (T : Tx mg) : FnOkG P w K mg base (L2.CX P w) 1 f fd ["told", "due"] (spS K 2 S_is) := by
  refine fn_abG F sc__law_is S_is (by decide) fun cdv A outer s H E ds hg0 hr hn hp => ?_
  refine ⟨_, (pss_one (ps_ret (pe_cmpR (k_eq K hr.units) (pe_callB (k_repr K hg0 hr.units) rfl T.repr (by decide +kernel) (pa_cons (pv 0) pa_nil)) (pe_callB (k_repr K hg0 hr.units) rfl T.repr (by decide +kernel) (pa_cons (pv 1) pa_nil)) (nomark _)))), ?_⟩
  rintro Z rfl
  obtain ⟨x, rfl, hx⟩ := hp
  repeat walk_at "den"
  refine cad_repr hx ?_
  repeat walk_at "den"
  refine cad_repr hx ?_
  refine eqg_str ?_
  simp
abbrev S_weq (Cw : Addr) : FSpec := ⟨fun ds => ∃ r l s y, ds = [wishO Cw r l s, y] ∧ eqD 3 r ∧ eqD 1 l ∧ eqD 0 s ∧ ((∃ r' l' s', y = wishO Cw r' l' s' ∧ eqD 3 r' ∧ eqD 1 l' ∧ eqD 0 s') ∨ ∃ xs, y = .tup xs),
  fun ds d => ∃ r l s y, ds = [wishO Cw r l s, y] ∧ ((∃ r' l' s', y = wishO Cw r' l' s' ∧ d = .bl (eqvD r r' && (eqvD l l' && eqvD s s'))) ∨ ∃ xs, y = .tup xs ∧ d = .bl false), fun _ _ => False⟩
theorem ok_Wish_eq {f C_Wish : Addr} {fd : FuncData} (F : Fun K "__eq__" "Wish.__eq__" s_Wish_eq f fd) (T : Tx mg) (kt : KitO K C_Wish) (k_Wish : mg "Wish" = some (.ref C_Wish)) (n1 : NoAttr K C_Wish "rows") (n2 : NoAttr K C_Wish "locked") (n3 : NoAttr K C_Wish "spare")
    (hkt : PySem.W.kitOne K (.type "tuple") (.ref C_Wish) = some false) : FnOk P w K mg base (L2.CX P w) 1 f fd ["self", "other"] (spS K 2 (S_weq C_Wish)) := by
  refine fn_ab F sc_Wish_eq (S_weq C_Wish) (by decide) fun cdv A outer s H E ds W hr tk hn hp => ?_
  refine ⟨_, (pss_one (ps_ret (pe_and (pe_callB (k_isi K) rfl T.isinstance (by decide +kernel) (pa_cons (pv 1) (pa_cons (pe_glob (v := .ref C_Wish) rfl k_Wish rfl) pa_nil))) (pe_and (pe_cmpR (k_eq K hr.units) (k_fld K (pv 0)) (k_fld K (pv 1)) (nomark _)) (pe_and (pe_cmpR (k_eq K hr.units) (k_fld K (pv 0)) (k_fld K (pv 1)) (nomark _)) (pe_one (pe_cmpR (k_eq K hr.units) (k_fld K (pv 0)) (k_fld K (pv 1)) (nomark _)))))))), ?_⟩
  rintro Z rfl rfl hX
  obtain ⟨r, l, sp, y, rfl, e1, e2, e3, hy⟩ := hp
  repeat walk_at "den"
  rcases hy with ⟨r', l', s', rfl, g1, g2, g3⟩ | ⟨xs, rfl⟩
  · have fin : ∀ b, b = (eqvD r r' && (eqvD l l' && eqvD sp s')) → (S_weq C_Wish).R [wishO C_Wish r l sp, wishO C_Wish r' l' s'] (.bl b) := fun b e => ⟨r, l, sp, _, rfl, .inl ⟨r', l', s', rfl, by rw [e]⟩⟩
    refine cad_isO kt ⟨_, rfl, ifT ?_⟩
    repeat walk_at "den"
    refine den_fld ?_
    repeat walk_at "den"
    refine ⟨_, _, _, r, rfl, kt.cl, n1, rfl, ?_⟩
    refine den_fld ?_
    repeat walk_at "den"
    refine ⟨_, _, _, r', rfl, kt.cl, n1, rfl, ?_⟩
    refine eqg_eqv e1 g1 (by decide) (by decide) ⟨_, rfl, ite_b (fun h1 => ?_) fun h1 => fin _ (by rw [h1]; rfl)⟩
    repeat walk_at "den"
    refine den_fld ?_
    repeat walk_at "den"
    refine ⟨_, _, _, l, rfl, kt.cl, n2, rfl, ?_⟩
    refine den_fld ?_
    repeat walk_at "den"
    refine ⟨_, _, _, l', rfl, kt.cl, n2, rfl, ?_⟩
    refine eqg_eqv e2 g2 (by decide) (by decide) ⟨_, rfl, ite_b (fun h2 => ?_) fun h2 => fin _ (by rw [h1, h2]; rfl)⟩
    repeat walk_at "den"
    refine den_fld ?_
    repeat walk_at "den"
    refine ⟨_, _, _, sp, rfl, kt.cl, n3, rfl, ?_⟩
    refine den_fld ?_
    repeat walk_at "den"
    refine ⟨_, _, _, s', rfl, kt.cl, n3, rfl, ?_⟩
    refine eqg_eqv e3 g3 (by decide) (by decide) ?_
    exact fin _ (by rw [h1, h2]; rfl)
  · exact cad_isT hkt ⟨_, rfl, ifF ⟨r, l, sp, _, rfl, .inr ⟨xs, rfl, rfl⟩⟩⟩
end
section
variable {P : Program} {w : World} {K : PySem.W.Frag} {mg : Str → Option Value} {base : Heap}
theorem wishO_eq {d : D} (h : wishT d) : ∃ r l s, d = .tup [r, l, s] ∧ eqD 3 r ∧ eqD 1 l ∧ eqD 0 s ∧ eqD 4 d ∧ ∃ xs, r = .tup xs := by
  obtain ⟨r, l, s, rfl, _, _, _, hd, hx⟩ := wish_due h
  obtain ⟨e1, e2, e3⟩ := due_parts hd
  exact ⟨r, l, s, rfl, e1, e2, e3, eqD_tup fun x hx => by
    simp at hx
    rcases hx with rfl | rfl | rfl
    · exact e1
    · exact e2.mono (by decide)
    · exact e3.mono (by decide), hx⟩
def sp_law (K : PySem.W.Frag) : Sp := fun vs H Q _ => ∃ (a : Addr) (ns : List Int), vs = [.ref a] ∧ SqL K H a (ns.map V.int) ∧ ns.length ≤ 63 ∧ Only H ∧ ∀ H', Q (.bl true) H'
theorem ok_law {f C_Wish : Addr} {fd : FuncData} (F : Fun K "law" "law" s_law f fd) (T : Tx mg) (c__law_pool : Dfn P w K mg base "_law_pool" 1 1 S_pool) (c__law_wish : Dfn P w K mg base "_law_wish" 4 2 S_wish) (c__law_tried : Dfn P w K mg base "_law_tried" 7 3 S_tried)
    (c__law_bent : Dfn P w K mg base "_law_bent" 3 2 S_bent) (c__law_due : Dfn P w K mg base "_law_due" 3 3 S_due) (c__law_is : DfnG P w K mg base "_law_is" 1 2 S_is) (c__law_made_wish : Dfn P w K mg base "_law_made_wish" 7 1 (S_made C_Wish)) (e_Wish : EqO P w K mg base C_Wish 1 (S_weq C_Wish)) :
    FnOkG P w K mg base (L2.CX P w) 8 f fd ["script"] (sp_law K) := by
  refine fnG_of F sc_law (fun vs H Q E h => by obtain ⟨a, ns, rfl, _⟩ := h; rfl) fun cdv A outer s H vs Q E hg0 hr h => ?_
  refine ⟨_, (pss_cons (ps_set (i := 1) sc_law.nd rfl (Or.inl rfl) (kc_fn c__law_pool hr (by decide) ⟨rfl, rfl, rfl, rfl, rfl⟩ rfl (pa_cons (pv 0) pa_nil)))
      (pss_cons (ps_set (i := 2) sc_law.nd rfl (Or.inl rfl) (pe_lst pa_nil))
      (pss_cons (ps_for (passes_of rfl) rfl (pi_range1 rfl T.range (pa_cons pe_int pa_nil)) (pg_name (i := 3) sc_law.nd rfl (Or.inl rfl))
      (pss_cons (ps_set (i := 4) sc_law.nd rfl (Or.inl rfl) (kc_fn c__law_wish hr (by decide) ⟨rfl, rfl, rfl, rfl, rfl⟩ rfl (pa_cons (pv 1) (pa_cons pe_int pa_nil))))
      (pss_cons (ps_if (pt_cmp (pc_notN (kc_fn c__law_tried hr (by decide) ⟨rfl, rfl, rfl, rfl, rfl⟩ rfl (pa_cons (pe_ix (k_ix K) (pv 4) pe_int (fun _ _ => rfl)) (pa_cons (pe_ix (k_ix K) (pv 4) pe_int (fun _ _ => rfl)) (pa_cons (pe_ix (k_ix K) (pv 4) pe_int (fun _ _ => rfl)) pa_nil)))))) (pss_one (ps_ret pe_bl)) pss_nil)
      (pss_cons (ps_expr (pe_bm PySem.F.plainAttrs_list PySem.F.slot_list_append PySem.F.type_list_append mt_append (pv 2) (pa_cons (pv 4) pa_nil)))
      (pss_cons (ps_set (i := 5) sc_law.nd rfl (Or.inl rfl) (kc_fn c__law_bent hr (by decide) ⟨rfl, rfl, rfl, rfl, rfl⟩ rfl (pa_cons (pv 1) (pa_cons (pv 4) pa_nil))))
      (pss_one (ps_if (pt_not (pt_val (kc_fnG hg0 c__law_is hr (by decide) ⟨rfl, rfl, rfl, rfl, rfl⟩ rfl (pa_cons (pe_lst (pa_cons (kc_fn c__law_tried hr (by decide) ⟨rfl, rfl, rfl, rfl, rfl⟩ rfl (pa_cons (pe_ix (k_ix K) (pv 5) pe_int (fun _ _ => rfl)) (pa_cons (pe_ix (k_ix K) (pv 5) pe_int (fun _ _ => rfl)) (pa_cons (pe_ix (k_ix K) (pv 5) pe_int (fun _ _ => rfl)) pa_nil)))) pa_nil)) (pa_cons (pe_lst (pa_cons (kc_fn c__law_due hr (by decide) ⟨rfl, rfl, rfl, rfl, rfl⟩ rfl (pa_cons (pe_ix (k_ix K) (pv 5) pe_int (fun _ _ => rfl)) (pa_cons (pe_ix (k_ix K) (pv 5) pe_int (fun _ _ => rfl)) (pa_cons (pe_ix (k_ix K) (pv 5) pe_int (fun _ _ => rfl)) pa_nil)))) pa_nil)) pa_nil))))) (pss_one (ps_ret pe_bl)) pss_nil)))))))
      (pss_cons (ps_for (passes_of rfl) rfl (ki_seq K (pv 2)) (pg_name (i := 6) sc_law.nd rfl (Or.inl rfl))
      (pss_cons (ps_set (i := 7) sc_law.nd rfl (Or.inl rfl) (kc_fn c__law_made_wish hr (by decide) ⟨rfl, rfl, rfl, rfl, rfl⟩ rfl (pa_cons (pv 6) pa_nil)))
      (pss_cons (ps_if (PW.pt (pw_or (pt_cmpR (k_eqO e_Wish hr (by decide) ⟨rfl, rfl, rfl, rfl, rfl⟩) (pv 7) (pv 6) (nomark _)) (pw_or (pt_cmpR (k_eqO e_Wish hr (by decide) ⟨rfl, rfl, rfl, rfl, rfl⟩) (pv 7) (pe_ix (k_ix K) (pv 6) pe_int (fun _ _ => rfl)) (nomark _)) (pw_or1 (pt_cmp (pc_isN (pv 7))))))) (pss_one (ps_ret pe_bl)) pss_nil)
      (pss_one (ps_for (passes_of rfl) rfl (ki_seq K (pv 2)) (pg_name (i := 8) sc_law.nd rfl (Or.inl rfl))
      (pss_one (ps_if (pt_cmpR (k_ne K hr.units) (pe_cmpR (k_eqO e_Wish hr (by decide) ⟨rfl, rfl, rfl, rfl, rfl⟩) (pv 7) (kc_fn c__law_made_wish hr (by decide) ⟨rfl, rfl, rfl, rfl, rfl⟩ rfl (pa_cons (pv 8) pa_nil)) (nomark _)) (pe_cmpR (k_eqO e_Wish hr (by decide) ⟨rfl, rfl, rfl, rfl, rfl⟩) (pv 6) (pv 8) (nomark _)) (nomark _)) (pss_one (ps_ret pe_bl)) pss_nil)))))))
      (pss_one (ps_ret pe_bl)))))), ?_⟩
  obtain ⟨a, ns, rfl, hS, hlen, hO, hQ⟩ := h
  refine lawpool_start (S := S_pool) (N := N_law) hS hlen hO (fun d ⟨seed, cs, h⟩ => ⟨seed, cs, h⟩) ⟨ns, rfl, hlen⟩ (fun _ z => z) (by decide) (fun Z hZ => ?_) hQ rfl
  subst hZ
  refine dens_seq (dens_own (denl_lst ?_))
  repeat walk_at "dem"
  refine ⟨by simp, ?_⟩
  refine dens_cut (fun Γ => ∃ ws b3 b4 b5, Γ = [.d (.scr ns), .d .pool, .own ws, b3, b4, b5, .un, .un, .un] ∧ (∀ x ∈ ws, wishT x) ∧ ws.length ≤ 5) (dens_for (deni_rng1 ?_)) ?_
  · repeat walk_at "dem"
    refine ⟨5, rfl, by decide, by decide, fun i Γ => ∃ ws b3 b4 b5, Γ = [.d (.scr ns), .d .pool, .own ws, b3, b4, b5, .un, .un, .un] ∧ (∀ x ∈ ws, wishT x) ∧ ws.length ≤ i, ⟨[], .un, .un, .un, rfl, by simp, Nat.le_refl _⟩, ?_, ?_⟩
    · rintro i d Γ hd ⟨ws, b3, b4, b5, rfl, hw, hl⟩
      have hi : i < 5 := (rg_int hd).2
      refine deng_name (dens_seq (dens_asg (den_call ?_)))
      repeat walk_at "den"
      refine ⟨rfl, rfl, fun sp hsp => ?_, fun _ z => z⟩
      obtain ⟨r, l, s0, e, kr, kl, ks, hdue, _⟩ := wish_due hsp
      subst e
      repeat walk_at "den"
      refine den_call ?_
      repeat walk_at "den"
      refine opd_ixT (d := r) rfl ?_
      repeat walk_at "den"
      refine opd_ixT (d := l) rfl ?_
      repeat walk_at "den"
      refine opd_ixT (d := s0) rfl ?_
      repeat walk_at "den"
      refine ⟨rfl, ⟨r, l, s0, rfl, kr, kl, ks⟩, ?_, fun _ z => z⟩
      rintro dd ⟨r', l', s', e, rfl⟩
      cases e
      rw [show dueD r l s0 = .non by simp only [dueD, hdue]]
      refine ⟨_, rfl, ifF ?_⟩
      refine dens_nil (dens_seq (dens_drop (den_append (xs := ws) rfl rfl ?_)))
      repeat walk_at "dem"
      refine ⟨ws, rfl, by omega, ?_⟩
      refine dens_seq (dens_asg (den_call ?_))
      repeat walk_at "den"
      refine ⟨rfl, ⟨_, rfl, hsp⟩, ?_, fun _ z => z⟩
      rintro bd ⟨br, bl, bs, rfl, k1, k2, k3, k4⟩
      repeat walk_at "den"
      refine den_call ?_
      repeat walk_at "den"
      refine den_call ?_
      repeat walk_at "den"
      refine opd_ixT (d := br) rfl ?_
      repeat walk_at "den"
      refine opd_ixT (d := bl) rfl ?_
      repeat walk_at "den"
      refine opd_ixT (d := bs) rfl ?_
      repeat walk_at "den"
      refine ⟨rfl, ⟨br, bl, bs, rfl, k1, k2, k3⟩, ?_, fun _ z => z⟩
      rintro td ⟨r', l', s', e, rfl⟩
      cases e
      repeat walk_at "den"
      refine ⟨by simp, ?_⟩
      refine dena_cons (den_l (denl_lst (dena_cons (den_call ?_))))
      repeat walk_at "den"
      refine opd_ixT (d := br) rfl ?_
      repeat walk_at "den"
      refine opd_ixT (d := bl) rfl ?_
      repeat walk_at "den"
      refine opd_ixT (d := bs) rfl ?_
      repeat walk_at "den"
      refine ⟨rfl, ⟨br, bl, bs, rfl, k1, k2, k3, k4⟩, ?_, fun _ z => z⟩
      rintro td ⟨r', l', s', e, rfl⟩
      cases e
      repeat walk_at "den"
      refine ⟨by simp, ?_⟩
      repeat walk_at "den"
      refine ⟨rfl, ⟨_, rfl, due_show⟩, ?_, fun _ z => z⟩
      rintro td rfl
      refine ⟨_, rfl, ifF ?_⟩
      refine dens_nil ⟨ws ++ [.tup [r, l, s0]], _, _, _, rfl, fun x hx => ?_, by simp; omega⟩
      rcases List.mem_append.mp hx with e | e
      · exact hw x e
      · rw [List.mem_singleton.mp e]; exact hsp
    · rintro Γ ⟨ws, b3, b4, b5, rfl, hw, hl⟩
      exact ⟨ws, b3, b4, b5, rfl, hw, by simpa [rgAt] using hl⟩
  rintro Γ ⟨ws, b3, b4, b5, rfl, hw, hl⟩
  have weq : ∀ {r l sp y : D}, eqD 3 r → eqD 1 l → eqD 0 sp → (∃ xs, y = .tup xs) → ∀ {Q : D → Prop}, Q (.bl false) → OpD Z (rEqW Z.K C_Wish (S_weq C_Wish)) (wishO C_Wish r l sp) y Q := fun {r l sp y} e1 e2 e3 hy {Q} q => by
    obtain ⟨xs, rfl⟩ := hy
    refine opd_eqO e_Wish (.inr ⟨xs, rfl⟩) ⟨r, l, sp, _, rfl, e1, e2, e3, .inr ⟨xs, rfl⟩⟩ ?_ (fun _ z => z)
    rintro d ⟨r', l', s', y, e, h⟩
    rcases h with ⟨_, _, _, e2, _⟩ | ⟨_, _, rfl⟩
    · simp only [List.cons.injEq, and_true] at e
      rw [← e.2] at e2; cases e2
    · exact ⟨false, rfl, q⟩
  refine dens_cut (fun Γ => True) (dens_for (deni_seq (den_move (xs := ws) rfl ⟨ws, .inl rfl, fun i Γ => ∃ c3 c4 c5 c6 c7 c8, Γ = [.d (.scr ns), .d .pool, .d (.lst ws), c3, c4, c5, c6, c7, c8], ⟨_, _, _, _, _, _, rfl⟩, ?_, fun Γ _ => trivial⟩))) ?_
  · rintro i d Γ hd ⟨c3, c4, c5, c6, c7, c8, rfl⟩
    have hdw := hw d (List.mem_of_getElem? hd)
    obtain ⟨r, l, s0, e, e1, e2, e3, e4, er⟩ := wishO_eq hdw
    subst e
    refine deng_name (dens_seq (dens_asg (den_call ?_)))
    repeat walk_at "den"
    refine ⟨rfl, ⟨_, rfl, hdw⟩, ?_, fun _ z => z⟩
    rintro o ⟨r', l', s', e, rfl⟩
    cases e
    repeat walk_at "den"
    refine weq e1 e2 e3 ⟨_, rfl⟩ ⟨_, rfl, ifF ?_⟩
    repeat walk_at "den"
    refine opd_ixT (d := r) rfl ?_
    refine weq e1 e2 e3 er ⟨_, rfl, ifF ?_⟩
    repeat walk_at "den"
    refine ⟨_, rfl, ifF ?_⟩
    refine dens_nil (dens_for (deni_seq (den_var rfl ⟨ws, .inl rfl, fun i Γ => ∃ c3 c4 c5 c8, Γ = [.d (.scr ns), .d .pool, .d (.lst ws), c3, c4, c5, .d (.tup [r, l, s0]), .d (wishO C_Wish r l s0), c8], ⟨_, _, _, _, rfl⟩, ?_, ?_⟩)))
    · rintro i2 d2 Γ hd2 ⟨c3, c4, c5, c8, rfl⟩
      have hdw2 := hw d2 (List.mem_of_getElem? hd2)
      obtain ⟨r2, l2, s2, e, g1, g2, g3, g4, gr⟩ := wishO_eq hdw2
      subst e
      refine deng_name ?_
      repeat walk_at "den"
      refine den_call ?_
      repeat walk_at "den"
      refine ⟨rfl, ⟨_, rfl, hdw2⟩, ?_, fun _ z => z⟩
      rintro o ⟨r', l', s', e, rfl⟩
      cases e
      refine opd_eqO e_Wish (.inl ⟨_, _, rfl⟩) ⟨r, l, s0, _, rfl, e1, e2, e3, .inl ⟨r2, l2, s2, rfl, g1, g2, g3⟩⟩ ?_ (fun _ z => z)
      rintro b ⟨r', l', s', y, e, h⟩
      rcases h with ⟨_, _, _, e5, rfl⟩ | ⟨_, e5, _⟩
      · subst e5
        cases e
        refine ⟨_, rfl, ?_⟩
        repeat walk_at "den"
        refine OpD.inr (eqg_eqv e4 g4 (by decide) (by decide) ?_)
        rw [eqvD_tup3]
        refine neg_bl ⟨_, rfl, ?_⟩
        simp only [decide_true, Bool.not_true]
        exact ifF (dens_nil ⟨_, _, _, _, rfl⟩)
      · simp only [List.cons.injEq, and_true] at e
        rw [← e.2] at e5; cases e5
    · rintro Γ ⟨c3, c4, c5, c8, rfl⟩
      exact ⟨_, _, _, _, _, _, rfl⟩
  · rintro Γ -
    repeat walk_at "den"
    rfl
end
theorem all_mk {l : PySem.W.OpenLaw} {w : World} {K : PySem.W.Frag} {h : Heap} {mg : Str → Option Value} {fa C_CellError C_BadWish C_Wish : Addr} (X : K.In h) (G : h.Ns mainGlobals mg) (hfa : mg "law" = some (.ref fa))
    {nm q : Str} {N : Addr} {bs : List Value} {sn : List Str} {sub : List Value} {ab : Bool} {col : Option Bool} {dd : Option Addr} {m0 m1 m2 m3 m5 : Option Value} {tk_c_MOST_CELLS : Tok} {tk_c_MOST_SPARE : Tok}
    {f0 : Addr} {od0 an0 : Option Addr} {sl0 : Array (Option Value)} {oc0 kV0 dc0 pm0 cd0 ct0 : Value}
    {f1 : Addr} {od1 an1 : Option Addr} {sl1 : Array (Option Value)} {oc1 kV1 dc1 pm1 cd1 ct1 : Value}
    {f2 : Addr} {od2 an2 : Option Addr} {sl2 : Array (Option Value)} {oc2 kV2 dc2 pm2 cd2 ct2 : Value}
    {f3 : Addr} {od3 an3 : Option Addr} {sl3 : Array (Option Value)} {oc3 kV3 dc3 pm3 cd3 ct3 : Value}
    {f4 : Addr} {od4 an4 : Option Addr} {sl4 : Array (Option Value)} {oc4 kV4 dc4 pm4 cd4 ct4 : Value}
    {f5 : Addr} {od5 an5 : Option Addr} {sl5 : Array (Option Value)} {oc5 kV5 dc5 pm5 cd5 ct5 : Value}
    {f6 : Addr} {od6 an6 : Option Addr} {sl6 : Array (Option Value)} {oc6 kV6 dc6 pm6 cd6 ct6 : Value}
    {f7 : Addr} {od7 an7 : Option Addr} {sl7 : Array (Option Value)} {oc7 kV7 dc7 pm7 cd7 ct7 : Value}
    {f8 : Addr} {od8 an8 : Option Addr} {sl8 : Array (Option Value)} {oc8 kV8 dc8 pm8 cd8 ct8 : Value}
    {f9 : Addr} {od9 an9 : Option Addr} {sl9 : Array (Option Value)} {oc9 kV9 dc9 pm9 cd9 ct9 : Value}
    {f10 : Addr} {od10 an10 : Option Addr} {sl10 : Array (Option Value)} {oc10 kV10 dc10 pm10 cd10 ct10 : Value}
    {f11 : Addr} {od11 an11 : Option Addr} {sl11 : Array (Option Value)} {oc11 kV11 dc11 pm11 cd11 ct11 : Value}
    {f12 : Addr} {od12 an12 : Option Addr} {sl12 : Array (Option Value)} {oc12 kV12 dc12 pm12 cd12 ct12 : Value}
    {f13 : Addr} {od13 an13 : Option Addr} {sl13 : Array (Option Value)} {oc13 kV13 dc13 pm13 cd13 ct13 : Value}
    {f14 : Addr} {od14 an14 : Option Addr} {sl14 : Array (Option Value)} {oc14 kV14 dc14 pm14 cd14 ct14 : Value}
    {f15 : Addr} {od15 an15 : Option Addr} {sl15 : Array (Option Value)} {oc15 kV15 dc15 pm15 cd15 ct15 : Value}
    {f16 : Addr} {od16 an16 : Option Addr} {sl16 : Array (Option Value)} {oc16 kV16 dc16 pm16 cd16 ct16 : Value}
    {f17 : Addr} {od17 an17 : Option Addr} {sl17 : Array (Option Value)} {oc17 kV17 dc17 pm17 cd17 ct17 : Value}
    {f18 : Addr} {od18 an18 : Option Addr} {sl18 : Array (Option Value)} {oc18 kV18 dc18 pm18 cd18 ct18 : Value}
    {f19 : Addr} {od19 an19 : Option Addr} {sl19 : Array (Option Value)} {oc19 kV19 dc19 pm19 cd19 ct19 : Value}
    {f20 : Addr} {od20 an20 : Option Addr} {sl20 : Array (Option Value)} {oc20 kV20 dc20 pm20 cd20 ct20 : Value}
    {f21 : Addr} {od21 an21 : Option Addr} {sl21 : Array (Option Value)} {oc21 kV21 dc21 pm21 cd21 ct21 : Value}
    {f22 : Addr} {od22 an22 : Option Addr} {sl22 : Array (Option Value)} {oc22 kV22 dc22 pm22 cd22 ct22 : Value}
    {f23 : Addr} {od23 an23 : Option Addr} {sl23 : Array (Option Value)} {oc23 kV23 dc23 pm23 cd23 ct23 : Value}
    {f24 : Addr} {od24 an24 : Option Addr} {sl24 : Array (Option Value)} {oc24 kV24 dc24 pm24 cd24 ct24 : Value}
    {f25 : Addr} {od25 an25 : Option Addr} {sl25 : Array (Option Value)} {oc25 kV25 dc25 pm25 cd25 ct25 : Value}
    {f26 : Addr} {od26 an26 : Option Addr} {sl26 : Array (Option Value)} {oc26 kV26 dc26 pm26 cd26 ct26 : Value}
    {f27 : Addr} {od27 an27 : Option Addr} {sl27 : Array (Option Value)} {oc27 kV27 dc27 pm27 cd27 ct27 : Value}
    (A_CellError : PySem.W.nsIn K mainGlobals "CellError" = some (some (.ref C_CellError)))
    (A_BadWish : PySem.W.nsIn K mainGlobals "BadWish" = some (some (.ref C_BadWish)))
    (A_Wish : PySem.W.nsIn K mainGlobals "Wish" = some (some (.ref C_Wish)))
    (a0 : PySem.W.findIn K (.ref C_BadWish) "__init__" = some (some (.ref f0)))
    (l0 : K.lookup f0 = some ⟨oc0, od0, .func (PySem.W.fnOf "__init__" "BadWish.__init__" (defArgs s_BadWish_init) (defBody s_BadWish_init) (defScope s_BadWish_init) .none kV0 dc0 pm0 an0 cd0 ct0), sl0⟩)
    (c0 : PySem.W.codeIn K cd0 "BadWish.__init__" = true)
    (k0 : PySem.W.keepIn K (.ref f0) = true)
    (a1 : PySem.W.nsIn K mainGlobals "is_whole" = some (some (.ref f1)))
    (l1 : K.lookup f1 = some ⟨oc1, od1, .func (PySem.W.fnOf "is_whole" "is_whole" (defArgs s_is_whole) (defBody s_is_whole) (defScope s_is_whole) .none kV1 dc1 pm1 an1 cd1 ct1), sl1⟩)
    (c1 : PySem.W.codeIn K cd1 "is_whole" = true)
    (k1 : PySem.W.keepIn K (.ref f1) = true)
    (a2 : PySem.W.nsIn K mainGlobals "is_from_to" = some (some (.ref f2)))
    (l2 : K.lookup f2 = some ⟨oc2, od2, .func (PySem.W.fnOf "is_from_to" "is_from_to" (defArgs s_is_from_to) (defBody s_is_from_to) (defScope s_is_from_to) .none kV2 dc2 pm2 an2 cd2 ct2), sl2⟩)
    (c2 : PySem.W.codeIn K cd2 "is_from_to" = true)
    (k2 : PySem.W.keepIn K (.ref f2) = true)
    (a3 : PySem.W.nsIn K mainGlobals "is_tuple_of" = some (some (.ref f3)))
    (l3 : K.lookup f3 = some ⟨oc3, od3, .func (PySem.W.fnOf "is_tuple_of" "is_tuple_of" (defArgs s_is_tuple_of) (defBody s_is_tuple_of) (defScope s_is_tuple_of) .none kV3 dc3 pm3 an3 cd3 ct3), sl3⟩)
    (c3 : PySem.W.codeIn K cd3 "is_tuple_of" = true)
    (k3 : PySem.W.keepIn K (.ref f3) = true)
    (a4 : PySem.W.nsIn K mainGlobals "is_number" = some (some (.ref f4)))
    (l4 : K.lookup f4 = some ⟨oc4, od4, .func (PySem.W.fnOf "is_number" "is_number" (defArgs s_is_number) (defBody s_is_number) (defScope s_is_number) .none kV4 dc4 pm4 an4 cd4 ct4), sl4⟩)
    (c4 : PySem.W.codeIn K cd4 "is_number" = true)
    (k4 : PySem.W.keepIn K (.ref f4) = true)
    (a5 : PySem.W.nsIn K mainGlobals "is_row" = some (some (.ref f5)))
    (l5 : K.lookup f5 = some ⟨oc5, od5, .func (PySem.W.fnOf "is_row" "is_row" (defArgs s_is_row) (defBody s_is_row) (defScope s_is_row) .none kV5 dc5 pm5 an5 cd5 ct5), sl5⟩)
    (c5 : PySem.W.codeIn K cd5 "is_row" = true)
    (k5 : PySem.W.keepIn K (.ref f5) = true)
    (a6 : PySem.W.nsIn K mainGlobals "is_lot" = some (some (.ref f6)))
    (l6 : K.lookup f6 = some ⟨oc6, od6, .func (PySem.W.fnOf "is_lot" "is_lot" (defArgs s_is_lot) (defBody s_is_lot) (defScope s_is_lot) .none kV6 dc6 pm6 an6 cd6 ct6), sl6⟩)
    (c6 : PySem.W.codeIn K cd6 "is_lot" = true)
    (k6 : PySem.W.keepIn K (.ref f6) = true)
    (a7 : PySem.W.findIn K (.ref C_Wish) "__init__" = some (some (.ref f7)))
    (l7 : K.lookup f7 = some ⟨oc7, od7, .func (PySem.W.fnOf "__init__" "Wish.__init__" (defArgs s_Wish_init) (defBody s_Wish_init) (defScope s_Wish_init) .none kV7 dc7 pm7 an7 cd7 ct7), sl7⟩)
    (c7 : PySem.W.codeIn K cd7 "Wish.__init__" = true)
    (k7 : PySem.W.keepIn K (.ref f7) = true)
    (a8 : PySem.W.findIn K (.ref C_Wish) "__eq__" = some (some (.ref f8)))
    (l8 : K.lookup f8 = some ⟨oc8, od8, .func (PySem.W.fnOf "__eq__" "Wish.__eq__" (defArgs s_Wish_eq) (defBody s_Wish_eq) (defScope s_Wish_eq) .none kV8 dc8 pm8 an8 cd8 ct8), sl8⟩)
    (c8 : PySem.W.codeIn K cd8 "Wish.__eq__" = true)
    (k8 : PySem.W.keepIn K (.ref f8) = true)
    (a9 : PySem.W.nsIn K mainGlobals "check_rows" = some (some (.ref f9)))
    (l9 : K.lookup f9 = some ⟨oc9, od9, .func (PySem.W.fnOf "check_rows" "check_rows" (defArgs s_check_rows) (defBody s_check_rows) (defScope s_check_rows) .none kV9 dc9 pm9 an9 cd9 ct9), sl9⟩)
    (c9 : PySem.W.codeIn K cd9 "check_rows" = true)
    (k9 : PySem.W.keepIn K (.ref f9) = true)
    (a10 : PySem.W.nsIn K mainGlobals "_law_pool" = some (some (.ref f10)))
    (l10 : K.lookup f10 = some ⟨oc10, od10, .func (PySem.W.fnOf "_law_pool" "_law_pool" (defArgs s__law_pool) (defBody s__law_pool) (defScope s__law_pool) .none kV10 dc10 pm10 an10 cd10 ct10), sl10⟩)
    (c10 : PySem.W.codeIn K cd10 "_law_pool" = true)
    (k10 : PySem.W.keepIn K (.ref f10) = true)
    (a11 : PySem.W.nsIn K mainGlobals "_law_draw" = some (some (.ref f11)))
    (l11 : K.lookup f11 = some ⟨oc11, od11, .func (PySem.W.fnOf "_law_draw" "_law_draw" (defArgs s__law_draw) (defBody s__law_draw) (defScope s__law_draw) .none kV11 dc11 pm11 an11 cd11 ct11), sl11⟩)
    (c11 : PySem.W.codeIn K cd11 "_law_draw" = true)
    (k11 : PySem.W.keepIn K (.ref f11) = true)
    (a12 : PySem.W.nsIn K mainGlobals "_law_mixed" = some (some (.ref f12)))
    (l12 : K.lookup f12 = some ⟨oc12, od12, .func (PySem.W.fnOf "_law_mixed" "_law_mixed" (defArgs s__law_mixed) (defBody s__law_mixed) (defScope s__law_mixed) .none kV12 dc12 pm12 an12 cd12 ct12), sl12⟩)
    (c12 : PySem.W.codeIn K cd12 "_law_mixed" = true)
    (k12 : PySem.W.keepIn K (.ref f12) = true)
    (a13 : PySem.W.nsIn K mainGlobals "_law_deep" = some (some (.ref f13)))
    (l13 : K.lookup f13 = some ⟨oc13, od13, .func (PySem.W.fnOf "_law_deep" "_law_deep" (defArgs s__law_deep) (defBody s__law_deep) (defScope s__law_deep) .none kV13 dc13 pm13 an13 cd13 ct13), sl13⟩)
    (c13 : PySem.W.codeIn K cd13 "_law_deep" = true)
    (k13 : PySem.W.keepIn K (.ref f13) = true)
    (a14 : PySem.W.nsIn K mainGlobals "_law_is" = some (some (.ref f14)))
    (l14 : K.lookup f14 = some ⟨oc14, od14, .func (PySem.W.fnOf "_law_is" "_law_is" (defArgs s__law_is) (defBody s__law_is) (defScope s__law_is) .none kV14 dc14 pm14 an14 cd14 ct14), sl14⟩)
    (c14 : PySem.W.codeIn K cd14 "_law_is" = true)
    (k14 : PySem.W.keepIn K (.ref f14) = true)
    (a15 : PySem.W.nsIn K mainGlobals "_law_low" = some (some (.ref f15)))
    (l15 : K.lookup f15 = some ⟨oc15, od15, .func (PySem.W.fnOf "_law_low" "_law_low" (defArgs s__law_low) (defBody s__law_low) (defScope s__law_low) .none kV15 dc15 pm15 an15 cd15 ct15), sl15⟩)
    (c15 : PySem.W.codeIn K cd15 "_law_low" = true)
    (k15 : PySem.W.keepIn K (.ref f15) = true)
    (a16 : PySem.W.nsIn K mainGlobals "_law_unit" = some (some (.ref f16)))
    (l16 : K.lookup f16 = some ⟨oc16, od16, .func (PySem.W.fnOf "_law_unit" "_law_unit" (defArgs s__law_unit) (defBody s__law_unit) (defScope s__law_unit) .none kV16 dc16 pm16 an16 cd16 ct16), sl16⟩)
    (c16 : PySem.W.codeIn K cd16 "_law_unit" = true)
    (k16 : PySem.W.keepIn K (.ref f16) = true)
    (a17 : PySem.W.nsIn K mainGlobals "_law_number" = some (some (.ref f17)))
    (l17 : K.lookup f17 = some ⟨oc17, od17, .func (PySem.W.fnOf "_law_number" "_law_number" (defArgs s__law_number) (defBody s__law_number) (defScope s__law_number) .none kV17 dc17 pm17 an17 cd17 ct17), sl17⟩)
    (c17 : PySem.W.codeIn K cd17 "_law_number" = true)
    (k17 : PySem.W.keepIn K (.ref f17) = true)
    (a18 : PySem.W.nsIn K mainGlobals "_law_some_row" = some (some (.ref f18)))
    (l18 : K.lookup f18 = some ⟨oc18, od18, .func (PySem.W.fnOf "_law_some_row" "_law_some_row" (defArgs s__law_some_row) (defBody s__law_some_row) (defScope s__law_some_row) .none kV18 dc18 pm18 an18 cd18 ct18), sl18⟩)
    (c18 : PySem.W.codeIn K cd18 "_law_some_row" = true)
    (k18 : PySem.W.keepIn K (.ref f18) = true)
    (a19 : PySem.W.nsIn K mainGlobals "_law_wish" = some (some (.ref f19)))
    (l19 : K.lookup f19 = some ⟨oc19, od19, .func (PySem.W.fnOf "_law_wish" "_law_wish" (defArgs s__law_wish) (defBody s__law_wish) (defScope s__law_wish) .none kV19 dc19 pm19 an19 cd19 ct19), sl19⟩)
    (c19 : PySem.W.codeIn K cd19 "_law_wish" = true)
    (k19 : PySem.W.keepIn K (.ref f19) = true)
    (a20 : PySem.W.nsIn K mainGlobals "_law_made_wish" = some (some (.ref f20)))
    (l20 : K.lookup f20 = some ⟨oc20, od20, .func (PySem.W.fnOf "_law_made_wish" "_law_made_wish" (defArgs s__law_made_wish) (defBody s__law_made_wish) (defScope s__law_made_wish) .none kV20 dc20 pm20 an20 cd20 ct20), sl20⟩)
    (c20 : PySem.W.codeIn K cd20 "_law_made_wish" = true)
    (k20 : PySem.W.keepIn K (.ref f20) = true)
    (a21 : PySem.W.nsIn K mainGlobals "_law_is_int" = some (some (.ref f21)))
    (l21 : K.lookup f21 = some ⟨oc21, od21, .func (PySem.W.fnOf "_law_is_int" "_law_is_int" (defArgs s__law_is_int) (defBody s__law_is_int) (defScope s__law_is_int) .none kV21 dc21 pm21 an21 cd21 ct21), sl21⟩)
    (c21 : PySem.W.codeIn K cd21 "_law_is_int" = true)
    (k21 : PySem.W.keepIn K (.ref f21) = true)
    (a22 : PySem.W.nsIn K mainGlobals "_law_is_number" = some (some (.ref f22)))
    (l22 : K.lookup f22 = some ⟨oc22, od22, .func (PySem.W.fnOf "_law_is_number" "_law_is_number" (defArgs s__law_is_number) (defBody s__law_is_number) (defScope s__law_is_number) .none kV22 dc22 pm22 an22 cd22 ct22), sl22⟩)
    (c22 : PySem.W.codeIn K cd22 "_law_is_number" = true)
    (k22 : PySem.W.keepIn K (.ref f22) = true)
    (a23 : PySem.W.nsIn K mainGlobals "_law_due" = some (some (.ref f23)))
    (l23 : K.lookup f23 = some ⟨oc23, od23, .func (PySem.W.fnOf "_law_due" "_law_due" (defArgs s__law_due) (defBody s__law_due) (defScope s__law_due) .none kV23 dc23 pm23 an23 cd23 ct23), sl23⟩)
    (c23 : PySem.W.codeIn K cd23 "_law_due" = true)
    (k23 : PySem.W.keepIn K (.ref f23) = true)
    (a24 : PySem.W.nsIn K mainGlobals "_law_tried" = some (some (.ref f24)))
    (l24 : K.lookup f24 = some ⟨oc24, od24, .func (PySem.W.fnOf "_law_tried" "_law_tried" (defArgs s__law_tried) (defBody s__law_tried) (defScope s__law_tried) .none kV24 dc24 pm24 an24 cd24 ct24), sl24⟩)
    (c24 : PySem.W.codeIn K cd24 "_law_tried" = true)
    (k24 : PySem.W.keepIn K (.ref f24) = true)
    (a25 : PySem.W.nsIn K mainGlobals "_law_bent_row" = some (some (.ref f25)))
    (l25 : K.lookup f25 = some ⟨oc25, od25, .func (PySem.W.fnOf "_law_bent_row" "_law_bent_row" (defArgs s__law_bent_row) (defBody s__law_bent_row) (defScope s__law_bent_row) .none kV25 dc25 pm25 an25 cd25 ct25), sl25⟩)
    (c25 : PySem.W.codeIn K cd25 "_law_bent_row" = true)
    (k25 : PySem.W.keepIn K (.ref f25) = true)
    (a26 : PySem.W.nsIn K mainGlobals "_law_bent" = some (some (.ref f26)))
    (l26 : K.lookup f26 = some ⟨oc26, od26, .func (PySem.W.fnOf "_law_bent" "_law_bent" (defArgs s__law_bent) (defBody s__law_bent) (defScope s__law_bent) .none kV26 dc26 pm26 an26 cd26 ct26), sl26⟩)
    (c26 : PySem.W.codeIn K cd26 "_law_bent" = true)
    (k26 : PySem.W.keepIn K (.ref f26) = true)
    (a27 : PySem.W.nsIn K mainGlobals "law" = some (some (.ref f27)))
    (l27 : K.lookup f27 = some ⟨oc27, od27, .func (PySem.W.fnOf "law" "law" (defArgs s_law) (defBody s_law) (defScope s_law) .none kV27 dc27 pm27 an27 cd27 ct27), sl27⟩)
    (c27 : PySem.W.codeIn K cd27 "law" = true)
    (k27 : PySem.W.keepIn K (.ref f27) = true)
    (xL : K.lookup C_BadWish = some (excClassObj nm q C_BadWish N bs [.ref C_CellError, .type "ValueError", .type "Exception", .type "BaseException", .type "object"] true sn sub ab col dd m0 m1 m2 m3 m5 "ValueError.__new__"))
    (saB : PySem.W.findIn K (.ref C_BadWish) "__setattr__" = some (some (.builtin "object.__setattr__")))
    (exB : PySem.W.subIn K (.ref C_BadWish) (.type "BaseException") = some true)
    (tyB : PySem.W.typeIn K (.ref C_BadWish) = some (.type "type"))
    (kpB : PySem.W.keepIn K (.ref C_BadWish) = true)
    (gaB : PySem.W.findIn K (.ref C_BadWish) "__getattribute__" = some (some (.builtin "BaseException.__getattribute__")))
    (ggB : PySem.W.findIn K (.ref C_BadWish) "__getattr__" = some none)
    (hdB : PySem.W.hasDictIn K C_BadWish = true)
    (npB : PySem.W.findIn K (.ref C_BadWish) "part" = some none)
    (clB : PySem.W.isClsIn K C_BadWish = true)
    (icE : PySem.W.isClsIn K C_CellError = true)
    (icW : PySem.W.isClsIn K C_Wish = true)
    (tyE : PySem.W.typeIn K (.ref C_CellError) = some (.type "type"))
    (tyW : PySem.W.typeIn K (.ref C_Wish) = some (.type "type"))
    (haB : PySem.W.findIn K (.ref C_BadWish) "__class__" = some (some (.builtin "object.__class__")))
    (hn : PySem.W.specialIn K (.builtin "object.__class__") "__get__" = some (some (.builtin "getset_descriptor.__get__")))
    (tk : PySem.W.takesIn K (.builtin "object.__class__") = some true)
    (hmB : PySem.W.mroIn K C_BadWish (.type "object") = some true)
    (tyI : PySem.W.typeIn K (.ref f0) = some (.type "function"))
    (sBB : PySem.W.subIn K (.ref C_BadWish) (.ref C_BadWish) = some true)
    (sBE : PySem.W.subIn K (.ref C_BadWish) (.ref C_CellError) = some true)
    (sBV : PySem.W.subIn K (.ref C_BadWish) (.type "ValueError") = some true)
    (pgW : PySem.W.plainGet K C_Wish Str.empty = true)
    (hdW : PySem.W.hasDictIn K C_Wish = true)
    (poW : PySem.W.plainOver K C_Wish = true)
    (saW : PySem.W.findIn K (.ref C_Wish) "__setattr__" = some (some (.builtin "object.__setattr__")))
    (n_rows : PySem.W.findIn K (.ref C_Wish) "rows" = some none)
    (n_locked : PySem.W.findIn K (.ref C_Wish) "locked" = some none)
    (n_spare : PySem.W.findIn K (.ref C_Wish) "spare" = some none)
    (mkW : PySem.W.makesIn K C_Wish = true)
    (kpW : PySem.W.keepIn K (.ref C_Wish) = true)
    (fnI : PySem.W.isFn K (.ref f7) = true)
    (fnE : PySem.W.isFn K (.ref f8) = true)
    (haW : PySem.W.findIn K (.ref C_Wish) "__class__" = some (some (.builtin "object.__class__")))
    (hmW : PySem.W.mroIn K C_Wish (.type "object") = some true)
    (nfO : PySem.W.notFirst K C_Wish (.ref C_Wish) = true)
    (nfT : PySem.W.notFirst K C_Wish (.type "tuple") = true)
    (sTW : PySem.W.subIn K (.type "tuple") (.ref C_Wish) = some false)
    (z_ValueError : PySem.W.nsIn K mainGlobals "ValueError" = some none)
    (z_abs : PySem.W.nsIn K mainGlobals "abs" = some none)
    (z_all : PySem.W.nsIn K mainGlobals "all" = some none)
    (z_bool : PySem.W.nsIn K mainGlobals "bool" = some none)
    (z_enumerate : PySem.W.nsIn K mainGlobals "enumerate" = some none)
    (z_int : PySem.W.nsIn K mainGlobals "int" = some none)
    (z_isinstance : PySem.W.nsIn K mainGlobals "isinstance" = some none)
    (z_len : PySem.W.nsIn K mainGlobals "len" = some none)
    (z_list : PySem.W.nsIn K mainGlobals "list" = some none)
    (z_range : PySem.W.nsIn K mainGlobals "range" = some none)
    (z_repr : PySem.W.nsIn K mainGlobals "repr" = some none)
    (z_set : PySem.W.nsIn K mainGlobals "set" = some none)
    (z_sorted : PySem.W.nsIn K mainGlobals "sorted" = some none)
    (z_sum : PySem.W.nsIn K mainGlobals "sum" = some none)
    (z_tuple : PySem.W.nsIn K mainGlobals "tuple" = some none)
    (z_zip : PySem.W.nsIn K mainGlobals "zip" = some none)
    (z_gcd : PySem.W.nsIn K mainGlobals "gcd" = some (some (.builtin "math.gcd")))
    (z_c_MOST_CELLS : PySem.W.nsIn K mainGlobals "MOST_CELLS" = some (some (.int 6 tk_c_MOST_CELLS)))
    (z_c_MOST_SPARE : PySem.W.nsIn K mainGlobals "MOST_SPARE" = some (some (.int 2 tk_c_MOST_SPARE))) :
    ∃ fd : FuncData, (∀ (s : Shared) (v : Value), BindsTo s fd ⟨[v], []⟩ [("script", v)]) ∧ ∀ base : Heap, K.In base → base.Ns mainGlobals mg → FnOkG l.prog w K mg base (L2.CX l.prog w) 8 fa fd ["script"] (sp_law K) := by
  have e := hfa.symm.trans (PySem.W.mg_of X G a27)
  cases e
  have T : Tx mg := {ValueError := PySem.W.mg_none_of X G z_ValueError, abs := PySem.W.mg_none_of X G z_abs, all := PySem.W.mg_none_of X G z_all, bool := PySem.W.mg_none_of X G z_bool, enumerate := PySem.W.mg_none_of X G z_enumerate, int := PySem.W.mg_none_of X G z_int, isinstance := PySem.W.mg_none_of X G z_isinstance, len := PySem.W.mg_none_of X G z_len, list := PySem.W.mg_none_of X G z_list, range := PySem.W.mg_none_of X G z_range, repr := PySem.W.mg_none_of X G z_repr, set := PySem.W.mg_none_of X G z_set, sorted := PySem.W.mg_none_of X G z_sorted, sum := PySem.W.mg_none_of X G z_sum, tuple := PySem.W.mg_none_of X G z_tuple, zip := PySem.W.mg_none_of X G z_zip, gcd := PySem.W.mg_of X G z_gcd, c_MOST_CELLS := ⟨_, PySem.W.mg_of X G z_c_MOST_CELLS, _, rfl⟩, c_MOST_SPARE := ⟨_, PySem.W.mg_of X G z_c_MOST_SPARE, _, rfl⟩}
  have F_BadWish_init := fun_mk (st := s_BadWish_init) l0 c0 k0
  have b_BadWish_init := F_BadWish_init.binds (ps := ["self", "part"]) fun _ _ _ _ _ _ us hl => match us, hl with | [_, _], _ => rfl
  have F_is_whole := fun_mk (st := s_is_whole) l1 c1 k1
  have b_is_whole := F_is_whole.binds (ps := ["thing"]) fun _ _ _ _ _ _ us hl => match us, hl with | [_], _ => rfl
  have F_is_from_to := fun_mk (st := s_is_from_to) l2 c2 k2
  have b_is_from_to := F_is_from_to.binds (ps := ["thing", "low", "high"]) fun _ _ _ _ _ _ us hl => match us, hl with | [_, _, _], _ => rfl
  have F_is_tuple_of := fun_mk (st := s_is_tuple_of) l3 c3 k3
  have b_is_tuple_of := F_is_tuple_of.binds (ps := ["thing", "many"]) fun _ _ _ _ _ _ us hl => match us, hl with | [_, _], _ => rfl
  have F_is_number := fun_mk (st := s_is_number) l4 c4 k4
  have b_is_number := F_is_number.binds (ps := ["thing"]) fun _ _ _ _ _ _ us hl => match us, hl with | [_], _ => rfl
  have F_is_row := fun_mk (st := s_is_row) l5 c5 k5
  have b_is_row := F_is_row.binds (ps := ["thing", "many"]) fun _ _ _ _ _ _ us hl => match us, hl with | [_, _], _ => rfl
  have F_is_lot := fun_mk (st := s_is_lot) l6 c6 k6
  have b_is_lot := F_is_lot.binds (ps := ["thing", "many"]) fun _ _ _ _ _ _ us hl => match us, hl with | [_, _], _ => rfl
  have F_Wish_init := fun_mk (st := s_Wish_init) l7 c7 k7
  have b_Wish_init := F_Wish_init.binds (ps := ["self", "rows", "locked", "spare"]) fun _ _ _ _ _ _ us hl => match us, hl with | [_, _, _, _], _ => rfl
  have F_Wish_eq := fun_mk (st := s_Wish_eq) l8 c8 k8
  have b_Wish_eq := F_Wish_eq.binds (ps := ["self", "other"]) fun _ _ _ _ _ _ us hl => match us, hl with | [_, _], _ => rfl
  have F_check_rows := fun_mk (st := s_check_rows) l9 c9 k9
  have b_check_rows := F_check_rows.binds (ps := ["rows"]) fun _ _ _ _ _ _ us hl => match us, hl with | [_], _ => rfl
  have F__law_pool := fun_mk (st := s__law_pool) l10 c10 k10
  have b__law_pool := F__law_pool.binds (ps := ["script"]) fun _ _ _ _ _ _ us hl => match us, hl with | [_], _ => rfl
  have F__law_draw := fun_mk (st := s__law_draw) l11 c11 k11
  have b__law_draw := F__law_draw.binds (ps := ["pool", "many"]) fun _ _ _ _ _ _ us hl => match us, hl with | [_, _], _ => rfl
  have F__law_mixed := fun_mk (st := s__law_mixed) l12 c12 k12
  have b__law_mixed := F__law_mixed.binds (ps := ["pool", "things"]) fun _ _ _ _ _ _ us hl => match us, hl with | [_, _], _ => rfl
  have F__law_deep := fun_mk (st := s__law_deep) l13 c13 k13
  have b__law_deep := F__law_deep.binds (ps := []) fun _ _ _ _ _ _ us hl => match us, hl with | [], _ => rfl
  have F__law_is := fun_mk (st := s__law_is) l14 c14 k14
  have b__law_is := F__law_is.binds (ps := ["told", "due"]) fun _ _ _ _ _ _ us hl => match us, hl with | [_, _], _ => rfl
  have F__law_low := fun_mk (st := s__law_low) l15 c15 k15
  have b__law_low := F__law_low.binds (ps := ["top", "bottom"]) fun _ _ _ _ _ _ us hl => match us, hl with | [_, _], _ => rfl
  have F__law_unit := fun_mk (st := s__law_unit) l16 c16 k16
  have b__law_unit := F__law_unit.binds (ps := ["size", "at"]) fun _ _ _ _ _ _ us hl => match us, hl with | [_, _], _ => rfl
  have F__law_number := fun_mk (st := s__law_number) l17 c17 k17
  have b__law_number := F__law_number.binds (ps := ["pool"]) fun _ _ _ _ _ _ us hl => match us, hl with | [_], _ => rfl
  have F__law_some_row := fun_mk (st := s__law_some_row) l18 c18 k18
  have b__law_some_row := F__law_some_row.binds (ps := ["pool", "many", "cell"]) fun _ _ _ _ _ _ us hl => match us, hl with | [_, _, _], _ => rfl
  have F__law_wish := fun_mk (st := s__law_wish) l19 c19 k19
  have b__law_wish := F__law_wish.binds (ps := ["pool", "most"]) fun _ _ _ _ _ _ us hl => match us, hl with | [_, _], _ => rfl
  have F__law_made_wish := fun_mk (st := s__law_made_wish) l20 c20 k20
  have b__law_made_wish := F__law_made_wish.binds (ps := ["spec"]) fun _ _ _ _ _ _ us hl => match us, hl with | [_], _ => rfl
  have F__law_is_int := fun_mk (st := s__law_is_int) l21 c21 k21
  have b__law_is_int := F__law_is_int.binds (ps := ["thing"]) fun _ _ _ _ _ _ us hl => match us, hl with | [_], _ => rfl
  have F__law_is_number := fun_mk (st := s__law_is_number) l22 c22 k22
  have b__law_is_number := F__law_is_number.binds (ps := ["thing"]) fun _ _ _ _ _ _ us hl => match us, hl with | [_], _ => rfl
  have F__law_due := fun_mk (st := s__law_due) l23 c23 k23
  have b__law_due := F__law_due.binds (ps := ["rows", "locked", "spare"]) fun _ _ _ _ _ _ us hl => match us, hl with | [_, _, _], _ => rfl
  have F__law_tried := fun_mk (st := s__law_tried) l24 c24 k24
  have b__law_tried := F__law_tried.binds (ps := ["rows", "locked", "spare"]) fun _ _ _ _ _ _ us hl => match us, hl with | [_, _, _], _ => rfl
  have F__law_bent_row := fun_mk (st := s__law_bent_row) l25 c25 k25
  have b__law_bent_row := F__law_bent_row.binds (ps := ["pool", "row", "many"]) fun _ _ _ _ _ _ us hl => match us, hl with | [_, _, _], _ => rfl
  have F__law_bent := fun_mk (st := s__law_bent) l26 c26 k26
  have b__law_bent := F__law_bent.binds (ps := ["pool", "spec"]) fun _ _ _ _ _ _ us hl => match us, hl with | [_, _], _ => rfl
  have F_law := fun_mk (st := s_law) l27 c27 k27
  have exm := exm_own exB (kitCls_ref clB tyB sBB)
  have kit1 := kitOne_yes (kitCls_ref icE tyE sBE)
  have kit2 := kitOne_yes (kitCls_ty (T := "ValueError") (by decide +kernel) sBV)
  have kitT := kitOne_other (t := .type "tuple") rfl (kitCls_ref icW tyW sTW)
  have clsW : Cls K C_Wish := ⟨pgW, hdW, poW, saW⟩
  have kitO : KitO K C_Wish := ⟨clsW, haW, hn, tk, hmW⟩
  have ke : KitE K C_BadWish := ⟨clB, ⟨gaB, ggB, exB, hdB⟩, haB, hn, tk, hmB⟩
  have oex : OexC K C_BadWish := ⟨⟨nm, q, N, bs, _, sn, sub, ab, col, dd, m0, m1, m2, m3, m5, xL, rfl⟩, saB, exB, tyB, kpB⟩
  refine ⟨PySem.W.fnOf "law" "law" (defArgs s_law) (defBody s_law) (defScope s_law) .none kV27 dc27 pm27 an27 cd27 ct27, fun s v => .of_eq rfl, fun base _ _ => ?_⟩
  have c_is_whole : Dfn l.prog w K mg base "is_whole" 1 1 S_is_whole := dfn_mk F_is_whole (PySem.W.mg_of X G a1) b_is_whole (ok_is_whole F_is_whole T)
  have c_is_from_to : Dfn l.prog w K mg base "is_from_to" 2 3 S_is_from_to := dfn_mk F_is_from_to (PySem.W.mg_of X G a2) b_is_from_to (ok_is_from_to F_is_from_to T c_is_whole)
  have c_is_tuple_of : Dfn l.prog w K mg base "is_tuple_of" 1 2 S_is_tuple_of := dfn_mk F_is_tuple_of (PySem.W.mg_of X G a3) b_is_tuple_of (ok_is_tuple_of F_is_tuple_of T)
  have c_is_number : Dfn l.prog w K mg base "is_number" 2 1 S_is_number := dfn_mk F_is_number (PySem.W.mg_of X G a4) b_is_number (ok_is_number F_is_number T c_is_whole c_is_tuple_of)
  have c_is_row : Dfn l.prog w K mg base "is_row" 3 2 S_is_row := dfn_mk F_is_row (PySem.W.mg_of X G a5) b_is_row (ok_is_row F_is_row T c_is_number c_is_tuple_of)
  have c_is_lot : Dfn l.prog w K mg base "is_lot" 3 2 S_is_lot := dfn_mk F_is_lot (PySem.W.mg_of X G a6) b_is_lot (ok_is_lot F_is_lot T c_is_from_to)
  have x_BadWish : Exn1 l.prog w K mg base "BadWish" C_BadWish "part" := ⟨oex, ⟨_, _, _, a0, tyI, ok_BadWish F_BadWish_init oex npB, b_BadWish_init⟩, PySem.W.mg_of X G A_BadWish⟩
  have c_check_rows : Dfn l.prog w K mg base "check_rows" 4 1 (S_check_rows C_BadWish) := dfn_mk F_check_rows (PySem.W.mg_of X G a9) b_check_rows (ok_check_rows F_check_rows T x_BadWish c_is_row)
  have m_Wish : Mak l.prog w K mg base "Wish" C_Wish 5 3 (S_Wish C_BadWish) := ⟨⟨_, _, _, ⟨mkW, a7, fnI, kpW⟩, ok_Wish_init F_Wish_init T clsW n_rows n_locked n_spare x_BadWish c_check_rows c_is_lot c_is_from_to, PySem.W.mg_of X G A_Wish, b_Wish_init⟩⟩
  have e_Wish : EqO l.prog w K mg base C_Wish 1 (S_weq C_Wish) := ⟨kitO, ⟨_, _, _, ok_Wish_eq F_Wish_eq T kitO (PySem.W.mg_of X G A_Wish) n_rows n_locked n_spare kitT, a8, fnE, b_Wish_eq⟩, nfO, nfT⟩
  have c__law_pool : Dfn l.prog w K mg base "_law_pool" 1 1 S_pool := dfn_mk F__law_pool (PySem.W.mg_of X G a10) b__law_pool (ok_law_pool F__law_pool T)
  have c__law_draw : Dfn l.prog w K mg base "_law_draw" 1 2 S_draw := dfn_mk F__law_draw (PySem.W.mg_of X G a11) b__law_draw (ok_law_draw F__law_draw T)
  have c__law_deep : Dfn l.prog w K mg base "_law_deep" 1 0 S_deep := dfn_mk F__law_deep (PySem.W.mg_of X G a13) b__law_deep (ok_law_deep F__law_deep T)
  have c__law_is : DfnG l.prog w K mg base "_law_is" 1 2 S_is := dfnG_mk F__law_is (PySem.W.mg_of X G a14) b__law_is (ok_law_is F__law_is T)
  have c__law_low : Dfn l.prog w K mg base "_law_low" 1 2 S_low := dfn_mk F__law_low (PySem.W.mg_of X G a15) b__law_low (ok_law_low F__law_low T)
  have c__law_unit : Dfn l.prog w K mg base "_law_unit" 1 2 S_unit := dfn_mk F__law_unit (PySem.W.mg_of X G a16) b__law_unit (ok_law_unit F__law_unit T)
  have c__law_is_int : Dfn l.prog w K mg base "_law_is_int" 1 1 S_is_int := dfn_mk F__law_is_int (PySem.W.mg_of X G a21) b__law_is_int (ok_law_is_int F__law_is_int T)
  have c__law_mixed : Dfn l.prog w K mg base "_law_mixed" 2 2 S_mixed := dfn_mk F__law_mixed (PySem.W.mg_of X G a12) b__law_mixed (ok_law_mixed F__law_mixed T c__law_draw)
  have c__law_number : Dfn l.prog w K mg base "_law_number" 2 1 S_number := dfn_mk F__law_number (PySem.W.mg_of X G a17) b__law_number (ok_law_number F__law_number T c__law_draw)
  have c__law_some_row : Dfn l.prog w K mg base "_law_some_row" 3 3 S_some_row := dfn_mk F__law_some_row (PySem.W.mg_of X G a18) b__law_some_row (ok_law_some_row F__law_some_row T c__law_draw c__law_unit c__law_number)
  have c__law_wish : Dfn l.prog w K mg base "_law_wish" 4 2 S_wish := dfn_mk F__law_wish (PySem.W.mg_of X G a19) b__law_wish (ok_law_wish F__law_wish T c__law_draw c__law_unit c__law_mixed c__law_some_row)
  have c__law_made_wish : Dfn l.prog w K mg base "_law_made_wish" 7 1 (S_made C_Wish) := dfn_mk F__law_made_wish (PySem.W.mg_of X G a20) b__law_made_wish (ok_law_made_wish F__law_made_wish T m_Wish)
  have c__law_is_number : Dfn l.prog w K mg base "_law_is_number" 2 1 S_is_num := dfn_mk F__law_is_number (PySem.W.mg_of X G a22) b__law_is_number (ok_law_is_number F__law_is_number T c__law_is_int c__law_low)
  have c__law_due : Dfn l.prog w K mg base "_law_due" 3 3 S_due := dfn_mk F__law_due (PySem.W.mg_of X G a23) b__law_due (ok_law_due F__law_due T c__law_is_int c__law_is_number)
  have c__law_tried : Dfn l.prog w K mg base "_law_tried" 7 3 S_tried := dfn_mk F__law_tried (PySem.W.mg_of X G a24) b__law_tried (ok_law_tried F__law_tried T m_Wish x_BadWish ke npB (PySem.W.mg_of X G A_CellError) exm kit1 kit2 clsW n_rows n_locked n_spare)
  have c__law_bent_row : Dfn l.prog w K mg base "_law_bent_row" 2 3 S_bent_row := dfn_mk F__law_bent_row (PySem.W.mg_of X G a25) b__law_bent_row (ok_law_bent_row F__law_bent_row T c__law_draw c__law_unit c__law_deep)
  have c__law_bent : Dfn l.prog w K mg base "_law_bent" 3 2 S_bent := dfn_mk F__law_bent (PySem.W.mg_of X G a26) b__law_bent (ok_law_bent F__law_bent T c__law_draw c__law_bent_row c__law_deep)
  exact ok_law F_law T c__law_pool c__law_wish c__law_tried c__law_bent c__law_due c__law_is c__law_made_wish e_Wish
theorem walk {l : PySem.W.OpenLaw} {q : Program} {loose : List Str} {XP : (Str → Option Value) → Heap → Prop} {YP : World → Heap → Prop} {d : DefRec} {K : Params → PySem.W.Frag} (hn : l.most = some 63) (hdf : d.params.defaults = [])
    (hY : ∀ (w : World) (h : Heap), YP w h → (K w.params).In h)
    (F : ∀ (w : World) (mg : Str → Option Value) (fa : Addr) (h : Heap), (K w.params).In h → h.Ns mainGlobals mg → mg d.name = some (.ref fa) →
      ∃ fd : FuncData, (∀ (s : Shared) (u : Value), BindsTo s fd ⟨[u], []⟩ [("script", u)]) ∧ ∀ base : Heap, (K w.params).In base → base.Ns mainGlobals mg → FnOkG l.prog w (K w.params) mg base (L2.CX l.prog w) 8 fa fd ["script"] (sp_law (K w.params))) :
    PySem.W.WalkO q loose XP YP l.row.toRowW d [] (fun f vs => PySem.call f vs) :=
  L2.endG (n := 63) (k := 8) (x := "script") (sp := fun w => sp_law (K w.params)) hn (by decide) hdf ⟨rfl, by decide, by decide⟩ hY F fun _ _ a ms hl hO hS => ⟨a, ms, rfl, hS, hl, hO, fun _ => rfl⟩
end My
open PySem PySem.W PyProof.Rows
set_option maxRecDepth 100000 in
set_option maxHeartbeats 0 in
theorem PySem.Challenge.cw_oncetwice_k01_wishes_judged_and_compared_holds : PySem.Challenge.rw_oncetwice_k01_wishes_judged_and_compared.Holds := by
  w_on; o_law; k_head; (case hw => w_witness2)
  k_fill
  refine My.walk (l := PySem.Challenge.rw_oncetwice_k01_wishes_judged_and_compared) rfl rfl (fun w h Y => PySem.W.kIn_of Y) ?F
  case F =>
    intro w mg fa h KX G hmg
    refine' My.all_mk KX G hmg ?A_CellError ?A_BadWish ?A_Wish ?a0 ?l0 ?c0 ?k0 ?a1 ?l1 ?c1 ?k1 ?a2 ?l2 ?c2 ?k2 ?a3 ?l3 ?c3 ?k3 ?a4 ?l4 ?c4 ?k4 ?a5 ?l5 ?c5 ?k5 ?a6 ?l6 ?c6 ?k6 ?a7 ?l7 ?c7 ?k7 ?a8 ?l8 ?c8 ?k8 ?a9 ?l9 ?c9 ?k9 ?a10 ?l10 ?c10 ?k10 ?a11 ?l11 ?c11 ?k11 ?a12 ?l12 ?c12 ?k12 ?a13 ?l13 ?c13 ?k13 ?a14 ?l14 ?c14 ?k14 ?a15 ?l15 ?c15 ?k15 ?a16 ?l16 ?c16 ?k16 ?a17 ?l17 ?c17 ?k17 ?a18 ?l18 ?c18 ?k18 ?a19 ?l19 ?c19 ?k19 ?a20 ?l20 ?c20 ?k20 ?a21 ?l21 ?c21 ?k21 ?a22 ?l22 ?c22 ?k22 ?a23 ?l23 ?c23 ?k23 ?a24 ?l24 ?c24 ?k24 ?a25 ?l25 ?c25 ?k25 ?a26 ?l26 ?c26 ?k26 ?a27 ?l27 ?c27 ?k27 ?xL ?saB ?exB ?tyB ?kpB ?gaB ?ggB ?hdB ?npB ?clB ?icE ?icW ?tyE ?tyW ?haB ?hn ?tk ?hmB ?tyI ?sBB ?sBE ?sBV ?pgW ?hdW ?poW ?saW ?n_rows ?n_locked ?n_spare ?mkW ?kpW ?fnI ?fnE ?haW ?hmW ?nfO ?nfT ?sTW ?z_ValueError ?z_abs ?z_all ?z_bool ?z_enumerate ?z_int ?z_isinstance ?z_len ?z_list ?z_range ?z_repr ?z_set ?z_sorted ?z_sum ?z_tuple ?z_zip ?z_gcd ?z_c_MOST_CELLS ?z_c_MOST_SPARE
    (case A_CellError => k_is)
    (case A_BadWish => k_is)
    (case A_Wish => k_is)
    (case a0 => k_is)
    (case l0 => k_is)
    (case c0 => k_is)
    (case k0 => k_is)
    (case a1 => k_is)
    (case l1 => k_is)
    (case c1 => k_is)
    (case k1 => k_is)
    (case a2 => k_is)
    (case l2 => k_is)
    (case c2 => k_is)
    (case k2 => k_is)
    (case a3 => k_is)
    (case l3 => k_is)
    (case c3 => k_is)
    (case k3 => k_is)
    (case a4 => k_is)
    (case l4 => k_is)
    (case c4 => k_is)
    (case k4 => k_is)
    (case a5 => k_is)
    (case l5 => k_is)
    (case c5 => k_is)
    (case k5 => k_is)
    (case a6 => k_is)
    (case l6 => k_is)
    (case c6 => k_is)
    (case k6 => k_is)
    (case a7 => k_is)
    (case l7 => k_is)
    (case c7 => k_is)
    (case k7 => k_is)
    (case a8 => k_is)
    (case l8 => k_is)
    (case c8 => k_is)
    (case k8 => k_is)
    (case a9 => k_is)
    (case l9 => k_is)
    (case c9 => k_is)
    (case k9 => k_is)
    (case a10 => k_is)
    (case l10 => k_is)
    (case c10 => k_is)
    (case k10 => k_is)
    (case a11 => k_is)
    (case l11 => k_is)
    (case c11 => k_is)
    (case k11 => k_is)
    (case a12 => k_is)
    (case l12 => k_is)
    (case c12 => k_is)
    (case k12 => k_is)
    (case a13 => k_is)
    (case l13 => k_is)
    (case c13 => k_is)
    (case k13 => k_is)
    (case a14 => k_is)
    (case l14 => k_is)
    (case c14 => k_is)
    (case k14 => k_is)
    (case a15 => k_is)
    (case l15 => k_is)
    (case c15 => k_is)
    (case k15 => k_is)
    (case a16 => k_is)
    (case l16 => k_is)
    (case c16 => k_is)
    (case k16 => k_is)
    (case a17 => k_is)
    (case l17 => k_is)
    (case c17 => k_is)
    (case k17 => k_is)
    (case a18 => k_is)
    (case l18 => k_is)
    (case c18 => k_is)
    (case k18 => k_is)
    (case a19 => k_is)
    (case l19 => k_is)
    (case c19 => k_is)
    (case k19 => k_is)
    (case a20 => k_is)
    (case l20 => k_is)
    (case c20 => k_is)
    (case k20 => k_is)
    (case a21 => k_is)
    (case l21 => k_is)
    (case c21 => k_is)
    (case k21 => k_is)
    (case a22 => k_is)
    (case l22 => k_is)
    (case c22 => k_is)
    (case k22 => k_is)
    (case a23 => k_is)
    (case l23 => k_is)
    (case c23 => k_is)
    (case k23 => k_is)
    (case a24 => k_is)
    (case l24 => k_is)
    (case c24 => k_is)
    (case k24 => k_is)
    (case a25 => k_is)
    (case l25 => k_is)
    (case c25 => k_is)
    (case k25 => k_is)
    (case a26 => k_is)
    (case l26 => k_is)
    (case c26 => k_is)
    (case k26 => k_is)
    (case a27 => k_is)
    (case l27 => k_is)
    (case c27 => k_is)
    (case k27 => k_is)
    (case xL => k_is)
    (case saB => k_is)
    (case exB => k_is)
    (case tyB => k_is)
    (case kpB => k_is)
    (case gaB => k_is)
    (case ggB => k_is)
    (case hdB => k_is)
    (case npB => k_is)
    (case clB => k_is)
    (case icE => k_is)
    (case icW => k_is)
    (case tyE => k_is)
    (case tyW => k_is)
    (case haB => k_is)
    (case hn => k_is)
    (case tk => k_is)
    (case hmB => k_is)
    (case tyI => k_is)
    (case sBB => first | rfl | k_is)
    (case sBE => k_is)
    (case sBV => k_is)
    (case pgW => k_is)
    (case hdW => k_is)
    (case poW => k_is)
    (case saW => k_is)
    (case n_rows => k_is)
    (case n_locked => k_is)
    (case n_spare => k_is)
    (case mkW => k_is)
    (case kpW => k_is)
    (case fnI => k_is)
    (case fnE => k_is)
    (case haW => k_is)
    (case hmW => k_is)
    (case nfO => k_is)
    (case nfT => k_is)
    (case sTW => k_is)
    (case z_ValueError => k_is)
    (case z_abs => k_is)
    (case z_all => k_is)
    (case z_bool => k_is)
    (case z_enumerate => k_is)
    (case z_int => k_is)
    (case z_isinstance => k_is)
    (case z_len => k_is)
    (case z_list => k_is)
    (case z_range => k_is)
    (case z_repr => k_is)
    (case z_set => k_is)
    (case z_sorted => k_is)
    (case z_sum => k_is)
    (case z_tuple => k_is)
    (case z_zip => k_is)
    (case z_gcd => k_is)
    (case z_c_MOST_CELLS => k_is)
    (case z_c_MOST_SPARE => k_is)
