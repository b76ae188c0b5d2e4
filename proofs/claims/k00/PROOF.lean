import PyProof.Rows.All
import Wide.All
import OpenK.AllK
import Wide.FinOn
import HandS.ForMost
import HandS.ForExc
import HandS.TupAny
import HandS.IsInst
import HandS.Wide
import HandS.Gcd
import HandS.ExcInit
import HandS.ExcField
import KE.KExcIs
import HandS.Iter
import HandS.Walk
import HandS.Zip
import KE.GoesEnum
import KE.GoesMore
import HandS.ExcOwn
import HandS.TupMul
import HandS.Conv
import HandS.Strs
import HandS.SetFor
import PyProof.ReprRoads
import HandS.Ends
import KE.KExcSuper
import HandS.Star
import KE.KRevSl
import KE.KMathGC
import HandS.TupSets
import HandS.ExcValue
import PySem.Challenge.RW_oncetwice_k00_errors_of_the_package
import KE.KExcLine
set_option Elab.async false
set_option linter.all false
set_option maxRecDepth 100000
set_option maxHeartbeats 4000000
namespace Ab
open PySem L2
/-- what stands in the pool's two lists -/
def PoolSt (c : Addr) (u w : HO) : Prop := ∃ (seed k : Int) (ns : List Int), u = .lst [.int seed, .int k, .ref c] ∧ w = .lst (ns.map V.int) ∧ 0 ≤ seed ∧ seed < 2147483647 ∧ 0 ≤ k ∧ (∀ n ∈ ns, 0 ≤ n) ∧ ns.length ≤ 63
end Ab
namespace L2
open PySem PySem.Spec PyProof.Rows
/-- an error object of the class C at a, not raised, its dict at d -/
abbrev ExD (a C : Addr) (d : Option Addr) : HO := .ext fun h => ∃ (oe : Obj) (vs : Array Value), h.get? a = some oe ∧ Zc (.ref C) d oe ∧ oe.data = .fields vs
theorem exD_ok {P : Program} {w : World} {H : Hp} {h : Heap} {a C : Addr} {d : Option Addr} {oe : Obj} {vs : Array Value} (e : h.get? a = some oe) (z : Zc (.ref C) d oe) (f : oe.data = .fields vs) : ObjOk P w H h a (ExD a C d) :=
  ⟨⟨oe, vs, e, z, f⟩, ⟨oe, e⟩, fun _ _ ⟨o, v, q, r⟩ k => ⟨o, v, k o q, r⟩⟩
theorem exD_at {P : Program} {w : World} {H : Hp} {h : Heap} {a C : Addr} {d : Option Addr} (hok : HOk P w H h) (he : H a = some (ExD a C d)) : ∃ (oe : Obj) (vs : Array Value), h.get? a = some oe ∧ Zc (.ref C) d oe ∧ oe.data = .fields vs := by
  have x := hok a _ he
  exact x.1
end L2
namespace Ab
open PySem L2
inductive D where
  | non | bl (b : Bool) | int (i : Int) | str (x : Str)
  | tup (xs : List D) | lst (xs : List D) | dic
  /-- a tuple known to the object -/
  | xtup (xs : List D)
  /-- a dict of one int key -/
  | dct (n : Int) (x : D)
  /-- an error object, not raised -/
  | exo (C : Addr)
  | obj (C : Addr) (ns : List Str) (vs : List D)
  | pool
  | ty (n : String) | cls (C : Addr)
  /-- the script -/
  | scr (ns : List Int)
/-- an exception of one's own: its class, its fields -/
structure Er where
  cls : Addr
  ns : List Str
  vs : List D
/-- what a slot holds: anything, data, a list of one's own -/
inductive B where
  | un | d (x : D) | own (xs : List D)
  /-- an object that is being made -/
  | ob (p C : Addr) (ns : List Str) (vs : List D)
  /-- a caught exception -/
  | exc (a : Addr) (cls : Value) (d : Option Addr) (er : Er)
/-- the context of a body: the written part, the pool's two lists, the heap and its still part at the entry -/
structure Cz where
  K : PySem.W.Frag
  pl : Option (Addr × Addr)
  H0 : Hp
  G0 : Hp
  W : WX
  X : Er → List B → Prop
/-- a call's own context -/
def Cz.at (Z : Cz) (H G : Hp) : Cz := ⟨Z.K, Z.pl, H, G, fun _ _ _ _ => True, fun _ _ => False⟩
def Ex (H H' : Hp) : Prop := ∀ a o, H a = some o → H' a = some o
theorem Ex.refl (H : Hp) : Ex H H := fun _ _ h => h
theorem Ex.trans {H H1 H2 : Hp} (a : Ex H H1) (b : Ex H1 H2) : Ex H H2 := fun x o h => b x o (a x o h)
theorem Ex.new {H : Hp} {p : Addr} {o : HO} (h : H p = none) : Ex H (upd H p o) := fun a u e => by
  rw [upd_ne (ne_of_none e h)]
  exact e
theorem Ex.back {H H' : Hp} (e : Ex H H') {p : Addr} (h : H' p = none) : H p = none := by
  cases q : H p with
  | none => rfl
  | some o => rw [e p o q] at h; cases h
theorem Ex.rd {H H' : Hp} {a : Addr} {u : HO} (e : Ex H H') (h : Rd H a u) : Rd H' a u := by
  rcases h with h | ⟨o, h⟩
  · exact Or.inl (e a _ h)
  · exact Or.inr ⟨o, e a _ h⟩
theorem Ex.sql {K : PySem.W.Frag} {H H' : Hp} {a : Addr} {xs : List V} (e : Ex H H') (h : SqL K H a xs) : SqL K H' a xs := by
  rcases h with h | h
  · exact Or.inl (e.rd h)
  · exact Or.inr h
theorem Ex.sqt {K : PySem.W.Frag} {H H' : Hp} {a : Addr} {xs : List V} (e : Ex H H') (h : SqT K H a xs) : SqT K H' a xs := by
  rcases h with h | h
  · exact Or.inl (e.rd h)
  · exact Or.inr h
mutual
/-- the value v stands for the data d, all of whose objects are in the still part G -/
inductive Rp (K : PySem.W.Frag) (pl : Option (Addr × Addr)) (G : Hp) : V → D → Prop
  | non : Rp K pl G .non .non
  | bl (b : Bool) : Rp K pl G (.bl b) (.bl b)
  | int (i : Int) : Rp K pl G (.int i) (.int i)
  | str (x : Str) : Rp K pl G (.str x) (.str x)
  | tup {a : Addr} {xs : List V} {ds : List D} : SqT K G a xs → Rps K pl G xs ds → Rp K pl G (.ref a) (.tup ds)
  | lst {a : Addr} {xs : List V} {ds : List D} : G a = some (.lst xs) → Rps K pl G xs ds → Rp K pl G (.ref a) (.lst ds)
  | dic {a : Addr} : G a = some (.dK []) → Rp K pl G (.ref a) .dic
  | xtup {a : Addr} {o : Obj} {xs : List V} {ds : List D} : G a = some (.frz o (.tup xs)) → o.dict = none → Rps K pl G xs ds → Rp K pl G (.ref a) (.xtup ds)
  | dct {a : Addr} {n : Int} {v : V} {d : D} : G a = some (.dK [(.inl n, v)]) → Rp K pl G v d → Rp K pl G (.ref a) (.dct n d)
  | obj {a C dx : Addr} {ns : List Str} {xs : List V} {ds : List D} : G a = some (.ins C dx (ns.zip xs)) → ns.length = xs.length → Rps K pl G xs ds → Rp K pl G (.ref a) (.obj C ns ds)
  | pool {p c : Addr} : pl = some (p, c) → Rp K pl G (.ref p) .pool
  | ty (n : String) : Rp K pl G (.ty n) (.ty n)
  | cls (C : Addr) : Rp K pl G (.ref C) (.cls C)
  | scr {a : Addr} {ns : List Int} : SqL K G a (ns.map V.int) → Rp K pl G (.ref a) (.scr ns)
  | exo {a C : Addr} {d : Option Addr} : G a = some (ExD a C d) → (∀ dd, d = some dd → ∃ fs, G dd = some (.xd fs)) → Rp K pl G (.ref a) (.exo C)
inductive Rps (K : PySem.W.Frag) (pl : Option (Addr × Addr)) (G : Hp) : List V → List D → Prop
  | nil : Rps K pl G [] []
  | cons {v : V} {d : D} {vs : List V} {ds : List D} : Rp K pl G v d → Rps K pl G vs ds → Rps K pl G (v :: vs) (d :: ds)
end
section
variable {K : PySem.W.Frag} {pl : Option (Addr × Addr)} {G G' : Hp}
mutual
theorem Rp.mono (e : Ex G G') : ∀ {v : V} {d : D}, Rp K pl G v d → Rp K pl G' v d
  | _, _, .non => .non
  | _, _, .bl b => .bl b
  | _, _, .int i => .int i
  | _, _, .str x => .str x
  | _, _, .tup h r => .tup (e.sqt h) (Rps.mono e r)
  | _, _, .lst h r => .lst (e _ _ h) (Rps.mono e r)
  | _, _, .dic h => .dic (e _ _ h)
  | _, _, .dct h r => .dct (e _ _ h) (Rp.mono e r)
  | _, _, .xtup h n r => .xtup (e _ _ h) n (Rps.mono e r)
  | _, _, .obj h l r => .obj (e _ _ h) l (Rps.mono e r)
  | _, _, .pool h => .pool h
  | _, _, .ty n => .ty n
  | _, _, .cls C => .cls C
  | _, _, .scr h => .scr (e.sql h)
  | _, _, .exo h k => .exo (e _ _ h) fun dd z => (k dd z).imp fun _ q => e _ _ q
theorem Rps.mono (e : Ex G G') : ∀ {vs : List V} {ds : List D}, Rps K pl G vs ds → Rps K pl G' vs ds
  | _, _, .nil => .nil
  | _, _, .cons h r => .cons (Rp.mono e h) (Rps.mono e r)
end
theorem Rps.length : ∀ {vs : List V} {ds : List D}, Rps K pl G vs ds → vs.length = ds.length
  | _, _, .nil => rfl
  | _, _, .cons _ r => by simp [Rps.length r]
theorem Rps.get : ∀ {vs : List V} {ds : List D} {i : Nat} {d : D}, Rps K pl G vs ds → ds[i]? = some d → ∃ v, vs[i]? = some v ∧ Rp K pl G v d
  | _, _, _, _, .nil, e => by simp at e
  | _, _, 0, _, .cons h _, e => by simp at e; subst e; exact ⟨_, rfl, h⟩
  | _, _, i + 1, _, .cons _ r, e => by
    obtain ⟨v, q, z⟩ := Rps.get (i := i) r (by simpa using e)
    exact ⟨v, by simpa using q, z⟩
theorem Rps.getV : ∀ {vs : List V} {ds : List D} {i : Nat} {v : V}, Rps K pl G vs ds → vs[i]? = some v → ∃ d, ds[i]? = some d ∧ Rp K pl G v d
  | _, _, _, _, .nil, e => by simp at e
  | _, _, 0, _, .cons h _, e => by simp at e; subst e; exact ⟨_, rfl, h⟩
  | _, _, i + 1, _, .cons _ r, e => by
    obtain ⟨v, q, z⟩ := Rps.getV (i := i) r (by simpa using e)
    exact ⟨v, by simpa using q, z⟩
theorem Rps.append : ∀ {vs ws : List V} {ds es : List D}, Rps K pl G vs ds → Rps K pl G ws es → Rps K pl G (vs ++ ws) (ds ++ es)
  | _, _, _, _, .nil, s => s
  | _, _, _, _, .cons h r, s => .cons h (Rps.append r s)
theorem Rps.set {v : V} {d : D} (h : Rp K pl G v d) : ∀ {vs : List V} {ds : List D} (i : Nat), Rps K pl G vs ds → Rps K pl G (vs.set i v) (ds.set i d)
  | _, _, _, .nil => .nil
  | _, _, 0, .cons _ r => .cons h r
  | _, _, i + 1, .cons q r => .cons q (Rps.set h i r)
theorem Rps.take : ∀ {vs : List V} {ds : List D} (n : Nat), Rps K pl G vs ds → Rps K pl G (vs.take n) (ds.take n)
  | _, _, 0, _ => .nil
  | _, _, _ + 1, .nil => .nil
  | _, _, n + 1, .cons h r => .cons h (Rps.take n r)
theorem Rps.drop : ∀ {vs : List V} {ds : List D} (n : Nat), Rps K pl G vs ds → Rps K pl G (vs.drop n) (ds.drop n)
  | _, _, 0, r => r
  | _, _, _ + 1, .nil => .nil
  | _, _, n + 1, .cons _ r => Rps.drop n r
theorem Rps.eraseIdx : ∀ {vs : List V} {ds : List D} (i : Nat), Rps K pl G vs ds → Rps K pl G (vs.eraseIdx i) (ds.eraseIdx i)
  | _, _, _, .nil => .nil
  | _, _, 0, .cons _ r => r
  | _, _, i + 1, .cons q r => .cons q (Rps.eraseIdx i r)
theorem Rps.one {v : V} {d : D} (h : Rp K pl G v d) : Rps K pl G [v] [d] := .cons h .nil
theorem Rps.reverse : ∀ {vs : List V} {ds : List D}, Rps K pl G vs ds → Rps K pl G vs.reverse ds.reverse
  | _, _, .nil => .nil
  | _, _, .cons h r => by simp only [List.reverse_cons]; exact (Rps.reverse r).append (.one h)
theorem Rps.replicate {v : V} {d : D} (h : Rp K pl G v d) : ∀ n, Rps K pl G (List.replicate n v) (List.replicate n d)
  | 0 => .nil
  | n + 1 => .cons h (Rps.replicate h n)
theorem Rps.flat {vs : List V} {ds : List D} (h : Rps K pl G vs ds) : ∀ n, Rps K pl G (List.replicate n vs).flatten (List.replicate n ds).flatten
  | 0 => .nil
  | n + 1 => by simp only [List.replicate_succ, List.flatten_cons]; exact h.append (Rps.flat h n)
end
def PoolOk (H0 G H : Hp) (pl : Option (Addr × Addr)) : Prop := ∀ p c, pl = some (p, c) →
  p ≠ c ∧ G p = none ∧ G c = none ∧ (∃ o, H0 p = some o) ∧ (∃ o, H0 c = some o) ∧
  ∃ (uu ww : HO), H p = some uu ∧ H c = some ww ∧ PoolSt c uu ww
structure J0 (Z : Cz) (G H : Hp) : Prop where
  sub : Ex G H
  g0 : Ex Z.G0 G
  out : ∀ a o, Z.H0 a = some o → Z.G0 a = none → G a = none
  fr : ∀ a o, Z.H0 a = some o → (∀ p c, Z.pl = some (p, c) → a ≠ p ∧ a ≠ c) → H a = some o
  pool : PoolOk Z.H0 G H Z.pl
theorem J0.new {Z : Cz} {G H : Hp} {p : Addr} {o : HO} (j : J0 Z G H) (h : H p = none) : J0 Z (upd G p o) (upd H p o) where
  sub := fun a u e => by
    by_cases q : a = p
    · subst q; rw [upd_same] at e ⊢; exact e
    · rw [upd_ne q] at e ⊢; exact j.sub a u e
  g0 := j.g0.trans (Ex.new (j.sub.back h))
  out := fun a u e n => by
    by_cases q : a = p
    · subst q
      have z : Z.H0 a = none := by
        cases w : Z.H0 a with
        | none => rfl
        | some v =>
          by_cases x : ∃ p c, Z.pl = some (p, c) ∧ (a = p ∨ a = c)
          · obtain ⟨p, c, e1, e2⟩ := x
            obtain ⟨_, _, _, _, _, uu, ww, h1, h2, _⟩ := j.pool p c e1
            rcases e2 with rfl | rfl
            · rw [h] at h1; cases h1
            · rw [h] at h2; cases h2
          · rw [j.fr a v w (fun p c e1 => ⟨fun z => x ⟨p, c, e1, .inl z⟩, fun z => x ⟨p, c, e1, .inr z⟩⟩)] at h; cases h
      rw [z] at e; cases e
    · rw [upd_ne q]; exact j.out a u e n
  fr := fun a u e n => by
    have z := j.fr a u e n
    rw [upd_ne (ne_of_none z h)]; exact z
  pool := fun p' c' e => by
    obtain ⟨h0, h1, h2, h3, h4, uu, ww, h5, h6, h7⟩ := j.pool p' c' e
    refine ⟨h0, ?_, ?_, h3, h4, uu, ww, ?_, ?_, h7⟩
    · rw [upd_ne (ne_of_none h5 h)]; exact h1
    · rw [upd_ne (ne_of_none h6 h)]; exact h2
    · rw [upd_ne (ne_of_none h5 h)]; exact h5
    · rw [upd_ne (ne_of_none h6 h)]; exact h6
/-- what is not tracked now was not tracked at the entry -/
theorem J0.old {Z : Cz} {G H : Hp} {a : Addr} (j : J0 Z G H) (h : H a = none) : Z.H0 a = none := by
  cases w : Z.H0 a with
  | none => rfl
  | some v =>
    by_cases x : ∃ p c, Z.pl = some (p, c) ∧ (a = p ∨ a = c)
    · obtain ⟨p, c, e1, e2⟩ := x
      obtain ⟨_, _, _, _, _, uu, ww, h1, h2, _⟩ := j.pool p c e1
      rcases e2 with rfl | rfl
      · rw [h] at h1; cases h1
      · rw [h] at h2; cases h2
    · rw [j.fr a v w (fun p c e1 => ⟨fun z => x ⟨p, c, e1, .inl z⟩, fun z => x ⟨p, c, e1, .inr z⟩⟩)] at h; cases h
/-- an object that came behind the entry, out of the still part, may change -/
theorem J0.put {Z : Cz} {G H : Hp} {a : Addr} {o : HO} (j : J0 Z G H) (h0 : Z.H0 a = none) (hg : G a = none) : J0 Z G (upd H a o) where
  sub := fun b u e => by rw [upd_ne (ne_of_none e hg)]; exact j.sub b u e
  g0 := j.g0
  out := j.out
  fr := fun b u e n => by rw [upd_ne (ne_of_none e h0)]; exact j.fr b u e n
  pool := fun p' c' e => by
    obtain ⟨z0, z1, z2, ⟨o1, z3⟩, ⟨o2, z4⟩, uu, ww, z5, z6, z7⟩ := j.pool p' c' e
    refine ⟨z0, z1, z2, ⟨o1, z3⟩, ⟨o2, z4⟩, uu, ww, ?_, ?_, z7⟩
    · rw [upd_ne (ne_of_none z3 h0)]; exact z5
    · rw [upd_ne (ne_of_none z4 h0)]; exact z6
/-- what came behind the entry joins the still part -/
theorem J0.still {Z : Cz} {G H : Hp} {a : Addr} {o : HO} (j : J0 Z G H) (h0 : Z.H0 a = none) (ha : H a = some o) (hg : G a = none) : J0 Z (upd G a o) H where
  sub := fun b u e => by
    by_cases q : b = a
    · subst q; rw [upd_same] at e; cases e; exact ha
    · rw [upd_ne q] at e; exact j.sub b u e
  g0 := j.g0.trans (Ex.new hg)
  out := fun b u e n => by
    have q : b ≠ a := ne_of_none e h0
    rw [upd_ne q]; exact j.out b u e n
  fr := j.fr
  pool := fun p' c' e => by
    obtain ⟨z0, z1, z2, ⟨o1, z3⟩, ⟨o2, z4⟩, z⟩ := j.pool p' c' e
    refine ⟨z0, ?_, ?_, ⟨o1, z3⟩, ⟨o2, z4⟩, z⟩
    · rw [upd_ne (ne_of_none z3 h0)]; exact z1
    · rw [upd_ne (ne_of_none z4 h0)]; exact z2
/-- a call: its own entry is the state at hand -/
theorem J0.enter {Z : Cz} {G H : Hp} (j : J0 Z G H) : J0 (Z.at H G) G H where
  sub := j.sub
  g0 := Ex.refl G
  out := fun _ _ _ n => n
  fr := fun _ _ e _ => e
  pool := fun p c e => by
    obtain ⟨z0, z1, z2, _, _, uu, ww, z5, z6, z7⟩ := j.pool p c e
    exact ⟨z0, z1, z2, ⟨_, z5⟩, ⟨_, z6⟩, uu, ww, z5, z6, z7⟩
theorem J0.leave {Z : Cz} {G H G' H' : Hp} (j : J0 Z G H) (i : J0 (Z.at H G) G' H') : J0 Z G' H' where
  sub := i.sub
  g0 := j.g0.trans i.g0
  out := fun a o e n => by
    have z := j.out a o e n
    by_cases x : ∃ p c, Z.pl = some (p, c) ∧ (a = p ∨ a = c)
    · obtain ⟨p, c, e1, e2⟩ := x
      obtain ⟨_, h1, h2, _⟩ := i.pool p c e1
      rcases e2 with rfl | rfl
      · exact h1
      · exact h2
    · exact i.out a o (j.fr a o e fun p c e1 => ⟨fun z => x ⟨p, c, e1, .inl z⟩, fun z => x ⟨p, c, e1, .inr z⟩⟩) z
  fr := fun a o e n => i.fr a o (j.fr a o e n) n
  pool := fun p c e => by
    obtain ⟨z0, z1, z2, _, _, uu, ww, z5, z6, z7⟩ := i.pool p c e
    obtain ⟨_, _, _, z3, z4, _⟩ := j.pool p c e
    exact ⟨z0, z1, z2, z3, z4, uu, ww, z5, z6, z7⟩
def IsOwn : Option B → Prop
  | some (.own _) => True
  | some (.ob _ _ _ _) => True
  | _ => False
structure RpEr0 (K : PySem.W.Frag) (pl : Option (Addr × Addr)) (G : Hp) (cls : Value) (d : Option Addr) (er : Er) : Prop where
  c : cls = .ref er.cls
  f : (d = none ∧ er.ns = [] ∧ er.vs = []) ∨ ∃ dd xs, d = some dd ∧ G dd = some (.xd (er.ns.zip xs)) ∧ er.ns.length = xs.length ∧ Rps K pl G xs er.vs
theorem RpEr0.mono {K : PySem.W.Frag} {pl : Option (Addr × Addr)} {G G' : Hp} {cls : Value} {d : Option Addr} {er : Er} (h : RpEr0 K pl G cls d er) (e : Ex G G') : RpEr0 K pl G' cls d er :=
  ⟨h.c, h.f.imp id fun ⟨dd, xs, h1, h2, h3, h4⟩ => ⟨dd, xs, h1, e _ _ h2, h3, h4.mono e⟩⟩
def BOk (Z : Cz) (G H : Hp) (v : Option V) : B → Prop
  | .un => True
  | .d x => ∃ u, v = some u ∧ Rp Z.K Z.pl G u x
  | .own xs => ∃ l vs, v = some (.ref l) ∧ H l = some (.lst vs) ∧ Rps Z.K Z.pl G vs xs ∧ G l = none ∧ Z.H0 l = none
  | .ob p C ns vs => ∃ dx xs, v = some (.ref p) ∧ H p = some (.ins C dx (ns.zip xs)) ∧ ns.length = xs.length ∧ Rps Z.K Z.pl G xs vs ∧ G p = none ∧ Z.H0 p = none
  | .exc a cls d er => v = some (.ref a) ∧ RpEr0 Z.K Z.pl G cls d er
structure En (Z : Cz) (G H : Hp) (σ : L2.St) (Γ : List B) : Prop where
  len : σ.length = Γ.length
  at_ : ∀ (i : Nat) b, Γ[i]? = some b → ∃ v, σ[i]? = some v ∧ BOk Z G H v b
  dis : ∀ (i j : Nat) l, IsOwn Γ[i]? → IsOwn Γ[j]? → σ[i]? = some (some (.ref l)) → σ[j]? = some (some (.ref l)) → i = j
theorem BOk.mono {Z : Cz} {G H G' H' : Hp} {v : Option V} {b : B} (h : BOk Z G H v b) (e : Ex G G') (k : ∀ l o, H l = some o → G l = none → Z.H0 l = none → v = some (.ref l) → IsOwn (some b) → H' l = some o ∧ G' l = none) : BOk Z G' H' v b := by
  cases b with
  | un => trivial
  | d x => obtain ⟨u, h1, h2⟩ := h; exact ⟨u, h1, h2.mono e⟩
  | own xs =>
    obtain ⟨l, vs, h1, h2, h3, h4, h5⟩ := h
    obtain ⟨k1, k2⟩ := k l _ h2 h4 h5 h1 trivial
    exact ⟨l, vs, h1, k1, h3.mono e, k2, h5⟩
  | ob p C ns vs =>
    obtain ⟨dx, xs, h1, h2, h3, h4, h5, h6⟩ := h
    obtain ⟨k1, k2⟩ := k p _ h2 h5 h6 h1 trivial
    exact ⟨dx, xs, h1, k1, h3, h4.mono e, k2, h6⟩
  | exc a cls d er => exact ⟨h.1, h.2.mono e⟩
theorem En.mono {Z : Cz} {G H G' H' : Hp} {σ : L2.St} {Γ : List B} (h : En Z G H σ Γ) (e : Ex G G') (k : ∀ l o, H l = some o → G l = none → Z.H0 l = none → (∃ i : Nat, IsOwn Γ[i]? ∧ σ[i]? = some (some (.ref l))) → H' l = some o ∧ G' l = none) : En Z G' H' σ Γ where
  len := h.len
  at_ := fun i b q => by
    obtain ⟨v, h1, h2⟩ := h.at_ i b q
    exact ⟨v, h1, h2.mono e fun l o a1 a2 a3 a4 a5 => k l o a1 a2 a3 ⟨i, by rw [q]; exact a5, by rw [h1, a4]⟩⟩
  dis := h.dis
/-- a new object -/
theorem En.new {Z : Cz} {G H : Hp} {σ : L2.St} {Γ : List B} {p : Addr} {o : HO} (h : En Z G H σ Γ) (j : J0 Z G H) (n : H p = none) : En Z (upd G p o) (upd H p o) σ Γ :=
  h.mono (Ex.new (j.sub.back n)) fun l u a1 a2 _ _ => by
    have q : l ≠ p := ne_of_none a1 n
    rw [upd_ne q, upd_ne q]; exact ⟨a1, a2⟩
/-- a new object out of the still part -/
theorem En.newM {Z : Cz} {G H : Hp} {σ : L2.St} {Γ : List B} {p : Addr} {o : HO} (h : En Z G H σ Γ) (n : H p = none) : En Z G (upd H p o) σ Γ :=
  h.mono (Ex.refl _) fun l u a1 a2 _ _ => by
    have q : l ≠ p := ne_of_none a1 n
    rw [upd_ne q]; exact ⟨a1, a2⟩
/-- behind a call -/
theorem En.called {Z : Cz} {G H G' H' : Hp} {σ : L2.St} {Γ : List B} (h : En Z G H σ Γ) (j : J0 Z G H) (i : J0 (Z.at H G) G' H') : En Z G' H' σ Γ :=
  h.mono i.g0 fun l o a1 a2 a3 _ => by
    have np : ∀ p c, Z.pl = some (p, c) → l ≠ p ∧ l ≠ c := fun p c e => by
      obtain ⟨_, _, _, ⟨o1, z3⟩, ⟨o2, z4⟩, _⟩ := j.pool p c e
      exact ⟨fun z => (by rw [z, z3] at a3; cases a3), fun z => (by rw [z, z4] at a3; cases a3)⟩
    exact ⟨i.fr l o a1 np, i.out l o a1 a2⟩
/-- another variable's value -/
theorem En.set {Z : Cz} {G H : Hp} {σ : L2.St} {Γ : List B} {i : Nat} {v : V} {b : B} (h : En Z G H σ Γ) (hv : BOk Z G H (some v) b) (hd : ∀ l, IsOwn (some b) → v = .ref l → ∀ j, j ≠ i → IsOwn Γ[j]? → σ[j]? ≠ some (some (.ref l))) : En Z G H (σ.set i (some v)) (Γ.set i b) where
  len := by rw [List.length_set, List.length_set]; exact h.len
  at_ := fun k b' q => by
    by_cases e : i = k
    · subst e
      by_cases hi : i < Γ.length
      · rw [List.getElem?_set_self hi] at q; cases q
        exact ⟨_, List.getElem?_set_self (by rw [h.len]; exact hi), hv⟩
      · rw [List.getElem?_eq_none (by rw [List.length_set]; omega)] at q; cases q
    · rw [List.getElem?_set_ne e] at q ⊢
      exact h.at_ k b' q
  dis := fun k m l o1 o2 e1 e2 => by
    by_cases hk : i = k
    · by_cases hm : i = m
      · rw [← hk, ← hm]
      · subst hk
        rw [List.getElem?_set_ne hm] at o2 e2
        by_cases hi : i < Γ.length
        · rw [List.getElem?_set_self hi] at o1
          rw [List.getElem?_set_self (by rw [h.len]; exact hi)] at e1
          exact absurd e2 (hd l o1 (Option.some.inj (Option.some.inj e1)) m (fun z => hm z.symm) o2)
        · rw [List.getElem?_eq_none (by rw [List.length_set]; omega)] at o1; exact o1.elim
    · by_cases hm : i = m
      · subst hm
        rw [List.getElem?_set_ne hk] at o1 e1
        by_cases hi : i < Γ.length
        · rw [List.getElem?_set_self hi] at o2
          rw [List.getElem?_set_self (by rw [h.len]; exact hi)] at e2
          exact absurd e1 (hd l o2 (Option.some.inj (Option.some.inj e2)) k (fun z => hk z.symm) o1)
        · rw [List.getElem?_eq_none (by rw [List.length_set]; omega)] at o2; exact o2.elim
      · rw [List.getElem?_set_ne hk] at o1 e1
        rw [List.getElem?_set_ne hm] at o2 e2
        exact h.dis k m l o1 o2 e1 e2
theorem En.setD {Z : Cz} {G H : Hp} {σ : L2.St} {Γ : List B} {i : Nat} {v : V} {x : D} (h : En Z G H σ Γ) (hv : Rp Z.K Z.pl G v x) : En Z G H (σ.set i (some v)) (Γ.set i (.d x)) :=
  h.set ⟨v, rfl, hv⟩ fun _ o => o.elim
theorem En.un {Z : Cz} {G H : Hp} {σ σ' : L2.St} {Γ : List B} {i : Nat} (h : En Z G H σ Γ) (e : ∀ k, k ≠ i → σ'[k]? = σ[k]?) (hl : σ'.length = σ.length) : En Z G H σ' (Γ.set i .un) where
  len := by rw [List.length_set, hl]; exact h.len
  at_ := fun k b q => by
    by_cases hk : i = k
    · subst hk
      by_cases hi : i < Γ.length
      · rw [List.getElem?_set_self hi] at q; cases q
        exact ⟨σ'[i]'(by rw [hl, h.len]; exact hi), by simp, trivial⟩
      · rw [List.getElem?_eq_none (by rw [List.length_set]; omega)] at q; cases q
    · rw [List.getElem?_set_ne hk] at q
      rw [e k (Ne.symm hk)]
      exact h.at_ k b q
  dis := fun k m l o1 o2 e1 e2 => by
    have hk : i ≠ k := fun z => by
      subst z
      by_cases hi : i < Γ.length
      · rw [List.getElem?_set_self hi] at o1; exact o1.elim
      · rw [List.getElem?_eq_none (by rw [List.length_set]; omega)] at o1; exact o1.elim
    have hm : i ≠ m := fun z => by
      subst z
      by_cases hi : i < Γ.length
      · rw [List.getElem?_set_self hi] at o2; exact o2.elim
      · rw [List.getElem?_eq_none (by rw [List.length_set]; omega)] at o2; exact o2.elim
    rw [List.getElem?_set_ne hk] at o1
    rw [List.getElem?_set_ne hm] at o2
    rw [e k (Ne.symm hk)] at e1
    rw [e m (Ne.symm hm)] at e2
    exact h.dis k m l o1 o2 e1 e2
abbrev RpEr (Z : Cz) (G : Hp) (cls : Value) (d : Option Addr) (er : Er) : Prop := RpEr0 Z.K Z.pl G cls d er
def WAcc (Z : Cz) (G : Hp) : Prop := ∀ er cls d σ G' H' Γ, Z.X er Γ → Ex G G' → J0 Z G' H' → En Z G' H' σ Γ → RpEr Z G' cls d er → Z.W cls d σ H'
theorem WAcc.mono {Z : Cz} {G G' : Hp} (w : WAcc Z G) (x : Ex G G') : WAcc Z G' := fun er cls d σ G2 H2 Γ h y => w er cls d σ G2 H2 Γ h (x.trans y)
structure J (Z : Cz) (G H : Hp) : Prop extends J0 Z G H where
  acc : WAcc Z G
section
variable {Z : Cz} {G H : Hp}
theorem J.new {p : Addr} {o : HO} (j : J Z G H) (h : H p = none) : J Z (upd G p o) (upd H p o) := ⟨j.toJ0.new h, j.acc.mono (Ex.new (j.sub.back h))⟩
theorem J.old {a : Addr} (j : J Z G H) (h : H a = none) : Z.H0 a = none := j.toJ0.old h
theorem J.put {a : Addr} {o : HO} (j : J Z G H) (h0 : Z.H0 a = none) (hg : G a = none) : J Z G (upd H a o) := ⟨j.toJ0.put h0 hg, j.acc⟩
theorem J.still {a : Addr} {o : HO} (j : J Z G H) (h0 : Z.H0 a = none) (ha : H a = some o) (hg : G a = none) : J Z (upd G a o) H := ⟨j.toJ0.still h0 ha hg, j.acc.mono (Ex.new hg)⟩
theorem J.enter (j : J Z G H) : J (Z.at H G) G H := ⟨j.toJ0.enter, fun _ _ _ _ _ _ _ h => h.elim⟩
theorem J.leave {G' H' : Hp} (j : J Z G H) (i : J (Z.at H G) G' H') : J Z G' H' := ⟨j.toJ0.leave i.toJ0, j.acc.mono i.g0⟩
end
end Ab
namespace Ab
open PySem L2
def NotPl (Z : Cz) (a : Addr) : Prop := ∀ p c, Z.pl = some (p, c) → a ≠ p ∧ a ≠ c
/-- what an expression's evaluation leaves as it was -/
structure Sp1 (Z : Cz) (σ : L2.St) (Γ Γ' : List B) (G H G' H' : Hp) : Prop where
  ex : Ex G G'
  own : ∀ i : Nat, IsOwn Γ'[i]? → IsOwn Γ[i]?
  fr : ∀ a o, H a = some o → NotPl Z a → (∀ i : Nat, IsOwn Γ[i]? → σ[i]? ≠ some (some (.ref a))) → H' a = some o ∧ (G a = none → G' a = none)
  tr : ∀ a o, H a = some o → ∃ o', H' a = some o'
theorem Sp1.back {Z : Cz} {σ : L2.St} {Γ Γ' : List B} {G H G' H' : Hp} (s : Sp1 Z σ Γ Γ' G H G' H') {a : Addr} (h : H' a = none) : H a = none := by
  cases q : H a with
  | none => rfl
  | some o => obtain ⟨o', z⟩ := s.tr a o q; rw [h] at z; cases z
theorem Sp1.refl {Z : Cz} {σ : L2.St} {Γ : List B} {G H : Hp} : Sp1 Z σ Γ Γ G H G H := ⟨Ex.refl _, fun _ h => h, fun _ _ h _ _ => ⟨h, fun x => x⟩, fun _ o h => ⟨o, h⟩⟩
theorem Sp1.trans {Z : Cz} {σ : L2.St} {Γ Γ1 Γ2 : List B} {G H G1 H1 G2 H2 : Hp} (a : Sp1 Z σ Γ Γ1 G H G1 H1) (b : Sp1 Z σ Γ1 Γ2 G1 H1 G2 H2) : Sp1 Z σ Γ Γ2 G H G2 H2 :=
  ⟨a.ex.trans b.ex, fun i h => a.own i (b.own i h), fun x o h n w => by
    obtain ⟨h1, g1⟩ := a.fr x o h n w
    obtain ⟨h2, g2⟩ := b.fr x o h1 n fun i z => w i (a.own i z)
    exact ⟨h2, fun z => g2 (g1 z)⟩, fun x o h => (a.tr x o h).elim fun o' h' => b.tr x o' h'⟩
/-- of a call or an operator: all that was there is kept -/
theorem Sp1.of {Z : Cz} {σ : L2.St} {Γ : List B} {G H G' H' : Hp} (i : J (Z.at H G) G' H') : Sp1 Z σ Γ Γ G H G' H' :=
  ⟨i.g0, fun _ h => h, fun a o h n _ => ⟨i.fr a o h n, fun z => i.out a o h z⟩, fun a o h => by
    by_cases np : NotPl Z a
    · exact ⟨o, i.fr a o h np⟩
    · cases q : H' a with
      | some o' => exact ⟨o', rfl⟩
      | none =>
        exfalso; apply np; intro p c e1
        obtain ⟨_, _, _, _, _, uu, ww, h1, h2, _⟩ := i.pool p c e1
        exact ⟨fun z => by (rw [z, h1] at q; cases q), fun z => by (rw [z, h2] at q; cases q)⟩⟩
theorem En.noown {Z : Cz} {G H : Hp} {σ : L2.St} {Γ : List B} (e : En Z G H σ Γ) {l : Addr} (hn : H l = none) (i : Nat) (o : IsOwn Γ[i]?) : σ[i]? ≠ some (some (.ref l)) := fun z => by
  cases hb : Γ[i]? with
  | none => rw [hb] at o; exact o.elim
  | some b =>
    cases b with
    | own xs =>
      obtain ⟨v, a1, l', vs', a2, a3, _⟩ := e.at_ i _ hb
      rw [z] at a1; cases a1; cases a2
      rw [hn] at a3; cases a3
    | ob p C ns vs =>
      obtain ⟨v, a1, dx, xs, a2, a3, _⟩ := e.at_ i _ hb
      rw [z] at a1; cases a1; cases a2
      rw [hn] at a3; cases a3
    | un => rw [hb] at o; exact o.elim
    | d x => rw [hb] at o; exact o.elim
    | exc a cls d er => rw [hb] at o; exact o.elim
def Den (Z : Cz) (te : TE) (Γ : List B) (Q : D → List B → Prop) : Prop :=
  ∀ (σ : L2.St) (G H : Hp), J Z G H → En Z G H σ Γ → ∀ k : VK, (∀ d Γ' v G' H', Q d Γ' → Sp1 Z σ Γ Γ' G H G' H' → J Z G' H' → En Z G' H' σ Γ' → Rp Z.K Z.pl G' v d → k v H') → te σ H k
def DenT (Z : Cz) (te : TT) (Γ : List B) (Q : Bool → List B → Prop) : Prop :=
  ∀ (σ : L2.St) (G H : Hp), J Z G H → En Z G H σ Γ → ∀ k : Bool → Hp → Prop, (∀ b Γ' G' H', Q b Γ' → Sp1 Z σ Γ Γ' G H G' H' → J Z G' H' → En Z G' H' σ Γ' → k b H') → te σ H k
def DenA (Z : Cz) (ta : TA) (Γ : List B) (Q : List D → List B → Prop) : Prop :=
  ∀ (σ : L2.St) (G H : Hp), J Z G H → En Z G H σ Γ → ∀ k : List V → Hp → Prop, (∀ ds Γ' vs G' H', Q ds Γ' → Sp1 Z σ Γ Γ' G H G' H' → J Z G' H' → En Z G' H' σ Γ' → Rps Z.K Z.pl G' vs ds → k vs H') → ta σ H k
/-- l is a list of one's own that no slot holds -/
structure Fresh (Z : Cz) (G H : Hp) (σ : L2.St) (Γ : List B) (l : Addr) : Prop where
  g : G l = none
  h0 : Z.H0 l = none
  no : ∀ i : Nat, IsOwn Γ[i]? → σ[i]? ≠ some (some (.ref l))
/-- an expression whose value is a new list -/
def DenL (Z : Cz) (te : TE) (Γ : List B) (Q : List D → List B → Prop) : Prop :=
  ∀ (σ : L2.St) (G H : Hp), J Z G H → En Z G H σ Γ → ∀ k : VK, (∀ ds Γ' l vs G' H', Q ds Γ' → Sp1 Z σ Γ Γ' G H G' H' → J Z G' H' → En Z G' H' σ Γ' → H' l = some (.lst vs) → Rps Z.K Z.pl G' vs ds → Fresh Z G' H' σ Γ' l → H l = none → k (.ref l) H') → te σ H k
def DenG (Z : Cz) (g : TG) (x : D) (Γ : List B) (Q : List B → Prop) : Prop :=
  ∀ (σ : L2.St) (G H : Hp) (v : V), J Z G H → En Z G H σ Γ → Rp Z.K Z.pl G v x → ∀ k : L2.St → Hp → Prop, (∀ Γ' σ', Q Γ' → En Z G H σ' Γ' → k σ' H) → g v σ H k
def DenGs (Z : Cz) (g : TGs) (xs : List D) (Γ : List B) (Q : List B → Prop) : Prop :=
  ∀ (σ : L2.St) (G H : Hp) (vs : List V), J Z G H → En Z G H σ Γ → Rps Z.K Z.pl G vs xs → ∀ k : L2.St → Hp → Prop, (∀ Γ' σ', Q Γ' → En Z G H σ' Γ' → k σ' H) → g vs σ H k
/-- statements -/
structure Po where
  N : List B → Prop
  R : D → Prop
  Bk : List B → Prop := fun _ => False
  Ct : List B → Prop := fun _ => False
structure Ende (Z : Cz) (P : Po) (G0 : Hp) (De : Ends) : Prop where
  n : ∀ Γ σ G H, P.N Γ → Ex G0 G → J Z G H → En Z G H σ Γ → De.nx σ H
  r : ∀ x v G H, P.R x → Ex G0 G → J Z G H → Rp Z.K Z.pl G v x → De.rt v H
  b : ∀ Γ σ G H, P.Bk Γ → Ex G0 G → J Z G H → En Z G H σ Γ → De.bk σ H
  c : ∀ Γ σ G H, P.Ct Γ → Ex G0 G → J Z G H → En Z G H σ Γ → De.ct σ H
theorem Ende.up {Z : Cz} {P : Po} {G G' : Hp} {De : Ends} (d : Ende Z P G De) (x : Ex G G') : Ende Z P G' De :=
  ⟨fun Γ σ G H a y => d.n Γ σ G H a (x.trans y), fun z v G H a y => d.r z v G H a (x.trans y), fun Γ σ G H a y => d.b Γ σ G H a (x.trans y), fun Γ σ G H a y => d.c Γ σ G H a (x.trans y)⟩
def DenS (Z : Cz) (ts : TS) (Γ : List B) (P : Po) : Prop :=
  ∀ (σ : L2.St) (G H : Hp), J Z G H → En Z G H σ Γ → ∀ De : Ends, Ende Z P G De → ts De σ H
/-- what a walk goes over -/
structure Its (Z : Cz) (G : Hp) (Jt : It) (ds : List D) : Prop where
  go : ∀ G' H' i, Ex G G' → J Z G' H' → i < ds.length → Jt.go i H'
  stop : ∀ G' H', Ex G G' → J Z G' H' → Jt.stop ds.length H'
  yld : ∀ G' H' i x H'', Ex G G' → J Z G' H' → i < ds.length → Jt.yld i H' x H'' → ∃ G'' d, ds[i]? = some d ∧ J (Z.at H' G') G'' H'' ∧ Rp Z.K Z.pl G'' x d
def DenI (Z : Cz) (wi : TI) (Γ : List B) (Q : List D → List B → Prop) : Prop :=
  ∀ (σ : L2.St) (G H : Hp), J Z G H → En Z G H σ Γ → ∀ k : It → Hp → Prop, (∀ ds Γ' Jt G' H', Q ds Γ' → Sp1 Z σ Γ Γ' G H G' H' → J Z G' H' → En Z G' H' σ Γ' → Its Z G' Jt ds → k Jt H') → wi σ H k
/-- operators and calls by data -/
def OpD (Z : Cz) (r : R2) (x y : D) (Q : D → Prop) : Prop :=
  ∀ (G H : Hp) (vx vy : V), J Z G H → Rp Z.K Z.pl G vx x → Rp Z.K Z.pl G vy y → ∀ k : VK, (∀ d v G' H', Q d → J (Z.at H G) G' H' → Rp Z.K Z.pl G' v d → k v H') → r vx vy H k
def OpL (Z : Cz) (r : R2) (x y : D) (Q : List D → Prop) : Prop :=
  ∀ (G H : Hp) (vx vy : V), J Z G H → Rp Z.K Z.pl G vx x → Rp Z.K Z.pl G vy y → ∀ k : VK, (∀ ds l vs G' H', Q ds → J (Z.at H G) G' H' → H' l = some (.lst vs) → Rps Z.K Z.pl G' vs ds → H l = none → G' l = none → k (.ref l) H') → r vx vy H k
def UnD (Z : Cz) (r : V → Hp → VK → Prop) (x : D) (Q : D → Prop) : Prop :=
  ∀ (G H : Hp) (vx : V), J Z G H → Rp Z.K Z.pl G vx x → ∀ k : VK, (∀ d v G' H', Q d → J (Z.at H G) G' H' → Rp Z.K Z.pl G' v d → k v H') → r vx H k
def CaD (Z : Cz) (r : List V → Hp → VK → Prop) (xs : List D) (Q : D → Prop) : Prop :=
  ∀ (G H : Hp) (vs : List V), J Z G H → Rps Z.K Z.pl G vs xs → ∀ k : VK, (∀ d v G' H', Q d → J (Z.at H G) G' H' → Rp Z.K Z.pl G' v d → k v H') → r vs H k
def CaL (Z : Cz) (r : List V → Hp → VK → Prop) (xs : List D) (Q : List D → Prop) : Prop :=
  ∀ (G H : Hp) (vs : List V), J Z G H → Rps Z.K Z.pl G vs xs → ∀ k : VK, (∀ ds l ws G' H', Q ds → J (Z.at H G) G' H' → H' l = some (.lst ws) → Rps Z.K Z.pl G' ws ds → H l = none → G' l = none → k (.ref l) H') → r vs H k
section
variable {Z : Cz} {Γ : List B} {te ta tb : TE} {tt tu : TT} {P : Po}
theorem Den.mono {Q Q' : D → List B → Prop} (h : Den Z te Γ Q) (w : ∀ d Γ', Q d Γ' → Q' d Γ') : Den Z te Γ Q' := fun σ G H j e k q => h σ G H j e k fun d Γ' v G' H' a => q d Γ' v G' H' (w _ _ a)
theorem DenL.mono {Q Q' : List D → List B → Prop} (h : DenL Z te Γ Q) (w : ∀ d Γ', Q d Γ' → Q' d Γ') : DenL Z te Γ Q' := fun σ G H j e k q => h σ G H j e k fun d Γ' l v G' H' a => q d Γ' l v G' H' (w _ _ a)
theorem DenT.mono {Q Q' : Bool → List B → Prop} (h : DenT Z tt Γ Q) (w : ∀ d Γ', Q d Γ' → Q' d Γ') : DenT Z tt Γ Q' := fun σ G H j e k q => h σ G H j e k fun d Γ' G' H' a => q d Γ' G' H' (w _ _ a)
/-- a new list joins the still part -/
theorem den_l {Q : D → List B → Prop} (h : DenL Z te Γ fun ds Γ' => Q (.lst ds) Γ') : Den Z te Γ Q := fun σ G H j e k q => h σ G H j e k fun ds Γ' l vs G' H' a s j' e' hl r f hn => by
  refine q (.lst ds) Γ' (.ref l) (upd G' l (.lst vs)) H' a ⟨s.ex.trans (Ex.new f.g), s.own, fun b o hb n w => ?_, s.tr⟩ (j'.still f.h0 hl f.g) (e'.mono (Ex.new f.g) fun b o b1 b2 b3 ⟨i, b4, b5⟩ => ⟨b1, ?_⟩) (.lst upd_same (r.mono (Ex.new f.g)))
  · obtain ⟨h1, h2⟩ := s.fr b o hb n w
    refine ⟨h1, fun z => ?_⟩
    rw [upd_ne (ne_of_none hb hn)]; exact h2 z
  · have : b ≠ l := fun z => f.no i b4 (by rw [b5, z])
    rw [upd_ne this]; exact b2
theorem den_var {i : Nat} {x : D} {Q : D → List B → Prop} (h : Γ[i]? = some (.d x)) (q : Q x Γ) : Den Z (tVar i) Γ Q := fun σ G H j e k kk => by
  obtain ⟨v, h1, u, h2, h3⟩ := e.at_ i _ h
  subst h2
  exact ⟨u, h1, kk x Γ u G H q .refl j e h3⟩
/-- a list of one's own is handed on and not changed any more -/
theorem den_move {i : Nat} {xs : List D} {Q : D → List B → Prop} (h : Γ[i]? = some (.own xs)) (q : Q (.lst xs) (Γ.set i (.d (.lst xs)))) : Den Z (tVar i) Γ Q := fun σ G H j e k kk => by
  obtain ⟨v, h1, l, vs, h2, h3, h4, h5, h6⟩ := e.at_ i _ h
  subst h2
  have x : Ex G (upd G l (.lst vs)) := Ex.new h5
  have rp : Rp Z.K Z.pl (upd G l (.lst vs)) (.ref l) (.lst xs) := .lst upd_same (h4.mono x)
  have e2 : En Z (upd G l (.lst vs)) H σ (Γ.set i (.d (.lst xs))) := by
    refine ⟨by rw [List.length_set]; exact e.len, fun m b q => ?_, fun m n l' o1 o2 => ?_⟩
    · by_cases hm : i = m
      · subst hm
        rw [List.getElem?_set_self (List.getElem?_eq_some_iff.mp h).1] at q
        cases q
        exact ⟨_, h1, _, rfl, rp⟩
      · rw [List.getElem?_set_ne hm] at q
        obtain ⟨v', a1, a2⟩ := e.at_ m b q
        refine ⟨v', a1, a2.mono x fun l' o b1 b2 b3 b4 b5 => ⟨b1, ?_⟩⟩
        have : l' ≠ l := fun z => hm (e.dis i m l (by rw [h]; trivial) (by rw [q]; exact b5) h1 (by rw [a1, b4, z]))
        rw [upd_ne this]; exact b2
    · have hm : i ≠ m := fun z => by
        subst z
        rw [List.getElem?_set_self (List.getElem?_eq_some_iff.mp h).1] at o1; exact o1.elim
      have hn : i ≠ n := fun z => by
        subst z
        rw [List.getElem?_set_self (List.getElem?_eq_some_iff.mp h).1] at o2; exact o2.elim
      rw [List.getElem?_set_ne hm] at o1
      rw [List.getElem?_set_ne hn] at o2
      exact e.dis m n l' o1 o2
  refine ⟨.ref l, h1, kk _ _ _ (upd G l (.lst vs)) H q ⟨x, fun m o => ?_, fun a o ha n w => ⟨ha, fun z => ?_⟩, fun _ o h => ⟨o, h⟩⟩ (j.still h6 h3 h5) e2 rp⟩
  · by_cases hm : i = m
    · subst hm; rw [h]; trivial
    · rw [List.getElem?_set_ne hm] at o; exact o
  · have : a ≠ l := fun z => w i (by rw [h]; trivial) (by rw [h1, z])
    rw [upd_ne this]; exact z
theorem den_int {i : Int} {Q : D → List B → Prop} (q : Q (.int i) Γ) : Den Z (tC (.int i)) Γ Q := fun σ G H j e k kk => kk _ _ _ G H q .refl j e (.int i)
theorem den_bl {b : Bool} {Q : D → List B → Prop} (q : Q (.bl b) Γ) : Den Z (tC (.bl b)) Γ Q := fun σ G H j e k kk => kk _ _ _ G H q .refl j e (.bl b)
theorem den_non {Q : D → List B → Prop} (q : Q .non Γ) : Den Z (tC .non) Γ Q := fun σ G H j e k kk => kk _ _ _ G H q .refl j e .non
theorem den_str {x : Str} {Q : D → List B → Prop} (q : Q (.str x) Γ) : Den Z (tC (.str x)) Γ Q := fun σ G H j e k kk => kk _ _ _ G H q .refl j e (.str x)
theorem den_op {r : R2} {Q : D → List B → Prop} (h : Den Z ta Γ fun x Γ1 => Den Z tb Γ1 fun y Γ2 => OpD Z r x y fun d => Q d Γ2) : Den Z (tOp r ta tb) Γ Q := fun σ G H j e k kk =>
  h σ G H j e _ fun x Γ1 vx G1 H1 h1 s1 j1 e1 r1 => h1 σ G1 H1 j1 e1 _ fun y Γ2 vy G2 H2 h2 s2 j2 e2 r2 =>
    h2 G2 H2 vx vy j2 (r1.mono s2.ex) r2 k fun d v G3 H3 q i3 r3 => kk d Γ2 v G3 H3 q ((s1.trans s2).trans (.of i3)) (j2.leave i3) (e2.called j2.toJ0 i3.toJ0) r3
theorem denl_op {r : R2} {Q : List D → List B → Prop} (h : Den Z ta Γ fun x Γ1 => Den Z tb Γ1 fun y Γ2 => OpL Z r x y fun d => Q d Γ2) : DenL Z (tOp r ta tb) Γ Q := fun σ G H j e k kk =>
  h σ G H j e _ fun x Γ1 vx G1 H1 h1 s1 j1 e1 r1 => h1 σ G1 H1 j1 e1 _ fun y Γ2 vy G2 H2 h2 s2 j2 e2 r2 =>
    h2 G2 H2 vx vy j2 (r1.mono s2.ex) r2 k fun ds l vs G3 H3 q i3 hl r3 hn hg => by
      exact kk ds Γ2 l vs G3 H3 q ((s1.trans s2).trans (.of i3)) (j2.leave i3) (e2.called j2.toJ0 i3.toJ0) hl r3 ⟨hg, j2.old hn, fun i o => e2.noown hn i o⟩ ((s1.trans s2).back hn)
end
end Ab
namespace Ab
open PySem L2
section
variable {Z : Cz} {Γ : List B} {te ta tb tc : TE} {tt tu : TT} {tr : TA} {P : Po}
theorem dena_nil {Q : List D → List B → Prop} (q : Q [] Γ) : DenA Z tNil Γ Q := fun σ G H j e k kk => kk [] Γ [] G H q .refl j e .nil
theorem dena_cons {Q : List D → List B → Prop} (h : Den Z te Γ fun x Γ1 => DenA Z tr Γ1 fun xs Γ2 => Q (x :: xs) Γ2) : DenA Z (tCons te tr) Γ Q := fun σ G H j e k kk =>
  h σ G H j e _ fun x Γ1 v G1 H1 h1 s1 j1 e1 r1 => h1 σ G1 H1 j1 e1 _ fun xs Γ2 vs G2 H2 q s2 j2 e2 r2 => kk _ Γ2 _ G2 H2 q (s1.trans s2) j2 e2 (.cons (r1.mono s2.ex) r2)
theorem J.sp {G H : Hp} {p : Addr} {o : HO} (j : J Z G H) (hp : H p = none) : J (Z.at H G) (upd G p o) (upd H p o) := j.enter.new hp
theorem den_tup {Q : D → List B → Prop} (h : DenA Z tr Γ fun xs Γ1 => xs.length ≤ 100000 ∧ Q (.tup xs) Γ1) : Den Z (tTup tr) Γ Q := fun σ G H j e k kk =>
  h σ G H j e _ fun xs Γ1 vs G1 H1 h1 s1 j1 e1 r1 => ⟨Nat.le_trans (by rw [r1.length]; exact h1.1) (by decide), fun p hp =>
    kk _ Γ1 _ (upd G1 p (.tup vs)) (upd H1 p (.tup vs)) h1.2 (s1.trans (.of (j1.sp hp))) (j1.new hp) (e1.new j1.toJ0 hp) (.tup (SqT.of upd_same) (r1.mono (Ex.new (j1.sub.back hp))))⟩
theorem denl_lst {Q : List D → List B → Prop} (h : DenA Z tr Γ fun xs Γ1 => xs.length ≤ 100000 ∧ Q xs Γ1) : DenL Z (tLst tr) Γ Q := fun σ G H j e k kk =>
  h σ G H j e _ fun xs Γ1 vs G1 H1 h1 s1 j1 e1 r1 => ⟨Nat.le_trans (by rw [r1.length]; exact h1.1) (by decide), fun p hp => by
    have n : G1 p = none := j1.sub.back hp
    refine kk _ Γ1 p vs G1 (upd H1 p (.lst vs)) h1.2 (s1.trans ⟨Ex.refl _, fun _ h => h, fun a o ha _ _ => ⟨?_, fun z => z⟩, fun a o ha => ⟨o, ?_⟩⟩) (j1.put (j1.old hp) n) (e1.newM hp) upd_same r1 ⟨n, j1.old hp, fun i o => e1.noown hp i o⟩ (s1.back hp)
    · rw [upd_ne (ne_of_none ha hp)]; exact ha
    · rw [upd_ne (ne_of_none ha hp)]; exact ha⟩
theorem den_dic {Q : D → List B → Prop} (q : Q .dic Γ) : Den Z tDNewK Γ Q := fun σ G H j e k kk p hp =>
  kk _ Γ _ (upd G p (.dK [])) (upd H p (.dK [])) q (.of (j.sp hp)) (j.new hp) (e.new j.toJ0 hp) (.dic upd_same)
theorem dent_test {Q : Bool → List B → Prop} (h : Den Z te Γ fun x Γ1 => ∃ b, x = .bl b ∧ Q b Γ1) : DenT Z (tTest te) Γ Q := fun σ G H j e k kk =>
  h σ G H j e _ fun x Γ1 v G1 H1 h1 s1 j1 e1 r1 => by
    obtain ⟨b, rfl, q⟩ := h1
    cases r1
    exact ⟨b, rfl, kk b Γ1 G1 H1 q s1 j1 e1⟩
theorem dent_B {Q : Bool → List B → Prop} (h : Den Z te Γ fun x Γ1 => ∃ b, x = .bl b ∧ Q b Γ1) : DenT Z (tB te) Γ Q := fun σ G H j e k kk =>
  h σ G H j e _ fun x Γ1 v G1 H1 h1 s1 j1 e1 r1 => by
    obtain ⟨b, rfl, q⟩ := h1
    cases r1
    exact ⟨b, rfl, kk b Γ1 G1 H1 q s1 j1 e1⟩
theorem dent_and {Q : Bool → List B → Prop} (h : DenT Z tt Γ fun b Γ1 => if b = true then DenT Z tu Γ1 Q else Q false Γ1) : DenT Z (tAnd tt tu) Γ Q := fun σ G H j e k kk =>
  h σ G H j e _ fun b Γ1 G1 H1 h1 s1 j1 e1 => by
    cases b with
    | true => exact h1 σ G1 H1 j1 e1 k fun b Γ2 G2 H2 q s2 j2 e2 => kk b Γ2 G2 H2 q (s1.trans s2) j2 e2
    | false => exact kk false Γ1 G1 H1 h1 s1 j1 e1
theorem dent_or {Q : Bool → List B → Prop} (h : DenT Z tt Γ fun b Γ1 => if b = true then Q true Γ1 else DenT Z tu Γ1 Q) : DenT Z (tOr tt tu) Γ Q := fun σ G H j e k kk =>
  h σ G H j e _ fun b Γ1 G1 H1 h1 s1 j1 e1 => by
    cases b with
    | false => exact h1 σ G1 H1 j1 e1 k fun b Γ2 G2 H2 q s2 j2 e2 => kk b Γ2 G2 H2 q (s1.trans s2) j2 e2
    | true => exact kk true Γ1 G1 H1 h1 s1 j1 e1
theorem dent_not {Q : Bool → List B → Prop} (h : DenT Z tt Γ fun b Γ1 => Q (!b) Γ1) : DenT Z (tNot tt) Γ Q := fun σ G H j e k kk =>
  h σ G H j e _ fun b Γ1 G1 H1 h1 s1 j1 e1 => kk _ Γ1 G1 H1 h1 s1 j1 e1
theorem dent_yes {Q : Bool → List B → Prop} (q : Q true Γ) : DenT Z tYes Γ Q := fun σ G H j e k kk => kk true Γ G H q .refl j e
/-- and, or as values -/
theorem den_and {Q : D → List B → Prop} (h : Den Z ta Γ fun x Γ1 => ∃ b, x = .bl b ∧ if b = true then Den Z tb Γ1 Q else Q (.bl false) Γ1) : Den Z (tAndV ta tb) Γ Q := fun σ G H j e k kk =>
  h σ G H j e _ fun x Γ1 v G1 H1 h1 s1 j1 e1 r1 => by
    obtain ⟨b, rfl, q⟩ := h1
    cases r1
    refine ⟨b, rfl, ?_⟩
    cases b with
    | true => exact q σ G1 H1 j1 e1 k fun d Γ2 v G2 H2 a s2 j2 e2 r2 => kk d Γ2 v G2 H2 a (s1.trans s2) j2 e2 r2
    | false => exact kk _ Γ1 _ G1 H1 q s1 j1 e1 (.bl false)
theorem den_or {Q : D → List B → Prop} (h : Den Z ta Γ fun x Γ1 => ∃ b, x = .bl b ∧ if b = true then Q (.bl true) Γ1 else Den Z tb Γ1 Q) : Den Z (tOrV ta tb) Γ Q := fun σ G H j e k kk =>
  h σ G H j e _ fun x Γ1 v G1 H1 h1 s1 j1 e1 r1 => by
    obtain ⟨b, rfl, q⟩ := h1
    cases r1
    refine ⟨b, rfl, ?_⟩
    cases b with
    | false => exact q σ G1 H1 j1 e1 k fun d Γ2 v G2 H2 a s2 j2 e2 r2 => kk d Γ2 v G2 H2 a (s1.trans s2) j2 e2 r2
    | true => exact kk _ Γ1 _ G1 H1 q s1 j1 e1 (.bl true)
theorem den_not {Q : D → List B → Prop} (h : Den Z ta Γ fun x Γ1 => ∃ b, x = .bl b ∧ Q (.bl (!b)) Γ1) : Den Z (tNotV ta) Γ Q := fun σ G H j e k kk =>
  h σ G H j e _ fun x Γ1 v G1 H1 h1 s1 j1 e1 r1 => by
    obtain ⟨b, rfl, q⟩ := h1
    cases r1
    exact ⟨b, rfl, kk _ Γ1 _ G1 H1 q s1 j1 e1 (.bl _)⟩
theorem den_if {Q : D → List B → Prop} (h : DenT Z tt Γ fun b Γ1 => if b = true then Den Z ta Γ1 Q else Den Z tb Γ1 Q) : Den Z (tIf tt ta tb) Γ Q := fun σ G H j e k kk =>
  h σ G H j e _ fun b Γ1 G1 H1 h1 s1 j1 e1 => by
    cases b with
    | true => exact h1 σ G1 H1 j1 e1 k fun d Γ2 v G2 H2 a s2 j2 e2 r2 => kk d Γ2 v G2 H2 a (s1.trans s2) j2 e2 r2
    | false => exact h1 σ G1 H1 j1 e1 k fun d Γ2 v G2 H2 a s2 j2 e2 r2 => kk d Γ2 v G2 H2 a (s1.trans s2) j2 e2 r2
theorem den_chain {r r' : R2} {Q : D → List B → Prop} (h : Den Z ta Γ fun x Γ1 => Den Z tb Γ1 fun y Γ2 => OpD Z r x y fun d => ∃ b, d = .bl b ∧ if b = true then Den Z tc Γ2 fun w Γ3 => OpD Z r' y w fun d => Q d Γ3 else Q (.bl false) Γ2) :
    Den Z (tChain r r' ta tb tc) Γ Q := fun σ G H j e k kk =>
  h σ G H j e _ fun x Γ1 vx G1 H1 h1 s1 j1 e1 r1 => h1 σ G1 H1 j1 e1 _ fun y Γ2 vy G2 H2 h2 s2 j2 e2 r2 =>
    h2 G2 H2 vx vy j2 (r1.mono s2.ex) r2 _ fun d v G3 H3 q i3 r3 => by
      obtain ⟨b, rfl, q⟩ := q
      cases r3
      refine ⟨b, rfl, ?_⟩
      have j3 := j2.leave i3
      have e3 := e2.called j2.toJ0 i3.toJ0
      have s3 : Sp1 Z σ Γ Γ2 G H G3 H3 := (s1.trans s2).trans (.of i3)
      cases b with
      | true =>
        refine q σ G3 H3 j3 e3 _ fun w Γ3 vw G4 H4 h4 s4 j4 e4 r4 => ?_
        exact h4 G4 H4 vy vw j4 ((r2.mono i3.g0).mono s4.ex) r4 k fun d v G5 H5 q5 i5 r5 => kk d Γ3 v G5 H5 q5 ((s3.trans s4).trans (.of i5)) (j4.leave i5) (e4.called j4.toJ0 i5.toJ0) r5
      | false => exact kk _ Γ2 _ G3 H3 q s3 j3 e3 (.bl false)
theorem den_un {r : V → Hp → VK → Prop} {Q : D → List B → Prop} (h : Den Z ta Γ fun x Γ1 => UnD Z r x fun d => Q d Γ1) : Den Z (tUn r ta) Γ Q := fun σ G H j e k kk =>
  h σ G H j e _ fun x Γ1 vx G1 H1 h1 s1 j1 e1 r1 => h1 G1 H1 vx j1 r1 k fun d v G3 H3 q i3 r3 => kk d Γ1 v G3 H3 q (s1.trans (.of i3)) (j1.leave i3) (e1.called j1.toJ0 i3.toJ0) r3
theorem den_isN {Q : D → List B → Prop} (h : Den Z ta Γ fun x Γ1 => Q (.bl (match x with | .non => true | _ => false)) Γ1) : Den Z (tIsN ta) Γ Q := fun σ G H j e k kk =>
  h σ G H j e _ fun x Γ1 v G1 H1 h1 s1 j1 e1 r1 => by
    refine kk _ Γ1 _ G1 H1 h1 s1 j1 e1 ?_
    cases r1 <;> exact .bl _
theorem den_notN {Q : D → List B → Prop} (h : Den Z ta Γ fun x Γ1 => Q (.bl (match x with | .non => false | _ => true)) Γ1) : Den Z (tNotN ta) Γ Q := fun σ G H j e k kk =>
  h σ G H j e _ fun x Γ1 v G1 H1 h1 s1 j1 e1 r1 => by
    refine kk _ Γ1 _ G1 H1 h1 s1 j1 e1 ?_
    cases r1 <;> exact .bl _
theorem den_cb {r : List V → Hp → VK → Prop} {Q : D → List B → Prop} (h : DenA Z tr Γ fun xs Γ1 => CaD Z r xs fun d => Q d Γ1) : Den Z (tCB r tr) Γ Q := fun σ G H j e k kk =>
  h σ G H j e _ fun xs Γ1 vs G1 H1 h1 s1 j1 e1 r1 => h1 G1 H1 vs j1 r1 k fun d v G3 H3 q i3 r3 => kk d Γ1 v G3 H3 q (s1.trans (.of i3)) (j1.leave i3) (e1.called j1.toJ0 i3.toJ0) r3
theorem denl_cb {r : List V → Hp → VK → Prop} {Q : List D → List B → Prop} (h : DenA Z tr Γ fun xs Γ1 => CaL Z r xs fun d => Q d Γ1) : DenL Z (tCB r tr) Γ Q := fun σ G H j e k kk =>
  h σ G H j e _ fun xs Γ1 vs G1 H1 h1 s1 j1 e1 r1 => h1 G1 H1 vs j1 r1 k fun ds l ws G3 H3 q i3 hl r3 hn hg =>
    kk ds Γ1 l ws G3 H3 q (s1.trans (.of i3)) (j1.leave i3) (e1.called j1.toJ0 i3.toJ0) hl r3 ⟨hg, j1.old hn, fun i o => e1.noown hn i o⟩ (s1.back hn)
theorem deng_name {i : Nat} {x : D} {Q : List B → Prop} (q : Q (Γ.set i (.d x))) : DenG Z (gName i) x Γ Q := fun σ G H v j e r k kk => kk _ _ q (e.setD r)
theorem deng_tup {n : Nat} {t : TGs} {xs : List D} {Q : List B → Prop} (hn : xs.length = n) (h : DenGs Z t xs Γ Q) : DenG Z (gTup Z.K n t) (.tup xs) Γ Q := fun σ G H v j e r k kk => by
  cases r with
  | tup h1 r1 =>
    refine ⟨_, _, rfl, (j.sub.sqt h1), by rw [r1.length]; exact hn, ?_⟩
    exact h σ G H _ j e r1 k kk
theorem dengs_nil {Q : List B → Prop} (q : Q Γ) : DenGs Z gNil [] Γ Q := fun σ G H vs j e r k kk => by
  cases r
  exact ⟨rfl, kk Γ σ q e⟩
theorem dengs_cons {t : TG} {u : TGs} {x : D} {xs : List D} {Q : List B → Prop} (h : DenG Z t x Γ fun Γ1 => DenGs Z u xs Γ1 Q) : DenGs Z (gCons t u) (x :: xs) Γ Q := fun σ G H vs j e r k kk => by
  cases r with
  | cons r1 r2 => exact ⟨_, _, rfl, h σ G H _ j e r1 _ fun Γ1 σ1 h1 e1 => h1 σ1 G H _ j e1 r2 k kk⟩
theorem dens_nil (q : P.N Γ) : DenS Z tNext Γ P := fun σ G H j e De d => d.n Γ σ G H q (Ex.refl _) j e
theorem dens_seq {t u : TS} (h : DenS Z t Γ { P with N := fun Γ1 => DenS Z u Γ1 P }) : DenS Z (tSeq t u) Γ P := fun σ G H j e De d =>
  h σ G H j e { De with nx := u De } ⟨fun Γ1 σ1 G1 H1 q x j1 e1 => q σ1 G1 H1 j1 e1 De (d.up x), d.r, d.b, d.c⟩
theorem dens_break (q : P.Bk Γ) : DenS Z tBreak Γ P := fun σ G H j e De d => d.b Γ σ G H q (Ex.refl _) j e
theorem dens_cont (q : P.Ct Γ) : DenS Z tCont Γ P := fun σ G H j e De d => d.c Γ σ G H q (Ex.refl _) j e
theorem dens_drop (h : Den Z te Γ fun _ Γ1 => P.N Γ1) : DenS Z (tDrop te) Γ P := fun σ G H j e De d =>
  h σ G H j e _ fun x Γ1 v G1 H1 q s1 j1 e1 r1 => d.n Γ1 σ G1 H1 q s1.ex j1 e1
theorem dens_ret (h : Den Z te Γ fun x _ => P.R x) : DenS Z (tRet te) Γ P := fun σ G H j e De d =>
  h σ G H j e _ fun x Γ1 v G1 H1 q s1 j1 e1 r1 => d.r x v G1 H1 q s1.ex j1 r1
theorem dens_retN (q : P.R .non) : DenS Z tRetN Γ P := fun σ G H j e De d => d.r .non .non G H q (Ex.refl _) j .non
theorem dens_if {t u : TS} (h : DenT Z tt Γ fun b Γ1 => if b = true then DenS Z t Γ1 P else DenS Z u Γ1 P) : DenS Z (tIfS tt t u) Γ P := fun σ G H j e De d =>
  h σ G H j e _ fun b Γ1 G1 H1 q s1 j1 e1 => by
    cases b with
    | true => exact q σ G1 H1 j1 e1 De (d.up s1.ex)
    | false => exact q σ G1 H1 j1 e1 De (d.up s1.ex)
theorem dens_asg {g : TG} (h : Den Z te Γ fun x Γ1 => DenG Z g x Γ1 P.N) : DenS Z (tAsg te g) Γ P := fun σ G H j e De d =>
  h σ G H j e _ fun x Γ1 v G1 H1 q s1 j1 e1 r1 => q σ G1 H1 v j1 e1 r1 _ fun Γ2 σ2 q2 e2 => d.n Γ2 σ2 G1 H1 q2 s1.ex j1 e2
/-- a name gets a new list of its own -/
theorem dens_own {i : Nat} (h : DenL Z te Γ fun xs Γ1 => P.N (Γ1.set i (.own xs))) : DenS Z (tAsg te (gName i)) Γ P := fun σ G H j e De d =>
  h σ G H j e _ fun xs Γ1 l vs G1 H1 q s1 j1 e1 hl r1 f hn => d.n _ _ G1 H1 q s1.ex j1 (e1.set ⟨l, vs, rfl, hl, r1, f.g, f.h0⟩ fun l' _ z m hm o => by cases z; exact f.no m o)
theorem dens_par {i m : Nat} (h : DenA Z tr Γ fun xs Γ1 => ∃ x y, xs = [x, y] ∧ P.N ((Γ1.set i (.d x)).set m (.d y))) : DenS Z (tPar i m tr) Γ P := fun σ G H j e De d =>
  h σ G H j e _ fun xs Γ1 vs G1 H1 q s1 j1 e1 r1 => by
    obtain ⟨x, y, rfl, q⟩ := q
    cases r1 with
    | cons a b => cases b with
      | cons b c =>
        cases c
        exact ⟨_, _, rfl, d.n _ _ G1 H1 q s1.ex j1 ((e1.setD a).setD b)⟩
theorem deni_list {Q : List D → List B → Prop} (h : Den Z te Γ fun x Γ1 => ∃ xs, x = .lst xs ∧ Q xs Γ1) : DenI Z (iList Z.K te) Γ Q := fun σ G H j e k kk =>
  h σ G H j e _ fun x Γ1 v G1 H1 q s1 j1 e1 r1 => by
    obtain ⟨xs, rfl, q⟩ := q
    cases r1 with
    | @lst a vs _ h1 r1 =>
      have sq : ∀ G' H', Ex G1 G' → J Z G' H' → SqL Z.K H' a vs := fun G' H' x j' => .inl (.inl (j'.sub _ _ (x _ _ h1)))
      refine ⟨a, rfl, ⟨vs, sq G1 H1 (Ex.refl _) j1⟩, kk xs Γ1 _ G1 H1 q s1 j1 e1 ⟨fun G' H' i x j' hi => ?_, fun G' H' x j' => ?_, fun G' H' i x H'' ex j' hi y => ?_⟩⟩
      · rw [← r1.length] at hi
        exact ⟨vs, vs[i], sq G' H' x j', by simp [hi]⟩
      · exact ⟨vs, sq G' H' x j', by rw [r1.length]; exact Nat.le_refl _⟩
      · obtain ⟨rfl, y⟩ := y
        have q1 := y vs (sq G' H'' ex j')
        obtain ⟨d, hd, hr⟩ := r1.getV q1
        exact ⟨G', d, hd, j'.enter, hr.mono ex⟩
theorem deni_tup {Q : List D → List B → Prop} (h : Den Z te Γ fun x Γ1 => ∃ xs, x = .tup xs ∧ Q xs Γ1) : DenI Z (iTup Z.K te) Γ Q := fun σ G H j e k kk =>
  h σ G H j e _ fun x Γ1 v G1 H1 q s1 j1 e1 r1 => by
    obtain ⟨xs, rfl, q⟩ := q
    cases r1 with
    | @tup a vs _ h1 r1 =>
      have sq : ∀ G' H', Ex G1 G' → J Z G' H' → SqT Z.K H' a vs := fun G' H' x j' => j'.sub.sqt (x.sqt h1)
      refine ⟨a, rfl, ⟨vs, sq G1 H1 (Ex.refl _) j1⟩, kk xs Γ1 _ G1 H1 q s1 j1 e1 ⟨fun G' H' i x j' hi => ?_, fun G' H' x j' => ?_, fun G' H' i x H'' ex j' hi y => ?_⟩⟩
      · rw [← r1.length] at hi
        exact ⟨vs, vs[i], sq G' H' x j', by simp [hi]⟩
      · exact ⟨vs, sq G' H' x j', by rw [r1.length]; exact Nat.le_refl _⟩
      · obtain ⟨rfl, y⟩ := y
        have q1 := y vs (sq G' H'' ex j')
        obtain ⟨d, hd, hr⟩ := r1.getV q1
        exact ⟨G', d, hd, j'.enter, hr.mono ex⟩
/-- range(n) -/
def rg (n : Nat) : List D := (List.range n).map fun i => D.int (i : Nat)
def rgAt (lo : Int) (n : Nat) : List D := (List.range n).map fun i => D.int (lo + (i : Nat))
theorem its_range {G : Hp} {lo : Int} {n : Nat} : Its Z G (Itr lo n) (rgAt lo n) where
  go := fun G' H' i x j' hi => by show i < n; simpa [rgAt] using hi
  stop := fun G' H' x j' => by show n ≤ _; simp [rgAt]
  yld := fun G' H' i x H'' ex j' hi y => by
    obtain ⟨rfl, rfl⟩ := y
    refine ⟨G', .int (lo + i), ?_, j'.enter, .int _⟩
    have : i < n := by simpa [rgAt] using hi
    simp [rgAt, this]
theorem deni_rng1 {Q : List D → List B → Prop} (h : DenA Z tr Γ fun xs Γ1 => ∃ n : Int, xs = [.int n] ∧ n < 2 ^ 62 ∧ -(2 ^ 62) ≤ n ∧ Q (rgAt 0 n.toNat) Γ1) : DenI Z (iRng1 tr) Γ Q := fun σ G H j e k kk =>
  h σ G H j e _ fun xs Γ1 vs G1 H1 q s1 j1 e1 r1 => by
    obtain ⟨n, rfl, h1, h2, q⟩ := q
    cases r1 with
    | cons a b => cases b; cases a; exact ⟨n, rfl, h2, h1, kk _ Γ1 _ G1 H1 q s1 j1 e1 its_range⟩
theorem deni_rng2 {Q : List D → List B → Prop} (h : DenA Z tr Γ fun xs Γ1 => ∃ n m : Int, xs = [.int n, .int m] ∧ (-(2 ^ 62) ≤ n ∧ n < 2 ^ 62 ∧ -(2 ^ 62) ≤ m ∧ m < 2 ^ 62) ∧ Q (rgAt n (m - n).toNat) Γ1) : DenI Z (iRng2 tr) Γ Q := fun σ G H j e k kk =>
  h σ G H j e _ fun xs Γ1 vs G1 H1 q s1 j1 e1 r1 => by
    obtain ⟨n, m, rfl, h1, q⟩ := q
    cases r1 with
    | cons a b => cases b with
      | cons b c => cases a; cases b; cases c; exact ⟨n, m, rfl, h1, kk _ Γ1 _ G1 H1 q s1 j1 e1 its_range⟩
theorem dens_for {wi : TI} {g : TG} {tb : TS} (h : DenI Z wi Γ fun ds Γ1 => ∃ Iv : Nat → List B → Prop, Iv 0 Γ1 ∧
    (∀ (i : Nat) d Γ2, ds[i]? = some d → Iv i Γ2 → DenG Z g d Γ2 fun Γ3 => DenS Z tb Γ3 ⟨Iv (i + 1), P.R, P.N, Iv (i + 1)⟩) ∧ ∀ Γ2, Iv ds.length Γ2 → P.N Γ2) : DenS Z (tFor wi g tb) Γ P := fun σ G H j e De d =>
  h σ G H j e _ fun ds Γ1 Jt G1 H1 q s1 j1 e1 it => by
    obtain ⟨Iv, h0, hs, hd⟩ := q
    refine ⟨fun i m σ H => m = ds.length - i ∧ i ≤ ds.length ∧ ∃ Γ2 G2, Iv i Γ2 ∧ Ex G1 G2 ∧ J Z G2 H ∧ En Z G2 H σ Γ2, ⟨ds.length, by simp, Nat.zero_le _, Γ1, G1, h0, Ex.refl _, j1, e1⟩, ?_⟩
    rintro i m σ2 H2 ⟨rfl, hi, Γ2, G2, iv, x2, j2, e2⟩
    by_cases hlt : i < ds.length
    · refine .inr ⟨it.go G2 H2 i x2 j2 hlt, fun σ H => ∃ Γ2 G2, Iv (i + 1) Γ2 ∧ Ex G1 G2 ∧ J Z G2 H ∧ En Z G2 H σ Γ2, fun σ' H' z => ⟨ds.length - (i + 1), by omega, rfl, hlt, z⟩, fun x H' y => ?_⟩
      obtain ⟨G3, dd, hdd, i3, r3⟩ := it.yld G2 H2 i x H' x2 j2 hlt y
      have j3 := j2.leave i3
      exact hs i dd Γ2 hdd iv σ2 G3 H' x j3 (e2.called j2.toJ0 i3.toJ0) r3 _ fun Γ3 σ3 q3 e3 => q3 σ3 G3 H' j3 e3 _
        ⟨fun Γ4 σ4 G4 H4 a x4 j4 e4 => ⟨Γ4, G4, a, (x2.trans i3.g0).trans x4, j4, e4⟩,
         fun z v G4 H4 a x4 j4 r4 => d.r z v G4 H4 a (((s1.ex.trans x2).trans i3.g0).trans x4) j4 r4,
         fun Γ4 σ4 G4 H4 a x4 j4 e4 => d.n Γ4 σ4 G4 H4 a (((s1.ex.trans x2).trans i3.g0).trans x4) j4 e4,
         fun Γ4 σ4 G4 H4 a x4 j4 e4 => ⟨Γ4, G4, a, (x2.trans i3.g0).trans x4, j4, e4⟩⟩
    · have ei : i = ds.length := by omega
      subst ei
      exact .inl ⟨it.stop G2 H2 x2 j2, d.n Γ2 σ2 G2 H2 (hd Γ2 iv) (s1.ex.trans x2) j2 e2⟩
end
end Ab
namespace Ab
open PySem L2
def Off (ws : List Nat) (σ σ' : L2.St) : Prop := σ'.length = σ.length ∧ ∀ k : Nat, k ∉ ws → σ'[k]? = σ[k]?
theorem Off.refl {ws : List Nat} {σ : L2.St} : Off ws σ σ := ⟨rfl, fun _ _ => rfl⟩
theorem Off.trans {ws : List Nat} {σ σ1 σ2 : L2.St} (a : Off ws σ σ1) (b : Off ws σ1 σ2) : Off ws σ σ2 := ⟨b.1.trans a.1, fun k h => (b.2 k h).trans (a.2 k h)⟩
def GOff (g : TG) (ws : List Nat) : Prop := ∀ v σ H k, g v σ H k → g v σ H (fun σ' H' => k σ' H' ∧ Off ws σ σ')
def GsOff (g : TGs) (ws : List Nat) : Prop := ∀ v σ H k, g v σ H k → g v σ H (fun σ' H' => k σ' H' ∧ Off ws σ σ')
theorem goff_name {i : Nat} {ws : List Nat} (h : i ∈ ws) : GOff (gName i) ws := fun v σ H k q => ⟨q, by
  refine ⟨List.length_set, fun m hm => ?_⟩
  have : i ≠ m := fun z => hm (z ▸ h)
  exact List.getElem?_set_ne this⟩
theorem goff_tup {K n} {t : TGs} {ws : List Nat} (h : GsOff t ws) : GOff (gTup K n t) ws := fun v σ H k q => by
  obtain ⟨a, xs, h1, h2, h3, h4⟩ := q
  exact ⟨a, xs, h1, h2, h3, h _ _ _ _ h4⟩
theorem gsoff_nil {ws : List Nat} : GsOff gNil ws := fun v σ H k q => ⟨q.1, q.2, .refl⟩
theorem GOff.imp {t : TG} {ws : List Nat} (h : GOff t ws) (mono : ∀ v σ H (k k' : L2.St → Hp → Prop), (∀ σ' H', k σ' H' → k' σ' H') → t v σ H k → t v σ H k') {v σ H} {k k' : L2.St → Hp → Prop} (q : t v σ H k) (w : ∀ σ' H', Off ws σ σ' → k σ' H' → k' σ' H') : t v σ H k' :=
  mono v σ H _ k' (fun σ' H' z => w σ' H' z.2 z.1) (h v σ H k q)
def GMono (t : TG) : Prop := ∀ v σ H (k k' : L2.St → Hp → Prop), (∀ σ' H', k σ' H' → k' σ' H') → t v σ H k → t v σ H k'
def GsMono (t : TGs) : Prop := ∀ v σ H (k k' : L2.St → Hp → Prop), (∀ σ' H', k σ' H' → k' σ' H') → t v σ H k → t v σ H k'
theorem gmono_name {i : Nat} : GMono (gName i) := fun _ _ _ _ _ w q => w _ _ q
theorem gmono_tup {K n} {t : TGs} (h : GsMono t) : GMono (gTup K n t) := fun v σ H k k' w q => by
  obtain ⟨a, xs, h1, h2, h3, h4⟩ := q
  exact ⟨a, xs, h1, h2, h3, h _ _ _ _ _ w h4⟩
theorem gsmono_nil : GsMono gNil := fun v σ H k k' w q => ⟨q.1, w _ _ q.2⟩
theorem gsmono_cons {t : TG} {u : TGs} (h1 : GMono t) (h2 : GsMono u) : GsMono (gCons t u) := fun v σ H k k' w q => by
  obtain ⟨x, r, e, q⟩ := q
  exact ⟨x, r, e, h1 _ _ _ _ _ (fun _ _ z => h2 _ _ _ _ _ w z) q⟩
theorem gsoff_cons {t : TG} {u : TGs} {ws : List Nat} (h1 : GOff t ws) (m1 : GMono t) (h2 : GsOff u ws) (m2 : GsMono u) : GsOff (gCons t u) ws := fun v σ H k q => by
  obtain ⟨x, r, e, q⟩ := q
  refine ⟨x, r, e, h1.imp m1 q fun σ1 H1 o1 z => ?_⟩
  exact m2 _ _ _ _ _ (fun σ2 H2 y => ⟨y.1, o1.trans y.2⟩) (h2 _ _ _ _ z)
def wipeB (Γ : List B) : List Nat → List B
  | [] => Γ
  | v :: vs => (wipeB Γ vs).set v .un
theorem wipeB_len (Γ : List B) : ∀ vs, (wipeB Γ vs).length = Γ.length
  | [] => rfl
  | v :: vs => by unfold wipeB; rw [List.length_set, wipeB_len Γ vs]
theorem wipeB_out (Γ : List B) : ∀ {vs : List Nat} {k : Nat}, k ∉ vs → (wipeB Γ vs)[k]? = Γ[k]?
  | [], _, _ => rfl
  | v :: vs, k, h => by
    unfold wipeB
    have hne : v ≠ k := fun z => h (by rw [z]; exact List.mem_cons_self)
    rw [List.getElem?_set_ne hne, wipeB_out Γ fun z => h (List.mem_cons_of_mem _ z)]
theorem wipeB_in (Γ : List B) : ∀ {vs : List Nat} {k : Nat}, k ∈ vs → ¬ IsOwn (wipeB Γ vs)[k]?
  | v :: vs, k, h => by
    unfold wipeB
    by_cases e : v = k
    · subst e
      by_cases hk : v < (wipeB Γ vs).length
      · rw [List.getElem?_set_self hk]; exact fun z => z
      · rw [List.getElem?_eq_none (by rw [List.length_set]; omega)]; exact fun z => z
    · rw [List.getElem?_set_ne e]
      exact wipeB_in Γ ((List.mem_cons.mp h).resolve_left fun z => e z.symm)
theorem wipe_out' (σ : L2.St) : ∀ {vs : List Nat} {k : Nat}, k ∉ vs → (wipe σ vs)[k]? = σ[k]?
  | [], _, _ => rfl
  | v :: vs, k, h => by
    show ((wipe σ vs).set v none)[k]? = _
    have hne : v ≠ k := fun z => h (by rw [z]; exact List.mem_cons_self)
    rw [List.getElem?_set_ne hne, wipe_out' σ fun z => h (List.mem_cons_of_mem _ z)]
theorem wipe_in' (σ : L2.St) : ∀ {vs : List Nat} {k : Nat}, k ∈ vs → k < σ.length → (wipe σ vs)[k]? = some none
  | v :: vs, k, h, hk => by
    show ((wipe σ vs).set v none)[k]? = _
    by_cases e : v = k
    · subst e; exact List.getElem?_set_self (by rw [wipe_length]; exact hk)
    · rw [List.getElem?_set_ne e]
      exact wipe_in' σ ((List.mem_cons.mp h).resolve_left fun z => e z.symm) hk
theorem wipe_off {vs : List Nat} {σ σ2 : L2.St} (o : Off vs (wipe σ vs) σ2) : wipe σ2 vs = wipe σ vs := by
  have hl : σ2.length = σ.length := by rw [o.1, wipe_length]
  refine List.ext_getElem? fun k => ?_
  by_cases h : k ∈ vs
  · by_cases hk : k < σ.length
    · rw [wipe_in' σ h hk, wipe_in' σ2 h (by omega)]
    · rw [List.getElem?_eq_none (by rw [wipe_length]; omega), List.getElem?_eq_none (by rw [wipe_length]; omega)]
  · rw [wipe_out' σ2 h, o.2 k h]
theorem En.wipe {Z : Cz} {G H : Hp} {σ : L2.St} {Γ : List B} (e : En Z G H σ Γ) : ∀ vs : List Nat, En Z G H (L2.wipe σ vs) (wipeB Γ vs)
  | [] => e
  | v :: vs => (e.wipe vs).un (fun k hk => List.getElem?_set_ne hk.symm) List.length_set
theorem En.restore {Z : Cz} {G H G' H' : Hp} {σ : L2.St} {Γ : List B} {vs : List Nat} (e : En Z G H σ Γ) (x : Ex G G') (e2 : En Z G' H' (L2.wipe σ vs) (wipeB Γ vs)) (no : ∀ i ∈ vs, ¬ IsOwn Γ[i]?) : En Z G' H' σ Γ where
  len := e.len
  at_ := fun i b q => by
    by_cases h : i ∈ vs
    · obtain ⟨v, h1, h2⟩ := e.at_ i b q
      refine ⟨v, h1, h2.mono x fun l o _ _ _ _ o5 => ?_⟩
      exact absurd (by rw [q]; exact o5) (no i h)
    · obtain ⟨v, h1, h2⟩ := e2.at_ i b (by rw [wipeB_out Γ h]; exact q)
      rw [wipe_out' σ h] at h1
      exact ⟨v, h1, h2⟩
  dis := e.dis
theorem Sp1.conv {Z : Cz} {σ σ2 : L2.St} {Γ1 Γ2 : List B} {G H G' H' : Hp} (s : Sp1 Z σ2 Γ2 Γ2 G H G' H') (w : ∀ i : Nat, IsOwn Γ2[i]? → IsOwn Γ1[i]? ∧ σ2[i]? = σ[i]?) : Sp1 Z σ Γ1 Γ1 G H G' H' :=
  ⟨s.ex, fun _ h => h, fun a o ha n z => s.fr a o ha n fun i o => by rw [(w i o).2]; exact z i (w i o).1, s.tr⟩
section
variable {Z : Cz} {Γ : List B} {te ta tb tc : TE} {tt tu : TT} {tr : TA} {P : Po}
theorem denl_lc {wi : TI} {g : TG} {vs : List Nat} {Q : List D → List B → Prop} (hg : GOff g vs) (hm : GMono g)
    (h : DenI Z wi Γ fun ds Γ1 => (∀ i ∈ vs, ¬ IsOwn Γ1[i]?) ∧ ds.length < 100000 ∧ ∃ Iv : Nat → List D → Prop, Iv 0 [] ∧
      (∀ (i : Nat) d acc, ds[i]? = some d → acc.length ≤ i → Iv i acc → DenG Z g d (wipeB Γ1 vs) fun Γ2 => wipeB Γ2 vs = wipeB Γ1 vs ∧ (∀ i ∈ vs, ¬ IsOwn Γ2[i]?) ∧
        DenT Z tt Γ2 fun b Γ3 => Γ3 = Γ2 ∧ if b = true then Den Z te Γ2 fun y Γ4 => Γ4 = Γ2 ∧ Iv (i + 1) (acc ++ [y]) else Iv (i + 1) acc) ∧
      ∀ acc, acc.length ≤ ds.length → Iv ds.length acc → Q acc Γ1) : DenL Z (tLc wi g tt te vs) Γ Q := fun σ G H j e k kk =>
  h σ G H j e _ fun ds Γ1 Jt G1 H1 q s1 j1 e1 it C hC => by
    obtain ⟨no, hlen, Iv, h0, hs, hd⟩ := q
    have eg := e1.wipe vs
    have hg1 : G1 C = none := j1.sub.back hC
    have hz : Z.H0 C = none := j1.old hC
    have nd1 : ∀ i : Nat, IsOwn Γ1[i]? → σ[i]? ≠ some (some (.ref C)) := fun i o => e1.noown hC i o
    have fresh0 : ∀ {a : Addr} {o : HO}, H1 a = some o → a ≠ C := fun ha => ne_of_none ha hC
    refine ⟨fun i m H => m = ds.length - i ∧ i ≤ ds.length ∧ ∃ acc ds' G2, Iv i ds' ∧ ds'.length ≤ i ∧ H C = some (.lst acc) ∧ Rps Z.K Z.pl G2 acc ds' ∧ G2 C = none ∧ J Z G2 H ∧ En Z G2 H (wipe σ vs) (wipeB Γ1 vs) ∧
      Ex G1 G2 ∧ (∀ a o, H1 a = some o → NotPl Z a → (∀ i : Nat, IsOwn Γ1[i]? → σ[i]? ≠ some (some (.ref a))) → H a = some o ∧ (G1 a = none → G2 a = none)) ∧ (∀ a o, H1 a = some o → ∃ o', H a = some o'),
      ⟨ds.length, by simp, Nat.zero_le _, [], [], G1, h0, Nat.le_refl _, upd_same, .nil, hg1, j1.put hz hg1, eg.newM hC, Ex.refl _, fun a o ha _ _ => ⟨by rw [upd_ne (fresh0 ha)]; exact ha, fun z => z⟩, fun a o ha => ⟨o, by rw [upd_ne (fresh0 ha)]; exact ha⟩⟩, ?_⟩
    rintro i m H2 ⟨rfl, hi, acc, ds', G2, iv, hl', hCl, r2, hg2, j2, e2, x2, f2, t2⟩
    by_cases hlt : i < ds.length
    · refine .inr ⟨it.go G2 H2 i x2 j2 hlt, fun H => ∃ acc ds' G2, Iv (i + 1) ds' ∧ ds'.length ≤ i + 1 ∧ H C = some (.lst acc) ∧ Rps Z.K Z.pl G2 acc ds' ∧ G2 C = none ∧ J Z G2 H ∧ En Z G2 H (wipe σ vs) (wipeB Γ1 vs) ∧
        Ex G1 G2 ∧ (∀ a o, H1 a = some o → NotPl Z a → (∀ i : Nat, IsOwn Γ1[i]? → σ[i]? ≠ some (some (.ref a))) → H a = some o ∧ (G1 a = none → G2 a = none)) ∧ (∀ a o, H1 a = some o → ∃ o', H a = some o'),
        fun H' z => ⟨ds.length - (i + 1), by omega, rfl, hlt, z⟩, fun x H' y => ?_⟩
      obtain ⟨G3, dd, hdd, i3, r3⟩ := it.yld G2 H2 i x H' x2 j2 hlt y
      have j3 := j2.leave i3
      have e3 := e2.called j2.toJ0 i3.toJ0
      have npC : NotPl Z C := fun p c e => by
        obtain ⟨_, _, _, ⟨o1, z3⟩, ⟨o2, z4⟩, _⟩ := j1.pool p c e
        exact ⟨fun z => (by rw [← z] at z3; rw [hz] at z3; cases z3), fun z => (by rw [← z] at z4; rw [hz] at z4; cases z4)⟩
      have hC3 : H' C = some (.lst acc) := i3.fr C _ hCl npC
      have hg3 : G3 C = none := i3.out C _ hCl hg2
      have f3 : Sp1 Z σ Γ1 Γ1 G2 H2 G3 H' := .of i3
      refine hg.imp hm (hs i dd ds' hdd hl' iv (wipe σ vs) G3 H' x j3 e3 r3 (fun σ2 Hx => Hx = H' ∧ ∃ Γ2, (wipeB Γ2 vs = wipeB Γ1 vs ∧ (∀ i ∈ vs, ¬ IsOwn Γ2[i]?) ∧ DenT Z tt Γ2 fun b Γ3 => Γ3 = Γ2 ∧ if b = true then Den Z te Γ2 fun y Γ4 => Γ4 = Γ2 ∧ Iv (i + 1) (ds' ++ [y]) else Iv (i + 1) ds') ∧ En Z G3 H' σ2 Γ2) fun Γ2 σ2 q3 e4 => ⟨rfl, Γ2, q3, e4⟩) fun σ2 Hx off ⟨ex, Γ2, ⟨w1, w2, q3⟩, e4⟩ => ?_
      subst ex
      refine ⟨wipe_off off, ?_⟩
      have same : ∀ k : Nat, k ∉ vs → σ2[k]? = σ[k]? := fun k hk => by rw [off.2 k hk, wipe_out' σ hk]
      have own2 : ∀ k : Nat, IsOwn Γ2[k]? → k ∉ vs ∧ IsOwn Γ1[k]? := fun k o => by
        have hk : k ∉ vs := fun z => w2 k z o
        refine ⟨hk, ?_⟩
        have : Γ2[k]? = Γ1[k]? := by rw [← wipeB_out Γ2 hk, w1, wipeB_out Γ1 hk]
        rw [← this]; exact o
      have cv : ∀ {G H G' H'}, Sp1 Z σ2 Γ2 Γ2 G H G' H' → Sp1 Z σ Γ1 Γ1 G H G' H' := fun s => s.conv fun k o => ⟨(own2 k o).2, same k (own2 k o).1⟩
      have nd2 : ∀ k : Nat, IsOwn Γ2[k]? → σ2[k]? ≠ some (some (.ref C)) := fun k o => by
        rw [same k (own2 k o).1]; exact nd1 k (own2 k o).2
      have back : ∀ {G H}, En Z G H σ2 Γ2 → En Z G H (wipe σ vs) (wipeB Γ1 vs) := fun e => by
        have z := e.wipe vs
        rw [w1, wipe_off off] at z; exact z
      refine q3 σ2 G3 _ j3 e4 _ fun b Γ3 G4 H4 q4 s4 j4 e5 => ?_
      obtain ⟨rfl, q4⟩ := q4
      obtain ⟨hC4, hg4⟩ := s4.fr C _ hC3 npC nd2
      have f4 : Sp1 Z σ Γ1 Γ1 G2 H2 G4 H4 := f3.trans (cv s4)
      cases b with
      | false =>
        refine ⟨acc, ds', G4, q4, by omega, hC4, r2.mono f4.ex, hg4 hg3, j4, back e5, x2.trans f4.ex, fun a o ha n w => ?_, fun a o ha => ?_⟩
        · obtain ⟨z1, z2⟩ := f2 a o ha n w
          obtain ⟨z3, z4⟩ := f4.fr a o z1 n w
          exact ⟨z3, fun z => z4 (z2 z)⟩
        · obtain ⟨o', z⟩ := t2 a o ha
          exact f4.tr a o' z
      | true =>
        refine q4 σ2 G4 H4 j4 e5 _ fun yd Γ5 vy G5 H5 q5 s5 j5 e6 r5 => ?_
        obtain ⟨rfl, q5⟩ := q5
        obtain ⟨hC5, hg5⟩ := s5.fr C _ hC4 npC nd2
        have f5 : Sp1 Z σ Γ1 Γ1 G2 H2 G5 H5 := f4.trans (cv s5)
        have hg5' := hg5 (hg4 hg3)
        refine ⟨acc, hC5, ?_, acc ++ [vy], ds' ++ [yd], G5, q5, by simp; omega, upd_same, (r2.mono f5.ex).append (.one r5), hg5', j5.put hz hg5', ?_, x2.trans f5.ex, fun a o ha n w => ?_, fun a o ha => ?_⟩
        · rw [r2.length]; exact Nat.lt_of_lt_of_le (by omega : ds'.length < 100000) (by decide)
        · refine (back e6).mono (Ex.refl _) fun l o b1 b2 b3 ⟨n, o1, o2⟩ => ?_
          have hn : n ∉ vs := fun z => wipeB_in Γ1 z o1
          rw [wipeB_out Γ1 hn] at o1
          rw [wipe_out' σ hn] at o2
          have : l ≠ C := fun z => nd1 n o1 (by rw [o2, z])
          rw [upd_ne this]; exact ⟨b1, b2⟩
        · obtain ⟨z1, z2⟩ := f2 a o ha n w
          obtain ⟨z3, z4⟩ := f5.fr a o z1 n w
          exact ⟨by rw [upd_ne (fresh0 ha)]; exact z3, fun z => z4 (z2 z)⟩
        · obtain ⟨o', z⟩ := t2 a o ha
          obtain ⟨o'', z'⟩ := f5.tr a o' z
          exact ⟨o'', by rw [upd_ne (fresh0 ha)]; exact z'⟩
    · have ei : i = ds.length := by omega
      subst ei
      have e9 := e1.restore x2 e2 no
      exact .inl ⟨it.stop G2 H2 x2 j2, kk ds' Γ1 C acc G2 H2 (hd ds' hl' iv) (s1.trans ⟨x2, fun _ h => h, f2, t2⟩) j2 e9 hCl r2 ⟨hg2, hz, nd1⟩ (s1.back hC)⟩
end
end Ab
namespace Ab
open PySem L2
section
variable {Z : Cz} {Γ : List B} {te ta tb tc : TE} {tt tu : TT} {tr : TA} {P : Po}
theorem opd_i0 {f : Int → Int → Int} {i j : Int} {Q : D → Prop} (q : Q (.int (f i j))) : OpD Z (rI0 fun i j => .int (f i j)) (.int i) (.int j) Q := fun G H vx vy jj rx ry k kk => by
  cases rx; cases ry; exact ⟨i, j, rfl, rfl, kk _ _ G H q jj.enter (.int _)⟩
theorem opd_b0 {f : Int → Int → Bool} {i j : Int} {Q : D → Prop} (q : Q (.bl (f i j))) : OpD Z (rI0 fun i j => .bl (f i j)) (.int i) (.int j) Q := fun G H vx vy jj rx ry k kk => by
  cases rx; cases ry; exact ⟨i, j, rfl, rfl, kk _ _ G H q jj.enter (.bl _)⟩
theorem opd_ic {C : Int → Int → Prop} {f : Int → Int → Int} {i j : Int} {Q : D → Prop} (c : C i j) (q : Q (.int (f i j))) : OpD Z (rI C fun i j => .int (f i j)) (.int i) (.int j) Q := fun G H vx vy jj rx ry k kk => by
  cases rx; cases ry; exact ⟨i, j, rfl, rfl, c, kk _ _ G H q jj.enter (.int _)⟩
theorem und_i {f : Int → Int} {i : Int} {Q : D → Prop} (q : Q (.int (f i))) : UnD Z (rU fun i => .int (f i)) (.int i) Q := fun G H vx jj rx k kk => by
  cases rx; exact ⟨i, rfl, kk _ _ G H q jj.enter (.int _)⟩
/-- == of two scalars: ints, flags, texts, None (no flag beside an int) -/
theorem opd_eqI {i j : Int} {Q : D → Prop} (q : Q (.bl (decide (i = j)))) : OpD Z rEq (.int i) (.int j) Q := fun G H vx vy jj rx ry k kk => by
  cases rx; cases ry
  exact ⟨rfl, by rw [show decide (V.int i = V.int j) = decide (i = j) by simp]; exact kk _ _ G H q jj.enter (.bl _)⟩
theorem opd_neI {i j : Int} {Q : D → Prop} (q : Q (.bl (!decide (i = j)))) : OpD Z rNe (.int i) (.int j) Q := fun G H vx vy jj rx ry k kk => by
  cases rx; cases ry
  exact ⟨rfl, by rw [show decide (V.int i = V.int j) = decide (i = j) by simp]; exact kk _ _ G H q jj.enter (.bl _)⟩
theorem opd_eqS {i j : Str} {Q : D → Prop} (q : Q (.bl (decide (i = j)))) : OpD Z rEq (.str i) (.str j) Q := fun G H vx vy jj rx ry k kk => by
  cases rx; cases ry
  exact ⟨rfl, by rw [show decide (V.str i = V.str j) = decide (i = j) by simp]; exact kk _ _ G H q jj.enter (.bl _)⟩
theorem opd_neS {i j : Str} {Q : D → Prop} (q : Q (.bl (!decide (i = j)))) : OpD Z rNe (.str i) (.str j) Q := fun G H vx vy jj rx ry k kk => by
  cases rx; cases ry
  exact ⟨rfl, by rw [show decide (V.str i = V.str j) = decide (i = j) by simp]; exact kk _ _ G H q jj.enter (.bl _)⟩
theorem opd_eqB {i j : Bool} {Q : D → Prop} (q : Q (.bl (decide (i = j)))) : OpD Z rEq (.bl i) (.bl j) Q := fun G H vx vy jj rx ry k kk => by
  cases rx; cases ry
  exact ⟨rfl, by rw [show decide (V.bl i = V.bl j) = decide (i = j) by simp]; exact kk _ _ G H q jj.enter (.bl _)⟩
theorem opd_neB {i j : Bool} {Q : D → Prop} (q : Q (.bl (!decide (i = j)))) : OpD Z rNe (.bl i) (.bl j) Q := fun G H vx vy jj rx ry k kk => by
  cases rx; cases ry
  exact ⟨rfl, by rw [show decide (V.bl i = V.bl j) = decide (i = j) by simp]; exact kk _ _ G H q jj.enter (.bl _)⟩
mutual
def pyD : D → PyData
  | .non => .none | .bl b => .bool b | .int i => .int i | .str x => .str x
  | .tup xs => .tuple (pysD xs) | .lst xs => .list (pysD xs) | _ => .none
def pysD : List D → List PyData
  | [] => []
  | x :: xs => pyD x :: pysD xs
end
mutual
def plainD : D → Bool
  | .non => true | .bl _ => true | .int _ => true | .str _ => true
  | .tup xs => plainsD xs | .lst xs => plainsD xs | _ => false
def plainsD : List D → Bool
  | [] => true
  | x :: xs => plainD x && plainsD xs
end
mutual
theorem Rp.dp {K pl} {G H : Hp} (e : Ex G H) : ∀ {v : V} {d : D}, plainD d = true → Rp K pl G v d → Dp K H v (pyD d)
  | _, _, _, .non => by unfold pyD; exact .non
  | _, _, _, .bl b => by unfold pyD; exact .bl b
  | _, _, _, .int i => by unfold pyD; exact .int i
  | _, _, _, .str x => by unfold pyD; exact .str x
  | _, _, p, .tup h r => by unfold pyD; exact .tup ((e.sqt h)) (Rps.dp e (by unfold plainD at p; exact p) r)
  | _, _, p, .lst h r => by
    unfold pyD
    exact .lst (.inl (.inl (e _ _ h))) (Rps.dp e (by unfold plainD at p; exact p) r)
  | _, _, p, .dic _ => by unfold plainD at p; cases p
  | _, _, p, .dct _ _ => by unfold plainD at p; cases p
  | _, _, p, .xtup _ _ _ => by unfold plainD at p; cases p
  | _, _, p, .exo _ _ => by unfold plainD at p; cases p
  | _, _, p, .obj _ _ _ => by unfold plainD at p; cases p
  | _, _, p, .pool _ => by unfold plainD at p; cases p
  | _, _, p, .ty _ => by unfold plainD at p; cases p
  | _, _, p, .cls _ => by unfold plainD at p; cases p
  | _, _, p, .scr _ => by unfold plainD at p; cases p
theorem Rps.dp {K pl} {G H : Hp} (e : Ex G H) : ∀ {vs : List V} {ds : List D}, plainsD ds = true → Rps K pl G vs ds → DpAll K H vs (pysD ds)
  | _, _, _, .nil => by unfold pysD; exact .nil
  | _, _, p, .cons h r => by
    unfold plainsD at p
    have p := Bool.and_eq_true_iff.mp p
    unfold pysD; exact .cons (Rp.dp e p.1 h) (Rps.dp e p.2 r)
end
theorem opd_eqD {x y : D} {Q : D → Prop} (px : plainD x = true) (py : plainD y = true) (sx : SeqAt.shaped (pyD x) = true) (sy : SeqAt.shaped (pyD y) = true) (q : Q (.bl (PyData.eqv (pyD x) (pyD y)))) : OpD Z (rEqD Z.K) x y Q := fun G H vx vy jj rx ry k kk =>
  ⟨_, _, rx.dp jj.sub px, ry.dp jj.sub py, sx, sy, kk _ _ G H q jj.enter (.bl _)⟩
theorem opd_neD {x y : D} {Q : D → Prop} (px : plainD x = true) (py : plainD y = true) (sx : SeqAt.shaped (pyD x) = true) (sy : SeqAt.shaped (pyD y) = true) (q : Q (.bl (!PyData.eqv (pyD x) (pyD y)))) : OpD Z (rNeD Z.K) x y Q := fun G H vx vy jj rx ry k kk =>
  ⟨_, _, rx.dp jj.sub px, ry.dp jj.sub py, sx, sy, kk _ _ G H q jj.enter (.bl _)⟩
theorem Rps.nil_iff {K pl} {G : Hp} {vs : List V} {ds : List D} (r : Rps K pl G vs ds) : vs = [] ↔ ds = [] := by
  cases r <;> simp
theorem opd_cat {xs ys : List D} {Q : D → Prop} (hz : xs.length + ys.length ≤ 100000) (q : Q (.tup (xs ++ ys))) : OpD Z (rCatA Z.K) (.tup xs) (.tup ys) Q := fun G H vx vy jj rx ry k kk => by
  cases rx with
  | @tup a vs _ h1 r1 => cases ry with
    | @tup b ws _ h2 r2 =>
      refine ⟨a, b, vs, ws, rfl, rfl, (jj.sub.sqt h1), (jj.sub.sqt h2), Nat.le_trans (by rw [r1.length, r2.length]; exact hz) (by decide), fun e => ?_, fun _ e => ?_, fun _ _ p hp => ?_⟩
      · have : xs = [] := r1.nil_iff.mp e
        subst this
        exact kk _ _ G H q jj.enter (.tup h2 r2)
      · have : ys = [] := r2.nil_iff.mp e
        subst this
        rw [List.append_nil] at q
        exact kk _ _ G H q jj.enter (.tup h1 r1)
      · have x := Ex.new (o := .tup (vs ++ ws)) (jj.sub.back hp)
        exact kk _ _ _ _ q (jj.sp hp) (.tup (SqT.of upd_same) ((r1.mono x).append (r2.mono x)))
theorem opl_cat {xs ys : List D} {Q : List D → Prop} (hz : xs.length + ys.length ≤ 100000) (q : Q (xs ++ ys)) : OpL Z rCat (.lst xs) (.lst ys) Q := fun G H vx vy jj rx ry k kk => by
  cases rx with
  | @lst a vs _ h1 r1 => cases ry with
    | @lst b ws _ h2 r2 =>
      refine ⟨a, b, vs, ws, rfl, rfl, jj.sub _ _ h1, jj.sub _ _ h2, Nat.le_trans (by rw [r1.length, r2.length]; exact hz) (by decide), fun p hp => ?_⟩
      have n := jj.sub.back hp
      exact kk _ p _ G (upd H p (.lst (vs ++ ws))) q (jj.enter.put hp n) upd_same (r1.append r2) hp n
theorem opl_rep {xs : List D} {n : Int} {Q : List D → Prop} (h1 : -(2 ^ 63) ≤ n) (h2 : n < 2 ^ 63) (hz : xs.length * n.toNat ≤ 100000) (q : Q (List.replicate n.toNat xs).flatten) : OpL Z rRep (.lst xs) (.int n) Q := fun G H vx vy jj rx ry k kk => by
  cases rx with
  | @lst a vs _ g1 r1 =>
    cases ry
    refine ⟨a, n, vs, rfl, rfl, jj.sub _ _ g1, h1, h2, Nat.le_trans (by rw [r1.length]; exact hz) (by decide), fun p hp => ?_⟩
    have m := jj.sub.back hp
    exact kk _ p _ G (upd H p (.lst (List.replicate n.toNat vs).flatten)) q (jj.enter.put hp m) upd_same (r1.flat _) hp m
theorem atI_map {ds : List D} {vs : List V} {i : Int} {d : D} {K pl} {G : Hp} (r : Rps K pl G vs ds) (h : atI ds i = some d) : ∃ v, atI vs i = some v ∧ Rp K pl G v d := by
  unfold atI at h ⊢
  rw [r.length]
  cases e : ixN ds.length i with
  | none => rw [e] at h; cases h
  | some j =>
    rw [e] at h
    exact r.get h
theorem opd_ixT {xs : List D} {i : Int} {d : D} {Q : D → Prop} (h : atI xs i = some d) (q : Q d) : OpD Z (rIx Z.K) (.tup xs) (.int i) Q := fun G H vx vy jj rx ry k kk => by
  cases rx with
  | @tup a vs _ h1 r1 =>
    cases ry
    obtain ⟨v, hv, hr⟩ := atI_map r1 h
    exact .inr (.inl ⟨a, vs, i, v, rfl, rfl, (jj.sub.sqt h1), hv, kk _ _ G H q jj.enter hr⟩)
theorem opd_ixL {xs : List D} {i : Int} {d : D} {Q : D → Prop} (h : atI xs i = some d) (q : Q d) : OpD Z (rIx Z.K) (.lst xs) (.int i) Q := fun G H vx vy jj rx ry k kk => by
  cases rx with
  | @lst a vs _ h1 r1 =>
    cases ry
    obtain ⟨v, hv, hr⟩ := atI_map r1 h
    have s : SqL Z.K H a vs := .inl (.inl (jj.sub _ _ h1))
    exact .inl ⟨a, vs, i, v, rfl, rfl, s, hv, kk _ _ G H q jj.enter hr⟩
/-- a list of one's own, read by its place -/
theorem den_ixO {m : Nat} {xs : List D} {Q : D → List B → Prop} (hm : Γ[m]? = some (.own xs)) (h : Den Z tb Γ fun y Γ1 => ∃ xs', Γ1[m]? = some (.own xs') ∧ ∃ i d, y = .int i ∧ atI xs' i = some d ∧ Q d Γ1) : Den Z (tOp (rIx Z.K) (tVar m) tb) Γ Q := fun σ G H j e k kk => by
  obtain ⟨v, h1, l, vs, h2, h3, h4, h5, h6⟩ := e.at_ m _ hm
  subst h2
  refine ⟨.ref l, h1, h σ G H j e _ fun y Γ1 vy G1 H1 q s1 j1 e1 r1 => ?_⟩
  obtain ⟨xs', hm1, i, d, rfl, hd, q⟩ := q
  obtain ⟨v', h1', l', vs', h2', h3', h4', h5', h6'⟩ := e1.at_ m _ hm1
  subst h2'
  rw [h1] at h1'
  cases h1'
  cases r1
  obtain ⟨v, hv, hr⟩ := atI_map h4' hd
  exact .inl ⟨l, vs', i, v, rfl, rfl, SqL.of h3', hv, kk d Γ1 v G1 H1 q s1 j1 e1 hr⟩
def DenO (Z : Cz) (to : TO) (Γ : List B) (Q : Option Int → List B → Prop) : Prop :=
  ∀ (σ : L2.St) (G H : Hp), J Z G H → En Z G H σ Γ → ∀ k : Option Int → Hp → Prop, (∀ o Γ' G' H', Q o Γ' → Sp1 Z σ Γ Γ' G H G' H' → J Z G' H' → En Z G' H' σ Γ' → k o H') → to σ H k
theorem deno_none {Q : Option Int → List B → Prop} (q : Q none Γ) : DenO Z tNoPart Γ Q := fun σ G H j e k kk => kk none Γ G H q .refl j e
theorem deno_some {Q : Option Int → List B → Prop} (h : Den Z te Γ fun x Γ1 => ∃ i, x = .int i ∧ Q (some i) Γ1) : DenO Z (tPart te) Γ Q := fun σ G H j e k kk =>
  h σ G H j e _ fun x Γ1 v G1 H1 q s1 j1 e1 r1 => by
    obtain ⟨i, rfl, q⟩ := q
    cases r1
    exact ⟨i, rfl, kk _ Γ1 G1 H1 q s1 j1 e1⟩
def cutD (xs : List D) (lo hi : Option Int) : List D := (xs.drop (HT.sIx xs.length 0 lo)).take (HT.sIx xs.length xs.length hi - HT.sIx xs.length 0 lo)
theorem cut_rps {K pl} {G : Hp} {vs : List V} {ds : List D} (r : Rps K pl G vs ds) (lo hi : Option Int) : Rps K pl G (cutV vs lo hi) (cutD ds lo hi) := by
  unfold cutV cutD
  rw [r.length]
  exact (r.drop _).take _
theorem cut_whole {xs : List D} {lo hi : Option Int} (h : HT.sIx xs.length 0 lo = 0 ∧ HT.sIx xs.length xs.length hi = xs.length) : cutD xs lo hi = xs := by
  unfold cutD
  rw [h.1, h.2]
  simp
theorem den_slT {to1 to2 : TO} {Q : D → List B → Prop} (h : Den Z te Γ fun x Γ1 => ∃ xs, x = .tup xs ∧ DenO Z to1 Γ1 fun lo Γ2 => DenO Z to2 Γ2 fun hi Γ3 => Q (.tup (cutD xs lo hi)) Γ3) : Den Z (tSl (rSlA Z.K) te to1 to2) Γ Q := fun σ G H j e k kk =>
  h σ G H j e _ fun x Γ1 v G1 H1 q s1 j1 e1 r1 => by
    obtain ⟨xs, rfl, q⟩ := q
    refine q σ G1 H1 j1 e1 _ fun lo Γ2 G2 H2 q2 s2 j2 e2 => q2 σ G2 H2 j2 e2 _ fun hi Γ3 G3 H3 q3 s3 j3 e3 => ?_
    have r3 := (r1.mono s2.ex).mono s3.ex
    have s := (s1.trans s2).trans s3
    cases r3 with
    | @tup a vs _ h1 r3 =>
      refine ⟨a, vs, rfl, (j3.sub.sqt h1), fun w => ?_, fun w p hp => ?_⟩
      · rw [r3.length] at w
        have q3 : Q (.tup (cutD xs lo hi)) Γ3 := q3
        rw [cut_whole w] at q3
        exact kk _ Γ3 _ G3 H3 q3 s j3 e3 (.tup h1 r3)
      · exact kk _ Γ3 _ _ _ q3 (s.trans (.of (j3.sp hp))) (j3.new hp) (e3.new j3.toJ0 hp) (.tup (SqT.of upd_same) (cut_rps (r3.mono (Ex.new (j3.sub.back hp))) lo hi))
theorem denl_slL {to1 to2 : TO} {Q : List D → List B → Prop} (h : Den Z te Γ fun x Γ1 => ∃ xs, x = .lst xs ∧ DenO Z to1 Γ1 fun lo Γ2 => DenO Z to2 Γ2 fun hi Γ3 => Q (cutD xs lo hi) Γ3) : DenL Z (tSl (rSlL Z.K) te to1 to2) Γ Q := fun σ G H j e k kk =>
  h σ G H j e _ fun x Γ1 v G1 H1 q s1 j1 e1 r1 => by
    obtain ⟨xs, rfl, q⟩ := q
    refine q σ G1 H1 j1 e1 _ fun lo Γ2 G2 H2 q2 s2 j2 e2 => q2 σ G2 H2 j2 e2 _ fun hi Γ3 G3 H3 q3 s3 j3 e3 => ?_
    have r3 := (r1.mono s2.ex).mono s3.ex
    have s := (s1.trans s2).trans s3
    cases r3 with
    | @lst a vs _ h1 r3 =>
      have sq : SqL Z.K H3 a vs := .inl (.inl (j3.sub _ _ h1))
      refine ⟨a, vs, rfl, sq, fun p hp => ?_⟩
      have n := j3.sub.back hp
      refine kk _ Γ3 p _ G3 (upd H3 p (.lst (cutV vs lo hi))) q3 (s.trans ⟨Ex.refl _, fun _ h => h, fun a o ha _ _ => ⟨?_, fun z => z⟩, fun a o ha => ⟨o, ?_⟩⟩) (j3.put (j3.old hp) n) (e3.newM hp) upd_same (cut_rps r3 lo hi) ⟨n, j3.old hp, fun i o => e3.noown hp i o⟩ (s.back hp)
      · rw [upd_ne (ne_of_none ha hp)]; exact ha
      · rw [upd_ne (ne_of_none ha hp)]; exact ha
abbrev rLen (K : PySem.W.Frag) : List V → Hp → VK → Prop := fun xs H Q => ∃ x n, xs = [x] ∧ LenV K x H n ∧ Q (.int n) H
theorem cad_lenT {xs : List D} {Q : D → Prop} (q : Q (.int xs.length)) : CaD Z (rLen Z.K) [.tup xs] Q := fun G H vs jj r k kk => by
  cases r with
  | cons a b =>
    cases b
    cases a with
    | @tup a ws _ h1 r1 => exact ⟨.ref a, xs.length, rfl, .inr ⟨ws, (jj.sub.sqt h1), r1.length.symm⟩, kk _ _ G H q jj.enter (.int _)⟩
theorem cad_lenL {xs : List D} {Q : D → Prop} (q : Q (.int xs.length)) : CaD Z (rLen Z.K) [.lst xs] Q := fun G H vs jj r k kk => by
  cases r with
  | cons a b =>
    cases b
    cases a with
    | @lst a ws _ h1 r1 =>
      exact ⟨.ref a, xs.length, rfl, .inl ⟨ws, .inl (.inl (jj.sub _ _ h1)), r1.length.symm⟩, kk _ _ G H q jj.enter (.int _)⟩
theorem den_lenO {m : Nat} {xs : List D} {Q : D → List B → Prop} (hm : Γ[m]? = some (.own xs)) (q : Q (.int xs.length) Γ) : Den Z (tCB (rLen Z.K) (tCons (tVar m) tNil)) Γ Q := fun σ G H j e k kk => by
  obtain ⟨v, h1, l, vs, h2, h3, h4, h5, h6⟩ := e.at_ m _ hm
  subst h2
  exact ⟨.ref l, h1, .ref l, xs.length, rfl, .inl ⟨vs, SqL.of h3, h4.length.symm⟩, kk _ Γ _ G H q .refl j e (.int _)⟩
abbrev rAbs : List V → Hp → VK → Prop := fun xs H Q => ∃ i, xs = [.int i] ∧ Q (.int (if i < 0 then -i else i)) H
theorem cad_abs {i : Int} {Q : D → Prop} (q : Q (.int (if i < 0 then -i else i))) : CaD Z rAbs [.int i] Q := fun G H vs jj r k kk => by
  cases r with
  | cons a b => cases b; cases a; exact ⟨i, rfl, kk _ _ G H q jj.enter (.int _)⟩
abbrev rInt1 : List V → Hp → VK → Prop := fun xs H Q => (∃ i, xs = [.int i] ∧ Q (.int i) H) ∨ ∃ k, xs = [.bl k] ∧ Q (.int (if k then 1 else 0)) H
theorem cad_intI {i : Int} {Q : D → Prop} (q : Q (.int i)) : CaD Z rInt1 [.int i] Q := fun G H vs jj r k kk => by
  cases r with
  | cons a b => cases b; cases a; exact .inl ⟨i, rfl, kk _ _ G H q jj.enter (.int _)⟩
theorem cad_intB {b : Bool} {Q : D → Prop} (q : Q (.int (if b then 1 else 0))) : CaD Z rInt1 [.bl b] Q := fun G H vs jj r k kk => by
  cases r with
  | cons a b => cases b; cases a; exact .inr ⟨_, rfl, kk _ _ G H q jj.enter (.int _)⟩
theorem cad_gcd {i j : Int} {Q : D → Prop} (q : Q (.int (Nat.gcd i.natAbs j.natAbs : Nat))) : CaD Z rGcd [.int i, .int j] Q := fun G H vs jj r k kk => by
  cases r with
  | cons a b => cases b with
    | cons b c => cases c; cases a; cases b; exact ⟨i, j, rfl, kk _ _ G H q jj.enter (.int _)⟩
def bools : List D → Option (List Bool)
  | [] => some []
  | .bl b :: r => (bools r).map (b :: ·)
  | _ :: _ => none
theorem bools_vs {K pl} {G : Hp} : ∀ {vs : List V} {bs : List Bool}, Rps K pl G vs (bs.map D.bl) → vs = bs.map V.bl
  | _, [], .nil => rfl
  | _, b :: bs, .cons h r => by
    cases h
    rw [List.map_cons, bools_vs r]
theorem ints_vs {K pl} {G : Hp} : ∀ {vs : List V} {bs : List Int}, Rps K pl G vs (bs.map D.int) → vs = bs.map V.int
  | _, [], .nil => rfl
  | _, b :: bs, .cons h r => by
    cases h
    rw [List.map_cons, ints_vs r]
theorem Rp.sql {K pl} {G H : Hp} {v : V} {xs : List D} (e : Ex G H) (r : Rp K pl G v (.lst xs)) : ∃ a vs, v = .ref a ∧ SqL K H a vs ∧ Rps K pl G vs xs := by
  cases r with
  | @lst a ws _ h1 r1 =>
    exact ⟨a, ws, rfl, .inl (.inl (e _ _ h1)), r1⟩
theorem cad_all {bs : List Bool} {Q : D → Prop} (q : Q (.bl (bs.all id))) : CaD Z (rAll Z.K) [.lst (bs.map D.bl)] Q := fun G H vs jj r k kk => by
  cases r with
  | cons a b =>
    cases b
    obtain ⟨p, ws, rfl, s, r1⟩ := a.sql jj.sub
    have := bools_vs r1
    subst this
    exact ⟨p, bs, rfl, s, kk _ _ G H q jj.enter (.bl _)⟩
theorem cad_any {bs : List Bool} {Q : D → Prop} (q : Q (.bl (bs.any id))) : CaD Z (rAny Z.K) [.lst (bs.map D.bl)] Q := fun G H vs jj r k kk => by
  cases r with
  | cons a b =>
    cases b
    obtain ⟨p, ws, rfl, s, r1⟩ := a.sql jj.sub
    have := bools_vs r1
    subst this
    exact ⟨p, bs, rfl, s, kk _ _ G H q jj.enter (.bl _)⟩
theorem cad_sum {ns : List Int} {Q : D → Prop} (q : Q (.int ns.sum)) : CaD Z (rSum Z.K) [.lst (ns.map D.int)] Q := fun G H vs jj r k kk => by
  cases r with
  | cons a b =>
    cases b
    obtain ⟨p, ws, rfl, s, r1⟩ := a.sql jj.sub
    have := ints_vs r1
    subst this
    exact ⟨p, ns, rfl, s, kk _ _ G H q jj.enter (.int _)⟩
/-- tuple(list), list(..) -/
abbrev rTupleOf (K : PySem.W.Frag) : List V → Hp → VK → Prop := fun xs H Q => ∃ p ys, xs = [.ref p] ∧ ((SqL K H p ys ∧ ∀ l, H l = none → Q (.ref l) (upd H l (.tup ys))) ∨ (SqT K H p ys ∧ Q (.ref p) H))
theorem cad_tupleL {xs : List D} {Q : D → Prop} (q : Q (.tup xs)) : CaD Z (rTupleOf Z.K) [.lst xs] Q := fun G H vs jj r k kk => by
  cases r with
  | cons a b =>
    cases b
    obtain ⟨p, ws, rfl, s, r1⟩ := a.sql jj.sub
    exact ⟨p, ws, rfl, .inl ⟨s, fun p hp => kk _ _ _ _ q (jj.sp hp) (.tup (SqT.of upd_same) (r1.mono (Ex.new (jj.sub.back hp))))⟩⟩
theorem cad_tupleT {xs : List D} {Q : D → Prop} (q : Q (.tup xs)) : CaD Z (rTupleOf Z.K) [.tup xs] Q := fun G H vs jj r k kk => by
  cases r with
  | cons a b =>
    cases b
    cases a with
    | @tup a ws _ h1 r1 => exact ⟨a, ws, rfl, .inr ⟨(jj.sub.sqt h1), kk _ _ G H q jj.enter (.tup h1 r1)⟩⟩
theorem den_tupleO {m : Nat} {xs : List D} {Q : D → List B → Prop} (hm : Γ[m]? = some (.own xs)) (q : Q (.tup xs) Γ) : Den Z (tCB (rTupleOf Z.K) (tCons (tVar m) tNil)) Γ Q := fun σ G H j e k kk => by
  obtain ⟨v, h1, l, vs, h2, h3, h4, h5, h6⟩ := e.at_ m _ hm
  subst h2
  exact ⟨.ref l, h1, l, vs, rfl, .inl ⟨SqL.of h3, fun p hp => kk _ Γ _ (upd G p (.tup vs)) (upd H p (.tup vs)) q (.of (j.sp hp)) (j.new hp) (e.new j.toJ0 hp) (.tup (SqT.of upd_same) (h4.mono (Ex.new (j.sub.back hp))))⟩⟩
abbrev rListOf (K : PySem.W.Frag) : List V → Hp → VK → Prop := fun xs H Q => ∃ p ys, xs = [.ref p] ∧ (SqL K H p ys ∨ SqT K H p ys) ∧ ∀ l, H l = none → Q (.ref l) (upd H l (.lst ys))
theorem cal_listL {xs : List D} {Q : List D → Prop} (q : Q xs) : CaL Z (rListOf Z.K) [.lst xs] Q := fun G H vs jj r k kk => by
  cases r with
  | cons a b =>
    cases b
    obtain ⟨p, ws, rfl, s, r1⟩ := a.sql jj.sub
    exact ⟨p, ws, rfl, .inl s, fun p hp => kk _ p _ G _ q (jj.enter.put hp (jj.sub.back hp)) upd_same r1 hp (jj.sub.back hp)⟩
theorem cal_listT {xs : List D} {Q : List D → Prop} (q : Q xs) : CaL Z (rListOf Z.K) [.tup xs] Q := fun G H vs jj r k kk => by
  cases r with
  | cons a b =>
    cases b
    cases a with
    | @tup a ws _ h1 r1 => exact ⟨a, ws, rfl, .inr ((jj.sub.sqt h1)), fun p hp => kk _ p _ G _ q (jj.enter.put hp (jj.sub.back hp)) upd_same r1 hp (jj.sub.back hp)⟩
def tagD : D → Option String
  | .non => some "NoneType" | .bl _ => some "bool" | .int _ => some "int" | .str _ => some "str" | .tup _ => some "tuple" | .lst _ => some "list" | .dic => some "dict" | .dct _ _ => some "dict"
  | _ => none
theorem ty_sqt {K : PySem.W.Frag} {H : Hp} {a : Addr} {xs : List V} (h : SqT K H a xs) : TyX K H (.ref a) (.type "tuple") := by
  rcases h with (h | ⟨o, h⟩) | ⟨o, its, n, h1, h2, _⟩
  · exact .base (.tup h)
  · exact .fTuple h
  · exact .kTuple h1 h2
theorem tag_ty {K pl} {G H : Hp} {v : V} {x : D} {t : String} (e : Ex G H) (h : tagD x = some t) (r : Rp K pl G v x) : TyX K H v (.type t) := by
  cases r with
  | non => cases h; exact .base .non
  | bl b => cases h; exact .base (.bl b)
  | int b => cases h; exact .base (.int b)
  | str b => cases h; exact .base (.str b)
  | tup h1 _ => cases h; exact ty_sqt (e.sqt h1)
  | lst h1 _ =>
    cases h
    exact .base (.lst (e _ _ h1))
  | dic h1 => cases h; exact .base (.dK (e _ _ h1))
  | dct h1 _ => cases h; exact .base (.dK (e _ _ h1))
  | xtup _ _ _ => cases h
  | exo _ _ => cases h
  | obj _ _ _ => cases h
  | pool _ => cases h
  | ty _ => cases h
  | cls _ => cases h
  | scr _ => cases h
theorem cad_isi {x : D} {t T : String} {b : Bool} {Q : D → Prop} (h : tagD x = some t) (hk : kitB t T = some b) (q : Q (.bl b)) : CaD Z (rIsi Z.K) [x, .ty T] Q := fun G H vs jj r k kk => by
  cases r with
  | cons a c => cases c with
    | cons c d =>
      cases d; cases c
      exact ⟨_, _, _, _, b, rfl, .ty T, tag_ty jj.sub h a, kit_ty hk, kk _ _ G H q jj.enter (.bl _)⟩
theorem den_append {m : Nat} {xs : List D} {T : String} {Q : D → List B → Prop} (hm : Γ[m]? = some (.own xs)) (hT : T = "list") (h : Den Z te Γ fun x Γ1 => ∃ xs', Γ1[m]? = some (.own xs') ∧ xs'.length < 100000 ∧ Q .non (Γ1.set m (.own (xs' ++ [x])))) :
    Den Z (tBM Z.K T rAppend (tVar m) (tCons te tNil)) Γ Q := fun σ G H j e k kk => by
  obtain ⟨v, h1, l, vs, h2, h3, h4, h5, h6⟩ := e.at_ m _ hm
  subst h2; subst hT
  refine ⟨.ref l, h1, .inl ⟨rfl, vs, SqL.of h3⟩, h σ G H j e _ fun x Γ1 vx G1 H1 q s1 j1 e1 r1 => ?_⟩
  obtain ⟨xs', hm1, hl, q⟩ := q
  obtain ⟨v', h1', l', vs', h2', h3', h4', h5', h6'⟩ := e1.at_ m _ hm1
  subst h2'
  rw [h1] at h1'
  cases h1'
  refine ⟨l, vs', vx, rfl, rfl, h3', Nat.lt_of_lt_of_le (by rw [h4'.length]; exact hl) (by decide), ?_⟩
  have om : IsOwn Γ1[m]? := by rw [hm1]; trivial
  have hmlt : m < Γ1.length := (List.getElem?_eq_some_iff.mp hm1).1
  refine kk .non _ .non G1 (upd H1 l (.lst (vs' ++ [vx]))) q (s1.trans ⟨Ex.refl _, fun i o => ?_, fun a o ha n w => ?_, fun a o ha => ?_⟩) (j1.put h6' h5') ?_ .non
  · by_cases hi : m = i
    · subst hi; exact om
    · rw [List.getElem?_set_ne hi] at o; exact o
  · have : a ≠ l := fun z => w m om (by rw [h1, z])
    rw [upd_ne this]; exact ⟨ha, fun z => z⟩
  · by_cases z : a = l
    · subst z; exact ⟨_, upd_same⟩
    · exact ⟨o, by rw [upd_ne z]; exact ha⟩
  · refine ⟨by rw [List.length_set]; exact e1.len, fun i b hb => ?_, fun i n l2 o1 o2 => ?_⟩
    · by_cases hi : m = i
      · subst hi
        rw [List.getElem?_set_self hmlt] at hb
        cases hb
        exact ⟨_, h1, l, _, rfl, upd_same, h4'.append (.one r1), h5', h6'⟩
      · rw [List.getElem?_set_ne hi] at hb
        obtain ⟨v, a1, a2⟩ := e1.at_ i b hb
        refine ⟨v, a1, a2.mono (Ex.refl _) fun l2 o b1 b2 b3 b4 b5 => ⟨?_, b2⟩⟩
        have : l2 ≠ l := fun z => hi (e1.dis m i l om (by rw [hb]; exact b5) h1 (by rw [a1, b4, z]))
        rw [upd_ne this]; exact b1
    · have ow : ∀ i : Nat, IsOwn (Γ1.set m (.own (xs' ++ [x])))[i]? → IsOwn Γ1[i]? := fun i o => by
        by_cases hi : m = i
        · subst hi; exact om
        · rw [List.getElem?_set_ne hi] at o; exact o
      exact e1.dis i n l2 (ow i o1) (ow n o2)
/-- what a list of one's own becomes when its items change -/
theorem own_put {σ : L2.St} {G1 H1 : Hp} {Γ1 : List B} {m : Nat} {xs' ys : List D} {l : Addr} {ws : List V} (e1 : En Z G1 H1 σ Γ1) (hm1 : Γ1[m]? = some (.own xs')) (h1 : σ[m]? = some (some (.ref l))) (r : Rps Z.K Z.pl G1 ws ys) :
    Sp1 Z σ Γ1 (Γ1.set m (.own ys)) G1 H1 G1 (upd H1 l (.lst ws)) ∧ En Z G1 (upd H1 l (.lst ws)) σ (Γ1.set m (.own ys)) ∧ G1 l = none ∧ Z.H0 l = none := by
  obtain ⟨v', h1', l', vs', h2', h3', h4', h5', h6'⟩ := e1.at_ m _ hm1
  subst h2'
  rw [h1] at h1'
  cases h1'
  have om : IsOwn Γ1[m]? := by rw [hm1]; trivial
  have hmlt : m < Γ1.length := (List.getElem?_eq_some_iff.mp hm1).1
  refine ⟨⟨Ex.refl _, fun i o => ?_, fun a o ha n w => ?_, fun a o ha => ?_⟩, ?_, h5', h6'⟩
  · by_cases hi : m = i
    · subst hi; exact om
    · rw [List.getElem?_set_ne hi] at o; exact o
  · have : a ≠ l := fun z => w m om (by rw [h1, z])
    rw [upd_ne this]; exact ⟨ha, fun z => z⟩
  · by_cases z : a = l
    · subst z; exact ⟨_, upd_same⟩
    · exact ⟨o, by rw [upd_ne z]; exact ha⟩
  · refine ⟨by rw [List.length_set]; exact e1.len, fun i b hb => ?_, fun i n l2 o1 o2 => ?_⟩
    · by_cases hi : m = i
      · subst hi
        rw [List.getElem?_set_self hmlt] at hb
        cases hb
        exact ⟨_, h1, l, _, rfl, upd_same, r, h5', h6'⟩
      · rw [List.getElem?_set_ne hi] at hb
        obtain ⟨v, a1, a2⟩ := e1.at_ i b hb
        refine ⟨v, a1, a2.mono (Ex.refl _) fun l2 o b1 b2 b3 b4 b5 => ⟨?_, b2⟩⟩
        have : l2 ≠ l := fun z => hi (e1.dis m i l om (by rw [hb]; exact b5) h1 (by rw [a1, b4, z]))
        rw [upd_ne this]; exact b1
    · have ow : ∀ i : Nat, IsOwn (Γ1.set m (.own ys))[i]? → IsOwn Γ1[i]? := fun i o => by
        by_cases hi : m = i
        · subst hi; exact om
        · rw [List.getElem?_set_ne hi] at o; exact o
      exact e1.dis i n l2 (ow i o1) (ow n o2)
theorem den_popAt {m : Nat} {xs : List D} {T : String} {Q : D → List B → Prop} (hm : Γ[m]? = some (.own xs)) (hT : T = "list") (h : Den Z te Γ fun x Γ1 => ∃ xs', Γ1[m]? = some (.own xs') ∧ ∃ i d, x = .int (i : Nat) ∧ xs'[i]? = some d ∧ xs'.length ≤ 100000 ∧ Q d (Γ1.set m (.own (xs'.eraseIdx i)))) :
    Den Z (tBM Z.K T rPopAt (tVar m) (tCons te tNil)) Γ Q := fun σ G H j e k kk => by
  obtain ⟨v, h1, l, vs, h2, h3, h4, h5, h6⟩ := e.at_ m _ hm
  subst h2; subst hT
  refine ⟨.ref l, h1, .inl ⟨rfl, vs, SqL.of h3⟩, h σ G H j e _ fun x Γ1 vx G1 H1 q s1 j1 e1 r1 => ?_⟩
  obtain ⟨xs', hm1, i, d, rfl, hd, hl, q⟩ := q
  obtain ⟨v', h1', l', vs', h2', h3', h4', h5', h6'⟩ := e1.at_ m _ hm1
  subst h2'
  rw [h1] at h1'
  cases h1'
  cases r1
  obtain ⟨w, hw, hr⟩ := h4'.get hd
  have hi : i < xs'.length := (List.getElem?_eq_some_iff.mp hd).1
  have hlen := h4'.length
  obtain ⟨s2, e2, g2, z2⟩ := own_put (ys := xs'.eraseIdx i) e1 hm1 h1 (h4'.eraseIdx i)
  refine ⟨l, vs', _, i, w, rfl, rfl, h3', by omega, by omega, ?_, hw, ?_⟩
  · have := (ixN_seq (n := vs'.length) (i := (i : Int)) (j := i) (by unfold ixN; rw [if_pos (by omega), if_pos (by omega)]; simp)).1
    exact this
  · exact kk d _ w G1 _ q (s1.trans s2) (j1.put z2 g2) e2 hr
theorem dens_setO {m : Nat} {xs : List D} (hm : Γ[m]? = some (.own xs)) (h : Den Z te Γ fun x Γ1 => (∃ xs', Γ1[m]? = some (.own xs')) ∧ Den Z tb Γ1 fun y Γ2 => ∃ xs', Γ2[m]? = some (.own xs') ∧ ∃ (i : Int) (n : Nat), y = .int i ∧ ixN xs'.length i = some n ∧ P.N (Γ2.set m (.own (xs'.set n x)))) :
    DenS Z (tAsg te (gSub (tVar m) tb rSetL)) Γ P := fun σ G H j e De d =>
  h σ G H j e _ fun x Γ1 vx G1 H1 q s1 j1 e1 r1 => by
    obtain ⟨⟨xs1, hm1⟩, q⟩ := q
    obtain ⟨v, h1, l, vs, h2, h3, h4, h5, h6⟩ := e1.at_ m _ hm1
    subst h2
    refine ⟨.ref l, h1, q σ G1 H1 j1 e1 _ fun y Γ2 vy G2 H2 q2 s2 j2 e2 r2 => ?_⟩
    obtain ⟨xs', hm2, i, n, rfl, hn, q2⟩ := q2
    obtain ⟨v', h1', l', vs', h2', h3', h4', h5', h6'⟩ := e2.at_ m _ hm2
    subst h2'
    rw [h1] at h1'
    cases h1'
    cases r2
    obtain ⟨s3, e3, g3, z3⟩ := own_put (ys := xs'.set n x) e2 hm2 h1 (Rps.set (r1.mono s2.ex) n h4')
    refine ⟨l, vs', i, n, rfl, rfl, h3', by rw [h4'.length]; exact hn, ?_⟩
    exact d.n _ σ G2 _ q2 (s1.ex.trans s2.ex) (j2.put z3 g3) e3
end
end Ab
namespace Ab
open PySem L2
structure FSpec where
  P : List D → Prop
  R : List D → D → Prop
  X : List D → Er → Prop := fun _ _ => False
abbrev Cz.call (K : PySem.W.Frag) (pl : Option (Addr × Addr)) (H G : Hp) : Cz := ⟨K, pl, H, G, fun _ _ _ _ => True, fun _ _ => False⟩
def spS (K : PySem.W.Frag) (n : Nat) (S : FSpec) : Sp := fun vs H Q E => ∃ pl G ds, J (Cz.call K pl H G) G H ∧ Rps K pl G vs ds ∧ ds.length = n ∧ S.P ds ∧
  (∀ d v G' H', S.R ds d → J (Cz.call K pl H G) G' H' → Rp K pl G' v d → Q v H') ∧
  (∀ er cls d G' H', S.X ds er → J (Cz.call K pl H G) G' H' → RpEr0 K pl G' cls d er → E cls d H')
theorem J0.re {Z Z' : Cz} {G H : Hp} (j : J0 Z G H) (h0 : Z'.H0 = Z.H0) (g0 : Z'.G0 = Z.G0) (p : Z'.pl = Z.pl) : J0 Z' G H := by
  obtain ⟨K, pl, H0, G0, W, X⟩ := Z
  obtain ⟨K', pl', H0', G0', W', X'⟩ := Z'
  cases h0; cases g0; cases p
  exact ⟨j.sub, j.g0, j.out, j.fr, j.pool⟩
theorem en_start {Z : Cz} {G H : Hp} {N : List Str} {vs : List V} {ds : List D} (r : Rps Z.K Z.pl G vs ds) (hl : ds.length ≤ N.length) : En Z G H (L2.start N vs) (ds.map B.d ++ List.replicate (N.length - ds.length) .un) := by
  have e := r.length
  refine ⟨by simp [L2.start, e], fun i b h => ?_, fun i j l o => ?_⟩
  · by_cases hi : i < ds.length
    · rw [List.getElem?_append_left (by simpa using hi), List.getElem?_map] at h
      cases q : ds[i]? with
      | none => rw [q] at h; cases h
      | some d =>
        rw [q] at h; cases h
        obtain ⟨v, hv, hr⟩ := r.get q
        refine ⟨some v, ?_, v, rfl, hr⟩
        unfold L2.start
        rw [List.getElem?_append_left (by simpa [e] using hi), List.getElem?_map, hv]
        rfl
    · have hi' : ds.length ≤ i := by omega
      rw [List.getElem?_append_right (by simpa using hi')] at h
      have : b = .un := by
        rw [List.getElem?_replicate] at h
        split at h
        · exact (Option.some.inj h).symm
        · cases h
      subst this
      refine ⟨none, ?_, trivial⟩
      unfold L2.start
      rw [List.getElem?_append_right (by simpa [e] using hi'), List.getElem?_replicate]
      rw [List.getElem?_replicate] at h
      split at h
      · rename_i z
        rw [if_pos (by simp [e] at z ⊢; exact z)]
      · cases h
  · exfalso
    by_cases hi : i < ds.length
    · rw [List.getElem?_append_left (by simpa using hi), List.getElem?_map] at o
      cases q : ds[i]? with
      | none => rw [q] at o; exact o.elim
      | some d => rw [q] at o; exact o.elim
    · rw [List.getElem?_append_right (by simpa using (show ds.length ≤ i by omega)), List.getElem?_replicate] at o
      split at o
      · exact o.elim
      · exact o.elim
section
variable {P : Program} {w : World} {K : PySem.W.Frag} {mg : Str → Option Value} {base : Heap}
/-- THE RULE for a def -/
theorem fn_ab {x qual : Str} {st : Stmt} {f : Addr} {fd : FuncData} {N ps : List Str} {k : Nat} (F : Fun K x qual st f fd) (Sc : FnScope N ps (defScope st)) (S : FSpec) (hl : ps.length ≤ N.length)
    (hbody : ∀ (cdv : Value) (A : Around) (outer : List PySem.Env) (s : Shared) (H : Hp) (E : XK) (ds : List D) (W : WX), Room k (A.deeper (PyProof.Rows.envOfC qual (defScope st) s.heap.objs.size f cdv)) → Takes (cxOf (L2.CX P w) P w K mg base N qual (defScope st) f cdv A outer s H E) W →
      ds.length = ps.length → S.P ds →
      ∃ t, PSs (cxOf (L2.CX P w) P w K mg base N qual (defScope st) f cdv A outer s H E) (defBody st) t ∧
        ∀ Z : Cz, Z.K = K → Z.W = W → (∀ er Γ, S.X ds er → Z.X er Γ) → DenS Z t (ds.map B.d ++ List.replicate (N.length - ds.length) .un) ⟨fun _ => S.R ds .non, S.R ds, fun _ => False, fun _ => False⟩) : FnOk P w K mg base (L2.CX P w) (k + 1) f fd ps (spS K ps.length S) := by
  refine F.okX Sc (fun vs H Q E h => ?_) (fun cdv A outer s H vs Q E hr h => ?_)
  · obtain ⟨pl, G, ds, _, r, hn, _⟩ := h
    rw [r.length, hn]
  · obtain ⟨pl, G, ds, j, r, hn, hp, hq, he⟩ := h
    obtain ⟨t, h1, h2⟩ := hbody cdv A outer s H E ds (fun cls d _ H => E cls d H) hr (takes_of rfl rfl rfl rfl) hn hp
    refine ⟨t, h1, h2 ⟨K, pl, H, G, fun cls d _ H => E cls d H, fun er _ => S.X ds er⟩ rfl rfl (fun er Γ h => h) _ G H ⟨j.toJ0.re rfl rfl rfl, fun er cls d σ G' H' Γ hx _ j' _ re => he er cls d G' H' hx ⟨j'.re rfl rfl rfl, fun _ _ _ _ _ _ _ z => z.elim⟩ re⟩ (en_start r (by omega)) _ ⟨fun Γ σ G' H' hN _ j' _ => hq .non .non G' H' hN ⟨j'.toJ0.re rfl rfl rfl, fun _ _ _ _ _ _ _ z => z.elim⟩ .non,
      fun x v G' H' hR _ j' rx => hq x v G' H' hR ⟨j'.toJ0.re rfl rfl rfl, fun _ _ _ _ _ _ _ z => z.elim⟩ rx, fun _ _ _ _ z => z.elim, fun _ _ _ _ z => z.elim⟩⟩
/-- a def, as its callers know it -/
structure Dfn (P : Program) (w : World) (K : PySem.W.Frag) (mg : Str → Option Value) (base : Heap) (x : Str) (k n : Nat) (S : FSpec) : Prop where
  ex : ∃ f fd ps, FnOk P w K mg base (L2.CX P w) k f fd ps (spS K n S) ∧ mg x = some (.ref f) ∧ PySem.W.keepIn K (.ref f) = true ∧ Binds K fd ps []
theorem Dfn.imp {x : Str} {k n : Nat} {S S' : FSpec} (c : Dfn P w K mg base x k n S) (hP : ∀ ds, S'.P ds → S.P ds) (hR : ∀ ds d, S'.P ds → S.R ds d → S'.R ds d) (hX : ∀ ds d, S'.P ds → S.X ds d → S'.X ds d) : Dfn P w K mg base x k n S' := by
  obtain ⟨f, fd, ps, h1, h2⟩ := c.ex
  refine ⟨f, fd, ps, h1.imp fun vs H Q E h => ?_, h2⟩
  obtain ⟨pl, G, ds, j, r, hn, hp, hq, he⟩ := h
  exact ⟨pl, G, ds, j, r, hn, hP ds hp, fun d v G' H' a => hq d v G' H' (hR ds d hp a), fun er cls d G' H' a => he er cls d G' H' (hX ds er hp a)⟩
end
section
variable {X : Cx} {x : Str} {e : Expr} {es : List Expr} {t : TA} {k n j : Nat} {S : FSpec} {p pos : Pos}
theorem pe_fn (c : Dfn X.prog X.w X.K X.mg X.base x k n S) (hr : Room j X.A) (hk : k ≤ j) (hg : Gl X x) (ha : PA X (e :: es) t) (hdb : (x == ("__debug__" : Str)) = false := by decide)
    (he : starEach (e :: es) X.env = (false, eval e X.env) :: starEach es X.env := by rfl) (hpl : (backTo pos (starEach es X.env)).any (·.1) = false := by rfl) : PE X (.Call (.Name x p) (e :: es) [] pos) (tCall (spS X.K n S) [] E0 t) := by
  obtain ⟨f, fd, ps, h1, h2, h3, h4⟩ := c.ex
  exact pe_call h1 (hr.mono hk) hg h2 h3 h4 .nil passL ha hdb he hpl
theorem pe_fn0 (c : Dfn X.prog X.w X.K X.mg X.base x k n S) (hr : Room j X.A) (hk : k ≤ j) (hg : Gl X x) (hdb : (x == ("__debug__" : Str)) = false := by decide)
    (hpl : (backTo pos (starEach [] X.env)).any (·.1) = false := by rfl) : PE X (.Call (.Name x p) [] [] pos) (tCall (spS X.K n S) [] E0 tNil) := by
  obtain ⟨f, fd, ps, h1, h2, h3, h4⟩ := c.ex
  exact pe_call0 h1 (hr.mono hk) hg h2 h3 h4 .nil passL hdb
theorem pe_fnX {W : WX} (tk : Takes X W) (c : Dfn X.prog X.w X.K X.mg X.base x k n S) (hr : Room j X.A) (hk : k ≤ j) (hg : Gl X x) (ha : PA X (e :: es) t) (hdb : (x == ("__debug__" : Str)) = false := by decide)
    (he : starEach (e :: es) X.env = (false, eval e X.env) :: starEach es X.env := by rfl) (hpl : (backTo pos (starEach es X.env)).any (·.1) = false := by rfl) : PE X (.Call (.Name x p) (e :: es) [] pos) (tCallS (spS X.K n S) (WE W) t) := by
  obtain ⟨f, fd, ps, h1, h2, h3, h4⟩ := c.ex
  exact pe_callS h1 (hr.mono hk) hg h2 h3 h4 (fun σ => passAt tk σ) ha hdb he hpl
end
section
variable {Z : Cz} {Γ : List B} {te ta tb tc : TE} {tt tu : TT} {tr : TA} {P : Po}
theorem call_at {G H : Hp} : Cz.call Z.K Z.pl H G = Z.at H G := rfl
theorem den_call {n : Nat} {S : FSpec} {E : XK} {Q : D → List B → Prop} (h : DenA Z tr Γ fun ds Γ1 => ds.length = n ∧ S.P ds ∧ (∀ d, S.R ds d → Q d Γ1) ∧ ∀ er, ¬ S.X ds er) : Den Z (tCall (spS Z.K n S) [] E tr) Γ Q := fun σ G H j e k kk =>
  h σ G H j e _ fun ds Γ1 vs G1 H1 q s1 j1 e1 r1 => by
    obtain ⟨hn, hp, hr, hx⟩ := q
    refine ⟨Z.pl, G1, ds, j1.enter, by rw [List.append_nil]; exact r1, hn, hp, fun d v G' H' a i r => ?_, fun er _ _ _ _ a => absurd a (hx er)⟩
    exact kk d Γ1 v G' H' (hr d a) (s1.trans (.of i)) (j1.leave i) (e1.called j1.toJ0 i.toJ0) r
/-- a call that may raise -/
theorem den_callX {n : Nat} {S : FSpec} {Q : D → List B → Prop} (h : DenA Z tr Γ fun ds Γ1 => ds.length = n ∧ S.P ds ∧ (∀ d, S.R ds d → Q d Γ1) ∧ ∀ er, S.X ds er → Z.X er Γ1) : Den Z (tCallS (spS Z.K n S) (WE Z.W) tr) Γ Q := fun σ G H j e k kk =>
  h σ G H j e _ fun ds Γ1 vs G1 H1 q s1 j1 e1 r1 => by
    obtain ⟨hn, hp, hr, hx⟩ := q
    refine ⟨Z.pl, G1, ds, j1.enter, r1, hn, hp, fun d v G' H' a i r => ?_, fun er cls d G' H' a i re => ?_⟩
    · exact kk d Γ1 v G' H' (hr d a) (s1.trans (.of i)) (j1.leave i) (e1.called j1.toJ0 i.toJ0) r
    · exact j1.acc er cls d σ G' H' Γ1 (hx er a) i.g0 (j1.leave i).toJ0 (e1.called j1.toJ0 i.toJ0) re
/-- __init__(self, f): self.f = f -/
def spXI (C : Addr) (f : Str) : Sp := fun vs H Q _ => ∃ (a : Addr) (y : V), vs = [.ref a, y] ∧ H a = some (exo a C none) ∧ ∀ dx, H dx = none → dx ≠ a → Q .non (upd (upd H dx (exd dx [(f, y)])) a (exo a C (some dx)))
/-- raise C(e) -/
theorem dens_raise {C : Addr} {f : Str} (h : Den Z te Γ fun x Γ1 => Z.X ⟨C, [f], [x]⟩ Γ1) : DenS Z (fun _ σ H => tMkO C (spXI C f) [] (tCons te tNil) σ H fun cls d H' => Z.W cls d σ H') Γ P := fun σ G H j e De d =>
  h σ G H j e _ fun x Γ1 v G1 H1 q s1 j1 e1 r1 => ⟨(by show 1 ≤ 1000; decide), fun a ha => ⟨a, v, rfl, upd_same, fun dx hd ne => by
    have hd1 : H1 dx = none := by rw [upd_ne ne] at hd; exact hd
    refine ⟨rfl, dx, [(f, v)], upd_same, by rw [upd_ne ne, upd_same], hd1, ?_⟩
    have eH : upd (del (upd (upd (upd H1 a (exo a C none)) dx (exd dx [(f, v)])) a (exo a C (some dx))) a) dx (.xd [(f, v)]) = upd H1 dx (.xd [(f, v)]) := by
      funext b
      by_cases h1 : b = dx
      · rw [h1, upd_same, upd_same]
      · rw [upd_ne h1, upd_ne h1]
        by_cases h2 : b = a
        · rw [h2, del_same, ha]
        · rw [del_ne h2, upd_ne h2, upd_ne h1, upd_ne h2]
    rw [eH]
    have j2 := j1.new (o := .xd [(f, v)]) hd1
    exact j2.acc ⟨C, [f], [x]⟩ _ _ σ _ _ Γ1 q (Ex.refl _) j2.toJ0 (e1.new j1.toJ0 hd1) ⟨rfl, .inr ⟨dx, [v], rfl, upd_same, rfl, .one (r1.mono (Ex.new (j1.sub.back hd1)))⟩⟩⟩⟩
end
end Ab
namespace Ab
open PySem L2
section
variable {Z : Cz} {Γ : List B} {te ta tb tc : TE} {tt tu : TT} {tr : TA} {P : Po}
/-- a name's slot emptied -/
def unset (Γ : List B) (i : Nat) : List B := Γ.set i .un
/-- the same state seen with other wishes of exceptions -/
abbrev Cz.wx (Z : Cz) (W : WX) (X : Er → List B → Prop) : Cz := { Z with W := W, X := X }
theorem En.wx {G H : Hp} {σ : L2.St} {W X} (e : En Z G H σ Γ) : En (Z.wx W X) G H σ Γ := ⟨e.len, fun i b h => by
  obtain ⟨v, h1, h2⟩ := e.at_ i b h
  refine ⟨v, h1, ?_⟩
  cases b <;> exact h2, e.dis⟩
theorem En.ofwx {G H : Hp} {σ : L2.St} {W X} (e : En (Z.wx W X) G H σ Γ) : En Z G H σ Γ := ⟨e.len, fun i b h => by
  obtain ⟨v, h1, h2⟩ := e.at_ i b h
  refine ⟨v, h1, ?_⟩
  cases b <;> exact h2, e.dis⟩
theorem J0.wx {G H : Hp} {W X} (j : J0 Z G H) : J0 (Z.wx W X) G H := j.re rfl rfl rfl
theorem J0.ofwx {G H : Hp} {W X} (j : J0 (Z.wx W X) G H) : J0 Z G H := j.re rfl rfl rfl
theorem En.exc {G H : Hp} {σ : L2.St} {i : Nat} {a : Addr} {cls : Value} {d : Option Addr} {er : Er} (e : En Z G H σ Γ) (r : RpEr0 Z.K Z.pl G cls d er) : En Z G H (σ.set i (some (.ref a))) (Γ.set i (.exc a cls d er)) :=
  e.set ⟨rfl, r⟩ fun _ o => o.elim
theorem En.unset {G H : Hp} {σ : L2.St} {i : Nat} (e : En Z G H σ Γ) : En Z G H (σ.set i none) (unset Γ i) :=
  e.un (fun k hk => List.getElem?_set_ne hk.symm) List.length_set
/-- try: body except C as n: suite -/
theorem dens_try {c : Value} {i : Nat} {tb : WX → TS} {ts : Addr → Value → Option Addr → TS} {Y : Er → List B → Prop}
    (hb : ∀ W, DenS (Z.wx W Y) (tb W) Γ P)
    (hs : ∀ er Γ', Y er Γ' → ∃ b, PySem.W.exmOne Z.K (.ref er.cls) c = some b ∧ (b = true → ∀ a d, DenS Z (ts a (.ref er.cls) d) (Γ'.set i (.exc a (.ref er.cls) d er)) ⟨fun Γ2 => P.N (unset Γ2 i), P.R, fun Γ2 => P.Bk (unset Γ2 i), fun Γ2 => P.Ct (unset Γ2 i)⟩) ∧ (b = false → Z.X er Γ')) :
    DenS Z (fun De σ H => tb (wAs Z.K c i ts Z.W De) De σ H) Γ P := fun σ G H j e De d => by
  refine hb (wAs Z.K c i ts Z.W De) σ G H ⟨j.toJ0.wx, fun er cls dd σ' G' H' Γ' hy x j' e' re => ?_⟩ e.wx De ⟨fun Γ2 σ2 G2 H2 a x j2 e2 => d.n Γ2 σ2 G2 H2 a x ⟨j2.toJ0.ofwx, j.acc.mono x⟩ e2.ofwx, fun x v G2 H2 a y j2 r2 => d.r x v G2 H2 a y ⟨j2.toJ0.ofwx, j.acc.mono y⟩ r2,
    fun Γ2 σ2 G2 H2 a x j2 e2 => d.b Γ2 σ2 G2 H2 a x ⟨j2.toJ0.ofwx, j.acc.mono x⟩ e2.ofwx, fun Γ2 σ2 G2 H2 a x j2 e2 => d.c Γ2 σ2 G2 H2 a x ⟨j2.toJ0.ofwx, j.acc.mono x⟩ e2.ofwx⟩
  obtain ⟨b, h1, h2, h3⟩ := hs er Γ' hy
  obtain rfl := re.c
  refine ⟨b, h1, fun hb a _ => ?_, fun hb => j.acc er _ dd σ' G' H' Γ' (h3 hb) x j'.ofwx e'.ofwx re⟩
  refine h2 hb a dd (σ'.set i (some (.ref a))) G' H' ⟨j'.ofwx, j.acc.mono x⟩ (e'.ofwx.exc re) _ ⟨fun Γ2 σ2 G2 H2 q y j2 e2 => ?_, fun z v G2 H2 q y j2 r2 => d.r z v G2 H2 q (x.trans y) j2 r2, fun Γ2 σ2 G2 H2 q y j2 e2 => ?_, fun Γ2 σ2 G2 H2 q y j2 e2 => ?_⟩
  · exact d.n _ _ G2 H2 q (x.trans y) j2 e2.unset
  · exact d.b _ _ G2 H2 q (x.trans y) j2 e2.unset
  · exact d.c _ _ G2 H2 q (x.trans y) j2 e2.unset
/-- try: body except C: suite -/
theorem dens_tryO {c : Value} {tb : WX → TS} {ts : Addr → Value → Option Addr → TS} {Y : Er → List B → Prop}
    (hb : ∀ W, DenS (Z.wx W Y) (tb W) Γ P)
    (hs : ∀ er Γ', Y er Γ' → ∃ b, PySem.W.exmOne Z.K (.ref er.cls) c = some b ∧ (b = true → ∀ a d, DenS Z (ts a (.ref er.cls) d) Γ' P) ∧ (b = false → Z.X er Γ')) :
    DenS Z (fun De σ H => tb (wOnly Z.K c ts Z.W De) De σ H) Γ P := fun σ G H j e De d => by
  refine hb (wOnly Z.K c ts Z.W De) σ G H ⟨j.toJ0.wx, fun er cls dd σ' G' H' Γ' hy x j' e' re => ?_⟩ e.wx De ⟨fun Γ2 σ2 G2 H2 a x j2 e2 => d.n Γ2 σ2 G2 H2 a x ⟨j2.toJ0.ofwx, j.acc.mono x⟩ e2.ofwx, fun x v G2 H2 a y j2 r2 => d.r x v G2 H2 a y ⟨j2.toJ0.ofwx, j.acc.mono y⟩ r2,
    fun Γ2 σ2 G2 H2 a x j2 e2 => d.b Γ2 σ2 G2 H2 a x ⟨j2.toJ0.ofwx, j.acc.mono x⟩ e2.ofwx, fun Γ2 σ2 G2 H2 a x j2 e2 => d.c Γ2 σ2 G2 H2 a x ⟨j2.toJ0.ofwx, j.acc.mono x⟩ e2.ofwx⟩
  obtain ⟨b, h1, h2, h3⟩ := hs er Γ' hy
  obtain rfl := re.c
  exact ⟨b, h1, fun hb a _ => h2 hb a dd σ' G' H' ⟨j'.ofwx, j.acc.mono x⟩ e'.ofwx De (d.up x), fun hb => j.acc er _ dd σ' G' H' Γ' (h3 hb) x j'.ofwx e'.ofwx re⟩
/-- e.f of the caught exception -/
theorem den_xf {i : Nat} {a : Addr} {cls : Value} {d : Option Addr} {er : Er} {C : Addr} {f : Str} {y : D} {Q : D → List B → Prop} (h : Γ[i]? = some (.exc a cls d er)) (hc : er.cls = C) (hn : er.ns = [f]) (hv : er.vs = [y]) (q : Q y Γ) : Den Z (tXf a cls d C f (tVar i)) Γ Q := fun σ G H j e k kk => by
  obtain ⟨v, h1, h2, re⟩ := e.at_ i _ h
  subst h2
  refine ⟨.ref a, h1, rfl, by rw [re.c, hc], ?_⟩
  rcases re.f with ⟨_, z, _⟩ | ⟨dd, xs, h3, h4, h5, h6⟩
  · rw [hn] at z; cases z
  · rw [hn] at h4 h5
    rw [hv] at h6
    cases h6 with
    | @cons v0 _ _ _ r1 r2 =>
      cases r2
      exact ⟨dd, [(f, v0)], v0, h3, j.sub _ _ h4, by simp [List.lookup], kk y Γ v0 G H q .refl j e r1⟩
theorem den_fld {f : Str} {Q : D → List B → Prop} (h : Den Z te Γ fun x Γ1 => ∃ C ns vs d, x = .obj C ns vs ∧ Cls Z.K C ∧ NoAttr Z.K C f ∧ (ns.zip vs).lookup f = some d ∧ Q d Γ1) : Den Z (tFld Z.K te f) Γ Q := fun σ G H j e k kk =>
  h σ G H j e _ fun x Γ1 v G1 H1 q s1 j1 e1 r1 => by
    obtain ⟨C, ns, vs, d, rfl, c, n, l, q⟩ := q
    cases r1 with
    | @obj a _ dx _ xs _ h1 h2 r1 =>
      have key : ∀ {ns : List Str} {xs : List V} {vs : List D}, Rps Z.K Z.pl G1 xs vs → (ns.zip vs).lookup f = some d → ∃ v, (ns.zip xs).lookup f = some v ∧ Rp Z.K Z.pl G1 v d := by
        intro ns
        induction ns with
        | nil => intro xs vs _ l; simp at l
        | cons n ns ih =>
          intro xs vs r l
          cases r with
          | nil => simp at l
          | @cons v0 d0 _ _ ra rb =>
            simp only [List.zip_cons_cons, List.lookup] at l ⊢
            split at l
            · cases l; exact ⟨v0, rfl, ra⟩
            · rename_i q; first | exact ih rb l | (rw [q]; exact ih rb l)
      obtain ⟨v, hv, hr⟩ := key r1 l
      exact ⟨a, C, dx, _, v, rfl, j1.sub _ _ h1, c, n, hv, kk d Γ1 v G1 H1 q s1 j1 e1 hr⟩
theorem zip_snoc {α β : Type} : ∀ {ns : List α} {xs : List β} {f : α} {y : β}, ns.length = xs.length → (ns ++ [f]).zip (xs ++ [y]) = ns.zip xs ++ [(f, y)]
  | [], [], _, _, _ => rfl
  | [], _ :: _, _, _, h => by simp at h
  | _ :: _, [], _, _, h => by simp at h
  | a :: ns, b :: xs, f, y, h => by
    simp only [List.cons_append, List.zip_cons_cons]
    rw [zip_snoc (by simpa using h)]
theorem putF_new {f : Str} {y : V} : ∀ {l : List (Str × V)}, (∀ p ∈ l, p.1 ≠ f) → putF f y l = l ++ [(f, y)]
  | [], _ => rfl
  | (g, v) :: r, h => by
    show (if g = f then (g, y) :: r else (g, v) :: putF f y r) = _
    rw [if_neg (h (g, v) List.mem_cons_self), putF_new fun p hp => h p (List.mem_cons_of_mem _ hp)]
    rfl
/-- self.f = e in an __init__, a new field -/
theorem dens_fld {m : Nat} {p C : Addr} {ns : List Str} {vs : List D} {f : Str} (hm : Γ[m]? = some (.ob p C ns vs)) (c : Cls Z.K C) (n : NoAttr Z.K C f) (hf : f ∉ ns) (hl : ns.length < 1000)
    (h : Den Z te Γ fun x Γ1 => Γ1 = Γ ∧ P.N (Γ1.set m (.ob p C (ns ++ [f]) (vs ++ [x])))) : DenS Z (sFld Z.K (tVar m) te f) Γ P := fun σ G H j e De d =>
  h σ G H j e _ fun x Γ1 vx G1 H1 q s1 j1 e1 r1 => by
    obtain ⟨rfl, q⟩ := q
    obtain ⟨v, h1, dx, xs, h2, h3, h4, h5, h6, h7⟩ := e1.at_ m _ hm
    subst h2
    have om : IsOwn Γ1[m]? := by rw [hm]; trivial
    have hmlt : m < Γ1.length := (List.getElem?_eq_some_iff.mp hm).1
    refine ⟨.ref p, h1, p, C, dx, _, rfl, h3, c, n, by rw [List.length_zip]; omega, ?_⟩
    have ez : putF f vx (ns.zip xs) = (ns ++ [f]).zip (xs ++ [vx]) := by
      rw [putF_new fun q hq z => hf (by rw [← z]; exact (List.of_mem_zip hq).1), zip_snoc h4]
    rw [ez]
    refine d.n _ σ G1 _ q s1.ex (j1.put h7 h6) ⟨by rw [List.length_set]; exact e1.len, fun i b hb => ?_, fun i n l2 o1 o2 => ?_⟩
    · by_cases hi : m = i
      · subst hi
        rw [List.getElem?_set_self hmlt] at hb
        cases hb
        exact ⟨_, h1, dx, _, rfl, upd_same, by simp [h4], h5.append (.one r1), h6, h7⟩
      · rw [List.getElem?_set_ne hi] at hb
        obtain ⟨v, a1, a2⟩ := e1.at_ i b hb
        refine ⟨v, a1, a2.mono (Ex.refl _) fun l2 o b1 b2 b3 b4 b5 => ⟨?_, b2⟩⟩
        have : l2 ≠ p := fun z => hi (e1.dis m i p om (by rw [hb]; exact b5) h1 (by rw [a1, b4, z]))
        rw [upd_ne this]; exact b1
    · have ow : ∀ i : Nat, IsOwn (Γ1.set m (.ob p C (ns ++ [f]) (vs ++ [x])))[i]? → IsOwn Γ1[i]? := fun i o => by
        by_cases hi : m = i
        · subst hi; exact om
        · rw [List.getElem?_set_ne hi] at o; exact o
      exact e1.dis i n l2 (ow i o1) (ow n o2)
end
/-- an __init__'s promise: from the arguments the fields -/
structure ISpec where
  ns : List Str
  P : List D → Prop
  R : List D → List D → Prop
  X : List D → Er → Prop := fun _ _ => False
def spI (K : PySem.W.Frag) (C : Addr) (n : Nat) (S : ISpec) : Sp := fun vs H Q E => ∃ pl G ds H1 x dx ws, vs = .ref x :: ws ∧ H = upd (upd H1 dx (.own x)) x (.ins C dx []) ∧ H1 x = none ∧ H1 dx = none ∧ dx ≠ x ∧
  J (Cz.call K pl H1 G) G H1 ∧ Rps K pl G ws ds ∧ ds.length = n ∧ S.P ds ∧
  (∀ fs G' H' dx' xs, S.R ds fs → J (Cz.call K pl H1 G) G' H' → H' x = some (.ins C dx' (S.ns.zip xs)) → S.ns.length = xs.length → Rps K pl G' xs fs → G' x = none → Q .non H') ∧
  (∀ er cls d G' H', S.X ds er → J (Cz.call K pl H1 G) G' H' → RpEr0 K pl G' cls d er → E cls d H')
section
variable {P : Program} {w : World} {K : PySem.W.Frag} {mg : Str → Option Value} {base : Heap}
theorem init_ab {qual : Str} {st : Stmt} {f C : Addr} {fd : FuncData} {N ps : List Str} {k : Nat} (F : Fun K "__init__" qual st f fd) (Sc : FnScope N ps (defScope st)) (S : ISpec) (hl : ps.length ≤ N.length) {n : Nat} (hn : ps.length = n + 1)
    (hbody : ∀ (cdv : Value) (A : Around) (outer : List PySem.Env) (s : Shared) (H : Hp) (E : XK) (x : Addr) (ds : List D) (W : WX), Room k (A.deeper (PyProof.Rows.envOfC qual (defScope st) s.heap.objs.size f cdv)) → Takes (cxOf (L2.CX P w) P w K mg base N qual (defScope st) f cdv A outer s H E) W → ds.length = n → S.P ds →
      ∃ t, PSs (cxOf (L2.CX P w) P w K mg base N qual (defScope st) f cdv A outer s H E) (defBody st) t ∧
        ∀ Z : Cz, Z.K = K → Z.W = W → (∀ er Γ, S.X ds er → Z.X er Γ) → DenS Z t (B.ob x C [] [] :: (ds.map B.d ++ List.replicate (N.length - (ds.length + 1)) .un)) ⟨fun Γ => ∃ fs, S.R ds fs ∧ Γ[0]? = some (.ob x C S.ns fs), fun x => False, fun _ => False, fun _ => False⟩) : FnOk P w K mg base (L2.CX P w) (k + 1) f fd ps (spI K C n S) := by
  refine F.okX Sc (fun vs H Q E h => ?_) (fun cdv A outer s H vs Q E hr h => ?_)
  · obtain ⟨pl, G, ds, H1, x, dx, ws, rfl, _, _, _, _, _, r, hn', _⟩ := h
    rw [List.length_cons, r.length, hn', hn]
  · obtain ⟨pl, G, ds, H1, x, dx, ws, rfl, eH, nx, ndx, ne, j, r, hn', hp, hq, he⟩ := h
    obtain ⟨t, h1, h2⟩ := hbody cdv A outer s H E x ds (fun cls d _ H => E cls d H) hr (takes_of rfl rfl rfl rfl) hn' hp
    have gx : G x = none := j.sub.back nx
    have gdx : G dx = none := j.sub.back ndx
    let Z : Cz := ⟨K, pl, H1, G, fun cls d _ H => E cls d H, fun er _ => S.X ds er⟩
    have jj : J Z G H1 := ⟨j.toJ0.re rfl rfl rfl, fun er cls d σ G' H' Γ hx _ j' _ re => he er cls d G' H' hx ⟨j'.re rfl rfl rfl, fun _ _ _ _ _ _ _ z => z.elim⟩ re⟩
    have jH : J Z G H := by
      rw [eH]
      exact (jj.put ndx gdx).put nx gx
    have e0 : En Z G H1 (L2.start (ps.tail ++ N.drop ps.length) ws) (ds.map B.d ++ List.replicate ((ps.tail ++ N.drop ps.length).length - ds.length) .un) := en_start r (by simp; omega)
    have hHx : H x = some (.ins C dx []) := by rw [eH]; exact upd_same
    have lenr : (ps.tail ++ N.drop ps.length).length - ds.length = N.length - (ds.length + 1) := by simp; omega
    have st0 : L2.start N (.ref x :: ws) = some (.ref x) :: L2.start (ps.tail ++ N.drop ps.length) ws := by
      unfold L2.start
      have : N.length - (ws.length + 1) = (ps.tail ++ N.drop ps.length).length - ws.length := by
        rw [r.length]; omega
      simp only [List.map_cons, List.cons_append, List.length_cons, this]
    have en : En Z G H (L2.start N (.ref x :: ws)) (B.ob x C [] [] :: (ds.map B.d ++ List.replicate (N.length - (ds.length + 1)) .un)) := by
      rw [st0, ← lenr]
      have e1 : En Z G H (L2.start (ps.tail ++ N.drop ps.length) ws) (ds.map B.d ++ List.replicate ((ps.tail ++ N.drop ps.length).length - ds.length) .un) := by
        rw [eH]
        refine e0.mono (Ex.refl _) fun l o b1 b2 _ _ => ⟨?_, b2⟩
        rw [upd_ne (ne_of_none b1 nx), upd_ne (ne_of_none b1 ndx)]; exact b1
      have noown : ∀ i : Nat, ¬ IsOwn (ds.map B.d ++ List.replicate ((ps.tail ++ N.drop ps.length).length - ds.length) B.un)[i]? := fun i o => by
        by_cases hi : i < ds.length
        · rw [List.getElem?_append_left (by simpa using hi), List.getElem?_map] at o
          cases q : ds[i]? with
          | none => rw [q] at o; exact o.elim
          | some d => rw [q] at o; exact o.elim
        · rw [List.getElem?_append_right (by simpa using (show ds.length ≤ i by omega)), List.getElem?_replicate] at o
          split at o
          · exact o.elim
          · exact o.elim
      refine ⟨by simp [e1.len], fun i b hb => ?_, fun i m l o1 o2 => ?_⟩
      · cases i with
        | zero =>
          simp at hb; subst hb
          exact ⟨_, rfl, dx, [], rfl, hHx, rfl, .nil, gx, nx⟩
        | succ i =>
          obtain ⟨v, a1, a2⟩ := e1.at_ i b (by simpa using hb)
          exact ⟨v, by simpa using a1, a2⟩
      · cases i with
        | zero => cases m with
          | zero => intro _ _; rfl
          | succ m => exact absurd (by simpa using o2) (noown m)
        | succ i => exact absurd (by simpa using o1) (noown i)
    refine ⟨t, h1, h2 Z rfl rfl (fun er Γ h => h) _ G H jH en _ ⟨fun Γ σ G' H' hN _ j' e' => ?_, fun _ _ _ _ z => z.elim, fun _ _ _ _ z => z.elim, fun _ _ _ _ z => z.elim⟩⟩
    obtain ⟨fs, hR, hg⟩ := hN
    obtain ⟨v, a1, dx', xs, a2, a3, a4, a5, a6, a7⟩ := e'.at_ 0 _ hg
    exact hq fs G' H' dx' xs hR ⟨j'.toJ0.re rfl rfl rfl, fun _ _ _ _ _ _ _ z => z.elim⟩ a3 a4 a5 a6
/-- C(..), as its callers know it -/
structure Mak (P : Program) (w : World) (K : PySem.W.Frag) (mg : Str → Option Value) (base : Heap) (x : Str) (C : Addr) (k n : Nat) (S : ISpec) : Prop where
  ex : ∃ f fd ps, Mk K C f ∧ FnOk P w K mg base (L2.CX P w) k f fd ps (spI K C n S) ∧ mg x = some (.ref C) ∧ Binds K fd ps []
end
section
variable {X : Cx} {x : Str} {C f : Addr} {e : Expr} {es : List Expr} {t : TA} {k n j : Nat} {S : ISpec} {p pos : Pos} {fd : FuncData} {ps : List Str} {sp : Sp} {E : L2.St → XK} {CX : CXT}
/-- C(..) that may raise -/
def tMakeS (C : Addr) (sp : Sp) (E : L2.St → XK) (t : TA) : TE := fun σ H Q => t σ H fun vs H1 => ∀ x dx, H1 x = none → H1 dx = none → dx ≠ x →
  sp (.ref x :: vs) (upd (upd H1 dx (.own x)) x (.ins C dx [])) (fun v H2 => v = .non ∧ Q (.ref x) H2) (E σ)
end
end Ab
namespace PySem
open Sem (wp)
open AutoSeq1 (wpAny_loadPart')
set_option maxHeartbeats 1000000 in
theorem ab_enumerate_newB {v : Value} {o : Obj} {H : Heap → Prop} (B : Begins v o H) :
    Meets (Builtin.«enumerate.__new__» ⟨[.type "enumerate", v], []⟩) (fun _ R s => H s.heap ∧
      R (.ok (.ret (.ref (s.heap.push o).objs.size))) { s with heap := (s.heap.push o).push { cls := .type "enumerate", data := .fields #[.none, .bool false, .ref s.heap.objs.size, rawInt 0, .none, .none] } }) :=
  .of_wp fun prog w A R s h => by
    obtain ⟨hp, g, d, tk, os⟩ := s; obtain ⟨h1, h⟩ := h
    have hsub := sub_enumerate
    have q1 : ∀ {A' : Around} {E : Value → Shared → Prop} {Q : Value → Shared → Prop}, Q (.ref hp.objs.size) ⟨hp.push o, g, d, tk, os⟩ → wpAny (model prog w) A' (pyIter v) Q E ⟨hp, g, d, tk, os⟩ :=
      fun q => B.iter prog w _ _ ⟨hp, g, d, tk, os⟩ _ h1 q
    wp_walk using q1
    refine wpAny_stack_any fun st => wpAny_pure ?_
    split
    · rename_i c _ _ _ _ _
      cases (c == Value.type "enumerate")
      · wp_walk using q1
        exact ⟨_, rfl, h⟩
      · wp_walk using q1
        exact ⟨_, rfl, h⟩
    · wp_walk using q1
      exact ⟨_, rfl, h⟩
section
variable {prog : Program} {w : World} {A : Around} {E : Value → Shared → Prop} {s : Shared}
theorem ab_enum_begins {v : Value} {o : Obj} {H : Heap → Prop} {Q : Value → Shared → Prop} (B : Begins v o H) (h1 : H s.heap)
    (h : ∀ h', IsEnum h' (s.heap.objs.size + 1) s.heap.objs.size 0 .none → h'.get? s.heap.objs.size = some o → h'.objs.size = s.heap.objs.size + 2 →
      (∀ b o, s.heap.get? b = some o → h'.get? b = some o) → Q (.ref (s.heap.objs.size + 1)) { s with heap := h' }) :
    wpAny (model prog w) A (call (.type "enumerate") [v]) Q E s := by
  refine callType_new F.called_enumerate (by decide) (F.typeCall_enumerate_1 _) (F.newCall_enumerate_1 _) (fun obj => F.args_object_init_2 obj _) F.entry_enumerate_new
    (ab_enumerate_newB B) ⟨h1, ?_⟩
  have hz : (s.heap.push o).objs.size = s.heap.objs.size + 1 := Heap.size_push ..
  show _ ∧ _
  rw [hz]
  have he : IsEnum ((s.heap.push o).push { cls := .type "enumerate", data := .fields #[.none, .bool false, .ref s.heap.objs.size, rawInt 0, .none, .none] }) (s.heap.objs.size + 1) s.heap.objs.size 0 .none := by
    have := Heap.get?_push_size (s.heap.push o) (o := { cls := .type "enumerate", data := .fields #[.none, .bool false, .ref s.heap.objs.size, rawInt 0, .none, .none] }) rfl
    rw [hz] at this; exact this
  refine ⟨⟨_, he, rfl⟩, h _ he (Heap.get?_push_of_some _ (Heap.get?_push_size _ B.free)) (by rw [Heap.size_push, hz]) fun b o x => Heap.get?_push_of_some _ (Heap.get?_push_of_some _ x)⟩
theorem ab_enum_endT {e it a : Addr} {items : Array Value} {i : Nat} {k : Int} {old : Value} {Q : Option Value → Shared → Prop} (hh : A.handled = none)
    (he : IsEnum s.heap e it k old) (hit : s.heap.IsTupleIter it a i) (ht : s.heap.IsTuple a items) (hx : items[i]? = none)
    (hQ : ∀ h', Heap.ExtBut it s.heap h' → Q none { s with heap := h' }) : wpAny (model prog w) A (pyNext (.ref e)) Q E s := by
  have hT : s.TypeIs (.ref e) "enumerate" := ⟨_, he, rfl⟩
  unfold pyNext
  refine wpAny_bind (wpAny_attempt (wpAny_callSpecial?_slot (name := Str.ofString "__next__") hT F.slot_enumerate_next
    (wpAny_call_entry F.slot_enumerate_next hT F.entry_enumerate_next ?_ (F.args_enumerate_next_1 _))))
  show wpAny _ _ (field (.ref e) 2 >>= _) _ _ _
  refine wpAny_bind (wpAny_field he rfl (x := .ref it) rfl ?_)
  refine wpAny_bind (wpAny_nextOf_tuple_end (A := A.in1) (show A.in1.handled = none from hh) hit ht hx fun h' x he' hx' => ?_)
  obtain ⟨o, ho, hc⟩ := hx'
  refine wpAny_bind (wpAny_isInstance (T := "StopIteration") (b := true) ⟨o, ho, hc⟩ isSubtype_stop ?_)
  exact wpAny_pure (hQ _ he')
end
end PySem
namespace L2
open PySem PySem.Spec PyProof.Rows
def IteT (K : PySem.W.Frag) (a : Addr) : It :=
  ⟨fun i H => ∃ (xs : List V) (x : V), SqT K H a xs ∧ xs[i]? = some x, fun i H v H' => ∃ T x, v = .ref T ∧ H T = none ∧ H' = upd H T (.tup [.int (i : Nat), x]) ∧ ∀ xs, SqT K H a xs → xs[i]? = some x, fun i H => ∃ xs : List V, SqT K H a xs ∧ xs.length ≤ i⟩
theorem turn_enumT {P : Program} {w : World} {K : PySem.W.Frag} {elts : List Expr} {kk : Nat} {tpos : Pos} (a e it : Addr) :
    Turn P w K (.Tuple elts kk tpos) (IteT K a) [e, it] e (fun i h => (∃ old, IsEnum h e it ((i : Nat) : Int) old) ∧ h.IsTupleIter it a i ∧ e ≠ it ∧ a ≠ it ∧ a ≠ e) where
  mem := by simp
  obj := fun i h st b hb => by
    obtain ⟨⟨old, he⟩, ⟨o, ho, hc, hd⟩, _⟩ := st
    have e' : b = e ∨ b = it := by simpa using hb
    rcases e' with z | z
    · rw [z]; exact ⟨_, he, fun v q => nomatch q⟩
    · rw [z]; exact ⟨o, ho, fun v q => by rw [hd] at q; cases q⟩
  keep := fun i h h' st k => let ⟨⟨old, he⟩, hi, hne⟩ := st; ⟨⟨old, k e (by simp) _ he⟩, hi.at fun o q => k it (by simp) o q, hne⟩
  item := by
    intro X hP hw hK hc i pins s σ H E I hf st hg
    subst hP hw hK
    obtain ⟨⟨old, he⟩, hit, hne, hai, hae⟩ := st
    obtain ⟨xs, x, hq, hx⟩ := hg
    obtain ⟨its, rv, p, hz⟩ := I.tuple hq
    obtain ⟨u, hu, ru⟩ := rv.get hx
    have hel : e < s.heap.objs.size := Heap.lt_size he
    have hil : it < s.heap.objs.size := by obtain ⟨_, q, _⟩ := hit; exact Heap.lt_size q
    have hh : X.A.handled = none := I.ok.hd hc
    have D : Draws X.prog X.w X.A.in1 it [it, a] its.toArray.size (fun i v => its.toArray[i]? = some v) (fun i h => h.IsTupleIter it a i ∧ h.IsTuple a its.toArray) := Draws.tuple (A := X.A.in1) (show X.A.in1.handled = none from hh) it a hai its.toArray
    have hlt : i < its.toArray.size := by
      have := (List.getElem?_eq_some_iff.mp hu).1
      simpa using this
    refine wpAny_pyNext_enum_itemD D he ⟨hit, show s.heap.IsTuple a its.toArray from p⟩ hlt hne (by simp [hne, Ne.symm hae]) fun x' h' tk hP ho hst' hT hsz hk => ?_
    have ex : x' = u := by
      have z : its.toArray[i]? = some u := by simpa using hu
      rw [z] at hP; exact (Option.some.inj hP).symm
    subst ex
    refine ⟨_, rfl, wpAny_letOwnedTupleGo_enum (s := { s with heap := h', toks := tk + 1 }) ho fun h'' he' sb => ?_⟩
    have hT2 : h''.get? s.heap.objs.size = some { cls := .type "tuple", data := .seq #[.int i tk, x'] } := (sb.2 _ (Nat.ne_of_gt hel)).trans hT
    have new : ObjOk X.prog X.w (upd H s.heap.objs.size (.tup [.int (i : Nat), x])) h'' s.heap.objs.size (.tup [.int (i : Nat), x]) :=
      ⟨by show 2 ≤ sizeLine; decide, [.int i tk, x'], .cons ⟨_, rfl⟩ (.cons ru .nil), ⟨_, hT2, rfl, _, rfl⟩⟩
    have I1 : Inv X pins σ (upd H s.heap.objs.size (.tup [.int (i : Nat), x])) { s with heap := h'', toks := tk + 1 } :=
      I.turnedNew (ch := [e, it]) (fun b ob hb q => (sb.2 b (fun z => hb (by simp [z]))).trans (hk b ob (fun z => hb (by simp [z])) (fun z => hb (by simp [z])) q)) hf (Nat.le_refl _) new
    refine ⟨.ref s.heap.objs.size, _, I1, rfl, ⟨_, x, rfl, I.hok.fresh (Nat.le_refl _), rfl, fun ys hy => by rw [I.tuple_inj hy hq]; exact hx⟩, ⟨⟨x', ?_⟩, hst'.1.at fun o q => (sb.2 it (Ne.symm hne)).trans q, hne, hai, hae⟩, fun b hb => ?_⟩
    · have e1 : ((i + 1 : Nat) : Int) = (i : Int) + 1 := by omega
      rw [e1]; exact he'
    · have hb' : b < s.heap.objs.size := by
        have e' : b = e ∨ b = it := by simpa using hb
        rcases e' with z | z
        · rw [z]; exact hel
        · rw [z]; exact hil
      rw [upd_ne (Nat.ne_of_lt hb')]
      exact (hf b hb).1
  done := by
    intro X hP hw hK hc i pins s σ H E I hf st hg
    subst hP hw hK
    obtain ⟨⟨old, he⟩, hit, hne, hai, hae⟩ := st
    obtain ⟨xs, hq, hx⟩ := hg
    obtain ⟨its, rv, p, hz⟩ := I.tuple hq
    obtain ⟨f0, f1, f2, f3, f4, f5⟩ := hf it (by simp)
    have hl := rv.length
    have hh : X.A.handled = none := I.ok.hd hc
    exact ab_enum_endT hh he hit (show s.heap.IsTuple a its.toArray from p) (by simp; omega) fun h' eb => ⟨rfl, I.turned (t' := s.toks) (fun b o hb q => eb b o hb q) f0 f1 f3 f4 f5⟩
  self := fun A i s Q E st h => let ⟨⟨_, he⟩, _⟩ := st; wpAny_pyIter_enum he h
def iEnumA (K : PySem.W.Frag) (ta : TA) : TI := fun σ H R => ta σ H fun vs H1 => ∃ a xs, vs = [.ref a] ∧ ((SqL K H1 a xs ∧ R (Ite K a) H1) ∨ (SqT K H1 a xs ∧ R (IteT K a) H1))
theorem pi_enumA {X : Cx} {e : Expr} {ta : TA} {p pos tpos : Pos} {elts : List Expr} {kk : Nat} (hg : Gl X "enumerate") (hm : X.mg "enumerate" = none) (ha : PA X [e] ta) (hs : starEach [e] X.env = [(false, eval e X.env)] := by rfl) :
    PI X (.Tuple elts kk tpos) (.Call (.Name "enumerate" p) [e] [] pos) (iEnumA X.K ta) := by
  refine ⟨fun pins s σ H R I h => ?_⟩
  refine Call_ (ld_blt I hg hm boot_enumerate (PyProof.Rows.callWith_type1 (thn (ha.run pos pins s σ H _ I h) fun us s1 ⟨vs, H1, I1, r1, q1⟩ => ?_) hs rfl))
  obtain ⟨a, xs, ex, q⟩ := q1
  subst ex
  cases r1 with
  | cons r rr =>
    cases rr
    cases r
    have fresh2 : ∀ b, b ∈ [s1.heap.objs.size + 1, s1.heap.objs.size] → FpOk X pins H1 b := fun b hb => by
      have e' : b = s1.heap.objs.size + 1 ∨ b = s1.heap.objs.size := by simpa using hb
      have hle : s1.heap.objs.size ≤ b := by
        rcases e' with z | z
        · rw [z]; exact Nat.le_add_right _ _
        · rw [z]; exact Nat.le_refl _
      exact I1.fpOk hle (I1.hok.fresh hle)
    rcases q with ⟨hq, q⟩ | ⟨hq, q⟩
    · obtain ⟨its, rv, p', hz⟩ := I1.list hq
      refine call_enumerate_list p'.isList fun h' he hit hsz hk => wpAny_pyIter_enum he ?_
      have I2 : Inv X pins σ H1 { s1 with heap := h' } := I1.kept (t' := s1.toks) hk
      exact ⟨s1.heap.objs.size + 1, [s1.heap.objs.size + 1, s1.heap.objs.size], _, _, H1, rfl, I2, turn_enum a (s1.heap.objs.size + 1) s1.heap.objs.size, ⟨⟨.none, he⟩, hit, Nat.succ_ne_self _⟩, fresh2, q⟩
    · obtain ⟨its, rv, p', hz⟩ := I1.tuple hq
      obtain ⟨o1, ho1, _⟩ := id p'
      have hlt := Heap.lt_size ho1
      refine ab_enum_begins (begins_tuple a its.toArray) (show s1.heap.IsTuple a its.toArray from p') fun h' he hit hsz hk => wpAny_pyIter_enum he ?_
      have I2 : Inv X pins σ H1 { s1 with heap := h' } := I1.kept (t' := s1.toks) hk
      exact ⟨s1.heap.objs.size + 1, [s1.heap.objs.size + 1, s1.heap.objs.size], _, _, H1, rfl, I2, turn_enumT a (s1.heap.objs.size + 1) s1.heap.objs.size, ⟨⟨.none, he⟩, ⟨_, hit, rfl, rfl⟩, Nat.succ_ne_self _, Nat.ne_of_lt hlt, Nat.ne_of_lt (Nat.lt_succ_of_lt hlt)⟩, fresh2, q⟩
end L2
namespace Ab
open PySem L2
section
variable {Z : Cz} {Γ : List B} {tr : TA}
theorem sqt_of {G G' H' : Hp} {a : Addr} {vs : List V} (h : SqT Z.K G a vs) (x : Ex G G') (j : J Z G' H') : SqT Z.K H' a vs := j.sub.sqt (x.sqt h)
theorem sql_of {G G' H' : Hp} {a : Addr} {vs : List V} (h : G a = some (.lst vs)) (x : Ex G G') (j : J Z G' H') : SqL Z.K H' a vs := .inl (.inl (j.sub _ _ (x _ _ h)))
def enumD (xs : List D) : List D := (List.range xs.length).zipWith (fun i x => .tup [.int (i : Nat), x]) xs
theorem enumD_len (xs : List D) : (enumD xs).length = xs.length := by simp [enumD]
theorem enumD_get {xs : List D} {i : Nat} {d : D} (h : xs[i]? = some d) : (enumD xs)[i]? = some (.tup [.int (i : Nat), d]) := by
  have hi := (List.getElem?_eq_some_iff.mp h).1
  unfold enumD
  rw [List.getElem?_zipWith, h]
  simp [hi]
theorem enumD_inv {xs : List D} {i : Nat} {d : D} (h : (enumD xs)[i]? = some d) : ∃ x, xs[i]? = some x ∧ d = .tup [.int (i : Nat), x] := by
  have hi : i < xs.length := by rw [← enumD_len]; exact (List.getElem?_eq_some_iff.mp h).1
  have hx : xs[i]? = some xs[i] := by simp [hi]
  rw [enumD_get hx] at h
  exact ⟨_, hx, (Option.some.inj h).symm⟩
/-- a new pair joins the still part -/
theorem pair_new {G H : Hp} {p : Addr} {x y : V} {a b : D} (j : J Z G H) (hp : H p = none) (ra : Rp Z.K Z.pl G x a) (rb : Rp Z.K Z.pl G y b) : ∃ G'', J (Z.at H G) G'' (upd H p (.tup [x, y])) ∧ Rp Z.K Z.pl G'' (.ref p) (.tup [a, b]) := by
  have x := Ex.new (o := .tup [x, y]) (j.sub.back hp)
  exact ⟨_, j.enter.new hp, .tup (SqT.of upd_same) (.cons (ra.mono x) (.cons (rb.mono x) .nil))⟩
theorem deni_enumT {Q : List D → List B → Prop} (h : DenA Z tr Γ fun xs Γ1 => ∃ ys, (xs = [.tup ys] ∨ xs = [.lst ys]) ∧ Q (enumD ys) Γ1) : DenI Z (iEnumA Z.K tr) Γ Q := fun σ G H j e k kk =>
  h σ G H j e _ fun xs Γ1 vs G1 H1 q s1 j1 e1 r1 => by
    obtain ⟨ys, hx, q⟩ := q
    rcases hx with rfl | rfl
    · cases r1 with
      | cons a b =>
        cases b
        cases a with
        | @tup a ws _ h1 r =>
          refine ⟨a, ws, rfl, .inr ⟨sqt_of h1 (Ex.refl _) j1, kk _ Γ1 _ G1 H1 q s1 j1 e1 ⟨fun G' H' i x j' hi => ?_, fun G' H' x j' => ?_, fun G' H' i v H'' x j' hi y => ?_⟩⟩⟩
          · rw [enumD_len, ← r.length] at hi
            exact ⟨ws, ws[i], sqt_of h1 x j', by simp [hi]⟩
          · exact ⟨ws, sqt_of h1 x j', by rw [enumD_len, r.length]; exact Nat.le_refl _⟩
          · obtain ⟨T, v0, rfl, hT, rfl, hv⟩ := y
            obtain ⟨d, hd, hr⟩ := r.getV (hv ws (sqt_of h1 x j'))
            obtain ⟨G2, j2, r2⟩ := pair_new j' hT (.int (i : Nat)) (hr.mono x)
            exact ⟨G2, _, enumD_get hd, j2, r2⟩
    · cases r1 with
      | cons a b =>
        cases b
        cases a with
        | @lst a ws _ h1 r =>
          refine ⟨a, ws, rfl, .inl ⟨sql_of h1 (Ex.refl _) j1, kk _ Γ1 _ G1 H1 q s1 j1 e1 ⟨fun G' H' i x j' hi => ?_, fun G' H' x j' => ?_, fun G' H' i v H'' x j' hi y => ?_⟩⟩⟩
          · rw [enumD_len, ← r.length] at hi
            exact ⟨ws, ws[i], sql_of h1 x j', by simp [hi]⟩
          · exact ⟨ws, sql_of h1 x j', by rw [enumD_len, r.length]; exact Nat.le_refl _⟩
          · obtain ⟨T, v0, rfl, hT, rfl, hv⟩ := y
            obtain ⟨d, hd, hr⟩ := r.getV (hv ws (sql_of h1 x j'))
            obtain ⟨G2, j2, r2⟩ := pair_new j' hT (.int (i : Nat)) (hr.mono x)
            exact ⟨G2, _, enumD_get hd, j2, r2⟩
/-- zip of two tuples or two lists -/
def zipD (xs ys : List D) : List D := List.zipWith (fun x y => .tup [x, y]) xs ys
theorem zipD_len (xs ys : List D) : (zipD xs ys).length = min xs.length ys.length := by simp [zipD]
theorem zipD_get {xs ys : List D} {i : Nat} {a b : D} (h : xs[i]? = some a) (g : ys[i]? = some b) : (zipD xs ys)[i]? = some (.tup [a, b]) := by
  unfold zipD
  rw [List.getElem?_zipWith, h, g]
theorem zipD_inv {xs ys : List D} {i : Nat} {d : D} (h : (zipD xs ys)[i]? = some d) : ∃ a b, xs[i]? = some a ∧ ys[i]? = some b ∧ d = .tup [a, b] := by
  have hi : i < min xs.length ys.length := by rw [← zipD_len]; exact (List.getElem?_eq_some_iff.mp h).1
  have hx : xs[i]? = some xs[i] := by simp [show i < xs.length by omega]
  have hy : ys[i]? = some ys[i] := by simp [show i < ys.length by omega]
  rw [zipD_get hx hy] at h
  exact ⟨_, _, hx, hy, (Option.some.inj h).symm⟩
theorem deni_zip {Q : List D → List B → Prop} (h : DenA Z tr Γ fun xs Γ1 => ∃ us ys, (xs = [.tup us, .tup ys] ∨ xs = [.lst us, .lst ys]) ∧ Q (zipD us ys) Γ1) : DenI Z (RZ.iZipA Z.K tr) Γ Q := fun σ G H j e k kk =>
  h σ G H j e _ fun xs Γ1 vs G1 H1 q s1 j1 e1 r1 => by
    obtain ⟨us, ys, hx, q⟩ := q
    rcases hx with rfl | rfl
    · cases r1 with
      | cons a b => cases b with
        | cons b c =>
          cases c
          cases a with
          | @tup a ws _ h1 r => cases b with
            | @tup b zs _ h2 r' =>
              refine ⟨a, b, ws, zs, rfl, .inr ⟨sqt_of h1 (Ex.refl _) j1, sqt_of h2 (Ex.refl _) j1, kk _ Γ1 _ G1 H1 q s1 j1 e1 ⟨fun G' H' i x j' hi => ?_, fun G' H' x j' => ?_, fun G' H' i v H'' x j' hi y => ?_⟩⟩⟩
              · rw [zipD_len, ← r.length, ← r'.length] at hi
                exact ⟨ws, zs, ws[i], zs[i], sqt_of h1 x j', sqt_of h2 x j', by simp [show i < ws.length by omega], by simp [show i < zs.length by omega]⟩
              · exact ⟨ws, zs, sqt_of h1 x j', sqt_of h2 x j', by rw [zipD_len, r.length, r'.length]; omega⟩
              · obtain ⟨T, v0, v1, rfl, hT, rfl, hv, hw⟩ := y
                obtain ⟨d, hd, hr⟩ := r.getV (hv ws (sqt_of h1 x j'))
                obtain ⟨d', hd', hr'⟩ := r'.getV (hw zs (sqt_of h2 x j'))
                obtain ⟨G2, j2, r2⟩ := pair_new j' hT (hr.mono x) (hr'.mono x)
                exact ⟨G2, _, zipD_get hd hd', j2, r2⟩
    · cases r1 with
      | cons a b => cases b with
        | cons b c =>
          cases c
          cases a with
          | @lst a ws _ h1 r => cases b with
            | @lst b zs _ h2 r' =>
              refine ⟨a, b, ws, zs, rfl, .inl ⟨sql_of h1 (Ex.refl _) j1, sql_of h2 (Ex.refl _) j1, kk _ Γ1 _ G1 H1 q s1 j1 e1 ⟨fun G' H' i x j' hi => ?_, fun G' H' x j' => ?_, fun G' H' i v H'' x j' hi y => ?_⟩⟩⟩
              · rw [zipD_len, ← r.length, ← r'.length] at hi
                exact ⟨ws, zs, ws[i], zs[i], sql_of h1 x j', sql_of h2 x j', by simp [show i < ws.length by omega], by simp [show i < zs.length by omega]⟩
              · exact ⟨ws, zs, sql_of h1 x j', sql_of h2 x j', by rw [zipD_len, r.length, r'.length]; omega⟩
              · obtain ⟨T, v0, v1, rfl, hT, rfl, hv, hw⟩ := y
                obtain ⟨d, hd, hr⟩ := r.getV (hv ws (sql_of h1 x j'))
                obtain ⟨d', hd', hr'⟩ := r'.getV (hw zs (sql_of h2 x j'))
                obtain ⟨G2, j2, r2⟩ := pair_new j' hT (hr.mono x) (hr'.mono x)
                exact ⟨G2, _, zipD_get hd hd', j2, r2⟩
end
end Ab
namespace Ab
open PySem L2
section
variable {X : Cx} {x : Str} {C f : Addr} {e : Expr} {es : List Expr} {t : TA} {k n j : Nat} {S : ISpec} {p pos : Pos} {fd : FuncData} {ps : List Str} {sp : Sp} {E : L2.St → XK} {CX : CXT}
theorem run_makeS {pins : List (Addr × Obj)} {σ : L2.St} {H : Hp} {s : Shared} {Q : VK} {us : List Value} {vs : List V} (M : Mk X.K C f) (F : FnOk X.prog X.w X.K X.mg X.base CX k f fd ps sp) (hr : Room (k + 1) X.A) (hb : Binds X.K fd ps [])
    (hx : PassesAt CX X σ (E σ)) (I : Inv X pins σ H s) (r : Vals vs us)
    (h : ∀ x dx, H x = none → H dx = none → dx ≠ x → sp (.ref x :: vs) (upd (upd H dx (.own x)) x (.ins C dx [])) (fun v H2 => v = .non ∧ Q (.ref x) H2) (E σ)) :
    PySem.wpAny (model X.prog X.w) X.A (call (.ref C) us) (EP X pins σ Q) X.xe s := by
  have hq := h (s.heap.objs.size + 1) s.heap.objs.size (I.hok.fresh (Nat.le_succ _)) (I.hok.fresh (Nat.le_refl _)) (Nat.ne_of_lt (Nat.lt_succ_self _))
  have I2 := Inv.made (C := C) I
  have r2 : Vals (V.ref (s.heap.objs.size + 1) :: vs) (Value.ref (s.heap.objs.size + 1) :: us) := .cons rfl r
  have hl : (Value.ref (s.heap.objs.size + 1) :: us).length = ps.length := by
    have e := r2.length
    rw [F.len _ _ _ _ hq] at e
    exact e.symm
  have b := hb _ (Value.ref (s.heap.objs.size + 1) :: us) I2.kIn (by rw [List.append_nil]; exact hl)
  rw [List.append_nil] at b
  refine PySem.wpAny_call (make_map (f := f) I.kIn M.makes M.init (beq_iff_eq.mp M.fn) (codeAny_mono (F.run _ X.stack _ _ ⟨Value.ref (s.heap.objs.size + 1) :: us, []⟩ (Value.ref (s.heap.objs.size + 1) :: us) _ _ (E σ) (hr.make C us [])
    (I2.env0.make C us []) b r2 hq) fun r s' hq' => ?_))
  cases r with
  | error e => exact hx pins _ _ e s' I2 hq'
  | ok fl =>
    cases fl with
    | ret u =>
      obtain ⟨v, H', I3, rv, ev, q3⟩ := I2.after hq'
      subst ev
      exact ⟨rv, ⟨V.ref (s.heap.objs.size + 1), H', I3, rfl, q3⟩⟩
    | next => exact False.elim hq'
    | brk => exact False.elim hq'
    | cont => exact False.elim hq'
theorem pe_makeS (M : Mk X.K C f) (F : FnOk X.prog X.w X.K X.mg X.base CX k f fd ps sp) (hr : Room (k + 1) X.A) (hg : Gl X x) (hm : X.mg x = some (.ref C)) (hb : Binds X.K fd ps []) (hx : ∀ σ, PassesAt CX X σ (E σ))
    (ha : PA X (e :: es) t) (hdb : (x == ("__debug__" : Str)) = false := by decide) (he : starEach (e :: es) X.env = (false, eval e X.env) :: starEach es X.env := by rfl) (hpl : (backTo pos (starEach es X.env)).any (·.1) = false := by rfl) :
    PE X (.Call (.Name x p) (e :: es) [] pos) (tMakeS C sp E t) := by
  refine ⟨fun pins s σ H Q I h => ?_⟩
  refine PySem.wpAny_Call_Name_kw (ld_glob I hg hm ?_ hdb)
  refine PySem.W.callWith_K (h₀ := X.base) I.ok.mod.kin M.kp (thn (ha.run pos pins s σ H _ I h) fun us s1 ⟨vs, H1, I1, r, q⟩ => ⟨I1.kIn, ?_⟩) he hpl
  exact run_makeS M F hr hb (hx σ) I1 r q
theorem pe_mkX {W : WX} (tk : Takes X W) (c : Mak X.prog X.w X.K X.mg X.base x C k n S) (hr : Room j X.A) (hk : k + 1 ≤ j) (hg : Gl X x) (ha : PA X (e :: es) t) (hdb : (x == ("__debug__" : Str)) = false := by decide)
    (he : starEach (e :: es) X.env = (false, eval e X.env) :: starEach es X.env := by rfl) (hpl : (backTo pos (starEach es X.env)).any (·.1) = false := by rfl) : PE X (.Call (.Name x p) (e :: es) [] pos) (tMakeS C (spI X.K C n S) (WE W) t) := by
  obtain ⟨f, fd, ps, M, h1, h2, h4⟩ := c.ex
  exact pe_makeS M h1 (hr.mono hk) hg h2 h4 (fun σ => passAt tk σ) ha hdb he hpl
theorem pe_mk0 (c : Mak X.prog X.w X.K X.mg X.base x C k n S) (hr : Room j X.A) (hk : k + 1 ≤ j) (hg : Gl X x) (ha : PA X (e :: es) t) (hdb : (x == ("__debug__" : Str)) = false := by decide)
    (he : starEach (e :: es) X.env = (false, eval e X.env) :: starEach es X.env := by rfl) (hpl : (backTo pos (starEach es X.env)).any (·.1) = false := by rfl) : PE X (.Call (.Name x p) (e :: es) [] pos) (tMakeS C (spI X.K C n S) (fun _ => E0) t) := by
  obtain ⟨f, fd, ps, M, h1, h2, h4⟩ := c.ex
  exact pe_makeS M h1 (hr.mono hk) hg h2 h4 (fun σ pins H s e s' I c => passL pins σ H s e s' I c) ha hdb he hpl
end
section
variable {Z : Cz} {Γ : List B} {te ta tb tc : TE} {tt tu : TT} {tr : TA} {P : Po}
theorem made_state {G H G' H' : Hp} {σ : L2.St} {x dx' C : Addr} {ns : List Str} {xs : List V} {fs : List D} (j : J Z G H) (e : En Z G H σ Γ) (nx : H x = none) (i : J (Z.at H G) G' H') (hx : H' x = some (.ins C dx' (ns.zip xs))) (hl : ns.length = xs.length) (r : Rps Z.K Z.pl G' xs fs) (gx : G' x = none) :
    ∃ G'', Sp1 Z σ Γ Γ G H G'' H' ∧ J Z G'' H' ∧ En Z G'' H' σ Γ ∧ Rp Z.K Z.pl G'' (.ref x) (.obj C ns fs) := by
  have j' := j.leave i
  have e' := e.called j.toJ0 i.toJ0
  have s := Sp1.of (σ := σ) (Γ := Γ) i
  refine ⟨upd G' x (.ins C dx' (ns.zip xs)), ⟨s.ex.trans (Ex.new gx), fun _ h => h, fun a o ha n w => ?_, s.tr⟩, j'.still (j.old nx) hx gx, e'.mono (Ex.new gx) fun l o b1 b2 b3 ⟨m, o1, o2⟩ => ⟨b1, ?_⟩, .obj upd_same hl (r.mono (Ex.new gx))⟩
  · obtain ⟨h1, h2⟩ := s.fr a o ha n w
    exact ⟨h1, fun z => by rw [upd_ne (ne_of_none ha nx)]; exact h2 z⟩
  · have : l ≠ x := fun z => e.noown nx m o1 (by rw [o2, z])
    rw [upd_ne this]; exact b2
theorem den_makeX {n : Nat} {C : Addr} {S : ISpec} {Q : D → List B → Prop} (h : DenA Z tr Γ fun ds Γ1 => ds.length = n ∧ S.P ds ∧ (∀ fs, S.R ds fs → Q (.obj C S.ns fs) Γ1) ∧ ∀ er, S.X ds er → Z.X er Γ1) : Den Z (tMakeS C (spI Z.K C n S) (WE Z.W) tr) Γ Q := fun σ G H j e k kk =>
  h σ G H j e _ fun ds Γ1 vs G1 H1 q s1 j1 e1 r1 x dx nx ndx ne => by
    obtain ⟨hn, hp, hr, hx⟩ := q
    refine ⟨Z.pl, G1, ds, H1, x, dx, vs, rfl, rfl, nx, ndx, ne, j1.enter, r1, hn, hp, fun fs G' H' dx' xs a i h1 h2 r gx => ⟨rfl, ?_⟩, fun er cls d G' H' a i re => ?_⟩
    · obtain ⟨G2, s2, j2, e2, r2⟩ := made_state j1 e1 nx i h1 h2 r gx
      exact kk _ Γ1 _ G2 H' (hr fs a) (s1.trans s2) j2 e2 r2
    · exact j1.acc er cls d σ G' H' Γ1 (hx er a) i.g0 (j1.leave i).toJ0 (e1.called j1.toJ0 i.toJ0) re
theorem den_make0 {n : Nat} {C : Addr} {S : ISpec} {E : L2.St → XK} {Q : D → List B → Prop} (h : DenA Z tr Γ fun ds Γ1 => ds.length = n ∧ S.P ds ∧ (∀ fs, S.R ds fs → Q (.obj C S.ns fs) Γ1) ∧ ∀ er, ¬ S.X ds er) : Den Z (tMakeS C (spI Z.K C n S) E tr) Γ Q := fun σ G H j e k kk =>
  h σ G H j e _ fun ds Γ1 vs G1 H1 q s1 j1 e1 r1 x dx nx ndx ne => by
    obtain ⟨hn, hp, hr, hx⟩ := q
    refine ⟨Z.pl, G1, ds, H1, x, dx, vs, rfl, rfl, nx, ndx, ne, j1.enter, r1, hn, hp, fun fs G' H' dx' xs a i h1 h2 r gx => ⟨rfl, ?_⟩, fun er cls d G' H' a i re => absurd a (hx er)⟩
    obtain ⟨G2, s2, j2, e2, r2⟩ := made_state j1 e1 nx i h1 h2 r gx
    exact kk _ Γ1 _ G2 H' (hr fs a) (s1.trans s2) j2 e2 r2
theorem den_ty {T : String} {Q : D → List B → Prop} (q : Q (.ty T) Γ) : Den Z (tC (.ty T)) Γ Q := fun σ G H j e k kk => kk _ _ _ G H q .refl j e (.ty T)
theorem den_cls {C : Addr} {Q : D → List B → Prop} (q : Q (.cls C) Γ) : Den Z (tC (.ref C)) Γ Q := fun σ G H j e k kk => kk _ _ _ G H q .refl j e (.cls C)
theorem dent_chain {r r' : R2} {Q : Bool → List B → Prop} (h : Den Z (tChain r r' ta tb tc) Γ fun x Γ1 => ∃ b, x = .bl b ∧ Q b Γ1) : DenT Z (tTest (tChain r r' ta tb tc)) Γ Q := dent_test h
end
end Ab
namespace L2
open PySem PySem.Spec PyProof.Rows
section
variable {X : Cx} {tg : Expr}
/-- a walk over a list or a tuple -/
def iSeq (K : PySem.W.Frag) (tl : TE) : TI := fun σ H R => tl σ H fun x H1 => ∃ a, x = .ref a ∧ (((∃ xs, SqL K H1 a xs) ∧ R (Itl K a) H1) ∨ ((∃ xs, SqT K H1 a xs) ∧ R (Itt K a) H1))
theorem pi_seq {l : Expr} {tl : TE} (hl : PE X l tl) : PI X tg l (iSeq X.K tl) := by
  refine ⟨fun pins s σ H R I h => ?_⟩
  refine thn (hl.run pins s σ H _ I h) fun v s1 ⟨x, H1, I1, r1, q1⟩ => ?_
  obtain ⟨a, e, q1⟩ := q1
  subst e
  cases r1
  have fr : ∀ b ∈ [s1.heap.objs.size], FpOk X pins H1 b := fun b hb => by
    have e : b = s1.heap.objs.size := by simpa using hb
    subst e
    exact I1.fpOk (Nat.le_refl _) (I1.hok.fresh (Nat.le_refl _))
  rcases q1 with ⟨⟨xs, hq⟩, q⟩ | ⟨⟨xs, hq⟩, q⟩
  · obtain ⟨its, rv, p, hz⟩ := I1.list hq
    refine wpAny_pyIter_list p.isList ?_
    exact ⟨s1.heap.objs.size, [s1.heap.objs.size], _, _, H1, rfl, I1.kept (t' := s1.toks) fun b o e => Heap.get?_push_of_some _ e, turn_list a _, ⟨_, Heap.get?_push_size _ rfl, rfl, rfl⟩, fr, q⟩
  · obtain ⟨its, rv, p, hz⟩ := I1.tuple hq
    refine wpAny_pyIter_tuple (show s1.heap.IsTuple a its.toArray from p) ?_
    exact ⟨s1.heap.objs.size, [s1.heap.objs.size], _, _, H1, rfl, I1.kept (t' := s1.toks) fun b o e => Heap.get?_push_of_some _ e, turn_tuple a _, ⟨_, Heap.get?_push_size _ rfl, rfl, rfl⟩, fr, q⟩
def rAddI : R2 := rI0 fun i j => .int (i + j)
def rAddS : R2 := fun x y H Q => ∃ i j, x = .str i ∧ y = .str j ∧ i.length + j.length ≤ sizeLine ∧ Q (.str (i ++ j)) H
def rPlus (K : PySem.W.Frag) : R2 := fun x y H Q => rAddI x y H Q ∨ (rCatA K x y H Q ∨ (rCat x y H Q ∨ rAddS x y H Q))
theorem op_plus : OpR X (binaryOp .Add) (rPlus X.K) := op_add.or (op_catA.or (op_cat.or op_add_str))
def rMulI : R2 := rI CMul fun i j => .int (i * j)
def rMulW : R2 := rI CMulW fun i j => .int (i * j)
def rTimes (K : PySem.W.Frag) : R2 := fun x y H Q => rMulI x y H Q ∨ (rRepT K x y H Q ∨ (rRep x y H Q ∨ rMulW x y H Q))
theorem op_times : OpR X (binaryOp .Mult) (rTimes X.K) := op_mul.or (op_repT.or (op_rep.or op_mulW))
def rEqq (K : PySem.W.Frag) : R2 := fun x y H Q => rEq x y H Q ∨ rEqD K x y H Q
theorem op_eqq (hu : X.A.units + 64 < cLine) : OpR X (compareOp .Eq) (rEqq X.K) := op_eq.or (op_eqD hu)
def rNeq (K : PySem.W.Frag) : R2 := fun x y H Q => rNe x y H Q ∨ rNeD K x y H Q
theorem op_neqq (hu : X.A.units + 64 < cLine) : OpR X (compareOp .NotEq) (rNeq X.K) := op_ne.or (op_neD hu)
def rSlG (K : PySem.W.Frag) : V → Option Int → Option Int → Hp → VK → Prop := fun x lo hi H Q => rSlA K x lo hi H Q ∨ rSlL K x lo hi H Q
theorem sl_any : SlR X (rSlG X.K) := sl_tupA.or sl_list
end
end L2
namespace Ab
open PySem L2
section
variable {Z : Cz} {Γ : List B} {te ta tb tc : TE} {tt tu : TT} {tr : TA} {P : Po}
theorem OpD.inl {r r' : R2} {x y : D} {Q : D → Prop} (h : OpD Z r x y Q) : OpD Z (fun x y H Q => r x y H Q ∨ r' x y H Q) x y Q := fun G H vx vy j rx ry k kk => .inl (h G H vx vy j rx ry k kk)
theorem OpD.inr {r r' : R2} {x y : D} {Q : D → Prop} (h : OpD Z r' x y Q) : OpD Z (fun x y H Q => r x y H Q ∨ r' x y H Q) x y Q := fun G H vx vy j rx ry k kk => .inr (h G H vx vy j rx ry k kk)
theorem OpL.inl {r r' : R2} {x y : D} {Q : List D → Prop} (h : OpL Z r x y Q) : OpL Z (fun x y H Q => r x y H Q ∨ r' x y H Q) x y Q := fun G H vx vy j rx ry k kk => .inl (h G H vx vy j rx ry k kk)
theorem OpL.inr {r r' : R2} {x y : D} {Q : List D → Prop} (h : OpL Z r' x y Q) : OpL Z (fun x y H Q => r x y H Q ∨ r' x y H Q) x y Q := fun G H vx vy j rx ry k kk => .inr (h G H vx vy j rx ry k kk)
theorem plus_int {i j : Int} {Q : D → Prop} (q : Q (.int (i + j))) : OpD Z (rPlus Z.K) (.int i) (.int j) Q := (opd_i0 (f := fun i j => i + j) q).inl
theorem plus_tup {xs ys : List D} {Q : D → Prop} (hz : xs.length + ys.length ≤ 100000) (q : Q (.tup (xs ++ ys))) : OpD Z (rPlus Z.K) (.tup xs) (.tup ys) Q := ((opd_cat hz q).inl).inr
theorem times_int {i j : Int} {Q : D → Prop} (c : CMul i j) (q : Q (.int (i * j))) : OpD Z (rTimes Z.K) (.int i) (.int j) Q := (opd_ic (f := fun i j => i * j) c q).inl
theorem times_wide {i j : Int} {Q : D → Prop} (c : CMulW i j) (q : Q (.int (i * j))) : OpD Z (rTimes Z.K) (.int i) (.int j) Q := ((((opd_ic (f := fun i j => i * j) c q).inr).inr).inr)
theorem opd_repT {xs : List D} {n : Int} {Q : D → Prop} (h0 : xs ≠ []) (h1 : 2 ≤ n) (h2 : n ≤ 1000) (h3 : xs.length ≤ 1000) (q : Q (.tup (List.replicate n.toNat xs).flatten)) : OpD Z (rRepT Z.K) (.tup xs) (.int n) Q := fun G H vx vy jj rx ry k kk => by
  cases rx with
  | @tup a vs _ g1 r1 =>
    cases ry
    exact ⟨a, n, vs, rfl, rfl, (jj.sub.sqt g1), fun e => h0 (r1.nil_iff.mp e), h1, h2, by rw [r1.length]; exact h3, fun p hp => kk _ _ _ _ q (jj.sp hp) (.tup (SqT.of upd_same) ((r1.mono (Ex.new (jj.sub.back hp))).flat _))⟩
theorem times_tup {xs : List D} {n : Int} {Q : D → Prop} (h0 : xs ≠ []) (h1 : 2 ≤ n) (h2 : n ≤ 1000) (h3 : xs.length ≤ 1000) (q : Q (.tup (List.replicate n.toNat xs).flatten)) : OpD Z (rTimes Z.K) (.tup xs) (.int n) Q := ((opd_repT h0 h1 h2 h3 q).inl).inr
theorem plus_lst {xs ys : List D} {Q : List D → Prop} (hz : xs.length + ys.length ≤ 100000) (q : Q (xs ++ ys)) : OpL Z (rPlus Z.K) (.lst xs) (.lst ys) Q := (((opl_cat hz q).inl).inr).inr
theorem times_lst {xs : List D} {n : Int} {Q : List D → Prop} (h1 : -(2 ^ 63) ≤ n) (h2 : n < 2 ^ 63) (hz : xs.length * n.toNat ≤ 100000) (q : Q (List.replicate n.toNat xs).flatten) : OpL Z (rTimes Z.K) (.lst xs) (.int n) Q := (((opl_rep h1 h2 hz q).inl).inr).inr
theorem eqg_int {i j : Int} {Q : D → Prop} (q : Q (.bl (decide (i = j)))) : OpD Z (rEqq Z.K) (.int i) (.int j) Q := (opd_eqI q).inl
theorem neg_int {i j : Int} {Q : D → Prop} (q : Q (.bl (!decide (i = j)))) : OpD Z (rNeq Z.K) (.int i) (.int j) Q := (opd_neI q).inl
theorem eqg_str {i j : Str} {Q : D → Prop} (q : Q (.bl (decide (i = j)))) : OpD Z (rEqq Z.K) (.str i) (.str j) Q := (opd_eqS q).inl
theorem neg_str {i j : Str} {Q : D → Prop} (q : Q (.bl (!decide (i = j)))) : OpD Z (rNeq Z.K) (.str i) (.str j) Q := (opd_neS q).inl
theorem eqg_bl {i j : Bool} {Q : D → Prop} (q : Q (.bl (decide (i = j)))) : OpD Z (rEqq Z.K) (.bl i) (.bl j) Q := (opd_eqB q).inl
theorem neg_bl {i j : Bool} {Q : D → Prop} (q : Q (.bl (!decide (i = j)))) : OpD Z (rNeq Z.K) (.bl i) (.bl j) Q := (opd_neB q).inl
theorem eqg_data {x y : D} {Q : D → Prop} (px : plainD x = true) (py : plainD y = true) (sx : SeqAt.shaped (pyD x) = true) (sy : SeqAt.shaped (pyD y) = true) (q : Q (.bl (PyData.eqv (pyD x) (pyD y)))) : OpD Z (rEqq Z.K) x y Q := (opd_eqD px py sx sy q).inr
theorem neg_data {x y : D} {Q : D → Prop} (px : plainD x = true) (py : plainD y = true) (sx : SeqAt.shaped (pyD x) = true) (sy : SeqAt.shaped (pyD y) = true) (q : Q (.bl (!PyData.eqv (pyD x) (pyD y)))) : OpD Z (rNeq Z.K) x y Q := (opd_neD px py sx sy q).inr
/-- slices -/
theorem den_slA {to1 to2 : TO} {Q : D → List B → Prop} (h : Den Z te Γ fun x Γ1 => ∃ xs, x = .tup xs ∧ DenO Z to1 Γ1 fun lo Γ2 => DenO Z to2 Γ2 fun hi Γ3 => Q (.tup (cutD xs lo hi)) Γ3) : Den Z (tSl (rSlG Z.K) te to1 to2) Γ Q := fun σ G H j e k kk =>
  h σ G H j e _ fun x Γ1 v G1 H1 q s1 j1 e1 r1 => by
    obtain ⟨xs, rfl, q⟩ := q
    refine q σ G1 H1 j1 e1 _ fun lo Γ2 G2 H2 q2 s2 j2 e2 => q2 σ G2 H2 j2 e2 _ fun hi Γ3 G3 H3 q3 s3 j3 e3 => .inl ?_
    have r3 := (r1.mono s2.ex).mono s3.ex
    have s := (s1.trans s2).trans s3
    cases r3 with
    | @tup a vs _ h1 r3 =>
      refine ⟨a, vs, rfl, (j3.sub.sqt h1), fun w => ?_, fun w p hp => ?_⟩
      · rw [r3.length] at w
        have q3 : Q (.tup (cutD xs lo hi)) Γ3 := q3
        rw [cut_whole w] at q3
        exact kk _ Γ3 _ G3 H3 q3 s j3 e3 (.tup h1 r3)
      · exact kk _ Γ3 _ _ _ q3 (s.trans (.of (j3.sp hp))) (j3.new hp) (e3.new j3.toJ0 hp) (.tup (SqT.of upd_same) (cut_rps (r3.mono (Ex.new (j3.sub.back hp))) lo hi))
theorem denl_slA {to1 to2 : TO} {Q : List D → List B → Prop} (h : Den Z te Γ fun x Γ1 => ∃ xs, x = .lst xs ∧ DenO Z to1 Γ1 fun lo Γ2 => DenO Z to2 Γ2 fun hi Γ3 => Q (cutD xs lo hi) Γ3) : DenL Z (tSl (rSlG Z.K) te to1 to2) Γ Q := fun σ G H j e k kk =>
  h σ G H j e _ fun x Γ1 v G1 H1 q s1 j1 e1 r1 => by
    obtain ⟨xs, rfl, q⟩ := q
    refine q σ G1 H1 j1 e1 _ fun lo Γ2 G2 H2 q2 s2 j2 e2 => q2 σ G2 H2 j2 e2 _ fun hi Γ3 G3 H3 q3 s3 j3 e3 => .inr ?_
    have r3 := (r1.mono s2.ex).mono s3.ex
    have s := (s1.trans s2).trans s3
    cases r3 with
    | @lst a vs _ h1 r3 =>
      have sq : SqL Z.K H3 a vs := .inl (.inl (j3.sub _ _ h1))
      refine ⟨a, vs, rfl, sq, fun p hp => ?_⟩
      have n := j3.sub.back hp
      refine kk _ Γ3 p _ G3 (upd H3 p (.lst (cutV vs lo hi))) q3 (s.trans ⟨Ex.refl _, fun _ h => h, fun a o ha _ _ => ⟨?_, fun z => z⟩, fun a o ha => ⟨o, ?_⟩⟩) (j3.put (j3.old hp) n) (e3.newM hp) upd_same (cut_rps r3 lo hi) ⟨n, j3.old hp, fun i o => e3.noown hp i o⟩ (s.back hp)
      · rw [upd_ne (ne_of_none ha hp)]; exact ha
      · rw [upd_ne (ne_of_none ha hp)]; exact ha
theorem deni_seq {Q : List D → List B → Prop} (h : Den Z te Γ fun x Γ1 => ∃ xs, (x = .lst xs ∨ x = .tup xs) ∧ Q xs Γ1) : DenI Z (iSeq Z.K te) Γ Q := fun σ G H j e k kk =>
  h σ G H j e _ fun x Γ1 v G1 H1 q s1 j1 e1 r1 => by
    obtain ⟨xs, hx, q⟩ := q
    rcases hx with rfl | rfl
    · cases r1 with
      | @lst a vs _ h1 r1 =>
        refine ⟨a, rfl, .inl ⟨⟨vs, sql_of h1 (Ex.refl _) j1⟩, kk xs Γ1 _ G1 H1 q s1 j1 e1 ⟨fun G' H' i x j' hi => ?_, fun G' H' x j' => ?_, fun G' H' i x H'' ex j' hi y => ?_⟩⟩⟩
        · rw [← r1.length] at hi
          exact ⟨vs, vs[i], sql_of h1 x j', by simp [hi]⟩
        · exact ⟨vs, sql_of h1 x j', by rw [r1.length]; exact Nat.le_refl _⟩
        · obtain ⟨rfl, y⟩ := y
          obtain ⟨d, hd, hr⟩ := r1.getV (y vs (sql_of h1 ex j'))
          exact ⟨G', d, hd, j'.enter, hr.mono ex⟩
    · cases r1 with
      | @tup a vs _ h1 r1 =>
        refine ⟨a, rfl, .inr ⟨⟨vs, sqt_of h1 (Ex.refl _) j1⟩, kk xs Γ1 _ G1 H1 q s1 j1 e1 ⟨fun G' H' i x j' hi => ?_, fun G' H' x j' => ?_, fun G' H' i x H'' ex j' hi y => ?_⟩⟩⟩
        · rw [← r1.length] at hi
          exact ⟨vs, vs[i], sqt_of h1 x j', by simp [hi]⟩
        · exact ⟨vs, sqt_of h1 x j', by rw [r1.length]; exact Nat.le_refl _⟩
        · obtain ⟨rfl, y⟩ := y
          obtain ⟨d, hd, hr⟩ := r1.getV (y vs (sqt_of h1 ex j'))
          exact ⟨G', d, hd, j'.enter, hr.mono ex⟩
end
end Ab
namespace Ab
open PySem L2
section
variable {X : Cx} (K : PySem.W.Frag)
theorem k_plus (h : X.K = K := by rfl) : OpR X (binaryOp .Add) (rPlus K) := by subst h; exact op_plus
theorem k_times (h : X.K = K := by rfl) : OpR X (binaryOp .Mult) (rTimes K) := by subst h; exact op_times
theorem k_eq (hu : X.A.units + 64 < cLine) (h : X.K = K := by rfl) : OpR X (compareOp .Eq) (rEqq K) := by subst h; exact op_eqq hu
theorem k_ne (hu : X.A.units + 64 < cLine) (h : X.K = K := by rfl) : OpR X (compareOp .NotEq) (rNeq K) := by subst h; exact op_neqq hu
theorem k_in (h : X.K = K := by rfl) : OpR X (compareOp .In) (rIn K false) := by subst h; exact op_in_seq
theorem k_nin (h : X.K = K := by rfl) : OpR X (compareOp .NotIn) (rIn K true) := by subst h; exact op_notIn_seq
theorem k_ix (h : X.K = K := by rfl) : IxR X (rIx K) := by subst h; exact ix_seq
theorem k_sl (h : X.K = K := by rfl) : SlR X (rSlG K) := by subst h; exact sl_any
theorem k_len (h : X.K = K := by rfl) : CallR X (.builtin "len") (rLen K) := by subst h; exact call_len
theorem k_tuple (h : X.K = K := by rfl) : CallR X (.type "tuple") (rTupleOf K) := by subst h; exact call_tuple_of
theorem k_list (h : X.K = K := by rfl) : CallR X (.type "list") (rListOf K) := by subst h; exact call_list_of
theorem k_all (hc : X.calm = true) (h : X.K = K := by rfl) : CallR X (.builtin "all") (rAll K) := by subst h; exact cr_all hc
theorem k_any (hc : X.calm = true) (h : X.K = K := by rfl) : CallR X (.builtin "any") (rAny K) := by subst h; exact cr_any hc
theorem k_sum (hc : X.calm = true) (h : X.K = K := by rfl) : CallR X (.builtin "sum") (rSum K) := by subst h; exact cr_sum hc
theorem k_isi (h : X.K = K := by rfl) : CallR X (.builtin "isinstance") (rIsi K) := by subst h; exact call_isi
theorem k_sorted (h : X.K = K := by rfl) : CallR X (.builtin "sorted") (rSorted K) := by subst h; exact cr_sorted
section
variable {tg e o : Expr} {te to : TE} {ta : TA} {p pos tpos apos cpos : Pos} {elts es : List Expr} {kk : Nat}
theorem ki_seq (he : PE X e te) (h : X.K = K := by rfl) : PI X tg e (iSeq K te) := by subst h; exact pi_seq he
theorem ki_enum (hg : Gl X "enumerate") (hm : X.mg "enumerate" = none) (ha : PA X [e] ta) (h : X.K = K := by rfl) (hs : starEach [e] X.env = [(false, eval e X.env)] := by rfl) :
    PI X (.Tuple elts kk tpos) (.Call (.Name "enumerate" p) [e] [] pos) (iEnumA K ta) := by subst h; exact pi_enumA hg hm ha hs
theorem ki_zip {e2 : Expr} (hg : Gl X "zip") (hm : X.mg "zip" = none) (ha : PA X [e, e2] ta) (h : X.K = K := by rfl)
    (hs : starEach [e, e2] X.env = (false, eval e X.env) :: starEach [e2] X.env := by rfl) (hpl : (backTo pos (starEach [e2] X.env)).any (·.1) = false := by rfl) :
    PI X (.Tuple elts kk tpos) (.Call (.Name "zip" p) [e, e2] [] pos) (RZ.iZipA K ta) := by subst h; exact RZ.pi_zipA hg hm ha hs hpl
theorem kg_tup {t : TGs} {n : Nat} (hc : X.calm = true) (h : PGs X elts t) (hk : X.K = K := by rfl) (hn : (assignEach elts X.env).length = n := by rfl) (hst : List.findIdx? (fun x => x.fst) (assignEach elts X.env) = none := by rfl) : PG X (.Tuple elts kk pos) (gTup K n t) := by
  subst hk
  exact pg_tup hc h hn hst
theorem k_fld {f : Str} (he : PE X e te) (h : X.K = K := by rfl) (hb : attributeBase e f X.env (eval e X.env) = eval e X.env := by rfl) : PE X (.Attribute e f pos) (tFld K te f) := by subst h; exact pe_fld he hb
theorem ks_fld {f : Str} {value : Expr} {tv : TE} {pos' : Pos} (ha : PE X o to) (hv : PE X value tv) (h : X.K = K := by rfl) (hs : swapsWith value (some (.Attribute o f pos')) pos.line X.env = pure false := by rfl) : PS X (.Assign [.Attribute o f pos'] value pos) (sFld K to tv f) := by subst h; exact ps_fld ha hv hs
end
variable {K}
section
variable {P : Program} {w : World} {mg : Str → Option Value} {base : Heap} {x : Str} {e : Expr} {es : List Expr} {t : TA} {k n j : Nat} {S : FSpec} {p pos : Pos}
theorem kc_fn (c : Dfn P w K mg base x k n S) (hr : Room j X.A) (hk : k ≤ j) (hX : X.prog = P ∧ X.w = w ∧ X.K = K ∧ X.mg = mg ∧ X.base = base) (hg : Gl X x) (ha : PA X (e :: es) t) (hdb : (x == ("__debug__" : Str)) = false := by decide)
    (he : starEach (e :: es) X.env = (false, eval e X.env) :: starEach es X.env := by rfl) (hpl : (backTo pos (starEach es X.env)).any (·.1) = false := by rfl) : PE X (.Call (.Name x p) (e :: es) [] pos) (tCall (spS K n S) [] E0 t) := by
  obtain ⟨rfl, rfl, rfl, rfl, rfl⟩ := hX
  exact pe_fn c hr hk hg ha hdb he hpl
theorem kc_fn0 (c : Dfn P w K mg base x k n S) (hr : Room j X.A) (hk : k ≤ j) (hX : X.prog = P ∧ X.w = w ∧ X.K = K ∧ X.mg = mg ∧ X.base = base) (hg : Gl X x) (hdb : (x == ("__debug__" : Str)) = false := by decide)
    (hpl : (backTo pos (starEach [] X.env)).any (·.1) = false := by rfl) : PE X (.Call (.Name x p) [] [] pos) (tCall (spS K n S) [] E0 tNil) := by
  obtain ⟨rfl, rfl, rfl, rfl, rfl⟩ := hX
  exact pe_fn0 c hr hk hg hdb hpl
theorem kc_fnX {W : WX} (tk : Takes X W) (c : Dfn P w K mg base x k n S) (hr : Room j X.A) (hk : k ≤ j) (hX : X.prog = P ∧ X.w = w ∧ X.K = K ∧ X.mg = mg ∧ X.base = base) (hg : Gl X x) (ha : PA X (e :: es) t) (hdb : (x == ("__debug__" : Str)) = false := by decide)
    (he : starEach (e :: es) X.env = (false, eval e X.env) :: starEach es X.env := by rfl) (hpl : (backTo pos (starEach es X.env)).any (·.1) = false := by rfl) : PE X (.Call (.Name x p) (e :: es) [] pos) (tCallS (spS K n S) (WE W) t) := by
  obtain ⟨rfl, rfl, rfl, rfl, rfl⟩ := hX
  exact pe_fnX tk c hr hk hg ha hdb he hpl
theorem kc_mkX {C : Addr} {S : ISpec} {W : WX} (tk : Takes X W) (c : Mak P w K mg base x C k n S) (hr : Room j X.A) (hk : k + 1 ≤ j) (hX : X.prog = P ∧ X.w = w ∧ X.K = K ∧ X.mg = mg ∧ X.base = base) (hg : Gl X x) (ha : PA X (e :: es) t) (hdb : (x == ("__debug__" : Str)) = false := by decide)
    (he : starEach (e :: es) X.env = (false, eval e X.env) :: starEach es X.env := by rfl) (hpl : (backTo pos (starEach es X.env)).any (·.1) = false := by rfl) : PE X (.Call (.Name x p) (e :: es) [] pos) (tMakeS C (spI K C n S) (WE W) t) := by
  obtain ⟨rfl, rfl, rfl, rfl, rfl⟩ := hX
  exact pe_mkX tk c hr hk hg ha hdb he hpl
theorem kc_mk0 {C : Addr} {S : ISpec} (c : Mak P w K mg base x C k n S) (hr : Room j X.A) (hk : k + 1 ≤ j) (hX : X.prog = P ∧ X.w = w ∧ X.K = K ∧ X.mg = mg ∧ X.base = base) (hg : Gl X x) (ha : PA X (e :: es) t) (hdb : (x == ("__debug__" : Str)) = false := by decide)
    (he : starEach (e :: es) X.env = (false, eval e X.env) :: starEach es X.env := by rfl) (hpl : (backTo pos (starEach es X.env)).any (·.1) = false := by rfl) : PE X (.Call (.Name x p) (e :: es) [] pos) (tMakeS C (spI K C n S) (fun _ => E0) t) := by
  obtain ⟨rfl, rfl, rfl, rfl, rfl⟩ := hX
  exact pe_mk0 c hr hk hg ha hdb he hpl
end
/-- a def of the text, found and walked, as its callers know it -/
theorem dfn_mk {P : Program} {w : World} {mg : Str → Option Value} {base : Heap} {x qual : Str} {st : Stmt} {f : Addr} {fd : FuncData} {ps : List Str} {k : Nat} {S : FSpec} (F : Fun K x qual st f fd) (m : mg x = some (.ref f)) (b : Binds K fd ps [])
    (h : FnOk P w K mg base (L2.CX P w) k f fd ps (spS K ps.length S)) : Dfn P w K mg base x k ps.length S := ⟨⟨f, fd, ps, h, m, F.kp, b⟩⟩
end
end Ab
namespace Ab
open PySem L2
/-- two lists of one length, place by place -/
inductive Each {α β : Type} (R : α → β → Prop) : List α → List β → Prop
  | nil : Each R [] []
  | cons {a : α} {b : β} {as : List α} {bs : List β} : R a b → Each R as bs → Each R (a :: as) (b :: bs)
theorem Each.length {α β : Type} {R : α → β → Prop} : ∀ {as : List α} {bs : List β}, Each R as bs → as.length = bs.length
  | _, _, .nil => rfl
  | _, _, .cons _ t => by simp [Each.length t]
theorem Each.snoc {α β : Type} {R : α → β → Prop} : ∀ {as : List α} {bs : List β} {a : α} {b : β}, Each R as bs → R a b → Each R (as ++ [a]) (bs ++ [b])
  | _, _, _, _, .nil, r => .cons r .nil
  | _, _, _, _, .cons q t, r => .cons q (Each.snoc t r)
theorem Each.get {α β : Type} {R : α → β → Prop} : ∀ {as : List α} {bs : List β} {i : Nat} {a : α}, Each R as bs → as[i]? = some a → ∃ b, bs[i]? = some b ∧ R a b
  | _, _, _, _, .nil, h => by simp at h
  | _, _, 0, _, .cons r _, h => by simp at h; subst h; exact ⟨_, rfl, r⟩
  | _, _, i + 1, _, .cons _ t, h => by
    obtain ⟨b, h1, h2⟩ := Each.get (i := i) t (by simpa using h)
    exact ⟨b, by simpa using h1, h2⟩
theorem Each.getR {α β : Type} {R : α → β → Prop} : ∀ {as : List α} {bs : List β} {i : Nat} {b : β}, Each R as bs → bs[i]? = some b → ∃ a, as[i]? = some a ∧ R a b
  | _, _, _, _, .nil, h => by simp at h
  | _, _, 0, _, .cons r _, h => by simp at h; subst h; exact ⟨_, rfl, r⟩
  | _, _, i + 1, _, .cons _ t, h => by
    obtain ⟨b, h1, h2⟩ := Each.getR (i := i) t (by simpa using h)
    exact ⟨b, by simpa using h1, h2⟩
theorem Each.map_eq {α β : Type} {f : α → β} : ∀ {as : List α} {bs : List β}, Each (fun a b => b = f a) as bs → bs = as.map f
  | _, _, .nil => rfl
  | _, _, .cons r t => by rw [r, Each.map_eq t]; rfl
theorem Each.imp {α β : Type} {R R' : α → β → Prop} (h : ∀ a b, R a b → R' a b) : ∀ {as : List α} {bs : List β}, Each R as bs → Each R' as bs
  | _, _, .nil => .nil
  | _, _, .cons r t => .cons (h _ _ r) (t.imp h)
theorem Each.all {α β : Type} {R : α → β → Prop} {p : β → Prop} (h : ∀ a b, R a b → p b) : ∀ {as : List α} {bs : List β}, Each R as bs → ∀ b ∈ bs, p b
  | _, _, .nil, _, m => by cases m
  | _, _, .cons r t, b, m => by
    rcases List.mem_cons.mp m with e | m
    · subst e; exact h _ _ r
    · exact Each.all h t b m
theorem take_snoc {α : Type} : ∀ {l : List α} {i : Nat} {x : α}, l[i]? = some x → l.take (i + 1) = l.take i ++ [x]
  | [], i, x, h => by simp at h
  | a :: l, 0, x, h => by simp at h; subst h; simp
  | a :: l, i + 1, x, h => by
    have ih := take_snoc (l := l) (i := i) (x := x) (by simpa using h)
    simp only [List.take_succ_cons, ih, List.cons_append]
section
variable {Z : Cz} {Γ : List B} {te ta tb tc : TE} {tt tu : TT} {tr : TA} {P : Po}
/-- [e for x in xs] -/
theorem denl_rel {wi : TI} {g : TG} {vs : List Nat} {Q : List D → List B → Prop} (hg : GOff g vs) (hm : GMono g)
    (h : DenI Z wi Γ fun ds Γ1 => (∀ i ∈ vs, ¬ IsOwn Γ1[i]?) ∧ ds.length < 100000 ∧ ∃ R : D → D → Prop,
      (∀ (i : Nat) d, ds[i]? = some d → DenG Z g d (wipeB Γ1 vs) fun Γ2 => wipeB Γ2 vs = wipeB Γ1 vs ∧ (∀ i ∈ vs, ¬ IsOwn Γ2[i]?) ∧ Den Z te Γ2 fun y Γ4 => Γ4 = Γ2 ∧ R d y) ∧
      ∀ ys, Each R ds ys → Q ys Γ1) : DenL Z (tLc wi g tYes te vs) Γ Q := by
  refine denl_lc hg hm fun σ G H j e k kk => h σ G H j e k fun ds Γ1 Jt G1 H1 q s1 j1 e1 it => kk ds Γ1 Jt G1 H1 ?_ s1 j1 e1 it
  obtain ⟨h1, h2, R, h3, h4⟩ := q
  refine ⟨h1, h2, fun i acc => Each R (ds.take i) acc, .nil, fun i d acc hd ha iv => ?_, fun acc _ iv => h4 acc (by have iv : Each R (ds.take ds.length) acc := iv; rw [List.take_length] at iv; exact iv)⟩
  intro σ2 G2 H2 v j2 e2 r2 k2 kk2
  refine h3 i d hd σ2 G2 H2 v j2 e2 r2 k2 fun Γ2 σ3 ⟨q1, q2, q3⟩ e3 => kk2 Γ2 σ3 ⟨q1, q2, dent_yes ⟨rfl, ?_⟩⟩ e3
  rw [if_pos rfl]
  refine q3.mono fun y Γ4 ⟨z1, z2⟩ => ⟨z1, ?_⟩
  show Each R (ds.take (i + 1)) _
  rw [take_snoc hd]; exact Each.snoc iv z2
/-- [e for x in xs], e a function of x -/
theorem denl_map {wi : TI} {g : TG} {vs : List Nat} {Q : List D → List B → Prop} (hg : GOff g vs) (hm : GMono g)
    (h : DenI Z wi Γ fun ds Γ1 => (∀ i ∈ vs, ¬ IsOwn Γ1[i]?) ∧ ds.length < 100000 ∧ ∃ f : D → D,
      (∀ (i : Nat) d, ds[i]? = some d → DenG Z g d (wipeB Γ1 vs) fun Γ2 => wipeB Γ2 vs = wipeB Γ1 vs ∧ (∀ i ∈ vs, ¬ IsOwn Γ2[i]?) ∧ Den Z te Γ2 fun y Γ4 => Γ4 = Γ2 ∧ y = f d) ∧
      Q (ds.map f) Γ1) : DenL Z (tLc wi g tYes te vs) Γ Q :=
  denl_rel hg hm fun σ G H j e k kk => h σ G H j e k fun ds Γ1 Jt G1 H1 ⟨a, b, f, c, d⟩ => kk ds Γ1 Jt G1 H1 ⟨a, b, fun x y => y = f x, c, fun ys z => by rw [z.map_eq]; exact d⟩
/-- [e for x in xs if t]: t and e functions of x -/
theorem denl_filter {wi : TI} {g : TG} {vs : List Nat} {Q : List D → List B → Prop} (hg : GOff g vs) (hm : GMono g)
    (h : DenI Z wi Γ fun ds Γ1 => (∀ i ∈ vs, ¬ IsOwn Γ1[i]?) ∧ ds.length < 100000 ∧ ∃ (p : D → Bool → Prop) (R : D → D → Prop),
      (∀ (i : Nat) d, ds[i]? = some d → DenG Z g d (wipeB Γ1 vs) fun Γ2 => wipeB Γ2 vs = wipeB Γ1 vs ∧ (∀ i ∈ vs, ¬ IsOwn Γ2[i]?) ∧ DenT Z tt Γ2 fun b Γ3 => Γ3 = Γ2 ∧ p d b ∧ (b = true → Den Z te Γ2 fun y Γ4 => Γ4 = Γ2 ∧ R d y)) ∧
      ∀ bs ys, Each p ds bs → Each R ((ds.zip bs).filterMap fun z => if z.2 then some z.1 else none) ys → Q ys Γ1) : DenL Z (tLc wi g tt te vs) Γ Q := by
  refine denl_lc hg hm fun σ G H j e k kk => h σ G H j e k fun ds Γ1 Jt G1 H1 q s1 j1 e1 it => kk ds Γ1 Jt G1 H1 ?_ s1 j1 e1 it
  obtain ⟨h1, h2, p, R, h3, h4⟩ := q
  have zs : ∀ {l : List D} {bs : List Bool} {d : D} {b : Bool}, l.length = bs.length → ((l ++ [d]).zip (bs ++ [b])).filterMap (fun z => if z.2 then some z.1 else none) = (l.zip bs).filterMap (fun z => if z.2 then some z.1 else none) ++ (if b then [d] else []) := by
    intro l bs d b hl
    rw [zip_snoc hl, List.filterMap_append]
    cases b <;> simp
  refine ⟨h1, h2, fun i acc => ∃ bs, Each p (ds.take i) bs ∧ Each R (((ds.take i).zip bs).filterMap fun z => if z.2 then some z.1 else none) acc, ⟨[], .nil, .nil⟩, fun i d acc hd ha ⟨bs, iv1, iv2⟩ => ?_, fun acc _ ⟨bs, iv1, iv2⟩ => h4 bs acc (by rw [List.take_length] at iv1; exact iv1) (by rw [List.take_length] at iv2; exact iv2)⟩
  intro σ2 G2 H2 v j2 e2 r2 k2 kk2
  refine h3 i d hd σ2 G2 H2 v j2 e2 r2 k2 fun Γ2 σ3 ⟨q1, q2, q3⟩ e3 => kk2 Γ2 σ3 ⟨q1, q2, q3.mono fun b Γ3 ⟨y1, y2, y3⟩ => ⟨y1, ?_⟩⟩ e3
  have hz := zs (d := d) (b := b) iv1.length
  cases b with
  | true =>
    rw [if_pos rfl]
    refine (y3 rfl).mono fun y Γ4 ⟨w1, w2⟩ => ⟨w1, bs ++ [true], ?_, ?_⟩
    · rw [take_snoc hd]; exact iv1.snoc y2
    · rw [take_snoc hd, hz]; exact iv2.snoc w2
  | false =>
    rw [if_neg (by simp)]
    refine ⟨bs ++ [false], ?_, ?_⟩
    · rw [take_snoc hd]; exact iv1.snoc y2
    · rw [take_snoc hd, hz]; simpa using iv2
end
end Ab
namespace Ab
open PySem L2
/-- an exception class of one's own with one field -/
structure Exn1 (P : Program) (w : World) (K : PySem.W.Frag) (mg : Str → Option Value) (base : Heap) (x : Str) (C : Addr) (f : Str) : Prop where
  o : OexC K C
  ex : ∃ fI fd ps, PySem.W.findIn K (.ref C) "__init__" = some (some (.ref fI)) ∧ PySem.W.typeIn K (.ref fI) = some (.type "function") ∧ FnOk P w K mg base (L2.CX P w) 1 fI fd ps (spXI C f) ∧ Binds K fd ps []
  m : mg x = some (.ref C)
section
variable {P : Program} {w : World} {K : PySem.W.Frag} {mg : Str → Option Value} {base : Heap}
theorem init_x {qual : Str} {st : Stmt} {fI C : Addr} {fd : FuncData} {N : List Str} {fn : Str} (F : Fun K "__init__" qual st fI fd) (Sc : FnScope N ["self", fn] (defScope st)) (T : OexC K C) (hno : PySem.W.findIn K (.ref C) fn = some none)
    (hb : ∀ (cdv : Value) (A : Around) (outer : List PySem.Env) (s : Shared) (H : Hp) (E : XK), PSs (cxOf (L2.CX P w) P w K mg base N qual (defScope st) fI cdv A outer s H E) (defBody st) (tOst K fn (tVar 0) (tVar 1))) (hN : 2 ≤ N.length) :
    FnOk P w K mg base (L2.CX P w) 1 fI fd ["self", fn] (spXI C fn) := by
  refine F.okX Sc (fun vs H Q E h => ?_) (fun cdv A outer s H vs Q E hr h => ?_)
  · obtain ⟨a, y, rfl, _⟩ := h; rfl
  · obtain ⟨a, y, rfl, ha, k⟩ := h
    refine ⟨_, hb cdv A outer s H E, ?_⟩
    have s0 : (L2.start N [.ref a, y])[0]? = some (some (.ref a)) := by simp [L2.start]
    have s1 : (L2.start N [.ref a, y])[1]? = some (some y) := by simp [L2.start]
    exact ⟨y, s1, .ref a, s0, a, C, rfl, T, hno, .inl ⟨ha, fun dx hd ne => k dx hd ne⟩⟩
end
section
variable {X : Cx} {P : Program} {w : World} {K : PySem.W.Frag} {mg : Str → Option Value} {base : Heap} {x fn : Str} {C : Addr} {e : Expr} {es : List Expr} {ta : TA} {j : Nat} {p pos pos2 : Pos}
theorem ks_raise {W : WX} (hc : X.calm = true) (tk : Takes X W) (c : Exn1 P w K mg base x C fn) (hr : Room j X.A) (hk : 2 ≤ j) (hX : X.prog = P ∧ X.w = w ∧ X.K = K ∧ X.mg = mg ∧ X.base = base) (hg : Gl X x) (ha : PA X (e :: es) ta) (hdb : (x == ("__debug__" : Str)) = false := by decide)
    (he : starEach (e :: es) X.env = (false, eval e X.env) :: starEach es X.env := by rfl) (hpl : (backTo pos (starEach es X.env)).any (·.1) = false := by rfl) :
    PS X (.Raise (some (.Call (.Name x p) (e :: es) [] pos)) none pos2) (fun _ σ H => tMkO C (spXI C fn) [] ta σ H fun cls d H' => W cls d σ H') := by
  obtain ⟨rfl, rfl, rfl, rfl, rfl⟩ := hX
  obtain ⟨fI, fd, ps, h1, h2, h3, h4⟩ := c.ex
  exact ps_raise hc tk (pmk_oex c.o h1 h2 h3 (hr.mono hk) h4 .nil passL hg c.m ha hdb he hpl)
end
mutual
def kD : D → Bool
  | .non => true | .bl _ => true | .int i => decide (i.natAbs < 2 ^ 1000) | .str x => decide (x.length < 1000) | .dic => true | .dct n x => decide (n.natAbs < 2 ^ 1000) && kD x
  | .tup xs => decide (xs.length < 1000) && ksD xs | .lst xs => decide (xs.length < 1000) && ksD xs | _ => false
def ksD : List D → Bool
  | [] => true
  | x :: xs => kD x && ksD xs
end
theorem ksD_all : ∀ {xs : List D}, ksD xs = true ↔ ∀ x ∈ xs, kD x = true
  | [] => by simp [ksD]
  | x :: xs => by simp [ksD, ksD_all (xs := xs)]
theorem kD_tup {xs : List D} (h : kD (.tup xs) = true) : ∀ x ∈ xs, kD x = true := by
  unfold kD at h; exact ksD_all.mp (Bool.and_eq_true_iff.mp h).2
theorem kD_len {xs : List D} (h : kD (.tup xs) = true) : xs.length < 1000 := by
  unfold kD at h; exact of_decide_eq_true (Bool.and_eq_true_iff.mp h).1
theorem kD_lst {xs : List D} (h : kD (.lst xs) = true) : ∀ x ∈ xs, kD x = true := by
  unfold kD at h; exact ksD_all.mp (Bool.and_eq_true_iff.mp h).2
theorem kD_lenL {xs : List D} (h : kD (.lst xs) = true) : xs.length < 1000 := by
  unfold kD at h; exact of_decide_eq_true (Bool.and_eq_true_iff.mp h).1
theorem kD_mk {xs : List D} (h : ∀ x ∈ xs, kD x = true) (hl : xs.length < 1000) : kD (.tup xs) = true := by
  unfold kD; exact Bool.and_eq_true_iff.mpr ⟨decide_eq_true hl, ksD_all.mpr h⟩
theorem kD_mkL {xs : List D} (h : ∀ x ∈ xs, kD x = true) (hl : xs.length < 1000) : kD (.lst xs) = true := by
  unfold kD; exact Bool.and_eq_true_iff.mpr ⟨decide_eq_true hl, ksD_all.mpr h⟩
theorem kD_tag {x : D} (h : kD x = true) : ∃ t, tagD x = some t := by
  cases x <;> first | exact ⟨_, rfl⟩ | (unfold kD at h; cases h)
def isTy (T : String) : D → Bool
  | .bl _ => T == "bool" || T == "int"
  | .int _ => T == "int"
  | .str _ => T == "str"
  | .tup _ => T == "tuple"
  | .lst _ => T == "list"
  | .dic => T == "dict"
  | .dct _ _ => T == "dict"
  | _ => false
theorem kit_all : ∀ t ∈ ["NoneType", "bool", "int", "str", "tuple", "list", "dict"], ∀ T ∈ ["bool", "int", "str", "tuple", "list", "dict"], kitB t T = some ((t == T) || (t == "bool" && T == "int")) := by decide +kernel
section
variable {Z : Cz} {Γ : List B} {te ta tb tc : TE} {tt tu : TT} {tr : TA} {P : Po}
theorem cad_is {x : D} {T : String} {Q : D → Prop} (h : kD x = true) (hT : T ∈ ["bool", "int", "str", "tuple", "list", "dict"]) (q : Q (.bl (isTy T x))) : CaD Z (rIsi Z.K) [x, .ty T] Q := by
  obtain ⟨t, ht⟩ := kD_tag h
  have ht' : t ∈ ["NoneType", "bool", "int", "str", "tuple", "list", "dict"] := by
    cases x <;> simp only [tagD, Option.some.injEq, reduceCtorEq] at ht <;> subst ht <;> simp
  refine cad_isi ht (kit_all t ht' T hT) ?_
  have e : ((t == T) || (t == "bool" && T == "int")) = isTy T x := by
    have f : ∀ T ∈ ["bool", "int", "str", "tuple", "list", "dict"], (("NoneType" == T) || ("NoneType" == "bool" && T == "int")) = false ∧ (("int" == T) || ("int" == "bool" && T == "int")) = (T == "int") ∧ (("str" == T) || ("str" == "bool" && T == "int")) = (T == "str") ∧
        (("tuple" == T) || ("tuple" == "bool" && T == "int")) = (T == "tuple") ∧ (("list" == T) || ("list" == "bool" && T == "int")) = (T == "list") ∧ (("dict" == T) || ("dict" == "bool" && T == "int")) = (T == "dict") ∧ (("bool" == T) || ("bool" == "bool" && T == "int")) = (T == "bool" || T == "int") := by decide +kernel
    obtain ⟨f1, f2, f3, f4, f5, f6, f7⟩ := f T hT
    cases x <;> simp only [tagD, Option.some.injEq, reduceCtorEq] at ht <;> subst ht <;> simp only [isTy] <;> first | exact f1 | exact f2 | exact f3 | exact f4 | exact f5 | exact f6 | exact f7
  rw [e]; exact q
theorem ite_b {b : Bool} {A B : Prop} (h : b = true → A) (h' : b = false → B) : if b = true then A else B := by
  cases b with
  | true => exact h rfl
  | false => exact h' rfl
end
end Ab
namespace Ab
open PySem L2
/-- a def that is a function of its arguments -/
def fun_spec (P : List D → Prop) (f : List D → D) : FSpec := { P := P, R := fun ds r => r = f ds }
section
variable {Z : Cz} {Γ : List B} {te ta tb tc : TE} {tt tu : TT} {tr : TA} {P : Po}
theorem den_fun {n : Nat} {P : List D → Prop} {f : List D → D} {E : XK} {Q : D → List B → Prop} (h : DenA Z tr Γ fun ds Γ1 => ds.length = n ∧ P ds ∧ Q (f ds) Γ1) : Den Z (tCall (spS Z.K n (fun_spec P f)) [] E tr) Γ Q :=
  den_call fun σ G H j e k kk => h σ G H j e k fun ds Γ1 vs G1 H1 ⟨a, b, c⟩ => kk ds Γ1 vs G1 H1 ⟨a, b, fun d hd => by rw [show d = f ds from hd]; exact c, fun _ x => x⟩
theorem den_fun0 {P : List D → Prop} {f : List D → D} {E : XK} {Q : D → List B → Prop} (hp : P []) (q : Q (f []) Γ) : Den Z (tCall (spS Z.K 0 (fun_spec P f)) [] E tNil) Γ Q := den_fun (dena_nil ⟨rfl, hp, q⟩)
theorem DenA.mono {Q Q' : List D → List B → Prop} (h : DenA Z tr Γ Q) (w : ∀ d Γ', Q d Γ' → Q' d Γ') : DenA Z tr Γ Q' := fun σ G H j e k q => h σ G H j e k fun d Γ' v G' H' a => q d Γ' v G' H' (w _ _ a)
theorem DenS.mono {ts : TS} {P P' : Po} (h : DenS Z ts Γ P) (n : ∀ x, P.N x → P'.N x) (r : ∀ x, P.R x → P'.R x) (b : ∀ x, P.Bk x → P'.Bk x) (c : ∀ x, P.Ct x → P'.Ct x) : DenS Z ts Γ P' := fun σ G H j e De d =>
  h σ G H j e De ⟨fun Γ σ G H a => d.n Γ σ G H (n _ a), fun x v G H a => d.r x v G H (r _ a), fun Γ σ G H a => d.b Γ σ G H (b _ a), fun Γ σ G H a => d.c Γ σ G H (c _ a)⟩
end
end Ab
namespace Ab
open PySem L2
section
variable {Z : Cz} {Γ : List B} {te ta tb tc : TE} {tt tu : TT} {tr : TA} {P : Po}
/-- while, by an invariant and a measure -/
theorem dens_while {t : TS} (Iv : Nat → List B → Prop) (h0 : ∃ m, Iv m Γ) (hs : ∀ m Γ1, Iv m Γ1 → DenT Z tt Γ1 fun b Γ2 => if b = true then DenS Z t Γ2 ⟨fun Γ3 => ∃ m', m' < m ∧ Iv m' Γ3, P.R, P.N, fun Γ3 => ∃ m', m' < m ∧ Iv m' Γ3⟩ else P.N Γ2) : DenS Z (tWhile tt t) Γ P := fun σ G H j e De d => by
  obtain ⟨m0, i0⟩ := h0
  refine ⟨fun m σ H => ∃ Γ2 G2, Iv m Γ2 ∧ Ex G G2 ∧ J Z G2 H ∧ En Z G2 H σ Γ2, ⟨m0, Γ, G, i0, Ex.refl _, j, e⟩, ?_⟩
  rintro m σ2 H2 ⟨Γ2, G2, iv, x2, j2, e2⟩
  refine hs m Γ2 iv σ2 G2 H2 j2 e2 _ fun b Γ3 G3 H3 q s3 j3 e3 => ?_
  cases b with
  | true =>
    refine ⟨fun σ H => ∃ m', m' < m ∧ ∃ Γ2 G2, Iv m' Γ2 ∧ Ex G G2 ∧ J Z G2 H ∧ En Z G2 H σ Γ2, fun σ' H' ⟨m', h1, h2⟩ => ⟨m', h1, h2⟩, ?_⟩
    refine q σ2 G3 H3 j3 e3 _ ⟨fun Γ4 σ4 G4 H4 ⟨m', a, b⟩ x4 j4 e4 => ⟨m', a, Γ4, G4, b, (x2.trans s3.ex).trans x4, j4, e4⟩, fun z v G4 H4 a x4 j4 r4 => d.r z v G4 H4 a ((x2.trans s3.ex).trans x4) j4 r4,
      fun Γ4 σ4 G4 H4 a x4 j4 e4 => d.n Γ4 σ4 G4 H4 a ((x2.trans s3.ex).trans x4) j4 e4, fun Γ4 σ4 G4 H4 ⟨m', a, b⟩ x4 j4 e4 => ⟨m', a, Γ4, G4, b, (x2.trans s3.ex).trans x4, j4, e4⟩⟩
  | false => exact d.n Γ3 σ2 G3 H3 q (x2.trans s3.ex) j3 e3
theorem cut_from (xs : List D) (k : Nat) : cutD xs (some (k : Int)) none = xs.drop k := by
  unfold cutD
  rw [HT.sIx_nat, HT.sIx_none]
  by_cases h : k ≤ xs.length
  · rw [Nat.min_eq_left h, List.take_of_length_le (by simp)]
  · rw [Nat.min_eq_right (by omega), List.drop_eq_nil_of_le (Nat.le_refl _), List.drop_eq_nil_of_le (by omega)]; simp
theorem cut_to (xs : List D) (k : Nat) : cutD xs none (some (k : Int)) = xs.take k := by
  unfold cutD
  rw [HT.sIx_nat, HT.sIx_none]
  simp only [List.drop_zero, Nat.sub_zero]
  rcases Nat.le_total k xs.length with h | h
  · rw [Nat.min_eq_left h]
  · rw [Nat.min_eq_right h, List.take_of_length_le (Nat.le_refl _), List.take_of_length_le h]
theorem cut_last (xs : List D) : cutD xs none (some (-1)) = xs.dropLast := by
  unfold cutD
  rw [HT.sIx_none]
  have : HT.sIx xs.length xs.length (some (-1)) = xs.length - 1 := by
    have := HT.clip_eq (-1) xs.length xs.length
    rw [if_pos (by decide)] at this
    omega
  rw [this, List.drop_zero, Nat.sub_zero, List.dropLast_eq_take]
end
end Ab
namespace Ab
open PySem L2
theorem kg_c {X : Cx} {x : Str} {v : V} {pos : Pos} (hg : Gl X x) (h : ∃ u, X.mg x = some u ∧ RelV v u) (hd : (x == ("__debug__" : Str)) = false := by decide) : PE X (.Name x pos) (tC v) := by
  obtain ⟨u, h1, h2⟩ := h
  exact pe_glob hg h1 h2 hd
theorem ifT {A B : Prop} (h : A) : if true = true then A else B := h
theorem ifF {A B : Prop} (h : B) : if false = true then A else B := by simpa using h
end Ab
namespace Ab
open PySem L2
/-- te is v, and the heap stays -/
def Pu (te : TE) (σ : L2.St) (H : Hp) (v : V) : Prop := ∀ Q : VK, Q v H → te σ H Q
section
variable {σ : L2.St} {H : Hp} {v x y z : V} {ta tb te : TE} {r : R2} {K : PySem.W.Frag} {D : Ends}
theorem pu_var {i : Nat} (h : σ[i]? = some (some v)) : Pu (tVar i) σ H v := fun Q q => ⟨v, h, q⟩
theorem pu_c : Pu (tC v) σ H v := fun Q q => q
theorem pu_op (ha : Pu ta σ H x) (hb : Pu tb σ H y) (hr : ∀ Q : VK, Q z H → r x y H Q) : Pu (tOp r ta tb) σ H z := fun Q q => ha _ (hb _ (hr Q q))
theorem pu_add {i j : Int} (ha : Pu ta σ H (.int i)) (hb : Pu tb σ H (.int j)) : Pu (tOp (rPlus K) ta tb) σ H (.int (i + j)) := pu_op ha hb fun Q q => .inl ⟨i, j, rfl, rfl, q⟩
theorem pu_mul {i j : Int} (ha : Pu ta σ H (.int i)) (hb : Pu tb σ H (.int j)) (c : CMul i j) : Pu (tOp (rTimes K) ta tb) σ H (.int (i * j)) := pu_op ha hb fun Q q => .inl ⟨i, j, rfl, rfl, c, q⟩
theorem pu_I {C : Int → Int → Prop} {f : Int → Int → Int} {i j : Int} (ha : Pu ta σ H (.int i)) (hb : Pu tb σ H (.int j)) (c : C i j) : Pu (tOp (rI C fun i j => .int (f i j)) ta tb) σ H (.int (f i j)) := pu_op ha hb fun Q q => ⟨i, j, rfl, rfl, c, q⟩
theorem pu_ix {l : Addr} {xs : List V} {i : Int} (ha : Pu ta σ H (.ref l)) (hb : Pu tb σ H (.int i)) (hl : H l = some (.lst xs)) (h : atI xs i = some z) : Pu (tOp (rIx K) ta tb) σ H z := pu_op ha hb fun Q q => .inl ⟨l, xs, i, z, rfl, rfl, SqL.of hl, h, q⟩
theorem pu_int {i : Int} (ha : Pu ta σ H (.int i)) : Pu (tCB rInt1 (tCons ta tNil)) σ H (.int i) := fun Q q => ha _ (.inl ⟨i, rfl, q⟩)
theorem pu_len {l : Addr} {xs : List V} (ha : Pu ta σ H (.ref l)) (hl : H l = some (.lst xs)) : Pu (tCB (rLen K) (tCons ta tNil)) σ H (.int xs.length) := fun Q q => ha _ ⟨.ref l, xs.length, rfl, .inl ⟨xs, SqL.of hl, rfl⟩, q⟩
theorem ps_name {i : Nat} (h : Pu te σ H v) (k : D.nx (σ.set i (some v)) H) : tAsg te (gName i) D σ H := h _ k
theorem ps_item {l : Addr} {xs : List V} {i : Int} {n : Nat} (h : Pu te σ H v) (ha : Pu ta σ H (.ref l)) (hb : Pu tb σ H (.int i)) (hl : H l = some (.lst xs)) (hi : ixN xs.length i = some n) (k : D.nx σ (upd H l (.lst (xs.set n v)))) : tAsg te (gSub ta tb rSetL) D σ H :=
  h _ (ha _ (hb _ ⟨l, xs, i, n, rfl, rfl, hl, hi, k⟩))
theorem ps_when {b : Bool} {t u : TS} (h : Pu te σ H (.bl b)) (k1 : b = true → t D σ H) (k2 : b = false → u D σ H) : tIfS (tTest te) t u D σ H := h _ ⟨b, rfl, by
  cases b with
  | true => exact k1 rfl
  | false => exact k2 rfl⟩
theorem pu_B {f : Int → Int → Bool} {i j : Int} (ha : Pu ta σ H (.int i)) (hb : Pu tb σ H (.int j)) : Pu (tOp (rI0 fun i j => .bl (f i j)) ta tb) σ H (.bl (f i j)) := pu_op ha hb fun Q q => ⟨i, j, rfl, rfl, q⟩
theorem pu_eqI {i j : Int} (ha : Pu ta σ H (.int i)) (hb : Pu tb σ H (.int j)) : Pu (tOp (rEqq K) ta tb) σ H (.bl (decide (i = j))) := pu_op ha hb fun Q q => .inl ⟨rfl, by rw [show decide (V.int i = V.int j) = decide (i = j) by simp]; exact q⟩
theorem ps_give (h : Pu te σ H v) (k : D.rt v H) : tRet te D σ H := h _ k
end
section
variable {Z : Cz} {G H H' : Hp}
theorem J0.pl {p c : Addr} {u w : HO} (j : J0 Z G H) (e : Z.pl = some (p, c)) (hp : H' p = some u) (hc : H' c = some w)
    (b : PoolSt c u w) (h : ∀ a, a ≠ p → a ≠ c → H' a = H a) : J0 Z G H' := by
  obtain ⟨z0, z1, z2, z3, z4, _⟩ := j.pool p c e
  refine ⟨fun a o ha => ?_, j.g0, j.out, fun a o ha n => ?_, fun p' c' e' => ?_⟩
  · rw [h a (fun z => by rw [z, z1] at ha; cases ha) (fun z => by rw [z, z2] at ha; cases ha)]; exact j.sub a o ha
  · obtain ⟨n1, n2⟩ := n p c e
    rw [h a n1 n2]; exact j.fr a o ha n
  · rw [e] at e'; cases e'
    exact ⟨z0, z1, z2, z3, z4, u, w, hp, hc, b⟩
theorem J.pl {p c : Addr} {u w : HO} (j : J Z G H) (e : Z.pl = some (p, c)) (hp : H' p = some u) (hc : H' c = some w)
    (b : PoolSt c u w) (h : ∀ a, a ≠ p → a ≠ c → H' a = H a) : J Z G H' := ⟨j.toJ0.pl e hp hc b h, j.acc⟩
end
theorem rps_ints {K : PySem.W.Frag} {pl : Option (Addr × Addr)} {G : Hp} : ∀ ns : List Int, Rps K pl G (ns.map V.int) (ns.map D.int)
  | [] => .nil
  | x :: xs => .cons (.int x) (rps_ints xs)
section
variable {Z : Cz} {Γ : List B} {te : TE} {tr : TA}
/-- a slice of the script -/
theorem denl_slS {to1 to2 : TO} {Q : List D → List B → Prop} (h : Den Z te Γ fun x Γ1 => ∃ ns, x = .scr ns ∧ DenO Z to1 Γ1 fun lo Γ2 => DenO Z to2 Γ2 fun hi Γ3 => Q (cutD (ns.map D.int) lo hi) Γ3) : DenL Z (tSl (rSlG Z.K) te to1 to2) Γ Q := fun σ G H j e k kk =>
  h σ G H j e _ fun x Γ1 v G1 H1 q s1 j1 e1 r1 => by
    obtain ⟨ns, rfl, q⟩ := q
    refine q σ G1 H1 j1 e1 _ fun lo Γ2 G2 H2 q2 s2 j2 e2 => q2 σ G2 H2 j2 e2 _ fun hi Γ3 G3 H3 q3 s3 j3 e3 => .inr ?_
    have r3 := (r1.mono s2.ex).mono s3.ex
    have s := (s1.trans s2).trans s3
    cases r3 with
    | @scr a _ h1 =>
      refine ⟨a, _, rfl, j3.sub.sql h1, fun p hp => ?_⟩
      have n := j3.sub.back hp
      have rr : Rps Z.K Z.pl G3 (ns.map V.int) (ns.map D.int) := rps_ints ns
      refine kk _ Γ3 p _ G3 (upd H3 p (.lst (cutV (ns.map V.int) lo hi))) q3 (s.trans ⟨Ex.refl _, fun _ h => h, fun a o ha _ _ => ⟨?_, fun z => z⟩, fun a o ha => ⟨o, ?_⟩⟩) (j3.put (j3.old hp) n) (e3.newM hp) upd_same (cut_rps rr lo hi) ⟨n, j3.old hp, fun i o => e3.noown hp i o⟩ (s.back hp)
      · rw [upd_ne (ne_of_none ha hp)]; exact ha
      · rw [upd_ne (ne_of_none ha hp)]; exact ha
theorem cad_lenS {ns : List Int} {Q : D → Prop} (q : Q (.int ns.length)) : CaD Z (rLen Z.K) [.scr ns] Q := fun G H vs jj r k kk => by
  cases r with
  | cons a b =>
    cases b
    cases a with
    | @scr a _ h1 => exact ⟨.ref a, ns.length, rfl, .inl ⟨_, jj.sub.sql h1, by simp⟩, kk _ _ G H q jj.enter (.int _)⟩
end
/-- a slice of a tuple, a list, the script -/
def slR (lo hi : Option Int) : D → Option D
  | .tup xs => some (.tup (cutD xs lo hi))
  | .lst xs => some (.lst (cutD xs lo hi))
  | .scr ns => some (.lst (cutD (ns.map D.int) lo hi))
  | _ => none
section
variable {Z : Cz} {Γ : List B} {te : TE}
theorem slR_cases {lo hi : Option Int} {x d : D} (h : slR lo hi x = some d) : (∃ xs, x = .tup xs) ∨ (∃ xs, x = .lst xs) ∨ ∃ ns, x = .scr ns := by
  cases x with
  | tup xs => exact .inl ⟨xs, rfl⟩
  | lst xs => exact .inr (.inl ⟨xs, rfl⟩)
  | scr xs => exact .inr (.inr ⟨xs, rfl⟩)
  | _ => cases h
theorem den_sl {to1 to2 : TO} {Q : D → List B → Prop} (h : Den Z te Γ fun x Γ1 => DenO Z to1 Γ1 fun lo Γ2 => DenO Z to2 Γ2 fun hi Γ3 => ∃ d, slR lo hi x = some d ∧ Q d Γ3) : Den Z (tSl (rSlG Z.K) te to1 to2) Γ Q := fun σ G H j e k kk =>
  h σ G H j e _ fun x Γ1 v G1 H1 q s1 j1 e1 r1 => by
    refine q σ G1 H1 j1 e1 _ fun lo Γ2 G2 H2 q2 s2 j2 e2 => q2 σ G2 H2 j2 e2 _ fun hi Γ3 G3 H3 q3 s3 j3 e3 => ?_
    obtain ⟨d, hd, q3⟩ := q3
    have r3 := (r1.mono s2.ex).mono s3.ex
    have s := (s1.trans s2).trans s3
    have new : ∀ {vs : List V} {ds : List D}, Rps Z.K Z.pl G3 vs ds → d = .lst (cutD ds lo hi) → ∀ p, H3 p = none → k (.ref p) (upd H3 p (.lst (cutV vs lo hi))) := fun {vs ds} rr hd p hp => by
      subst hd
      have x := Ex.new (o := .lst (cutV vs lo hi)) (j3.sub.back hp)
      exact kk _ Γ3 _ (upd G3 p (.lst (cutV vs lo hi))) _ q3 (s.trans (.of (j3.sp hp))) (j3.new hp) (e3.new j3.toJ0 hp) (.lst upd_same (cut_rps (rr.mono x) lo hi))
    cases r3 with
    | @tup a vs xs h1 r3 =>
      cases hd
      refine .inl ⟨a, vs, rfl, (j3.sub.sqt h1), fun w => ?_, fun w p hp => ?_⟩
      · rw [r3.length] at w
        rw [cut_whole w] at q3
        exact kk _ Γ3 _ G3 H3 q3 s j3 e3 (.tup h1 r3)
      · exact kk _ Γ3 _ _ _ q3 (s.trans (.of (j3.sp hp))) (j3.new hp) (e3.new j3.toJ0 hp) (.tup (SqT.of upd_same) (cut_rps (r3.mono (Ex.new (j3.sub.back hp))) lo hi))
    | @lst a vs xs h1 r3 =>
      cases hd
      exact .inr ⟨a, vs, rfl, .inl (.inl (j3.sub _ _ h1)), new r3 rfl⟩
    | @scr a ns h1 =>
      cases hd
      exact .inr ⟨a, _, rfl, j3.sub.sql h1, new (rps_ints ns) rfl⟩
    | _ => cases hd
end
theorem cut_map {α : Type} (f : α → D) (xs : List α) (k : Nat) : cutD (xs.map f) none (some (k : Int)) = (xs.take k).map f := by rw [cut_to, List.map_take]
/-- a draw: some number from 0 on, below many -/
abbrev S_draw : FSpec := ⟨fun ds => ∃ m : Int, ds = [.pool, .int m] ∧ 1 ≤ m ∧ m < 2 ^ 30, fun ds d => ∃ m i : Int, ds = [.pool, .int m] ∧ d = .int i ∧ 0 ≤ i ∧ i < m, fun _ _ => False⟩
section
variable {Z : Cz} {Γ : List B} {tr : TA}
theorem den_draw {E : XK} {Q : D → List B → Prop} (h : DenA Z tr Γ fun ds Γ1 => ∃ m : Int, ds = [.pool, .int m] ∧ 1 ≤ m ∧ m < 2 ^ 30 ∧ ∀ i : Int, 0 ≤ i → i < m → Q (.int i) Γ1) : Den Z (tCall (spS Z.K 2 S_draw) [] E tr) Γ Q :=
  den_call fun σ G H j e k kk => h σ G H j e k fun ds Γ1 vs G1 H1 ⟨m, a, b, c, d⟩ => kk ds Γ1 vs G1 H1 ⟨by rw [a]; rfl, ⟨m, a, b, c⟩, fun x ⟨m', i, e1, e2, h1, h2⟩ => by rw [a] at e1; cases e1; rw [e2]; exact d i h1 h2, fun _ z => z⟩
end
end Ab
namespace Ab
open PySem L2
section
variable {Z : Cz} {Γ : List B} {te ta tb tc : TE} {tt tu : TT} {tr : TA} {P : Po}
theorem und_neg {i : Int} {Q : D → Prop} (q : Q (.int (-i))) : UnD Z (rU fun i => .int (-i)) (.int i) Q := und_i (f := fun i => -i) q
theorem mod_pos {i j : Int} {Q : D → Prop} (c : 0 < j) (q : Q (.int (i % j))) : OpD Z (rI (fun _ j => 0 < j) fun i j => .int (i % j)) (.int i) (.int j) Q := opd_ic (f := fun i j => i % j) c q
theorem div_pos {i j : Int} {Q : D → Prop} (c : 0 < j ∧ j.natAbs.log2 < 9000) (q : Q (.int (i / j))) : OpD Z (rI CDivW fun i j => .int (i / j)) (.int i) (.int j) Q := opd_ic (C := CDivW) (f := fun i j => i / j) c q
theorem not_own_ite {b : B} (h : ¬ IsOwn (some b)) : ¬ IsOwn (some b) := h
end
/-- a list n deep -/
def deepD : Nat → D
  | 0 => .lst [.non]
  | n + 1 => .lst [deepD n]
theorem kD_deep : ∀ n, kD (deepD n) = true
  | 0 => by decide
  | n + 1 => by
    unfold deepD
    exact kD_mkL (fun x hx => by rw [List.mem_singleton.mp hx]; exact kD_deep n) (by simp)
end Ab
namespace Ab
open PySem L2
mutual
def intD : D → Bool
  | .non => true | .bl _ => true | .int _ => true
  | .tup xs => intsD xs | .lst xs => intsD xs | _ => false
def intsD : List D → Bool
  | [] => true
  | x :: xs => intD x && intsD xs
end
mutual
def depD : D → Nat
  | .tup xs => depsD xs + 1 | .lst xs => depsD xs + 1 | _ => 0
def depsD : List D → Nat
  | [] => 0
  | x :: xs => max (depD x) (depsD xs)
end
mutual
theorem intD_plain : ∀ {d : D}, intD d = true → plainD d = true ∧ (pyD d).canLay0 = true
  | .non, _ => ⟨rfl, rfl⟩ | .bl _, _ => ⟨rfl, rfl⟩ | .int _, _ => ⟨rfl, rfl⟩
  | .tup xs, h => by
    have := intsD_plain (xs := xs) (by unfold intD at h; exact h)
    exact ⟨by unfold plainD; exact this.1, by unfold pyD PyData.canLay0; exact this.2⟩
  | .lst xs, h => by
    have := intsD_plain (xs := xs) (by unfold intD at h; exact h)
    exact ⟨by unfold plainD; exact this.1, by unfold pyD PyData.canLay0; exact this.2⟩
  | .str _, h => by unfold intD at h; cases h
  | .dic, h => by unfold intD at h; cases h
  | .dct _ _, h => by unfold intD at h; cases h
  | .xtup _, h => by unfold intD at h; cases h
  | .exo _, h => by unfold intD at h; cases h
  | .obj _ _ _, h => by unfold intD at h; cases h
  | .pool, h => by unfold intD at h; cases h
  | .ty _, h => by unfold intD at h; cases h
  | .cls _, h => by unfold intD at h; cases h
  | .scr _, h => by unfold intD at h; cases h
theorem intsD_plain : ∀ {xs : List D}, intsD xs = true → plainsD xs = true ∧ PyData.canLayAll0 (pysD xs) = true
  | [], _ => ⟨rfl, rfl⟩
  | x :: xs, h => by
    unfold intsD at h
    obtain ⟨h1, h2⟩ := Bool.and_eq_true_iff.mp h
    have a := intD_plain h1
    have b := intsD_plain h2
    exact ⟨by unfold plainsD; rw [a.1, b.1]; rfl, by unfold pysD PyData.canLayAll0; rw [a.2, b.2]; rfl⟩
end
mutual
theorem depD_py : ∀ {d : D}, intD d = true → (pyD d).depth = depD d
  | .non, _ => rfl | .bl _, _ => rfl | .int _, _ => rfl
  | .tup xs, h => by
    have := depsD_py (xs := xs) (by unfold intD at h; exact h)
    unfold pyD depD PyData.depth; rw [this]
  | .lst xs, h => by
    have := depsD_py (xs := xs) (by unfold intD at h; exact h)
    unfold pyD depD PyData.depth; rw [this]
  | .str _, h => by unfold intD at h; cases h
  | .dic, h => by unfold intD at h; cases h
  | .dct _ _, h => by unfold intD at h; cases h
  | .xtup _, h => by unfold intD at h; cases h
  | .exo _, h => by unfold intD at h; cases h
  | .obj _ _ _, h => by unfold intD at h; cases h
  | .pool, h => by unfold intD at h; cases h
  | .ty _, h => by unfold intD at h; cases h
  | .cls _, h => by unfold intD at h; cases h
  | .scr _, h => by unfold intD at h; cases h
theorem depsD_py : ∀ {xs : List D}, intsD xs = true → PyData.depthAll (pysD xs) = depsD xs
  | [], _ => rfl
  | x :: xs, h => by
    unfold intsD at h
    obtain ⟨h1, h2⟩ := Bool.and_eq_true_iff.mp h
    unfold pysD depsD PyData.depthAll
    rw [depD_py h1, depsD_py h2]
end
theorem intsD_all : ∀ {xs : List D}, intsD xs = true ↔ ∀ x ∈ xs, intD x = true
  | [] => by simp [intsD]
  | x :: xs => by simp [intsD, intsD_all (xs := xs)]
theorem depsD_le : ∀ {xs : List D} {n : Nat}, depsD xs ≤ n ↔ ∀ x ∈ xs, depD x ≤ n
  | [], n => by simp [depsD]
  | x :: xs, n => by simp [depsD, Nat.max_le, depsD_le (xs := xs)]
/-- numbers nested at most n deep -/
def eqD (n : Nat) (d : D) : Prop := intD d = true ∧ depD d ≤ n
theorem eqD.mono {n m : Nat} {d : D} (h : eqD n d) (k : n ≤ m) : eqD m d := ⟨h.1, Nat.le_trans h.2 k⟩
theorem eqD_int (i : Int) : eqD 0 (.int i) := ⟨rfl, Nat.le_refl _⟩
theorem eqD_non : eqD 0 .non := ⟨rfl, Nat.le_refl _⟩
theorem eqD_tup {n : Nat} {xs : List D} (h : ∀ x ∈ xs, eqD n x) : eqD (n + 1) (.tup xs) := ⟨by unfold intD; exact intsD_all.mpr fun x hx => (h x hx).1, by unfold depD; exact Nat.succ_le_succ (depsD_le.mpr fun x hx => (h x hx).2)⟩
theorem eqD_lst {n : Nat} {xs : List D} (h : ∀ x ∈ xs, eqD n x) : eqD (n + 1) (.lst xs) := ⟨by unfold intD; exact intsD_all.mpr fun x hx => (h x hx).1, by unfold depD; exact Nat.succ_le_succ (depsD_le.mpr fun x hx => (h x hx).2)⟩
theorem eqD.shaped {n : Nat} {d : D} (h : eqD n d) (k : n ≤ 64) : SeqAt.shaped (pyD d) = true := by
  unfold SeqAt.shaped
  rw [(intD_plain h.1).2, depD_py h.1]
  simp; have := h.2; omega
def eqvD (x y : D) : Bool := PyData.eqv (pyD x) (pyD y)
theorem eqvD_refl {n : Nat} {d : D} (h : eqD n d) : eqvD d d = true := SeqAt.eqv_refl _ (intD_plain h.1).2
theorem eqvD_tup3 (a b c a' b' c' : D) : eqvD (.tup [a, b, c]) (.tup [a', b', c']) = (eqvD a a' && (eqvD b b' && eqvD c c')) := by
  unfold eqvD; simp [pyD, pysD, PyData.eqv, PyData.eqvAll]
section
variable {Z : Cz} {x y : D} {n m : Nat}
theorem eqg_eqv {Q : D → Prop} (hx : eqD n x) (hy : eqD m y) (hn : n ≤ 64) (hm : m ≤ 64) (q : Q (.bl (eqvD x y))) : OpD Z (rEqq Z.K) x y Q := eqg_data (intD_plain hx.1).1 (intD_plain hy.1).1 (hx.shaped hn) (hy.shaped hm) q
theorem neg_eqv {Q : D → Prop} (hx : eqD n x) (hy : eqD m y) (hn : n ≤ 64) (hm : m ≤ 64) (q : Q (.bl (!eqvD x y))) : OpD Z (rNeq Z.K) x y Q := neg_data (intD_plain hx.1).1 (intD_plain hy.1).1 (hx.shaped hn) (hy.shaped hm) q
end
end Ab
namespace L2
open PySem PySem.Spec PyProof.Rows
/-- set(t), t a tuple of ints -/
def rSetT (K : PySem.W.Frag) (w : World) : List V → Hp → VK → Prop := fun vs H Q => ∃ (a : Addr) (ns : List Int), vs = [.ref a] ∧ SqT K H a (ns.map V.int) ∧ ns.length ≤ 1000 ∧ ∀ p c, H p = none → c ≤ ns.length → Q (.ref p) (upd H p (SetO w p (fun j => decide (j ∈ ns)) c))
theorem cr_setT {X : Cx} (hc : X.calm = true) : CallR X (.type "set") (rSetT X.K X.w) := by
  intro pins s σ H vs us Q I r h
  obtain ⟨a, ns, rfl, ht, hl, q⟩ := h
  rw [Vals.ref1 r]
  obtain ⟨its, rv, pl, hz⟩ := I.tuple ht
  have hi : IntsAre its.toArray.toList ns := by
    have := intsAre_of rv
    simpa using this
  refine call_set_tupI ns (I.ok.hd hc) pl hi (Nat.lt_of_le_of_lt (Nat.succ_le_succ hl) (by decide)) fun h' tk c R hcn k => ?_
  have hn : H s.heap.objs.size = none := I.hok.fresh (Nat.le_refl _)
  exact ⟨.ref _, _, I.laid k (Nat.le_refl _) (setO_new R), rfl, q _ c hn hcn⟩
end L2
namespace Ab
open PySem L2
section
variable {Z : Cz} {Γ : List B} {te ta tb tc : TE} {tt tu : TT} {tr : TA} {P : Po} {w : World}
theorem rps_ints_inv {K : PySem.W.Frag} {pl : Option (Addr × Addr)} {G : Hp} {vs : List V} {ns : List Int} (h : Rps K pl G vs (ns.map D.int)) : vs = ns.map V.int := ints_vs h
/-- sorted(set(t)) of a tuple of ints -/
theorem den_sortedSet {Q : D → List B → Prop} (h : Den Z te Γ fun x Γ1 => ∃ ns : List Int, x = .tup (ns.map D.int) ∧ ns.length < 64 ∧ ∀ js : List Int, js.Pairwise (· < ·) → (∀ k, k ∈ js ↔ k ∈ ns) → Q (.lst (js.map D.int)) Γ1) :
    Den Z (tCB (rSortedSet w) (tCons (tCB (rSetT Z.K w) (tCons te tNil)) tNil)) Γ Q := fun σ G H j e k kk =>
  h σ G H j e _ fun x Γ1 v G1 H1 q s1 j1 e1 r1 => by
    obtain ⟨ns, rfl, hl, q⟩ := q
    cases r1 with
    | @tup a vs _ h1 r1 =>
      have := rps_ints_inv r1
      subst this
      refine ⟨a, ns, rfl, (j1.sub.sqt h1), by omega, fun p c hp hc => ⟨p, _, c, rfl, upd_same, by omega, fun js p2 hs hm _ hp2 => ?_⟩⟩
      have j2 := j1.new (o := SetO w p (fun j => decide (j ∈ ns)) c) hp
      have e2 := e1.new (o := SetO w p (fun j => decide (j ∈ ns)) c) j1.toJ0 hp
      have s2 : Sp1 Z σ Γ1 Γ1 G1 H1 (upd G1 p (SetO w p (fun j => decide (j ∈ ns)) c)) (upd H1 p (SetO w p (fun j => decide (j ∈ ns)) c)) := .of (j1.sp hp)
      refine kk (.lst (js.map D.int)) Γ1 (.ref p2) _ _ (q js hs fun k => by rw [hm k]; simp) ((s1.trans s2).trans (.of (j2.sp hp2))) (j2.new hp2) (e2.new j2.toJ0 hp2) (.lst upd_same (rps_ints js))
/-- list(range(n)) -/
theorem den_listRg {Q : D → List B → Prop} (h : Den Z te Γ fun x Γ1 => ∃ n : Int, x = .int n ∧ 0 ≤ n ∧ n ≤ 100000 ∧ Q (.lst (((List.range n.toNat).map fun i => ((i : Nat) : Int)).map D.int)) Γ1) : Den Z (tLstRg (tRg1 te)) Γ Q := fun σ G H j e k kk =>
  h σ G H j e _ fun x Γ1 v G1 H1 q s1 j1 e1 r1 => by
    obtain ⟨n, rfl, h1, h2, q⟩ := q
    cases r1
    refine ⟨n, rfl, .of_le (by omega) (by omega) (by omega) h1, fun p hp => ?_⟩
    refine kk _ Γ1 (.ref p) _ _ q (s1.trans (.of (j1.sp hp))) (j1.new hp) (e1.new j1.toJ0 hp) (.lst upd_same ?_)
    have : rgV 0 n = ((List.range n.toNat).map fun i => ((i : Nat) : Int)).map V.int := by
      unfold rgV; rw [List.map_map]; simp [Function.comp_def]
    rw [this]; exact rps_ints _
/-- i in a list or a tuple of ints -/
theorem opd_inI {i : Int} {js : List Int} {x : D} {Q : D → Prop} (hx : x = .lst (js.map D.int) ∨ x = .tup (js.map D.int)) (q : Q (.bl (decide (i ∈ js)))) : OpD Z (rIn Z.K false) (.int i) x Q := fun G H vx vy jj rx ry k kk => by
  cases rx
  have fl : (js.map V.int).all flatV = true := by simp [List.all_eq_true, flatV]
  have iv : inV (.int i) (js.map V.int) = decide (i ∈ js) := by
    unfold inV
    rw [Bool.eq_iff_iff]
    simp only [List.any_eq_true, List.mem_map, decide_eq_true_eq, eqV]
    constructor
    · rintro ⟨y, ⟨z, hz, rfl⟩, e⟩
      have : z = i := by simpa [eqV] using e
      rw [← this]; exact hz
    · intro h; exact ⟨.int i, ⟨i, h, rfl⟩, by simp [eqV]⟩
  rcases hx with rfl | rfl
  · cases ry with
    | @lst a vs _ h1 r1 =>
      have := rps_ints_inv r1
      subst this
      exact ⟨a, _, rfl, .inl (.inl (.inl (jj.sub _ _ h1))), rfl, fl, by rw [iv]; exact kk _ _ G H q jj.enter (.bl _)⟩
  · cases ry with
    | @tup a vs _ h1 r1 =>
      have := rps_ints_inv r1
      subst this
      exact ⟨a, _, rfl, .inr ((jj.sub.sqt h1)), rfl, fl, by rw [iv]; exact kk _ _ G H q jj.enter (.bl _)⟩
/-- a cut between two statements -/
theorem dens_cut {t u : TS} (M : List B → Prop) (h : DenS Z t Γ ⟨M, P.R, P.Bk, P.Ct⟩) (k : ∀ Γ1, M Γ1 → DenS Z u Γ1 P) : DenS Z (tSeq t u) Γ P := dens_seq (h.mono (fun x m => k x m) (fun _ x => x) (fun _ x => x) fun _ x => x)
theorem atI_lt {α : Type} {xs : List α} {i : Int} (h0 : 0 ≤ i) (h1 : i < xs.length) : ∃ d, atI xs i = some d ∧ d ∈ xs := by
  unfold atI ixN
  rw [if_pos h0, if_pos h1]
  have : i.toNat < xs.length := by omega
  exact ⟨xs[i.toNat], by simp [this], by simp⟩
theorem atI_len {α : Type} {xs : List α} {i : Int} {n : Nat} (h0 : 0 ≤ i) (h1 : i < n) (hl : xs.length = n) : ∃ d, atI xs i = some d ∧ d ∈ xs := atI_lt h0 (by omega)
end
end Ab
namespace Ab
open PySem L2
section
variable {Z : Cz} {Γ : List B} {te ta tb tc : TE} {tt tu : TT} {tr : TA} {P : Po} {w : World}
/-- a new list of an operator joins the still part -/
theorem opd_of_l {r : R2} {x y : D} {Q : D → Prop} (h : OpL Z r x y fun ds => Q (.lst ds)) : OpD Z r x y Q := fun G H vx vy jj rx ry k kk => h G H vx vy jj rx ry k fun ds l vs G' H' q i hl rs hn hg =>
  kk (.lst ds) (.ref l) (upd G' l (.lst vs)) H' q (i.still hn hl hg) (.lst upd_same (rs.mono (Ex.new hg)))
theorem cad_of_l {r : List V → Hp → VK → Prop} {xs : List D} {Q : D → Prop} (h : CaL Z r xs fun ds => Q (.lst ds)) : CaD Z r xs Q := fun G H vs jj rx k kk => h G H vs jj rx k fun ds l ws G' H' q i hl rs hn hg =>
  kk (.lst ds) (.ref l) (upd G' l (.lst ws)) H' q (i.still hn hl hg) (.lst upd_same (rs.mono (Ex.new hg)))
theorem plusD_lst {xs ys : List D} {Q : D → Prop} (hz : xs.length + ys.length ≤ 100000) (q : Q (.lst (xs ++ ys))) : OpD Z (rPlus Z.K) (.lst xs) (.lst ys) Q := opd_of_l (plus_lst hz q)
theorem timesD_lst {xs : List D} {n : Int} {Q : D → Prop} (h1 : -(2 ^ 63) ≤ n) (h2 : n < 2 ^ 63) (hz : xs.length * n.toNat ≤ 100000) (q : Q (.lst (List.replicate n.toNat xs).flatten)) : OpD Z (rTimes Z.K) (.lst xs) (.int n) Q := opd_of_l (times_lst h1 h2 hz q)
theorem cad_listT {xs : List D} {Q : D → Prop} (q : Q (.lst xs)) : CaD Z (rListOf Z.K) [.tup xs] Q := cad_of_l (cal_listT q)
theorem cad_listL {xs : List D} {Q : D → Prop} (q : Q (.lst xs)) : CaD Z (rListOf Z.K) [.lst xs] Q := cad_of_l (cal_listL q)
end
theorem opd_ixL_mem {Z : Cz} {xs : List D} {i : Int} {n : Nat} {Q : D → Prop} (h0 : 0 ≤ i) (h1 : i < n) (hl : xs.length = n) (q : ∀ d ∈ xs, Q d) : OpD Z (rIx Z.K) (.lst xs) (.int i) Q := by
  obtain ⟨d, hd, hm⟩ := atI_len h0 h1 hl
  exact opd_ixL hd (q d hm)
theorem cutD_mem {xs : List D} {lo hi : Option Int} {x : D} (h : x ∈ cutD xs lo hi) : x ∈ xs := List.mem_of_mem_drop (List.mem_of_mem_take h)
theorem cutD_len {xs : List D} {lo hi : Option Int} : (cutD xs lo hi).length ≤ xs.length := by
  unfold cutD
  rw [List.length_take, List.length_drop]; omega
theorem kD_cut {xs : List D} {lo hi : Option Int} (h : kD (.tup xs) = true) : kD (.tup (cutD xs lo hi)) = true := kD_mk (fun x m => kD_tup h x (cutD_mem m)) (Nat.lt_of_le_of_lt cutD_len (kD_len h))
theorem kD_app {xs ys : List D} (h : kD (.tup xs) = true) (g : kD (.tup ys) = true) (hl : xs.length + ys.length < 1000) : kD (.tup (xs ++ ys)) = true := kD_mk (fun x m => (List.mem_append.mp m).elim (kD_tup h x) (kD_tup g x)) (by simpa using hl)
theorem kD_one {x : D} (h : kD x = true) : kD (.tup [x]) = true := kD_mk (fun y m => by rw [List.mem_singleton.mp m]; exact h) (by simp)
end Ab
namespace L2
open PySem PySem.Spec PyProof.Rows
/-- what an own exception class must have for isinstance -/
structure KitE (K : PySem.W.Frag) (C : Addr) : Prop where
  cl : (PySem.W.clsIn K C).isSome = true
  xf : XfC K C
  ha : PySem.W.findIn K (.ref C) "__class__" = some (some (.builtin "object.__class__"))
  hn : PySem.W.specialIn K (.builtin "object.__class__") "__get__" = some (some (.builtin "getset_descriptor.__get__"))
  tk : PySem.W.takesIn K (.builtin "object.__class__") = some true
  hm : PySem.W.mroIn K C (.type "object") = some true
/-- isinstance(e, c) of the caught exception a -/
def tIsX (K : PySem.W.Frag) (a : Addr) (cls : Value) (d : Option Addr) (C : Addr) (ta : TA) : TE := fun σ H Q => ta σ H fun vs H1 => ∃ c u b, vs = [V.ref a, c] ∧ cls = .ref C ∧ (d = none ∨ ∃ dd fs, d = some dd ∧ H1 dd = some (.xd fs)) ∧ ClsV c u ∧ PySem.W.kitOne K (.ref C) u = some b ∧ Q (.bl b) H1
theorem pe_isX {X : Cx} {a C : Addr} {oe : Obj} {cls : Value} {d : Option Addr} {pn : List (Addr × Obj)} {e1 e2 : Expr} {ta : TA} {p pos : Pos} (T : KitE X.K C) (hz : Zc cls d oe) (hf : ∃ vs, oe.data = .fields vs)
    (hg : Gl (X.suite a ((a, oe) :: pn)) "isinstance") (hm : (X.suite a ((a, oe) :: pn)).mg "isinstance" = none) (hv : bootBuiltins "isinstance" = some (.builtin "isinstance")) (ha : PA (X.suite a ((a, oe) :: pn)) [e1, e2] ta)
    (he : starEach [e1, e2] (X.suite a ((a, oe) :: pn)).env = (false, eval e1 (X.suite a ((a, oe) :: pn)).env) :: starEach [e2] (X.suite a ((a, oe) :: pn)).env := by rfl) (hpl : (backTo pos (starEach [e2] (X.suite a ((a, oe) :: pn)).env)).any (·.1) = false := by rfl) :
    PE (X.suite a ((a, oe) :: pn)) (.Call (.Name "isinstance" p) [e1, e2] [] pos) (tIsX X.K a cls d C ta) := by
  refine ⟨fun pins s σ H Q I h => ?_⟩
  refine wpAny_Call_Name_kw (ld_blt I hg hm hv ?_ (by decide) (by decide))
  refine PyProof.Rows.callWith_builtin1 (thn (ha.run pos pins s σ H _ I h) fun us s1 ⟨vs, H1, I1, r1, c, u, b, ev, ec, hd0, k, e, q⟩ => ?_) he hpl
  subst ev
  obtain ⟨u1, u2, rfl, r1, r2⟩ := vals2 r1
  have e2 := k.eq r2
  subst e2
  obtain rfl : u1 = Value.ref a := r1
  subst ec
  obtain ⟨hx, _⟩ := I1.pin (a, oe) (List.mem_append_left _ List.mem_cons_self)
  obtain ⟨vs, hd⟩ := hf
  have key : ∃ od, PySem.W.InstAt s1.heap a oe C od := by
    rcases hd0 with ed | ⟨dd, fs, ed, ea⟩
    · subst ed
      exact ⟨none, hx, hz.1, by (unfold PySem.W.notCls; rw [hd]) <;> rfl, by rw [hz.2]; trivial⟩
    · subst ed
      have xo : ObjOk X.prog X.w H1 s1.heap dd (.xd fs) := I1.hok dd _ ea
      obtain ⟨mA, hns, _⟩ := xo
      obtain ⟨od, ho, _⟩ := lookIn_ns hns
      exact ⟨some od, hx, hz.1, by (unfold PySem.W.notCls; rw [hd]) <;> rfl, by rw [hz.2]; exact ho⟩
  obtain ⟨od, J⟩ := key
  exact PySem.W.kia_one (PySem.W.kitx_exc T.cl T.xf.ga T.xf.gg T.xf.exC T.ha T.hn T.tk T.hm) I1.kIn J e (fun z => nomatch z) fun tk => ⟨.bl b, H1, I1.tok tk, rfl, q⟩
end L2
namespace Ab
open PySem L2
section
variable {Z : Cz} {Γ : List B}
theorem den_isX {i : Nat} {a : Addr} {cls : Value} {d : Option Addr} {er : Er} {C : Addr} {c : V} {u : Value} {b : Bool} {Q : D → List B → Prop} (h : Γ[i]? = some (.exc a cls d er)) (hc : er.cls = C) (k : ClsV c u) (e : PySem.W.kitOne Z.K (.ref C) u = some b) (q : Q (.bl b) Γ) :
    Den Z (tIsX Z.K a cls d C (tCons (tVar i) (tCons (tC c) tNil))) Γ Q := fun σ G H j en kk q' => by
  obtain ⟨v, h1, h2, re⟩ := en.at_ i _ h
  subst h2
  refine ⟨.ref a, h1, c, u, b, rfl, by rw [re.c, hc], ?_, k, e, q' _ Γ _ G H q .refl j en (.bl b)⟩
  rcases re.f with ⟨z, _, _⟩ | ⟨dd, xs, h3, h4, _⟩
  · exact .inl z
  · exact .inr ⟨dd, _, h3, j.sub _ _ h4⟩
end
end Ab
namespace Ab
open PySem L2
/-- try: .. except C as n: .., the body and the suite as letters of their own -/
def tTry (K : PySem.W.Frag) (c : Value) (i : Nat) (tb : WX → TS) (ts : Addr → Value → Option Addr → TS) (W : WX) : TS := fun D σ H => tb (wAs K c i ts W D) D σ H
section
variable {X : Cx} (K : PySem.W.Frag) {x n : Str} {c : Value} {i : Nat} {body suite : List Stmt} {b₀ : Stmt} {np pos pos' : Pos} {tb : WX → TS} {ts : Addr → Value → Option Addr → TS} {Wout : WX}
theorem ks_try_as (hs : X.stack = X.env :: X.outer) (hf : X.env.frame = some X.env.locals) (hN : X.N.Nodup) (hi : X.N[i]? = some n) (hln : X.env.kindOf n = some .local) (hc : Names X x c) (tk : Takes X Wout)
    (hb : ∀ (W : WX) (pn : List (Addr × Obj)) (xe : Value → Shared → Prop), Takes (X.tr pn xe) W → PassesOwn (model X.prog X.w) X.A X.env xe → PSs (X.tr pn xe) body (tb W))
    (hsu : ∀ (a : Addr) (oe : Obj) (cls : Value) (d : Option Addr) (pn : List (Addr × Obj)), Zc cls d oe → (∃ vs, oe.data = .fields vs) → PSs (X.suite a ((a, oe) :: pn)) (b₀ :: suite) (ts a cls d)) (hK : X.K = K := by rfl) :
    PS X (.Try body [.ExceptHandler (some (.Name x np)) (some n) (b₀ :: suite) pos'] [] [] pos) (tTry K c i tb ts Wout) := by
  subst hK
  exact ps_try_as hs hf hN hi hln hc tk hb hsu
end
section
variable {Z : Cz} {Γ : List B} {P : Po}
theorem dens_tryT {c : Value} {i : Nat} {tb : WX → TS} {ts : Addr → Value → Option Addr → TS} {Y : Er → List B → Prop}
    (hb : ∀ W, DenS (Z.wx W Y) (tb W) Γ P)
    (hs : ∀ er Γ', Y er Γ' → ∃ b, PySem.W.exmOne Z.K (.ref er.cls) c = some b ∧ (b = true → ∀ a d, DenS Z (ts a (.ref er.cls) d) (Γ'.set i (.exc a (.ref er.cls) d er)) ⟨fun Γ2 => P.N (unset Γ2 i), P.R, fun Γ2 => P.Bk (unset Γ2 i), fun Γ2 => P.Ct (unset Γ2 i)⟩) ∧ (b = false → Z.X er Γ')) :
    DenS Z (tTry Z.K c i tb ts Z.W) Γ P := dens_try hb hs
end
theorem eqD_pair (a b : Int) : eqD 1 (.tup [.int a, .int b]) := eqD_tup fun z hz => by
  simp at hz
  rcases hz with rfl | rfl
  · exact eqD_int _
  · exact eqD_int _
end Ab
namespace L2
open PySem PySem.Spec PyProof.Rows
/-- what an own class must have for isinstance of its objects -/
structure KitO (K : PySem.W.Frag) (C : Addr) : Prop where
  cl : Cls K C
  ha : PySem.W.findIn K (.ref C) "__class__" = some (some (.builtin "object.__class__"))
  hn : PySem.W.specialIn K (.builtin "object.__class__") "__get__" = some (some (.builtin "getset_descriptor.__get__"))
  tk : PySem.W.takesIn K (.builtin "object.__class__") = some true
  hm : PySem.W.mroIn K C (.type "object") = some true
def rEqO (K : PySem.W.Frag) (C : Addr) (sp : Sp) : R2 := fun x y H Q => ∃ a dx fs, x = .ref a ∧ H a = some (.ins C dx fs) ∧ (∃ t : Value, TyX K H y t ∧ PySem.W.notFirst K C t = true) ∧ sp [x, y] H (fun v H' => (∃ k, v = .bl k) ∧ Q v H') (fun _ _ _ => False)
theorem op_eqO {X : Cx} {C f : Addr} {fd : FuncData} {ps : List Str} {sp : Sp} {k : Nat} (F : FnOk X.prog X.w X.K X.mg X.base (L2.CX X.prog X.w) k f fd ps sp) (hr : Room k X.A) (hs : PySem.W.findIn X.K (.ref C) "__eq__" = some (some (.ref f))) (hf : PySem.W.isFn X.K (.ref f) = true) (hb : Binds X.K fd ps []) :
    OpR X (compareOp .Eq) (rEqO X.K C sp) := by
  intro pins s σ H x y v u Q I rx ry h
  obtain ⟨a, dx, fs, rfl, ha, ⟨t, ty, nf⟩, hsp⟩ := h
  obtain rfl : v = Value.ref a := rx
  obtain ⟨mA, J, _⟩ := ins_get I.hok ha
  obtain ⟨od, J, _⟩ := J.look
  obtain ⟨m, hF⟩ := I.fr
  obtain ⟨Pz, Z, pz, _⟩ := kit_of I ry ty
  show wpAny (model X.prog X.w) X.A (richCompare .Eq (.ref a) u) _ _ _
  refine PySem.W.cmp_K (op := .Eq) (tb := t) hr.units0 hF I.ok.mod.kin J (Z.ty _ _ I.kIn pz) nf hs hf ?_
  refine wpAny_mono (run_fn F hr hb .nil passL I (.cons (show RelV (.ref a) (Value.ref a) from rfl) (.cons ry .nil)) (by rw [List.append_nil]; exact hsp)) (fun w s' q => ?_) fun _ _ x => x
  obtain ⟨z, H', I', rz, ⟨b, ek⟩, q⟩ := q
  subst ek
  cases rz
  exact ⟨.bl b, H', I', rfl, q⟩
/-- repr(v) of plain data, nothing else under way -/
def rRepr (K : PySem.W.Frag) : List V → Hp → VK → Prop := fun vs H Q => ∃ v d, vs = [v] ∧ Dp K H v d ∧ d.showable = true ∧ d.hasDict = false ∧ d.depth ≤ 60 ∧ d.shown.length ≤ sizeLine ∧ Q (.str d.shown) H
theorem cr_repr {X : Cx} (hg : X.A.guards = some []) (hu : X.A.units + 64 < cLine) : CallR X (.builtin "repr") (rRepr X.K) := by
  intro pins s σ H vs us Q I r h
  obtain ⟨v, d, rfl, dp, h1, h2, h3, h4, q⟩ := h
  obtain ⟨u, rfl, ru⟩ := vals1 r
  cases dp with
  | non => cases (show u = Value.none from ru); exact PySem.P.repr_of_none ⟨.str _, H, I.tok _, ⟨_, rfl⟩, q⟩
  | bl b => cases (show u = Value.bool b from ru); exact PySem.P.repr_of_bool ⟨.str _, H, I.tok _, ⟨_, rfl⟩, q⟩
  | int i => obtain ⟨t, rfl⟩ := (show ∃ t, u = Value.int i t from ru); exact PySem.P.repr_of_int (by simpa [PyData.showable] using h1) ⟨.str _, H, I.tok _, ⟨_, rfl⟩, q⟩
  | str x => obtain ⟨t, rfl⟩ := (show ∃ t, u = Value.str x t from ru); exact PySem.P.repr_of_str ⟨.str _, H, I.tok _, ⟨_, rfl⟩, q⟩ (by simpa only [PyData.shown] using h4)
  | @lst a xs ds sq al =>
    obtain rfl : u = Value.ref a := ru
    obtain ⟨as, rd⟩ := Dp.reads I _ _ _ (.lst sq al) (rfl : RelV (.ref a) (.ref a))
    exact repr_of_reads' rd h1 (fun z => by rw [h2] at z; cases z) hg (by omega) (fun _ _ e => e) (fun h' w tk k => ⟨.str _, H, I.kept k, ⟨_, rfl⟩, q⟩) h4
  | @tup a xs ds sq al =>
    obtain rfl : u = Value.ref a := ru
    obtain ⟨as, rd⟩ := Dp.reads I _ _ _ (.tup sq al) (rfl : RelV (.ref a) (.ref a))
    exact repr_of_reads' rd h1 (fun z => by rw [h2] at z; cases z) hg (by omega) (fun _ _ e => e) (fun h' w tk k => ⟨.str _, H, I.kept k, ⟨_, rfl⟩, q⟩) h4
structure FnOkG (P : Program) (w : World) (K : PySem.W.Frag) (mg : Str → Option Value) (base : Heap) (CX : CXT) (k : Nat) (f : Addr) (fd : FuncData) (ps : List Str) (sp : Sp) : Prop where
  lenG : ∀ ws G R D, sp ws G R D → ws.length = ps.length
  runG : ∀ (Ar : Around) (out : List Env) (sh : Shared) (G : Hp) (as : Args) (vus : List Value) (ws : List V) (R : VK) (D : XK), Ar.guards = some [] → Room k Ar → Env0 P w K mg base Ar out sh G → BindsTo sh fd as (ps.zip vus) → Vals ws vus → sp ws G R D →
    codeAny (model P w) Ar (.call (.ref f) as) (CR CX out P w G sh R D) sh
section
variable {P : Program} {w : World} {K : PySem.W.Frag} {mg : Str → Option Value} {base : Heap}
theorem fnG_of {x qual : Str} {st : Stmt} {f : Addr} {fd : FuncData} {N ps : List Str} {k : Nat} {sp : Sp} (F : Fun K x qual st f fd) (Sc : FnScope N ps (defScope st)) (ln : ∀ ws G R D, sp ws G R D → ws.length = ps.length)
    (hb : ∀ (cdv : Value) (Ar : Around) (out : List Env) (sh : Shared) (G : Hp) (ws : List V) (R : VK) (D : XK), (Ar.deeper (envOfC qual (defScope st) sh.heap.objs.size f cdv)).guards = some [] → Room k (Ar.deeper (envOfC qual (defScope st) sh.heap.objs.size f cdv)) → sp ws G R D →
      ∃ t, PSs (cxOf (L2.CX P w) P w K mg base N qual (defScope st) f cdv Ar out sh G D) (defBody st) t ∧ t { nx := fun _ H' => R .non H', rt := R } (start N ws) G) : FnOkG P w K mg base (L2.CX P w) (k + 1) f fd ps sp := by
  obtain ⟨c1, c2, c3, c4, c5, c6, cdv, c7, c8, rfl, look, code⟩ := F.ex
  constructor
  · exact ln
  · intro Ar out sh G as vus ws R D g0 room env bnd rel ask
    have long : ws.length = ps.length := ln _ _ _ _ ask
    have inK : K.In sh.heap := env.mod.kin.keeps (fun b o z => (env.bs b o z).1)
    have noLim : sh.heap.NoLimit := env.mod.nolimit.keeps (fun b o z => (env.bs b o z).1)
    obtain ⟨t, walk, wish⟩ := hb cdv Ar out sh G ws R D g0 (room.deeper _) ask
    have kinds : ∀ y ∈ ps.zip vus, (defScope st).names.lookup y.1 = some .local ∨ ((defScope st).names.lookup y.1 = some .cell ∧ ((cellsFrom (sh.heap.objs.size + 1) (defScope st).names []).lookup y.1).isSome = true) := by
      intro y hy
      cases Sc.par y.1 (List.of_mem_zip (a := y.1) (b := y.2) hy).1 with
      | inl z => exact .inl z
      | inr z => exact .inr ⟨z, PySem.W.cellsFrom_some _ _ _ (.inl z)⟩
    apply codeAny_call_function room.depth (inK _ _ look) rfl Sc.co Sc.gen rfl (PySem.W.codeRec_of inK code)
    apply bnd
    apply wpAny_newFunctionEnv_cells Sc.kind kinds
    intro en hen s1 laid
    cases hen
    refine And.intro (noLim.keeps laid.toInCall.keep) (codeAny_func ?_)
    have i0 : Inv (cxOf (L2.CX P w) P w K mg base N qual (defScope st) f cdv Ar out sh G D) [] (start N ws) G s1 := inv_start Sc room.hd env long rel laid
    have run := walk.run [] s1 (start N ws) G _ i0 wish
    apply wpAny_mono run
    · intro fl s' how
      match fl, how with
      | .ret u, ⟨v, σ', H', J, rv, q⟩ => exact ⟨v, H', J.os, J.bare, J.base, J.hok, rv, q⟩
      | .next, ⟨σ', H', J, q⟩ => exact ⟨V.non, H', J.os, J.bare, J.base, J.hok, rfl, q⟩
      | .brk, ⟨_, _, _, q⟩ => exact q.elim
      | .cont, ⟨_, _, _, q⟩ => exact q.elim
    · exact fun e s' how => how
end
section
variable {X : Cx} {x : Str} {f : Addr} {e : Expr} {es : List Expr} {t : TA} {k : Nat} {sp : Sp} {p pos : Pos} {fd : FuncData} {ps : List Str}
theorem pe_callG (F : FnOkG X.prog X.w X.K X.mg X.base (L2.CX X.prog X.w) k f fd ps sp) (g0 : X.A.guards = some []) (room : Room k X.A) (hg : Gl X x) (hm : X.mg x = some (.ref f)) (hk : PySem.W.keepIn X.K (.ref f) = true) (hb : Binds X.K fd ps [])
    (ha : PA X (e :: es) t) (hdb : (x == ("__debug__" : Str)) = false := by decide) (he : starEach (e :: es) X.env = (false, eval e X.env) :: starEach es X.env := by rfl) (hpl : (backTo pos (starEach es X.env)).any (·.1) = false := by rfl) :
    PE X (.Call (.Name x p) (e :: es) [] pos) (tCall sp [] (fun _ _ _ => False) t) := by
  constructor
  intro pins s σ H Q I h
  apply wpAny_Call_Name_kw (ld_glob I hg hm ?_ hdb)
  refine PySem.W.callWith_K (h₀ := X.base) I.ok.mod.kin hk (thn (ha.run pos pins s σ H _ I h) ?_) he hpl
  rintro us s1 ⟨vs, H1, I1, rel, ask⟩
  rw [List.append_nil] at ask
  refine ⟨I1.kIn, wpAny_call (codeAny_mono (F.runG X.A X.stack s1 H1 ⟨us, []⟩ us vs Q (fun _ _ _ => False) g0 room I1.env0 ?_ rel ask) ?_)⟩
  · have z := hb s1 us I1.kIn (by rw [List.append_nil, ← rel.length]; exact F.lenG _ _ _ _ ask)
    rwa [List.append_nil] at z
  · intro r s' got
    match r, got with
    | .error e, got => exact passL pins σ H1 s1 e s' I1 got
    | .ok (.ret u), got => exact I1.after got
    | .ok .next, got => exact got.elim
    | .ok .brk, got => exact got.elim
    | .ok .cont, got => exact got.elim
end
end L2
namespace Ab
open PySem L2
theorem k_repr {X : Cx} (K : PySem.W.Frag) (hg : X.A.guards = some []) (hu : X.A.units + 64 < cLine) (h : X.K = K := by rfl) : CallR X (.builtin "repr") (rRepr K) := by subst h; exact cr_repr hg hu
section
variable {P : Program} {w : World} {K : PySem.W.Frag} {mg : Str → Option Value} {base : Heap}
/-- a def that is called only where nothing is under way; it lets nothing out -/
theorem fn_abG {x qual : Str} {st : Stmt} {f : Addr} {fd : FuncData} {N ps : List Str} {k : Nat} (F : Fun K x qual st f fd) (Sc : FnScope N ps (defScope st)) (S : FSpec) (hl : ps.length ≤ N.length)
    (hbody : ∀ (cdv : Value) (A : Around) (outer : List PySem.Env) (s : Shared) (H : Hp) (E : XK) (ds : List D), (A.deeper (PyProof.Rows.envOfC qual (defScope st) s.heap.objs.size f cdv)).guards = some [] → Room k (A.deeper (PyProof.Rows.envOfC qual (defScope st) s.heap.objs.size f cdv)) → ds.length = ps.length → S.P ds →
      ∃ t, PSs (cxOf (L2.CX P w) P w K mg base N qual (defScope st) f cdv A outer s H E) (defBody st) t ∧
        ∀ Z : Cz, Z.K = K → DenS Z t (ds.map B.d ++ List.replicate (N.length - ds.length) .un) ⟨fun _ => S.R ds .non, S.R ds, fun _ => False, fun _ => False⟩) : FnOkG P w K mg base (L2.CX P w) (k + 1) f fd ps (spS K ps.length S) := by
  refine fnG_of F Sc (fun vs H Q E h => ?_) (fun cdv A outer s H vs Q E g0 hr h => ?_)
  · obtain ⟨pl, G, ds, _, r, hn, _⟩ := h
    rw [r.length, hn]
  · obtain ⟨pl, G, ds, j, r, hn, hp, hq, he⟩ := h
    obtain ⟨t, h1, h2⟩ := hbody cdv A outer s H E ds g0 hr hn hp
    refine ⟨t, h1, h2 ⟨K, pl, H, G, fun cls d _ H => E cls d H, fun er _ => False⟩ rfl _ G H ⟨j.toJ0.re rfl rfl rfl, fun _ _ _ _ _ _ _ z => z.elim⟩ (en_start r (by omega)) _ ⟨fun Γ σ G' H' hN _ j' _ => hq .non .non G' H' hN ⟨j'.toJ0.re rfl rfl rfl, fun _ _ _ _ _ _ _ z => z.elim⟩ .non,
      fun x v G' H' hR _ j' rx => hq x v G' H' hR ⟨j'.toJ0.re rfl rfl rfl, fun _ _ _ _ _ _ _ z => z.elim⟩ rx, fun _ _ _ _ z => z.elim, fun _ _ _ _ z => z.elim⟩⟩
structure DfnG (P : Program) (w : World) (K : PySem.W.Frag) (mg : Str → Option Value) (base : Heap) (x : Str) (k n : Nat) (S : FSpec) : Prop where
  ex : ∃ f fd ps, FnOkG P w K mg base (L2.CX P w) k f fd ps (spS K n S) ∧ mg x = some (.ref f) ∧ PySem.W.keepIn K (.ref f) = true ∧ Binds K fd ps []
end
section
variable {X : Cx} {P : Program} {w : World} {K : PySem.W.Frag} {mg : Str → Option Value} {base : Heap} {x : Str} {e : Expr} {es : List Expr} {t : TA} {k n j : Nat} {S : FSpec} {p pos : Pos}
theorem kc_fnG (g0 : X.A.guards = some []) (c : DfnG P w K mg base x k n S) (hr : Room j X.A) (hk : k ≤ j) (hX : X.prog = P ∧ X.w = w ∧ X.K = K ∧ X.mg = mg ∧ X.base = base) (hg : Gl X x) (ha : PA X (e :: es) t) (hdb : (x == ("__debug__" : Str)) = false := by decide)
    (he : starEach (e :: es) X.env = (false, eval e X.env) :: starEach es X.env := by rfl) (hpl : (backTo pos (starEach es X.env)).any (·.1) = false := by rfl) : PE X (.Call (.Name x p) (e :: es) [] pos) (tCall (spS K n S) [] (fun _ _ _ => False) t) := by
  obtain ⟨rfl, rfl, rfl, rfl, rfl⟩ := hX
  obtain ⟨f, fd, ps, h1, h2, h3, h4⟩ := c.ex
  exact pe_callG h1 g0 (hr.mono hk) hg h2 h3 h4 ha hdb he hpl
theorem dfnG_mk {qual : Str} {st : Stmt} {f : Addr} {fd : FuncData} {ps : List Str} (F : Fun K x qual st f fd) (m : mg x = some (.ref f)) (b : Binds K fd ps [])
    (h : FnOkG P w K mg base (L2.CX P w) k f fd ps (spS K ps.length S)) : DfnG P w K mg base x k ps.length S := ⟨⟨f, fd, ps, h, m, F.kp, b⟩⟩
/-- an own == , as its callers know it -/
structure EqO (P : Program) (w : World) (K : PySem.W.Frag) (mg : Str → Option Value) (base : Heap) (C : Addr) (k : Nat) (S : FSpec) : Prop where
  kit : KitO K C
  ex : ∃ f fd ps, FnOk P w K mg base (L2.CX P w) k f fd ps (spS K 2 S) ∧ PySem.W.findIn K (.ref C) "__eq__" = some (some (.ref f)) ∧ PySem.W.isFn K (.ref f) = true ∧ Binds K fd ps []
  nfO : PySem.W.notFirst K C (.ref C) = true
  nfT : PySem.W.notFirst K C (.type "tuple") = true
def rEqW (K : PySem.W.Frag) (C : Addr) (S : FSpec) : R2 := fun x y H Q => rEqO K C (spS K 2 S) x y H Q ∨ rEqq K x y H Q
theorem k_eqO {C : Addr} (q : EqO P w K mg base C k S) (hr : Room j X.A) (hk : k ≤ j) (hX : X.prog = P ∧ X.w = w ∧ X.K = K ∧ X.mg = mg ∧ X.base = base) : OpR X (compareOp .Eq) (rEqW K C S) := by
  obtain ⟨rfl, rfl, rfl, rfl, rfl⟩ := hX
  obtain ⟨f, fd, ps, h1, h2, h3, h4⟩ := q.ex
  exact (op_eqO h1 (hr.mono hk) h2 h3 h4).or (op_eqq hr.units)
end
section
variable {Z : Cz} {Γ : List B}
theorem opd_eqO {P : Program} {w : World} {mg : Str → Option Value} {base : Heap} {C : Addr} {k : Nat} {S : FSpec} {ns : List Str} {vs : List D} {y : D} {Q : D → Prop} (q : EqO P w Z.K mg base C k S) (hy : (∃ ms us, y = .obj C ms us) ∨ ∃ us, y = .tup us)
    (hp : S.P [.obj C ns vs, y]) (hr : ∀ d, S.R [.obj C ns vs, y] d → ∃ b, d = .bl b ∧ Q (.bl b)) (hx : ∀ er, ¬ S.X [.obj C ns vs, y] er) : OpD Z (rEqW Z.K C S) (.obj C ns vs) y Q := fun G H vx vy jj rx ry kk fin => by
  refine .inl ?_
  cases rx with
  | @obj a _ dx _ xs _ h1 h2 r1 =>
    refine ⟨a, dx, _, rfl, jj.sub _ _ h1, ?_, Z.pl, G, [.obj C ns vs, y], jj.enter, .cons (.obj h1 h2 r1) (.cons ry .nil), rfl, hp, fun d v G' H' a j r => ?_, fun er _ _ _ _ z => absurd z (hx er)⟩
    · rcases hy with ⟨ms, us, rfl⟩ | ⟨us, rfl⟩
      · cases ry with
        | @obj b _ dy _ ys _ g1 g2 g3 => exact ⟨_, .base (.ins (jj.sub _ _ g1) q.kit.cl q.kit.ha q.kit.hn q.kit.tk q.kit.hm), q.nfO⟩
      · cases ry with
        | @tup b ys _ g1 g2 => exact ⟨_, ty_sqt (jj.sub.sqt g1), q.nfT⟩
    · obtain ⟨b, rfl, q'⟩ := hr d a
      cases r
      exact ⟨⟨b, rfl⟩, fin _ _ G' H' q' j (.bl b)⟩
/-- isinstance(x, C) of an object of C, of a tuple -/
theorem cad_isO {C : Addr} {ns : List Str} {vs : List D} {Q : D → Prop} (kt : KitO Z.K C) (q : Q (.bl true)) : CaD Z (rIsi Z.K) [.obj C ns vs, .cls C] Q := fun G H us jj r kk fin => by
  cases r with
  | cons a c => cases c with
    | cons c d =>
      cases d; cases c
      cases a with
      | @obj a _ dx _ xs _ h1 h2 r1 =>
        exact ⟨_, _, _, _, true, rfl, .own C, .base (.ins (jj.sub _ _ h1) kt.cl kt.ha kt.hn kt.tk kt.hm), by unfold PySem.W.kitOne; rw [if_pos (by simp)], fin _ _ G H q jj.enter (.bl _)⟩
theorem cad_isT {C : Addr} {xs : List D} {b : Bool} {Q : D → Prop} (hk : PySem.W.kitOne Z.K (.type "tuple") (.ref C) = some b) (q : Q (.bl b)) : CaD Z (rIsi Z.K) [.tup xs, .cls C] Q := fun G H us jj r kk fin => by
  cases r with
  | cons a c => cases c with
    | cons c d =>
      cases d; cases c
      exact ⟨_, _, _, _, b, rfl, .own C, tag_ty jj.sub rfl a, hk, fin _ _ G H q jj.enter (.bl _)⟩
/-- what can be shown -/
structure ShowOk (x : D) : Prop where
  pl : plainD x = true
  sh : (pyD x).showable = true
  nd : (pyD x).hasDict = false
  dp : (pyD x).depth ≤ 60
  ln : (pyD x).shown.length ≤ sizeLine
theorem cad_repr {x : D} {Q : D → Prop} (h : ShowOk x) (q : Q (.str (pyD x).shown)) : CaD Z (rRepr Z.K) [x] Q := fun G H us jj r kk fin => by
  cases r with
  | cons a c =>
    cases c
    exact ⟨_, _, rfl, a.dp jj.sub h.pl, h.sh, h.nd, h.dp, h.ln, fin _ _ G H q jj.enter (.str _)⟩
end
end Ab
namespace L2
open PySem PySem.Spec PyProof.Rows
section
variable {P : Program} {w : World} {K : PySem.W.Frag} {mg mb : Str → Option Value} {k : Nat} {fa a : Addr} {fd : FuncData} {x : Str} {sp : Sp} {s1 : Shared} {us : List Value} {ms : List Int}
/-- from a heap of wishes in which at most the script is told -/
theorem endG_core (inK : K.In s1.heap) (nsM : s1.heap.Ns mainGlobals mg) (nsB : s1.heap.Ns builtinsNs mb) (boot : ∀ x : Str, x ≠ "__name__" → mb x = bootBuiltins x) (noLim : s1.heap.NoLimit) (noGen : s1.gens = #[])
    (obj : s1.heap.get? a = some { cls := .type "list", data := .seq us.toArray }) (room : Room k callerA) (F : ∀ base : Heap, K.In base → base.Ns mainGlobals mg → FnOkG P w K mg base (L2.CX P w) k fa fd [x] sp)
    (bnd : ∀ (s : Shared) (u : Value), BindsTo s fd ⟨[u], []⟩ [(x, u)]) (ask : ∀ H : Hp, Only H → SqL K H a (ms.map V.int) → sp [.ref a] H (fun v _ => v = .bl true) fun _ _ _ => False)
    {G : Hp} (only : Only G) (sq : SqL K G a (ms.map V.int)) (ok : HOk P w G s1.heap) (just : ∀ b, G b ≠ none → b = a) (apart : G a ≠ none → K.lookup a = none) :
    codeAny (model P w) callerA (.call (.ref fa) ⟨[.ref a], []⟩) (fun r s' => r = .ok (.ret (.bool true)) ∧ OldK s1.heap s'.heap ∧ s'.os = s1.os ∧ AllBare s'.gens) s1 := by
  have keepD : ∀ {b : Addr} {o : Obj} {es : Array DictEntry} {ep : Nat}, s1.heap.get? b = some o → o.data = .dict es ep → (hidT s1.heap G).get? b = some o := by
    intro b o es ep eo ed
    apply hidT_get eo
    by_cases z : G b = none
    · exact z
    · have := just b z
      subst this
      rw [obj] at eo
      cases eo
      exact Data.noConfusion ed
  have nsH : ∀ {b : Addr} {m : Str → Option Value}, s1.heap.Ns b m → (hidT s1.heap G).Ns b m := by
    rintro b m ⟨o, es, ep, eo, ed, rest⟩
    exact ⟨o, es, ep, keepD eo ed, ed, rest⟩
  have inH : K.In (hidT s1.heap G) := by
    intro b o eo
    apply hidT_get (inK b o eo)
    by_cases z : G b = none
    · exact z
    · have q := just b z
      subst q
      rw [apart z] at eo
      cases eo
  obtain ⟨mc, l1, l2⟩ := noLim
  have env : Env0 P w K mg (hidT s1.heap G) callerA [] s1 G :=
    { frames := rfl, mod := ⟨inH, nsH nsM, ⟨mb, nsH nsB, boot⟩, ⟨mc, nsH l1, l2⟩⟩, bs := fun b o z => of_hidT z, bsz := by rw [hidT_size]; exact Nat.le_refl _, funs := trivial, frf := by intro b hb; simp [frs] at hb, hok := ok, bare := .of_eq noGen }
  have run := (F _ inH (nsH nsM)).runG callerA [] s1 G ⟨[.ref a], []⟩ [.ref a] [.ref a] (fun v _ => v = .bl true) (fun _ _ _ => False) rfl room env (bnd s1 (.ref a)) (.cons rfl .nil) (ask G only sq)
  apply codeAny_mono run
  intro r s' got
  match r, got with
  | .error e, ⟨_, _, _, _, _, _, _, _, _, _, _, _, z⟩ => exact z.elim
  | .ok .next, got => exact got.elim
  | .ok .brk, got => exact got.elim
  | .ok .cont, got => exact got.elim
  | .ok (.ret u), ⟨v, H', sameOs, bare, un, ok', rv, ev⟩ =>
    have ev : v = .bl true := ev
    subst ev
    have eu : u = Value.bool true := rv
    refine ⟨by rw [eu], OldK.of_keep ?_, sameOs, bare⟩
    intro b o eo
    rcases only b with z | ⟨ob, zs, z⟩
    · exact un.keep b o eo z (by simp [frs]) (by simp)
    · obtain ⟨e1, _⟩ := ok b _ z
      obtain ⟨e2, _⟩ := ok' b _ (un.frzs b ob _ z)
      rw [eo] at e1
      cases e1
      exact e2
end
/-- the goal that the head leaves -/
theorem endG {l : PySem.W.OpenLaw} {n k : Nat} {q : Program} {loose : List Str} {XP : (Str → Option Value) → Heap → Prop} {YP : World → Heap → Prop} {d : DefRec} {K : Params → PySem.W.Frag} {sp : World → Sp} {x : Str}
    (most : l.most = some n) (fits : n ≤ sizeLine) (plain : d.params.defaults = []) (room : Room k callerA) (says : ∀ (w : World) (h : Heap), YP w h → (K w.params).In h)
    (F : ∀ (w : World) (mg : Str → Option Value) (fa : Addr) (h : Heap), (K w.params).In h → h.Ns mainGlobals mg → mg d.name = some (.ref fa) → ∃ fd : FuncData, (∀ (s : Shared) (u : Value), BindsTo s fd ⟨[u], []⟩ [(x, u)]) ∧
        ∀ base : Heap, (K w.params).In base → base.Ns mainGlobals mg → FnOkG l.prog w (K w.params) mg base (L2.CX l.prog w) k fa fd [x] (sp w))
    (ask : ∀ (w : World) (H : Hp) (a : Addr) (ms : List Int), ms.length ≤ n → Only H → SqL (K w.params) H a (ms.map V.int) → sp w [.ref a] H (fun v _ => v = .bl true) fun _ _ _ => False) :
    PySem.W.WalkO q loose XP YP l.row.toRowW d [] (fun f vs => PySem.call f vs) := by
  apply Att.attach_call most plain
  intro w s0 s1 mg mb fa o pm cd doc a us ms gr yy _ _ _ named obj hin short noGen
  have inK := says w _ yy
  obtain ⟨fd, bnd, law⟩ := F w mg fa _ inK gr.T.g named
  have rel : Vals (ms.map V.int) us := vals_ints hin
  have len : us.length = ms.length := hin.length
  have fit : (ms.map V.int).length ≤ sizeLine := by rw [List.length_map]; exact Nat.le_trans short fits
  have go := fun (G : Hp) (o1 : Only G) (o2 : SqL (K w.params) G a (ms.map V.int)) (o3 : HOk l.prog w G s1.heap) o4 o5 =>
    endG_core inK gr.T.g gr.T.b gr.T.builtins gr.T.nolimit noGen obj room law bnd (fun H hO hS => ask w H a ms short hO hS) o1 o2 o3 o4 o5
  cases told : (K w.params).lookup a with
  | some ob =>
    have eo := inK a ob told
    rw [obj] at eo
    cases eo
    refine go (fun _ => none) (fun _ => .inl rfl) ?_ (fun b u z => nomatch (show (none : Option HO) = some u from z)) (fun b z => absurd rfl z) (fun z => absurd rfl z)
    exact .inr ⟨_, us.toArray, _, told, rfl, rfl, rfl, by rw [List.size_toArray, len, ← List.length_map (f := V.int)]; exact fit, by simpa using rel⟩
  | none =>
    let ob : Obj := { cls := .type "list", data := .seq us.toArray }
    let G : Hp := fun b => if b = a then some (.frz ob (.lst (ms.map V.int))) else none
    have at_ : G a = some (.frz ob (.lst (ms.map V.int))) := if_pos rfl
    have off : ∀ b, b ≠ a → G b = none := fun b z => if_neg z
    refine go G (fun b => ?_) (.inl (.inr ⟨ob, at_⟩)) (fun b u z => ?_) (fun b z => ?_) fun _ => told
    · by_cases z : b = a
      · subst z; exact .inr ⟨_, _, at_⟩
      · exact .inl (off b z)
    · by_cases y : b = a
      · subst y
        rw [at_] at z
        cases z
        exact ⟨obj, fit, us, _, rel, obj⟩
      · rw [off b y] at z; cases z
    · by_cases y : b = a
      · exact y
      · exact absurd (off b y) z
end L2
namespace Ab
open PySem L2
theorem kitCls_ref {K : PySem.W.Frag} {t : Value} {C : Addr} {b : Bool} (h1 : PySem.W.isClsIn K C = true) (h2 : PySem.W.typeIn K (.ref C) = some (.type "type")) (h3 : PySem.W.subIn K t (.ref C) = some b) : PySem.W.kitCls K t (.ref C) = some b := by
  have z : ((PySem.W.clsIn K C).isSome && PySem.W.typeIn K (.ref C) == some (.type "type")) = true := by
    rw [show (PySem.W.clsIn K C).isSome = true from h1, h2]; rfl
  unfold PySem.W.kitCls
  simp only [z, if_true]
  exact h3
theorem kitOne_yes {K : PySem.W.Frag} {t c : Value} (h : PySem.W.kitCls K t c = some true) : PySem.W.kitOne K t c = some true := by
  unfold PySem.W.kitOne
  split
  · rfl
  · exact h
theorem kitOne_other {K : PySem.W.Frag} {t c : Value} {b : Bool} (n : (t == c) = false) (h : PySem.W.kitCls K t c = some b) : PySem.W.kitOne K t c = some b := by
  unfold PySem.W.kitOne
  rw [n]; exact h
theorem kitCls_ty {K : PySem.W.Frag} {t : Value} {T : String} {b : Bool} (m : PySem.W.kitMeta T = true) (h : PySem.W.subIn K t (.type T) = some b) : PySem.W.kitCls K t (.type T) = some b := by
  unfold PySem.W.kitCls
  simp only [m, if_true]
  exact h
theorem exm_own {K : PySem.W.Frag} {t : Value} {C : Addr} {b : Bool} (e : PySem.W.subIn K (.ref C) (.type "BaseException") = some true) (h : PySem.W.kitCls K t (.ref C) = some b) : PySem.W.exmOne K t (.ref C) = some b := by
  unfold PySem.W.exmOne
  rw [e]; exact h
end Ab
namespace Ab
open PySem L2
/-- a constant tuple of the module -/
def KRp (K : PySem.W.Frag) (a : Addr) (d : D) : Prop := ∀ pl G, Rp K pl G (.ref a) d
theorem krp_ints {K : PySem.W.Frag} {a : Addr} {o : Obj} {its : Array Value} {n : Nat} (ns : List Int) (h : K.lookup a = some o) (c : o.cls = .type "tuple") (e : o.data = .seq its n) (hz : its.size ≤ 1000) (iv : Vals (ns.map V.int) its.toList) : KRp K a (.tup (ns.map D.int)) := fun pl G =>
  .tup (.inr ⟨o, its, n, h, c, e, Nat.le_trans hz (by decide), iv⟩) (rps_ints ns)
section
variable {Z : Cz} {Γ : List B}
theorem den_kc {a : Addr} {d : D} {Q : D → List B → Prop} (h : KRp Z.K a d) (q : Q d Γ) : Den Z (tC (.ref a)) Γ Q := fun σ G H j e k kk => kk _ _ _ G H q .refl j e (h _ _)
end
end Ab
namespace L2
open PySem PySem.Spec PyProof.Rows PySem.Calls
/-- __init__(self): super().__init__() -/
def spX0 (C : Addr) : Sp := fun vs H Q _ => ∃ a, vs = [.ref a] ∧ H a = some (exo a C none) ∧ Q .non H
abbrev veMro : List Value := [.type "ValueError", .type "Exception", .type "BaseException", .type "object"]
structure Sup0 (P : Program) (K : PySem.W.Frag) (st : Stmt) (qual : Str) (C f : Addr) (fd : FuncData) : Prop where
  body : ∃ p0 p1 p2 p3 p4, defBody st = [.Expr (.Call (.Attribute (.Call (.Name "super" p0) [] [] p1) "__init__" p2) [] [] p3) p4] ∧
    ∀ env : PySem.Env, ∃ pl : Sem Bool, eval (.Call (.Attribute (.Call (.Name "super" p0) [] [] p1) "__init__" p2) [] [] p3) env = (do
      let ov ← attributeBase (.Call (.Name "super" p0) [] [] p1) "__init__" env (eval (.Call (.Name "super" p0) [] [] p1) env)
      standAt p2.atName
      let (g, first) ← holding [ov] (getMethod ov "__init__" pl)
      callWith p3 g first (backTo p3 (starEach [] env)) [])
  par : ∃ ar, ((defArgs st).posonlyargs ++ (defArgs st).args).head? = some ar ∧ ar.arg = "self"
  lk : ∃ oc od kV doc pm an ct osl cda cc, fd = PySem.W.fnX "__init__" qual (defArgs st) (defBody st) (defScope st) [("__class__", cc)] .none kV doc pm an (.ref cda) ct ∧ K.lookup f = some ⟨oc, od, .func fd, osl⟩ ∧ PySem.W.codeIn K (.ref cda) qual = true ∧
    (∃ ccl cdd vs ccs file tf, K.lookup cda = some ⟨ccl, cdd, .fields vs, ccs⟩ ∧ vs[2]? = some (.str file tf) ∧ ((P.main.file : Str) == file) = true) ∧ (∃ cl cld csl, K.lookup cc = some ⟨cl, cld, .cell (some (.ref C)), csl⟩)
  cls : ∃ cd, PySem.W.clsIn K C = some cd
  sub : PySem.W.mroIn K C (.ref C) = some true
  nsup : PySem.W.nsIn K mainGlobals "super" = some none
  nany : PySem.W.nsIn K cStatics "thirdparty.any" = some none
  meth : PySem.W.ks_superIn K C C "__init__" = some (some (.builtin "ValueError.__init__"))
  sVE : PySem.W.subIn K (.ref C) (.type "ValueError") = some true
  ini : PySem.W.excInitIn K C veMro "ValueError.__new__" = true
  top : (P.main.scope.names.lookup ("super" : Str)).isSome = false
  sc1 : (defScope st).names.lookup ("super" : Str) = some .globalImplicit
  sc2 : (defScope st).names.lookup ("__class__" : Str) = some .free
  sc3 : (defScope st).names.lookup ("self" : Str) = some .local
  sc4 : (defScope st).kind = .function
  sc5 : (defScope st).isCoroutine = false
  sc6 : (defScope st).isGenerator = false
  sc7 : ∀ x ∈ (defScope st).names, x.2 ≠ .cell
section
variable {P : Program} {w : World} {K : PySem.W.Frag} {mg : Str → Option Value} {base : Heap}
theorem super0 {st : Stmt} {qual : Str} {C f : Addr} {fd : FuncData} (S : Sup0 P K st qual C f fd) : FnOk P w K mg base (L2.CX P w) 1 f fd ["self"] (spX0 C) := by
  refine ⟨fun vs H Q E h => by obtain ⟨a, rfl, _⟩ := h; rfl, fun A outer s H args us vs Q E hr e0 hb r hsp => ?_⟩
  obtain ⟨a, rfl, ha, hq⟩ := hsp
  obtain ⟨u, rfl, ru⟩ := vals1 r
  obtain rfl : u = Value.ref a := ru
  obtain ⟨oc, od, kV, doc, pm, an, ct, osl, cda, cc, rfl, lk, hcd, ⟨ccl, cdd, vs, ccs, file, tf, k1, k2, k3⟩, ⟨cl, cld, csl, k4⟩⟩ := S.lk
  obtain ⟨p0, p1, p2, p3, p4, hbody, hev⟩ := S.body
  obtain ⟨ar, har, hself⟩ := S.par
  obtain ⟨cdD, hD⟩ := S.cls
  obtain ⟨t1, hx⟩ := exo_at e0.hok ha
  have KX : K.In s.heap := e0.mod.kin.keeps fun b o z => (e0.bs b o z).1
  have lim : s.heap.NoLimit := e0.mod.nolimit.keeps fun b o z => (e0.bs b o z).1
  obtain ⟨mb, hmb, hboot⟩ := e0.mod.blt
  have hGl : s.heap.Ns mainGlobals mg := e0.mod.glob.keeps fun b o z => (e0.bs b o z).1
  have hBl : s.heap.Ns builtinsNs mb := hmb.keeps fun b o z => (e0.bs b o z).1
  have baseA : base.get? a = none := by
    cases z : base.get? a with
    | none => rfl
    | some o => have := (e0.bs a o z).2; rw [ha] at this; cases this
  have aK : K.lookup a = none := by
    cases z : K.lookup a with
    | none => rfl
    | some o => have := e0.mod.kin a o z; rw [baseA] at this; cases this
  have sups : mg "super" = none := PySem.W.mg_none_of e0.mod.kin e0.mod.glob S.nsup
  refine ks_codeAny_call_defAt (binds := [("self", .ref a)]) hr.depth (KX _ _ lk) rfl lim (PySem.W.codeRec_of KX hcd) rfl hb S.sc7 (fun y hy => ?_) (fun h₀ hns hk => ?_) S.sc5 S.sc6 S.sc4
  · rw [List.mem_singleton.mp hy]; exact S.sc3
  have KX0 : K.In h₀ := KX.keeps hk
  have hx0 := hk _ _ hx
  have KG : K.In (PySem.W.hideAll s.heap [a]) := fun b o z => PySem.W.hideAll_get [a] (KX b o z) fun q => by
    rw [List.mem_singleton.mp q, aK] at z; cases z
  have fr0 : Fr (PySem.W.hideAll s.heap [a]) s.heap.objs.size h₀ (fun x => ([("self", Value.ref a)] : List (Str × Value)).reverse.lookup x) := ⟨hns, fun b o z => hk b o (PySem.W.of_hideAll [a] z), Nat.le_of_eq (PySem.W.hideAll_size [a] _)⟩
  have aL : a ≠ s.heap.objs.size := Nat.ne_of_lt (Heap.lt_size hx)
  have gA : (PySem.W.hideAll s.heap [a]).get? a = none := PySem.W.hideAll_none [a] (List.mem_singleton.mpr rfl)
  obtain ⟨oD, hD1, hD2⟩ : ∃ oD, h₀.get? C = some oD ∧ oD.data = .cls cdD := by
    unfold PySem.W.clsIn at hD
    split at hD
    · rename_i hl
      cases hD
      exact ⟨_, KX0 _ _ hl, rfl⟩
    · cases hD
  have fin : ∀ h' tk, (∀ b o, b ≠ a → s.heap.get? b = some o → h'.get? b = some o) → (∃ t', h'.get? a = some (PySem.W.excObj C t' none .none)) → CR (L2.CX P w) outer P w H s Q E (.ok (.ret .none)) { s with heap := h', toks := tk } := by
    intro h' tk keep ⟨t', now⟩
    have eu : upd H a (exo a C none) = H := by
      funext b
      by_cases hb' : b = a
      · rw [hb', upd_same, ha]
      · rw [upd_ne hb']
    have mu : Mut (H a) := by rw [ha]; exact True.intro
    have un := Un.write (fs := frs outer) (ex := []) (H := H) (o := exo a C none) mu (.inl rfl) keep ⟨_, now⟩
    have new : ObjOk P w (upd H a (exo a C none)) h' a (exo a C none) := exo_ok now
    have ok : HOk P w (upd H a (exo a C none)) h' := HOk.write e0.hok mu (.inl rfl) keep ⟨_, now⟩ new
    rw [eu] at un ok
    exact ⟨.non, H, rfl, e0.bare, un, ok, rfl, hq⟩
  rw [hbody]
  obtain ⟨pl, hpl⟩ := hev (callEnv (PySem.W.fnX "__init__" qual (defArgs st) [.Expr (.Call (.Attribute (.Call (.Name "super" p0) [] [] p1) "__init__" p2) [] [] p3) p4] (defScope st) [("__class__", cc)] .none kV doc pm an (.ref cda) ct) s.heap.objs.size f)
  refine ks_wpAt_execs_cons (ks_wpAt_Expr_any (ks_wpAt_MethodCall (pl := pl) ?_ hpl) (hi := (by unfold interactive; simp [callEnv, newEnv, S.sc4])))
  refine ks_wpAt_super_base (f := f) (cc := cda) S.sc1 S.sc2 (by decide) rfl (KX0 _ _ lk) rfl har rfl (KX0 _ _ k1) rfl k2 k3 S.top ?_
  refine PySem.W.ks_loadName_global S.sc4 S.sc1 (loadGlobal_builtin (hGl.keeps hk) sups (hBl.keeps hk) ((hboot _ (by decide)).trans PyProof.Rows.Boot.«super») ⟨rfl, ?_⟩)
  refine wpAny_loadName_free S.sc4 S.sc2 rfl ⟨_, KX0 _ _ k4, rfl⟩ ?_
  rw [hself]
  refine wpAny_loadName_local S.sc4 S.sc3 hns rfl ?_
  refine ks_wpAny_isType_cls hD1 hD2 ⟨rfl, ?_⟩
  refine ks_wpAny_call_super hD1 hD2 hx0 rfl (fun c e => by cases e) (PySem.W.looks_mroIn KX0 S.sub) (fun h1 e1 k1' => ?_)
  have soA : h₀.objs.size ≠ a := (Nat.ne_of_lt (Heap.lt_size hx0)).symm
  have gsz : (PySem.W.hideAll s.heap [a]).objs.size = s.heap.objs.size := PySem.W.hideAll_size [a] _
  have up0 : s.heap.objs.size < h₀.objs.size := by
    obtain ⟨o, _, _, z, _⟩ := id hns
    exact Heap.lt_size z
  have gso : (PySem.W.hideAll s.heap [a]).get? h₀.objs.size = none := by
    cases z : (PySem.W.hideAll s.heap [a]).get? h₀.objs.size with
    | none => rfl
    | some o => exact absurd (Nat.lt_trans up0 (gsz ▸ Heap.lt_size z)) (Nat.lt_irrefl _)
  have fr1 : Fr (PySem.W.hideAll s.heap [a]) s.heap.objs.size h1 (fun x => ([("self", Value.ref a)] : List (Str × Value)).reverse.lookup x) := ⟨hns.keeps k1', fun b o z => k1' b o (fr0.keep b o z), fr0.above⟩
  have N1 : News (PySem.W.hideAll s.heap [a]) s.heap.objs.size h1 [(h₀.objs.size, PySem.W.ks_superObj C a C), (a, PySem.W.excObj C t1 none .none)] := by
    intro p hp
    rcases List.mem_cons.mp hp with rfl | hp
    · exact ⟨e1, Nat.ne_of_gt up0, gso⟩
    · rw [List.mem_singleton.mp hp]
      exact ⟨k1' _ _ hx0, aL, gA⟩
  refine PySem.W.kxs_method PySem.W.kxs_ValueError fr1 KG N1 (.head _) (PySem.W.InstAt.of_exc0 (t := t1) (c2 := .none) N1 (.tail _ (.head _))) S.nany S.meth S.sVE (by decide) fun q h2 fr2 N2 lt2 => ?_
  refine PySem.W.kxs_callWith0 N2 (.head _) ?_
  have qA : q ≠ a := (Nat.ne_of_lt (lt2 _ (.tail _ (.head _)))).symm
  refine PySem.W.kxs_call fr2 KG N2 F.excBase_ValueError S.ini (.head _) (.tail qA (.tail soA (.head fun p hp => nomatch hp))) (Nat.zero_le _) fun t' h3 fr3 N3 _ => ?_
  refine wpAt_of_wpAny (wpAny_execs_nil (fin h3 _ (fun b o nb eo => fr3.keep b o (PySem.W.hideAll_get [a] eo (by simpa using nb))) ⟨t', (N3 (a, _) (.tail _ (.tail _ (.tail _ (.head _))))).1⟩))
end
end L2
namespace L2
open PySem PySem.Spec PyProof.Rows
section
variable {X : Cx}
/-- a new error object without a dict is let go: the heap without it is as the heap before -/
theorem let_go {pins : List (Addr × Obj)} {σ : St} {H : Hp} {hp hp2 h2 : Heap} {g1 g2 : Array GenState} {d1 d2 : Drawn} {t1 t2 : Nat} {os1 os2 : OsState} {a C : Addr} (I : Inv X pins σ H ⟨hp, g1, d1, t1, os1⟩)
    (far : hp.objs.size ≤ a) (up : ∀ b o, hp.get? b = some o → hp2.get? b = some o) (un : Un (frs X.stack) [] (upd H a (exo a C none)) (upd H a (exo a C none)) hp2 h2) (ok : HOk X.prog X.w (upd H a (exo a C none)) h2) (same : os2 = os1) (bare : AllBare g2) :
    ∃ G : Heap, Inv X pins σ H ⟨G, g2, d2, t2, os2⟩ ∧ (∀ b o, G.get? b = some o → h2.get? b = some o) ∧ G.get? a = none := by
  have na : H a = none := I.hok.fresh far
  obtain ⟨G, r1, r2⟩ := restrict h2 fun b => decide (b ≠ a)
  have eq : ∀ b, b ≠ a → G.get? b = h2.get? b := fun b z => r1 b (decide_eq_true z)
  have gone : G.get? a = none := r2 a (decide_eq_false fun z => z rfl)
  have apart : ∀ b o, hp.get? b = some o → b ≠ a := fun b o z y => absurd (Heap.lt_size z) (by rw [y]; exact Nat.not_lt.mpr far)
  have still : ∀ b, b ≠ a → H b = none → upd H a (exo a C none) b = none := fun b z n => (upd_ne z).trans n
  have U : Un (frs X.stack) [] H H hp G := by
    constructor
    · intro b o z n hf hx
      exact (eq b (apart b o z)).trans (un.keep b o (up b o z) (still b (apart b o z) n) hf hx)
    · intro b o z n hf hx
      obtain ⟨sl, q⟩ := un.slot b o (up b o z) (still b (apart b o z) n) hf hx
      exact ⟨sl, (eq b (apart b o z)).trans q⟩
    · intro b o _ n _
      exact n
    · intro b o z hx
      obtain ⟨o', q⟩ := un.there b o (up b o z) hx
      exact ⟨o', (eq b (apart b o z)).trans q⟩
    · exact fun b xs z => z
    · exact fun b o v z => z
    · intro b ps z
      have ba : b ≠ a := ne_of_none z na
      obtain ⟨m, q⟩ := un.tbls b ps ((upd_ne ba).trans z)
      exact ⟨m, (upd_ne ba).symm.trans q⟩
  have K : HOk X.prog X.w H G := by
    intro b o z
    have ba : b ≠ a := ne_of_none z na
    have hb : upd H a (exo a C none) b = some o := (upd_ne ba).trans z
    refine (ok b o hb).stay (fun c v hc y => ?_) (fun c hc => ?_) fun c xs hc => ?_
    · have ca : c ≠ a := by
        rcases hc with e | e
        · rw [e]; exact ba
        · exact at_ne upd_same e exo_own
      exact (eq c ca).trans y
    · have ca : c ≠ a := at_ne upd_same hc exo_own
      exact (upd_ne ca).symm.trans hc
    · have ca : c ≠ a := at_ne upd_same hc exo_tup
      exact (upd_ne ca).symm.trans hc
  refine ⟨G, I.call' (ch := []) same U K bare (fun b z => absurd z (by simp)), fun b o z => ?_, gone⟩
  by_cases ba : b = a
  · rw [ba, gone] at z; cases z
  · exact (eq b ba).symm.trans z
theorem pmk_plain {x : Str} {C fI : Addr} {k : Nat} {fd : FuncData} {ps : List Str} {p pos : Pos} (T : OexC X.K C) (iC : PySem.W.findIn X.K (.ref C) "__init__" = some (some (.ref fI))) (tI : PySem.W.typeIn X.K (.ref fI) = some (.type "function"))
    (F1 : FnOk X.prog X.w X.K X.mg X.base (L2.CX X.prog X.w) k fI fd ps (spX0 C)) (hr : Room (k + 1) X.A) (hb : Binds X.K fd ps []) (hg : Gl X x) (hm : X.mg x = some (.ref C)) (hdb : (x == ("__debug__" : Str)) = false := by decide) :
    PMk X (.Call (.Name x p) [] [] pos) (fun _ H Q => Q (.ref C) none H) := by
  intro pins s σ H Q I q
  obtain ⟨nm, qn, N, bs, bm, sn, sub, ab, col, dd, k0, k1, k2, k3, k5, hC, hbm⟩ := T.cls
  refine wpAny_Call_Name_kw (ld_glob I hg hm ?_ hdb)
  refine PySem.W.callWith_K0 I.kIn T.kC ?_
  obtain ⟨hp, g, dr, tk, os⟩ := s
  have far : hp.objs.size ≤ hp.objs.size + 1 := Nat.le_succ _
  have na : H (hp.objs.size + 1) = none := I.hok.fresh far
  have up : ∀ b o, hp.get? b = some o → ((hp.push (PySem.W.kdv_tup [])).push (PySem.HandSPX.excO C hp.objs.size)).get? b = some o := fun b o e => Heap.get?_push_of_some _ (Heap.get?_push_of_some _ e)
  have here : ((hp.push (PySem.W.kdv_tup [])).push (PySem.HandSPX.excO C hp.objs.size)).get? (hp.objs.size + 1) = some (PySem.HandSPX.excO C hp.objs.size) := by heap_get
  have I2 : Inv X pins σ (upd H (hp.objs.size + 1) (exo (hp.objs.size + 1) C none)) ⟨(hp.push (PySem.W.kdv_tup [])).push (PySem.HandSPX.excO C hp.objs.size), g, dr, tk, os⟩ := I.laid (t' := tk) up far (exo_ok here)
  have ask : spX0 C [V.ref (hp.objs.size + 1)] (upd H (hp.objs.size + 1) (exo (hp.objs.size + 1) C none)) (fun v H2 => v = .non ∧ H2 = upd H (hp.objs.size + 1) (exo (hp.objs.size + 1) C none)) (fun _ _ _ => False) := ⟨_, rfl, upd_same, rfl, rfl⟩
  have rel : Vals [V.ref (hp.objs.size + 1)] [Value.ref (hp.objs.size + 1)] := .cons rfl .nil
  have len : ([Value.ref (hp.objs.size + 1)] ++ []).length = ps.length := by
    have := F1.len _ _ _ _ ask
    simpa using this
  have bnd := hb _ [Value.ref (hp.objs.size + 1)] I2.kIn len
  rw [List.append_nil] at bnd
  refine wpAny_call (PySem.HandSPX.call_own F.excBase_ValueError (fun Y => PySem.HandSPX.refsVE_contains Y bm hbm) (I.kIn _ _ hC) (PySem.W.looks_findIn I.kIn iC) (fun self => PySem.W.bind_fn I.kIn self tI) (Nat.zero_le _)
    (codeAny_mono (F1.run _ X.stack _ _ ⟨[Value.ref (hp.objs.size + 1)], []⟩ [Value.ref (hp.objs.size + 1)] _ _ (fun _ _ _ => False) (hr.make C [] []) (I2.env0.make C [] []) bnd rel ask) fun r s' got => ?_))
  match r, got with
  | .error er, got => exact passL pins σ _ _ er s' I2 got
  | .ok .next, got => exact got.elim
  | .ok .brk, got => exact got.elim
  | .ok .cont, got => exact got.elim
  | .ok (.ret u), ⟨v, H2, os2, bare2, un2, ok2, rv, ev, eH⟩ =>
    subst ev eH
    obtain ⟨h2, g2, d2, t2, os'⟩ := s'
    obtain ⟨t0, now⟩ := exo_at ok2 (upd_same : upd H (hp.objs.size + 1) (exo (hp.objs.size + 1) C none) (hp.objs.size + 1) = some _)
    obtain ⟨G, J, sub2, gone⟩ := let_go (d2 := d2) (t2 := t2) I far up un2 ok2 os2 bare2
    exact ⟨rv, _, _, _, ⟨G, g2, d2, t2, os'⟩, H, .ref C, none, rfl, J, sub2, gone, now, ⟨rfl, rfl⟩, rfl, rfl, na, rfl, bare2, raises_own T.exC T.tyC, q⟩
end
end L2
namespace Ab
open PySem L2
/-- a plain error class, as its raisers know it -/
structure Exn0 (P : Program) (w : World) (K : PySem.W.Frag) (mg : Str → Option Value) (base : Heap) (x : Str) (C : Addr) : Prop where
  o : OexC K C
  ex : ∃ fI fd ps, PySem.W.findIn K (.ref C) "__init__" = some (some (.ref fI)) ∧ PySem.W.typeIn K (.ref fI) = some (.type "function") ∧ FnOk P w K mg base (L2.CX P w) 1 fI fd ps (spX0 C) ∧ Binds K fd ps []
  m : mg x = some (.ref C)
def tRaise0 (C : Addr) (W : WX) : TS := fun _ σ H => W (.ref C) none σ H
section
variable {X : Cx} {P : Program} {w : World} {K : PySem.W.Frag} {mg : Str → Option Value} {base : Heap} {x : Str} {C : Addr} {j : Nat} {p pos pos2 : Pos}
theorem ks_raise0 {W : WX} (hc : X.calm = true) (tk : Takes X W) (c : Exn0 P w K mg base x C) (hr : Room j X.A) (hk : 2 ≤ j) (hX : X.prog = P ∧ X.w = w ∧ X.K = K ∧ X.mg = mg ∧ X.base = base) (hg : Gl X x) (hdb : (x == ("__debug__" : Str)) = false := by decide) :
    PS X (.Raise (some (.Call (.Name x p) [] [] pos)) none pos2) (tRaise0 C W) := by
  obtain ⟨rfl, rfl, rfl, rfl, rfl⟩ := hX
  obtain ⟨fI, fd, ps, h1, h2, h3, h4⟩ := c.ex
  exact ps_raise hc tk (pmk_plain c.o h1 h2 h3 (hr.mono hk) h4 hg c.m hdb)
end
section
variable {Z : Cz} {Γ : List B} {te : TE} {P : Po}
theorem dens_raise0 {C : Addr} (h : Z.X ⟨C, [], []⟩ Γ) : DenS Z (tRaise0 C Z.W) Γ P := fun σ G H j e De d =>
  j.acc ⟨C, [], []⟩ _ _ σ _ _ Γ h (Ex.refl _) j.toJ0 e ⟨rfl, .inl ⟨rfl, rfl, rfl⟩⟩
/-- x.index(y) of a list of flags, data -/
theorem den_indexB {T : String} {ta : TE} {Q : D → List B → Prop} (hT : T = "list") (h : Den Z te Γ fun x Γ1 => ∃ bs : List Bool, x = .lst (bs.map D.bl) ∧ Den Z ta Γ1 fun y Γ2 => ∃ (b : Bool) (n : Nat), y = .bl b ∧ bs[n]? = some b ∧ (∀ m < n, bs[m]? ≠ some b) ∧ Q (.int (n : Nat)) Γ2) :
    Den Z (tBM Z.K T (rIndex Z.K) te (tCons ta tNil)) Γ Q := fun σ G H j e k kk =>
  h σ G H j e _ fun x Γ1 v G1 H1 q s1 j1 e1 r1 => by
    obtain ⟨bs, rfl, q⟩ := q
    subst hT
    cases r1 with
    | @lst l vs _ h1 rs =>
      have ev := bools_vs rs
      subst ev
      have sq : SqL Z.K H1 l (bs.map V.bl) := .inl (.inl (j1.sub _ _ h1))
      refine ⟨.inl ⟨rfl, _, sq⟩, q σ G1 H1 j1 e1 _ fun y Γ2 vy G2 H2 q2 s2 j2 e2 r2 => ?_⟩
      obtain ⟨b, n, rfl, hn, hm, q2⟩ := q2
      cases r2
      refine ⟨l, bs.map V.bl, .bl b, n, .bl b, rfl, rfl, .inl (.inl (j2.sub _ _ (s2.ex _ _ h1))), rfl, by simp [List.all_eq_true, flatV], by rw [List.getElem?_map, hn]; rfl, by simp [eqV], fun m z' hlt hz => ?_, kk _ Γ2 _ G2 H2 q2 (s1.trans s2) j2 e2 (.int _)⟩
      rw [List.getElem?_map] at hz
      cases hb : bs[m]? with
      | none => rw [hb] at hz; cases hz
      | some c =>
        rw [hb] at hz; cases hz
        have := hm m hlt
        rw [hb] at this
        simp only [eqV]
        cases b <;> cases c <;> simp_all
end
end Ab
namespace L2
open PySem PySem.Spec PyProof.Rows
/-- l.count(y), flat items -/
def rCountF (K : PySem.W.Frag) : V → List V → Hp → VK → Prop := fun x xs H Q => ∃ (p : Addr) (ys : List V) (y : V), x = .ref p ∧ xs = [y] ∧ SqL K H p ys ∧ flatV y = true ∧ ys.all flatV = true ∧ Q (.int ((ys.countP fun z => eqV z y : Nat) : Int)) H
theorem countP_eqU {x : V} : ∀ {xs : List V} {us : List Value}, Vals xs us → xs.all flatV = true → us.countP (eqU x) = xs.countP fun y => eqV y x
  | _, _, .nil, _ => rfl
  | y :: xs, u :: us, .cons r t, f => by
    have g := Bool.and_eq_true_iff.mp (show (flatV y && xs.all flatV) = true from f)
    rw [List.countP_cons, List.countP_cons, eqU_of r g.1, countP_eqU t g.2]
theorem mt_countF {X : Cx} : MtR X "list.count" (rCountF X.K) := by
  intro pins s σ H x xs v us Q I rx rxs h
  obtain ⟨p, ys, y, rfl, rfl, hs, fy, fys, q⟩ := h
  cases rx
  obtain ⟨u, rfl, ru⟩ := rxs.one
  obtain ⟨its, rv, ⟨⟨cls, dd, data, sl⟩, n, ho, hc, hdn, hd⟩, hlen⟩ := I.list hs
  simp only at hc hd
  subst hc hd
  refine call_meets (PySem.F.slot_list_count) ⟨_, ho, rfl⟩ (PySem.F.entry_list_count) (PySem.F.args_list_count_2 _ _) (SeqAt.list_countAt p its.toArray n dd sl u (eqU y)) ⟨ho, fun w hw => mem_eqAt ru fy rv fys w (by simpa using hw), ?_⟩
  refine ⟨.int ((ys.countP fun z => eqV z y : Nat) : Int), H, I.tok _, ⟨s.toks, ?_⟩, q⟩
  have e : its.toArray.toList.countP (eqU y) = ys.countP fun z => eqV z y := countP_eqU rv fys
  show Value.int ((its.toArray.toList.countP (eqU y) : Nat) : Int) s.toks = _
  rw [e]
end L2
namespace Ab
open PySem L2
section
variable {Z : Cz} {Γ : List B} {te ta : TE}
/-- l.count(flag), a list of flags -/
theorem den_countB {T : String} {Q : D → List B → Prop} (hT : T = "list") (h : Den Z te Γ fun x Γ1 => ∃ bs : List Bool, x = .lst (bs.map D.bl) ∧ Den Z ta Γ1 fun y Γ2 => ∃ b : Bool, y = .bl b ∧ Q (.int (bs.count b : Nat)) Γ2) : Den Z (tBM Z.K T (rCountF Z.K) te (tCons ta tNil)) Γ Q := fun σ G H j e k kk =>
  h σ G H j e _ fun x Γ1 v G1 H1 q s1 j1 e1 r1 => by
    obtain ⟨bs, rfl, q⟩ := q
    subst hT
    cases r1 with
    | @lst l vs _ h1 rs =>
      have ev := bools_vs rs
      subst ev
      refine ⟨.inl ⟨rfl, _, .inl (.inl (j1.sub _ _ h1))⟩, q σ G1 H1 j1 e1 _ fun y Γ2 vy G2 H2 q2 s2 j2 e2 r2 => ?_⟩
      obtain ⟨b, rfl, q2⟩ := q2
      cases r2
      refine ⟨l, _, .bl b, rfl, rfl, .inl (.inl (j2.sub _ _ (s2.ex _ _ h1))), rfl, by simp [List.all_eq_true, flatV], ?_⟩
      have e3 : ((bs.map V.bl).countP fun z => eqV z (.bl b)) = bs.count b := by
        rw [List.countP_map, List.count]; rfl
      rw [e3]
      exact kk _ Γ2 _ G2 H2 q2 (s1.trans s2) j2 e2 (.int _)
/-- l.count(i), a list of ints -/
theorem den_countI {T : String} {Q : D → List B → Prop} (hT : T = "list") (h : Den Z te Γ fun x Γ1 => ∃ is : List Int, x = .lst (is.map D.int) ∧ Den Z ta Γ1 fun y Γ2 => ∃ i : Int, y = .int i ∧ Q (.int (is.count i : Nat)) Γ2) : Den Z (tBM Z.K T (rCountF Z.K) te (tCons ta tNil)) Γ Q := fun σ G H j e k kk =>
  h σ G H j e _ fun x Γ1 v G1 H1 q s1 j1 e1 r1 => by
    obtain ⟨is, rfl, q⟩ := q
    subst hT
    cases r1 with
    | @lst l vs _ h1 rs =>
      have ev := ints_vs rs
      subst ev
      refine ⟨.inl ⟨rfl, _, .inl (.inl (j1.sub _ _ h1))⟩, q σ G1 H1 j1 e1 _ fun y Γ2 vy G2 H2 q2 s2 j2 e2 r2 => ?_⟩
      obtain ⟨i, rfl, q2⟩ := q2
      cases r2
      refine ⟨l, _, .int i, rfl, rfl, .inl (.inl (j2.sub _ _ (s2.ex _ _ h1))), rfl, by simp [List.all_eq_true, flatV], ?_⟩
      have e3 : ((is.map V.int).countP fun z => eqV z (.int i)) = is.count i := by
        rw [List.countP_map, List.count]; rfl
      rw [e3]
      exact kk _ Γ2 _ G2 H2 q2 (s1.trans s2) j2 e2 (.int _)
end
end Ab
namespace Ab
open PySem L2
section
variable {Z : Cz} {Γ : List B} {te ta : TE} {P : Po}
/-- x += e, ints -/
theorem dens_aug {i : Nat} {a : Int} {f : Int → Int → Int} (hx : Γ[i]? = some (.d (.int a))) (h : Den Z te Γ fun y Γ1 => ∃ b : Int, y = .int b ∧ P.N (Γ1.set i (.d (.int (f a b))))) : DenS Z (tAug i te (ipI f)) Γ P := fun σ G H j e De d => by
  obtain ⟨v, h1, u, h2, r⟩ := e.at_ i _ hx
  subst h2
  cases r
  refine ⟨.int a, h1, h σ G H j e _ fun y Γ1 vy G1 H1 q s1 j1 e1 r1 => ?_⟩
  obtain ⟨b, rfl, q⟩ := q
  cases r1
  exact ⟨a, b, rfl, rfl, d.n _ _ G1 H1 q s1.ex j1 (e1.setD (.int _))⟩
/-- xs.extend(ys): a list of one's own gets the items of a list -/
theorem den_extend {m : Nat} {xs : List D} {T : String} {Q : D → List B → Prop} (hm : Γ[m]? = some (.own xs)) (hT : T = "list") (h : Den Z te Γ fun x Γ1 => ∃ xs' ys, Γ1[m]? = some (.own xs') ∧ x = .lst ys ∧ xs'.length + ys.length ≤ 100000 ∧ Q .non (Γ1.set m (.own (xs' ++ ys)))) :
    Den Z (tBM Z.K T rExtend (tVar m) (tCons te tNil)) Γ Q := fun σ G H j e k kk => by
  obtain ⟨v, h1, l, vs, h2, h3, h4, h5, h6⟩ := e.at_ m _ hm
  subst h2; subst hT
  refine ⟨.ref l, h1, .inl ⟨rfl, vs, SqL.of h3⟩, h σ G H j e _ fun x Γ1 vx G1 H1 q s1 j1 e1 r1 => ?_⟩
  obtain ⟨xs', ys, hm1, rfl, hl, q⟩ := q
  obtain ⟨v', h1', l', vs', h2', h3', h4', h5', h6'⟩ := e1.at_ m _ hm1
  subst h2'
  rw [h1] at h1'
  cases h1'
  cases r1 with
  | @lst b zs _ g1 rz =>
    obtain ⟨s2, e2, g2, z2⟩ := own_put (ys := xs' ++ ys) e1 hm1 h1 (h4'.append rz)
    exact ⟨l, b, vs', zs, rfl, rfl, h3', j1.sub _ _ g1, Nat.le_trans (by rw [h4'.length, rz.length]; exact hl) (by decide), kk .non _ .non G1 _ q (s1.trans s2) (j1.put z2 g2) e2 .non⟩
end
end Ab
namespace Ab
open PySem L2
section
variable {Z : Cz} {Γ : List B} {te : TE}
/-- what a comprehension keeps while its list C grows -/
structure Grow (Z : Cz) (σ : L2.St) (Γ1 : List B) (G1 H1 : Hp) (C : Addr) (ys : List D) (G H : Hp) : Prop where
  li : ∃ acc, H C = some (.lst acc) ∧ Rps Z.K Z.pl G acc ys
  gc : G C = none
  j : J Z G H
  ex : Ex G1 G
  fr : ∀ a o, H1 a = some o → NotPl Z a → (∀ i : Nat, IsOwn Γ1[i]? → σ[i]? ≠ some (some (.ref a))) → H a = some o ∧ (G1 a = none → G a = none)
  tr : ∀ a o, H1 a = some o → ∃ o', H a = some o'
theorem Grow.step {σ : L2.St} {Γ1 : List B} {G1 H1 : Hp} {C : Addr} {ys : List D} {G H G' H' : Hp} (w : Grow Z σ Γ1 G1 H1 C ys G H) (s : Sp1 Z σ Γ1 Γ1 G H G' H') (j' : J Z G' H') (np : NotPl Z C) (no : ∀ i : Nat, IsOwn Γ1[i]? → σ[i]? ≠ some (some (.ref C))) : Grow Z σ Γ1 G1 H1 C ys G' H' := by
  obtain ⟨acc, hC, r⟩ := w.li
  obtain ⟨hC', hg'⟩ := s.fr C _ hC np no
  exact ⟨⟨acc, hC', r.mono s.ex⟩, hg' w.gc, j', w.ex.trans s.ex, fun a o ha n z => by
    obtain ⟨z1, z2⟩ := w.fr a o ha n z
    obtain ⟨z3, z4⟩ := s.fr a o z1 n z
    exact ⟨z3, fun q => z4 (z2 q)⟩, fun a o ha => by
    obtain ⟨o', z⟩ := w.tr a o ha
    exact s.tr a o' z⟩
theorem Grow.add {σ : L2.St} {Γ1 : List B} {G1 H1 : Hp} {C : Addr} {ys : List D} {G H : Hp} {v : V} {y : D} (w : Grow Z σ Γ1 G1 H1 C ys G H) (hC1 : H1 C = none) (hz : Z.H0 C = none) (r : Rp Z.K Z.pl G v y) : ∃ acc, H C = some (.lst acc) ∧ acc.length = ys.length ∧ Grow Z σ Γ1 G1 H1 C (ys ++ [y]) G (upd H C (.lst (acc ++ [v]))) := by
  obtain ⟨acc, hC, rr⟩ := w.li
  have far : ∀ {a : Addr} {o : HO}, H1 a = some o → a ≠ C := fun ha => ne_of_none ha hC1
  exact ⟨acc, hC, rr.length, ⟨acc ++ [v], upd_same, rr.append (.one r)⟩, w.gc, w.j.put hz w.gc, w.ex, fun a o ha n z => by
    obtain ⟨z1, z2⟩ := w.fr a o ha n z
    exact ⟨by rw [upd_ne (far ha)]; exact z1, z2⟩, fun a o ha => by
    obtain ⟨o', z⟩ := w.tr a o ha
    exact ⟨o', by rw [upd_ne (far ha)]; exact z⟩⟩
/-- an environment that doesn't hold C stays when C's list grows -/
theorem En.grow {G H : Hp} {σ : L2.St} {Γ : List B} {C : Addr} {o : HO} (e : En Z G H σ Γ) (no : ∀ i : Nat, IsOwn Γ[i]? → σ[i]? ≠ some (some (.ref C))) : En Z G (upd H C o) σ Γ :=
  e.mono (Ex.refl _) fun l o b1 b2 _ ⟨n, o1, o2⟩ => by
    have : l ≠ C := fun z => no n o1 (by rw [o2, z])
    rw [upd_ne this]; exact ⟨b1, b2⟩
theorem tyes_in {σ : L2.St} {H : Hp} {A B : Hp → Prop} (h : A H) : tYes σ H (fun b H => if b = true then A H else B H) := by
  show if true = true then A H else B H
  rw [if_pos rfl]; exact h
theorem denl_flat {wi wi1 : TI} {g g1 : TG} {vs vs1 : List Nat} {Q : List D → List B → Prop} (hg : GOff g vs) (hm : GMono g) (hg1 : GOff g1 vs1) (hm1 : GMono g1) (sub : ∀ i ∈ vs1, i ∈ vs)
    (h : DenI Z wi Γ fun ds Γ1 => (∀ i ∈ vs, ¬ IsOwn Γ1[i]?) ∧ ∃ (inner : D → List D) (f : D → D → D), (ds.flatMap fun d => (inner d).map (f d)).length < 100000 ∧
      (∀ (i : Nat) d, ds[i]? = some d → DenG Z g d (wipeB Γ1 vs) fun Γ2 => wipeB Γ2 vs = wipeB Γ1 vs ∧ (∀ i ∈ vs, ¬ IsOwn Γ2[i]?) ∧
        DenI Z wi1 Γ2 fun es Γ3 => Γ3 = Γ2 ∧ es = inner d ∧ ∀ (k : Nat) e, es[k]? = some e → DenG Z g1 e (wipeB Γ2 vs1) fun Γ4 => wipeB Γ4 vs1 = wipeB Γ2 vs1 ∧ (∀ i ∈ vs1, ¬ IsOwn Γ4[i]?) ∧ Den Z te Γ4 fun y Γ5 => Γ5 = Γ4 ∧ y = f d e) ∧
      Q (ds.flatMap fun d => (inner d).map (f d)) Γ1) : DenL Z (tLc2 wi g tYes wi1 g1 tYes te vs vs1) Γ Q := fun σ G H j e k kk =>
  h σ G H j e _ fun ds Γ1 Jt G1 H1 q s1 j1 e1 it C hC => by
    obtain ⟨no, inner, f, hlen, hs, hq⟩ := q
    have hg1' : G1 C = none := j1.sub.back hC
    have hz : Z.H0 C = none := j1.old hC
    have nd1 : ∀ i : Nat, IsOwn Γ1[i]? → σ[i]? ≠ some (some (.ref C)) := fun i o => e1.noown hC i o
    have npC : NotPl Z C := fun p c e => by
      obtain ⟨_, _, _, ⟨o1, z3⟩, ⟨o2, z4⟩, _⟩ := j1.pool p c e
      exact ⟨fun z => (by rw [← z] at z3; rw [hz] at z3; cases z3), fun z => (by rw [← z] at z4; rw [hz] at z4; cases z4)⟩
    let out : Nat → List D := fun i => (ds.take i).flatMap fun d => (inner d).map (f d)
    have w0 : Grow Z σ Γ1 G1 H1 C [] G1 (upd H1 C (.lst [])) := ⟨⟨[], upd_same, .nil⟩, hg1', j1.put hz hg1', Ex.refl _, fun a o ha _ _ => ⟨by rw [upd_ne (ne_of_none ha hC)]; exact ha, fun z => z⟩, fun a o ha => ⟨o, by rw [upd_ne (ne_of_none ha hC)]; exact ha⟩⟩
    refine ⟨fun i m H => m = ds.length - i ∧ i ≤ ds.length ∧ ∃ G2, Grow Z σ Γ1 G1 H1 C (out i) G2 H ∧ En Z G2 H (L2.wipe σ vs) (wipeB Γ1 vs), ⟨ds.length, by simp, Nat.zero_le _, G1, w0, (e1.wipe vs).newM hC⟩, ?_⟩
    rintro i m H2 ⟨rfl, hi, G2, w2, e2⟩
    by_cases hlt : i < ds.length
    · refine .inr ⟨it.go G2 H2 i w2.ex w2.j hlt, fun H => ∃ G2, Grow Z σ Γ1 G1 H1 C (out (i + 1)) G2 H ∧ En Z G2 H (L2.wipe σ vs) (wipeB Γ1 vs), fun H' z => ⟨ds.length - (i + 1), by omega, rfl, hlt, z⟩, fun x H' y => ?_⟩
      obtain ⟨G3, dd, hdd, i3, r3⟩ := it.yld G2 H2 i x H' w2.ex w2.j hlt y
      have j3 := w2.j.leave i3
      have e3 := e2.called w2.j.toJ0 i3.toJ0
      have w3 := w2.step (.of i3) j3 npC nd1
      have more : out (i + 1) = out i ++ (inner dd).map (f dd) := by
        show ((ds.take (i + 1)).flatMap _) = _
        rw [take_snoc hdd, List.flatMap_append]; simp [out]
      have long : (out (i + 1)).length < 100000 := by
        refine Nat.lt_of_le_of_lt ?_ hlen
        have : ds.flatMap (fun d => (inner d).map (f d)) = out (i + 1) ++ (ds.drop (i + 1)).flatMap fun d => (inner d).map (f d) := by
          rw [← List.flatMap_append, List.take_append_drop]
        rw [this, List.length_append]; omega
      refine hg.imp hm (hs i dd hdd (L2.wipe σ vs) G3 H' x j3 e3 r3 (fun σ2 Hx => Hx = H' ∧ ∃ Γ2, (wipeB Γ2 vs = wipeB Γ1 vs ∧ (∀ i ∈ vs, ¬ IsOwn Γ2[i]?) ∧ DenI Z wi1 Γ2 fun es Γ3 => Γ3 = Γ2 ∧ es = inner dd ∧ ∀ (k : Nat) e, es[k]? = some e → DenG Z g1 e (wipeB Γ2 vs1) fun Γ4 => wipeB Γ4 vs1 = wipeB Γ2 vs1 ∧ (∀ i ∈ vs1, ¬ IsOwn Γ4[i]?) ∧ Den Z te Γ4 fun y Γ5 => Γ5 = Γ4 ∧ y = f dd e) ∧ En Z G3 H' σ2 Γ2) fun Γ2 σ2 q3 e4 => ⟨rfl, Γ2, q3, e4⟩) fun σ2 Hx off ⟨ex, Γ2, ⟨w1', no2, q3⟩, e4⟩ => ?_
      subst ex
      refine ⟨wipe_off off, ?_⟩
      refine tyes_in ?_
      have same : ∀ k : Nat, k ∉ vs → σ2[k]? = σ[k]? := fun k hk => by rw [off.2 k hk, wipe_out' σ hk]
      have own2 : ∀ k : Nat, IsOwn Γ2[k]? → k ∉ vs ∧ IsOwn Γ1[k]? := fun k o => by
        have hk : k ∉ vs := fun z => no2 k z o
        refine ⟨hk, ?_⟩
        have : Γ2[k]? = Γ1[k]? := by rw [← wipeB_out Γ2 hk, w1', wipeB_out Γ1 hk]
        rw [← this]; exact o
      have cv : ∀ {G H G' H'}, Sp1 Z σ2 Γ2 Γ2 G H G' H' → Sp1 Z σ Γ1 Γ1 G H G' H' := fun s => s.conv fun k o => ⟨(own2 k o).2, same k (own2 k o).1⟩
      have nd2 : ∀ k : Nat, IsOwn Γ2[k]? → σ2[k]? ≠ some (some (.ref C)) := fun k o => by
        rw [same k (own2 k o).1]; exact nd1 k (own2 k o).2
      have back : ∀ {G H}, En Z G H σ2 Γ2 → En Z G H (L2.wipe σ vs) (wipeB Γ1 vs) := fun e => by
        have z := e.wipe vs
        rw [w1', wipe_off off] at z; exact z
      have no21 : ∀ i ∈ vs1, ¬ IsOwn Γ2[i]? := fun i hi => no2 i (sub i hi)
      refine q3 σ2 G3 Hx j3 e4 _ fun es Γ3 Jt1 G4 H4 q4 s4 j4 e5 it1 => ?_
      obtain ⟨rfl, rfl, q4⟩ := q4
      have w4 := w3.step (cv s4) j4 npC nd1
      refine ⟨fun n m H => m = (inner dd).length - n ∧ n ≤ (inner dd).length ∧ ∃ G5, Grow Z σ Γ1 G1 H1 C (out i ++ ((inner dd).take n).map (f dd)) G5 H ∧ Ex G4 G5 ∧ En Z G5 H σ2 Γ3, ⟨(inner dd).length, by simp, Nat.zero_le _, G4, by simpa using w4, Ex.refl _, e5⟩, ?_⟩
      rintro n m H5 ⟨rfl, hn, G5, w5, x5, e6⟩
      by_cases hlt1 : n < (inner dd).length
      · refine .inr ⟨it1.go G5 H5 n x5 w5.j hlt1, fun H => ∃ G6, Grow Z σ Γ1 G1 H1 C (out i ++ ((inner dd).take (n + 1)).map (f dd)) G6 H ∧ Ex G4 G6 ∧ En Z G6 H σ2 Γ3, fun H' z => ⟨(inner dd).length - (n + 1), by omega, rfl, hlt1, z⟩, fun x1 H6 y1 => ?_⟩
        obtain ⟨G6, ee, hee, i6, r6⟩ := it1.yld G5 H5 n x1 H6 x5 w5.j hlt1 y1
        have j6 := w5.j.leave i6
        have e7 := e6.called w5.j.toJ0 i6.toJ0
        have w6 := w5.step (.of i6) j6 npC nd1
        refine hg1.imp hm1 (q4 n ee hee (L2.wipe σ2 vs1) G6 H6 x1 j6 (e7.wipe vs1) r6 (fun σ3 Hx => Hx = H6 ∧ ∃ Γ4, (wipeB Γ4 vs1 = wipeB Γ3 vs1 ∧ (∀ i ∈ vs1, ¬ IsOwn Γ4[i]?) ∧ Den Z te Γ4 fun y Γ5 => Γ5 = Γ4 ∧ y = f dd ee) ∧ En Z G6 H6 σ3 Γ4) fun Γ4 σ3 q5 e8 => ⟨rfl, Γ4, q5, e8⟩) fun σ3 Hx off1 ⟨ex1, Γ4, ⟨w1'', no4, q5⟩, e8⟩ => ?_
        subst ex1
        refine ⟨wipe_off off1, ?_⟩
        refine tyes_in ?_
        have same3 : ∀ k : Nat, k ∉ vs1 → σ3[k]? = σ2[k]? := fun k hk => by rw [off1.2 k hk, wipe_out' σ2 hk]
        have own3 : ∀ k : Nat, IsOwn Γ4[k]? → k ∉ vs1 ∧ IsOwn Γ3[k]? := fun k o => by
          have hk : k ∉ vs1 := fun z => no4 k z o
          refine ⟨hk, ?_⟩
          have : Γ4[k]? = Γ3[k]? := by rw [← wipeB_out Γ4 hk, w1'', wipeB_out Γ3 hk]
          rw [← this]; exact o
        have cv3 : ∀ {G H G' H'}, Sp1 Z σ3 Γ4 Γ4 G H G' H' → Sp1 Z σ2 Γ3 Γ3 G H G' H' := fun s => s.conv fun k o => ⟨(own3 k o).2, same3 k (own3 k o).1⟩
        have nd3 : ∀ k : Nat, IsOwn Γ4[k]? → σ3[k]? ≠ some (some (.ref C)) := fun k o => by
          rw [same3 k (own3 k o).1]; exact nd2 k (own3 k o).2
        refine q5 σ3 G6 Hx j6 e8 _ fun yd Γ6 vy G7 H7 q6 s7 j7 e9 r7 => ?_
        obtain ⟨rfl, rfl⟩ := q6
        have w7 := w6.step (cv (cv3 s7)) j7 npC nd1
        obtain ⟨acc, hacc, lacc, w8⟩ := w7.add hC hz r7
        have e10 := (e9.grow (o := .lst (acc ++ [vy])) nd3).wipe vs1
        rw [w1'', wipe_off off1] at e10
        have nx := take_snoc hee
        refine ⟨acc, hacc, ?_, G7, ?_, (x5.trans i6.g0).trans s7.ex, e7.restore s7.ex e10 no21⟩
        · rw [lacc]
          refine Nat.lt_of_lt_of_le (Nat.lt_of_le_of_lt ?_ long) (by decide)
          rw [more, List.length_append, List.length_append, List.length_map, List.length_map, List.length_take]; omega
        · rw [nx, List.map_append, ← List.append_assoc]; exact w8
      · have en : n = (inner dd).length := by omega
        subst en
        rw [List.take_length, ← more] at w5
        exact .inl ⟨it1.stop G5 H5 x5 w5.j, G5, w5, back e6⟩
    · have ei : i = ds.length := by omega
      subst ei
      have all : out ds.length = ds.flatMap fun d => (inner d).map (f d) := by show (ds.take ds.length).flatMap _ = _; rw [List.take_length]
      rw [all] at w2
      obtain ⟨acc, hacc, ra⟩ := w2.li
      exact .inl ⟨it.stop G2 H2 w2.ex w2.j, kk _ Γ1 C acc G2 H2 hq (s1.trans ⟨w2.ex, fun _ h => h, w2.fr, w2.tr⟩) w2.j (e1.restore w2.ex e2 no) hacc ra ⟨w2.gc, hz, nd1⟩ (s1.back hC)⟩
end
end Ab
namespace Ab
open PySem L2
/-- how a law begins: pool = _law_pool(script); from then on the pool's two lists are its own -/
theorem lawpool_start {K : PySem.W.Frag} {N : List Str} {a : Addr} {ns : List Int} {H : Hp} {rest : TS} {Q : VK} {S : FSpec} (hS : SqL K H a (ns.map V.int)) (hlen : ns.length ≤ 63) (hO : Only H)
    (hR : ∀ d, S.R [.scr ns] d → ∃ (seed : Int) (cs : List Int), d = .lst [.int seed, .int 0, .lst (cs.map D.int)] ∧ 0 ≤ seed ∧ seed < 2147483647 ∧ (∀ n ∈ cs, 0 ≤ n) ∧ cs.length ≤ 63) (hP : S.P [.scr ns]) (hX : ∀ er, ¬ S.X [.scr ns] er) (hN : 2 ≤ N.length)
    (go : ∀ Z : Cz, Z.K = K → (Z.W = fun _ _ _ _ => False) → (Z.X = fun _ _ => False) → DenS Z rest ((B.d (.scr ns) :: .d .pool :: List.replicate (N.length - 2) .un)) ⟨fun _ => False, fun x => x = .bl true, fun _ => False, fun _ => False⟩) (hQ : ∀ H', Q (.bl true) H') {De : Ends} (hD : De.rt = Q) :
    tSeq (tAsg (tCall (spS K 1 S) [] (fun _ _ _ => False) (tCons (tVar 0) tNil)) (gName 1)) rest De (L2.start N [.ref a]) H := by
  refine ⟨.ref a, rfl, none, H, [.scr ns], ⟨⟨Ex.refl H, Ex.refl H, (fun _ _ _ n => n), (fun _ _ e _ => e), (fun _ _ z => by cases z)⟩, fun _ _ _ _ _ _ _ z => z.elim⟩, .one (.scr hS), rfl, hP, fun d v G' H' hd j r => ?_, fun er _ _ _ _ z => absurd z (hX er)⟩
  obtain ⟨seed, cs, rfl, b1, b2, b3, b4⟩ := hR d hd
  cases r with
  | @lst l xs _ gl rs =>
    cases rs with
    | cons r1 rs => cases rs with
      | cons r2 rs => cases rs with
        | cons r3 rs =>
          cases rs; cases r1; cases r2
          cases r3 with
          | @lst c ys _ gc rc =>
            have := ints_vs rc
            subst this
            have hl := j.sub _ _ gl
            have hc := j.sub _ _ gc
            have old : ∀ b o, H b = some o → H' b = some o := fun b o e => j.fr b o e fun _ _ z => by cases z
            have fresh : ∀ b ws, H' b = some (.lst ws) → H b = none := fun b ws e => by
              rcases hO b with z | ⟨ob, zs, z⟩
              · exact z
              · have := old b _ z
                rw [e] at this; cases this
            have lc : l ≠ c := fun z => by
              subst z
              rw [hl] at hc
              have e : [V.int seed, .int 0, .ref l] = cs.map V.int := by simpa using hc
              match cs, e with
              | [_, _, _], e => simp at e
              | [], e => simp at e
              | [_], e => simp at e
              | [_, _], e => simp at e
              | _ :: _ :: _ :: _ :: _, e => simp at e
            let Z : Cz := ⟨K, some (l, c), H', H, fun _ _ _ _ => False, fun _ _ => False⟩
            have jZ : J Z H H' := ⟨⟨old, Ex.refl H, fun _ _ _ n => n, fun _ _ e _ => e, fun p' c' e => by
              cases e
              exact ⟨lc, fresh _ _ hl, fresh _ _ hc, ⟨_, hl⟩, ⟨_, hc⟩, _, _, hl, hc, seed, 0, cs, rfl, rfl, b1, b2, Int.le_refl _, b3, b4⟩⟩, fun _ _ _ _ _ _ _ z => z.elim⟩
            have e0 : En Z H H' (L2.start N [.ref a]) ([D.scr ns].map B.d ++ List.replicate (N.length - 1) .un) := en_start (Z := Z) (.one (.scr hS)) (by simp; omega)
            have e1 := e0.setD (i := 1) (x := .pool) (v := .ref l) (.pool rfl)
            have eΓ : ([D.scr ns].map B.d ++ List.replicate (N.length - 1) B.un).set 1 (.d .pool) = B.d (.scr ns) :: .d .pool :: List.replicate (N.length - 2) .un := by
              obtain ⟨m, hm⟩ : ∃ m, N.length = m + 2 := ⟨N.length - 2, by omega⟩
              rw [hm]; rfl
            rw [eΓ] at e1
            refine go Z rfl rfl rfl _ H H' jZ e1 De ⟨fun _ _ _ _ z => z.elim, fun x v G2 H2 hx _ _ rx => ?_, fun _ _ _ _ z => z.elim, fun _ _ _ _ z => z.elim⟩
            subst hx
            cases rx
            rw [hD]; exact hQ _
end Ab
namespace Cc
open PySem L2 Ab
abbrev EX := Er → List B → Prop
abbrev WP := List D → (D → Prop) → (Er → Prop) → Prop
def W0 : WX := fun _ _ _ _ => False
def EX0 : EX := fun _ _ => False
structure X (K : PySem.W.Frag) where
  te : WX → TE
  wp : List B → (D → List B → Prop) → EX → Prop
  ok : ∀ (Z : Cz) (Γ : List B) (Q : D → List B → Prop), Z.K = K → wp Γ Q Z.X → Den Z (te Z.W) Γ Q
structure A (K : PySem.W.Frag) where
  ta : WX → TA
  wp : List B → (List D → List B → Prop) → EX → Prop
  ok : ∀ (Z : Cz) (Γ : List B) (Q : List D → List B → Prop), Z.K = K → wp Γ Q Z.X → DenA Z (ta Z.W) Γ Q
structure T (K : PySem.W.Frag) where
  tt : WX → TT
  wp : List B → (Bool → List B → Prop) → EX → Prop
  ok : ∀ (Z : Cz) (Γ : List B) (Q : Bool → List B → Prop), Z.K = K → wp Γ Q Z.X → DenT Z (tt Z.W) Γ Q
structure L (K : PySem.W.Frag) where
  te : WX → TE
  wp : List B → (List D → List B → Prop) → EX → Prop
  ok : ∀ (Z : Cz) (Γ : List B) (Q : List D → List B → Prop), Z.K = K → wp Γ Q Z.X → DenL Z (te Z.W) Γ Q
structure I (K : PySem.W.Frag) where
  wi : WX → TI
  wp : List B → (List D → List B → Prop) → EX → Prop
  ok : ∀ (Z : Cz) (Γ : List B) (Q : List D → List B → Prop), Z.K = K → wp Γ Q Z.X → DenI Z (wi Z.W) Γ Q
structure O (K : PySem.W.Frag) where
  to : WX → TO
  wp : List B → (Option Int → List B → Prop) → EX → Prop
  ok : ∀ (Z : Cz) (Γ : List B) (Q : Option Int → List B → Prop), Z.K = K → wp Γ Q Z.X → DenO Z (to Z.W) Γ Q
structure G (K : PySem.W.Frag) where
  g : TG
  wp : D → List B → (List B → Prop) → Prop
  vs : List Nat
  ok : ∀ (Z : Cz) (x : D) (Γ : List B) (Q : List B → Prop), Z.K = K → wp x Γ Q → DenG Z g x Γ Q
  off : ∀ ws : List Nat, (∀ v ∈ vs, v ∈ ws) → GOff g ws
  mono : GMono g
structure Gs (K : PySem.W.Frag) where
  g : TGs
  wp : List D → List B → (List B → Prop) → Prop
  vs : List Nat
  ok : ∀ (Z : Cz) (xs : List D) (Γ : List B) (Q : List B → Prop), Z.K = K → wp xs Γ Q → DenGs Z g xs Γ Q
  off : ∀ ws : List Nat, (∀ v ∈ vs, v ∈ ws) → GsOff g ws
  mono : GsMono g
structure O2 (K : PySem.W.Frag) where
  r : R2
  wp : D → D → (D → Prop) → Prop
  ok : ∀ (Z : Cz) (x y : D) (Q : D → Prop), Z.K = K → wp x y Q → OpD Z r x y Q
structure Bi (K : PySem.W.Frag) where
  r : List V → Hp → VK → Prop
  wp : List D → (D → Prop) → Prop
  ok : ∀ (Z : Cz) (xs : List D) (Q : D → Prop), Z.K = K → wp xs Q → CaD Z r xs Q
structure S (K : PySem.W.Frag) where
  ts : WX → TS
  wp : List B → Po → EX → Prop
  ok : ∀ (Z : Cz) (Γ : List B) (P : Po), Z.K = K → wp Γ P Z.X → DenS Z (ts Z.W) Γ P
def get : List B → Nat → B
  | [], _ => .un
  | b :: _, 0 => b
  | _ :: r, n + 1 => get r n
def put : List B → Nat → B → List B
  | [], _, _ => []
  | _ :: r, 0, c => c :: r
  | b :: r, n + 1, c => b :: put r n c
theorem put_set : ∀ (Γ : List B) (i : Nat) (b : B), put Γ i b = Γ.set i b
  | [], _, _ => rfl
  | _ :: _, 0, _ => rfl
  | _ :: r, n + 1, c => by simp only [put, List.set_cons_succ, put_set r n c]
theorem get_some {i : Nat} {b : B} : ∀ {Γ : List B}, get Γ i = b → b ≠ .un → Γ[i]? = some b := by
  intro Γ
  induction Γ generalizing i with
  | nil => intro h n; simp [get] at h; exact absurd h.symm n
  | cons c r ih =>
    intro h n
    cases i with
    | zero => simp only [get] at h; subst h; rfl
    | succ i => simpa using ih h n
section
variable {K : PySem.W.Frag}
def unx : D → D
  | .xtup xs => .tup xs
  | d => d
theorem rp_unx {K : PySem.W.Frag} {pl} {G : Hp} {v : V} {d : D} (h : Rp K pl G v d) : Rp K pl G v (unx d) := by
  cases h with
  | xtup h1 h2 h3 => exact .tup (.inl (.inr ⟨_, h1⟩)) h3
  | non => exact .non
  | bl b => exact .bl b
  | int i => exact .int i
  | str x => exact .str x
  | tup h r => exact .tup h r
  | lst h r => exact .lst h r
  | dic h => exact .dic h
  | dct h r => exact .dct h r
  | obj h l r => exact .obj h l r
  | pool h => exact .pool h
  | ty n => exact .ty n
  | cls C => exact .cls C
  | scr h => exact .scr h
  | exo h k => exact .exo h k
theorem den_unx {Z : Cz} {Γ : List B} {te : TE} {Q : D → List B → Prop} (h : Den Z te Γ fun d Γ' => Q (unx d) Γ') : Den Z te Γ Q := fun σ G H j e k kk => h σ G H j e k fun d Γ' v G' H' q s j' e' r => kk _ Γ' v G' H' q s j' e' (rp_unx r)
def vB (b : B) (Γ : List B) (i : Nat) (Q : D → List B → Prop) : Prop :=
  match b with
  | .d x => Q x Γ
  | .own xs => Q (.lst xs) (put Γ i (.d (.lst xs)))
  | _ => False
def varW (Γ : List B) (i : Nat) (Q : D → List B → Prop) : Prop := vB (get Γ i) Γ i Q
theorem varW_ok {Z : Cz} {Γ : List B} {i : Nat} {Q : D → List B → Prop} (h : varW Γ i Q) : Den Z (tVar i) Γ Q := by
  unfold varW vB at h
  cases e : get Γ i with
  | un => rw [e] at h; exact h.elim
  | d x => rw [e] at h; exact den_var (get_some e (by simp)) h
  | own xs => rw [e] at h; simp only [put_set] at h; exact den_move (get_some e (by simp)) h
  | ob p C ns vs => rw [e] at h; exact h.elim
  | exc a c d er => rw [e] at h; exact h.elim
def v (i : Nat) : X K := ⟨fun _ => tVar i, fun Γ Q _ => varW Γ i Q, fun Z Γ Q _ h => varW_ok h⟩
/-- a name, read as it is -/
def vr (i : Nat) : X K := ⟨fun _ => tVar i, fun Γ Q _ => match get Γ i with
  | .d x => Q x Γ
  | _ => False, fun Z Γ Q _ h => by
    split at h
    · rename_i x e; exact den_var (get_some e (by simp)) h
    · exact h.elim⟩
/-- a value, read as a tuple -/
def wk (x : X K) : X K := ⟨x.te, fun Γ Q E => x.wp Γ (fun d Γ' => Q (unx d) Γ') E, fun Z Γ Q e h => den_unx (x.ok Z Γ _ e h)⟩
def int (i : Int) : X K := ⟨fun _ => tC (.int i), fun Γ Q _ => Q (.int i) Γ, fun Z Γ Q _ h => den_int h⟩
def bl (b : Bool) : X K := ⟨fun _ => tC (.bl b), fun Γ Q _ => Q (.bl b) Γ, fun Z Γ Q _ h => den_bl h⟩
def non : X K := ⟨fun _ => tC .non, fun Γ Q _ => Q .non Γ, fun Z Γ Q _ h => den_non h⟩
def str (x : Str) : X K := ⟨fun _ => tC (.str x), fun Γ Q _ => Q (.str x) Γ, fun Z Γ Q _ h => den_str h⟩
def ty (t : String) : X K := ⟨fun _ => tC (.ty t), fun Γ Q _ => Q (.ty t) Γ, fun Z Γ Q _ h => den_ty h⟩
def cls (C : Addr) : X K := ⟨fun _ => tC (.ref C), fun Γ Q _ => Q (.cls C) Γ, fun Z Γ Q _ h => den_cls h⟩
/-- a constant of the written part -/
def con (a : Addr) (d : D) : X K := ⟨fun _ => tC (.ref a), fun Γ Q _ => KRp K a d ∧ Q d Γ, fun Z Γ Q e h => by subst e; exact den_kc h.1 h.2⟩
def a0 : A K := ⟨fun _ => tNil, fun Γ Q _ => Q [] Γ, fun Z Γ Q _ h => dena_nil h⟩
def ac (x : X K) (r : A K) : A K := ⟨fun W => tCons (x.te W) (r.ta W), fun Γ Q E => x.wp Γ (fun d Γ1 => r.wp Γ1 (fun ds Γ2 => Q (d :: ds) Γ2) E) E,
  fun Z Γ Q e h => dena_cons ((x.ok Z Γ _ e h).mono fun d Γ1 h1 => r.ok Z Γ1 _ e h1)⟩
def tup (r : A K) : X K := ⟨fun W => tTup (r.ta W), fun Γ Q E => r.wp Γ (fun ds Γ1 => ds.length ≤ 100000 ∧ Q (.tup ds) Γ1) E, fun Z Γ Q e h => den_tup (r.ok Z Γ _ e h)⟩
def dic : X K := ⟨fun _ => tDNewK, fun Γ Q _ => Q .dic Γ, fun Z Γ Q _ h => den_dic h⟩
def lst (r : A K) : L K := ⟨fun W => tLst (r.ta W), fun Γ Q E => r.wp Γ (fun ds Γ1 => ds.length ≤ 100000 ∧ Q ds Γ1) E, fun Z Γ Q e h => denl_lst (r.ok Z Γ _ e h)⟩
def ofL (l : L K) : X K := ⟨l.te, fun Γ Q E => l.wp Γ (fun ds Γ1 => Q (.lst ds) Γ1) E, fun Z Γ Q e h => den_l (l.ok Z Γ _ e h)⟩
def op (o : O2 K) (a b : X K) : X K := ⟨fun W => tOp o.r (a.te W) (b.te W), fun Γ Q E => a.wp Γ (fun x Γ1 => b.wp Γ1 (fun y Γ2 => o.wp x y fun d => Q d Γ2) E) E,
  fun Z Γ Q e h => den_op ((a.ok Z Γ _ e h).mono fun x Γ1 h1 => (b.ok Z Γ1 _ e h1).mono fun y Γ2 h2 => o.ok Z x y _ e h2)⟩
def isBl (x : D) (Q : Bool → Prop) : Prop :=
  match x with
  | .bl b => Q b
  | _ => False
theorem isBl_ex {x : D} {Q : Bool → Prop} (h : isBl x Q) : ∃ b, x = .bl b ∧ Q b := by
  cases x with
  | bl b => exact ⟨b, rfl, h⟩
  | _ => exact h.elim
def nt (a : X K) : X K := ⟨fun W => tNotV (a.te W), fun Γ Q E => a.wp Γ (fun x Γ1 => isBl x fun b => Q (.bl (!b)) Γ1) E, fun Z Γ Q e h => den_not ((a.ok Z Γ _ e h).mono fun x Γ1 h1 => isBl_ex h1)⟩
def and (a b : X K) : X K := ⟨fun W => tAndV (a.te W) (b.te W), fun Γ Q E => a.wp Γ (fun x Γ1 => isBl x fun c => if c = true then b.wp Γ1 Q E else Q (.bl false) Γ1) E,
  fun Z Γ Q e h => den_and ((a.ok Z Γ _ e h).mono fun x Γ1 h1 => by
    obtain ⟨c, rfl, h2⟩ := isBl_ex h1
    refine ⟨c, rfl, ?_⟩
    cases c with
    | true => exact b.ok Z Γ1 _ e h2
    | false => exact h2)⟩
def or (a b : X K) : X K := ⟨fun W => tOrV (a.te W) (b.te W), fun Γ Q E => a.wp Γ (fun x Γ1 => isBl x fun c => if c = true then Q (.bl true) Γ1 else b.wp Γ1 Q E) E,
  fun Z Γ Q e h => den_or ((a.ok Z Γ _ e h).mono fun x Γ1 h1 => by
    obtain ⟨c, rfl, h2⟩ := isBl_ex h1
    refine ⟨c, rfl, ?_⟩
    cases c with
    | true => exact h2
    | false => exact b.ok Z Γ1 _ e h2)⟩
def chain (o o' : O2 K) (a b c : X K) : X K := ⟨fun W => tChain o.r o'.r (a.te W) (b.te W) (c.te W),
  fun Γ Q E => a.wp Γ (fun x Γ1 => b.wp Γ1 (fun y Γ2 => o.wp x y fun d => isBl d fun k => if k = true then c.wp Γ2 (fun z Γ3 => o'.wp y z fun d => Q d Γ3) E else Q (.bl false) Γ2) E) E,
  fun Z Γ Q e h => den_chain ((a.ok Z Γ _ e h).mono fun x Γ1 h1 => (b.ok Z Γ1 _ e h1).mono fun y Γ2 h2 => fun G H vx vy j rx ry k kk => o.ok Z x y _ e h2 G H vx vy j rx ry k fun d v G' H' q => kk d v G' H' (by
    obtain ⟨c', rfl, h3⟩ := isBl_ex q
    refine ⟨c', rfl, ?_⟩
    cases c' with
    | true => exact (c.ok Z Γ2 _ e h3).mono fun w Γ3 h4 => o'.ok Z y w _ e h4
    | false => exact h3))⟩
def neg (a : X K) : X K := ⟨fun W => tUn (rU fun i => .int (-i)) (a.te W), fun Γ Q E => a.wp Γ (fun x Γ1 => match x with | .int i => Q (.int (-i)) Γ1 | _ => False) E,
  fun Z Γ Q e h => den_un ((a.ok Z Γ _ e h).mono fun x Γ1 h1 => by
    cases x with
    | int i => exact und_neg h1
    | _ => exact h1.elim)⟩
def isNon : D → Bool
  | .non => true
  | _ => false
def isN (a : X K) : X K := ⟨fun W => tIsN (a.te W), fun Γ Q E => a.wp Γ (fun x Γ1 => Q (.bl (isNon x)) Γ1) E, fun Z Γ Q e h => den_isN ((a.ok Z Γ _ e h).mono fun x Γ1 h1 => by cases x <;> exact h1)⟩
def notN (a : X K) : X K := ⟨fun W => tNotN (a.te W), fun Γ Q E => a.wp Γ (fun x Γ1 => Q (.bl (!isNon x)) Γ1) E, fun Z Γ Q e h => den_notN ((a.ok Z Γ _ e h).mono fun x Γ1 h1 => by cases x <;> exact h1)⟩
def tst (a : X K) : T K := ⟨fun W => tTest (a.te W), fun Γ Q E => a.wp Γ (fun x Γ1 => isBl x fun b => Q b Γ1) E, fun Z Γ Q e h => dent_test ((a.ok Z Γ _ e h).mono fun x Γ1 h1 => isBl_ex h1)⟩
def tB' (a : X K) : T K := ⟨fun W => tB (a.te W), fun Γ Q E => a.wp Γ (fun x Γ1 => isBl x fun b => Q b Γ1) E, fun Z Γ Q e h => dent_B ((a.ok Z Γ _ e h).mono fun x Γ1 h1 => isBl_ex h1)⟩
def tand (a b : T K) : T K := ⟨fun W => tAnd (a.tt W) (b.tt W), fun Γ Q E => a.wp Γ (fun c Γ1 => if c = true then b.wp Γ1 Q E else Q false Γ1) E, fun Z Γ Q e h => dent_and ((a.ok Z Γ _ e h).mono fun c Γ1 h1 => by
    cases c with
    | true => exact b.ok Z Γ1 _ e h1
    | false => exact h1)⟩
def tor (a b : T K) : T K := ⟨fun W => tOr (a.tt W) (b.tt W), fun Γ Q E => a.wp Γ (fun c Γ1 => if c = true then Q true Γ1 else b.wp Γ1 Q E) E, fun Z Γ Q e h => dent_or ((a.ok Z Γ _ e h).mono fun c Γ1 h1 => by
    cases c with
    | true => exact h1
    | false => exact b.ok Z Γ1 _ e h1)⟩
def tnot (a : T K) : T K := ⟨fun W => tNot (a.tt W), fun Γ Q E => a.wp Γ (fun c Γ1 => Q (!c) Γ1) E, fun Z Γ Q e h => dent_not (a.ok Z Γ _ e h)⟩
def tyes : T K := ⟨fun _ => tYes, fun Γ Q _ => Q true Γ, fun Z Γ Q _ h => dent_yes h⟩
def ife (t : T K) (a b : X K) : X K := ⟨fun W => tIf (t.tt W) (a.te W) (b.te W), fun Γ Q E => t.wp Γ (fun c Γ1 => if c = true then a.wp Γ1 Q E else b.wp Γ1 Q E) E, fun Z Γ Q e h => den_if ((t.ok Z Γ _ e h).mono fun c Γ1 h1 => by
    cases c with
    | true => exact a.ok Z Γ1 _ e h1
    | false => exact b.ok Z Γ1 _ e h1)⟩
def bi (f : Bi K) (r : A K) : X K := ⟨fun W => tCB f.r (r.ta W), fun Γ Q E => r.wp Γ (fun ds Γ1 => f.wp ds fun d => Q d Γ1) E, fun Z Γ Q e h => den_cb ((r.ok Z Γ _ e h).mono fun ds Γ1 h1 => f.ok Z ds _ e h1)⟩
def o0 : O K := ⟨fun _ => tNoPart, fun Γ Q _ => Q none Γ, fun Z Γ Q _ h => deno_none h⟩
def isI (x : D) (Q : Int → Prop) : Prop :=
  match x with
  | .int i => Q i
  | _ => False
theorem isI_ex {x : D} {Q : Int → Prop} (h : isI x Q) : ∃ i, x = .int i ∧ Q i := by
  cases x with
  | int b => exact ⟨b, rfl, h⟩
  | _ => exact h.elim
def o1 (a : X K) : O K := ⟨fun W => tPart (a.te W), fun Γ Q E => a.wp Γ (fun x Γ1 => isI x fun i => Q (some i) Γ1) E, fun Z Γ Q e h => deno_some ((a.ok Z Γ _ e h).mono fun x Γ1 h1 => isI_ex h1)⟩
theorem DenO.mono {Z : Cz} {to : TO} {Γ : List B} {Q Q' : Option Int → List B → Prop} (h : DenO Z to Γ Q) (w : ∀ d Γ', Q d Γ' → Q' d Γ') : DenO Z to Γ Q' := fun σ G H j e k q => h σ G H j e k fun d Γ' G' H' a => q d Γ' G' H' (w _ _ a)
def sl (a : X K) (lo hi : O K) : X K := ⟨fun W => tSl (rSlG K) (a.te W) (lo.to W) (hi.to W), fun Γ Q E => a.wp Γ (fun x Γ1 => lo.wp Γ1 (fun l Γ2 => hi.wp Γ2 (fun h Γ3 => ∃ d, slR l h x = some d ∧ Q d Γ3) E) E) E,
  fun Z Γ Q e h => by
    subst e
    exact den_sl ((a.ok Z Γ _ rfl h).mono fun x Γ1 h1 => DenO.mono (lo.ok Z Γ1 _ rfl h1) fun l Γ2 h2 => hi.ok Z Γ2 _ rfl h2)⟩
def fld (a : X K) (f : Str) : X K := ⟨fun W => tFld K (a.te W) f, fun Γ Q E => a.wp Γ (fun x Γ1 => match x with | .obj C ns vs => Cls K C ∧ NoAttr K C f ∧ ∃ d, (ns.zip vs).lookup f = some d ∧ Q d Γ1 | _ => False) E,
  fun Z Γ Q e h => by
    subst e
    refine den_fld ((a.ok Z Γ _ rfl h).mono fun x Γ1 h1 => ?_)
    cases x with
    | obj C ns vs => obtain ⟨c, n, d, l, q⟩ := h1; exact ⟨C, ns, vs, d, rfl, c, n, l, q⟩
    | _ => exact h1.elim⟩
def nm (i : Nat) : G K := ⟨gName i, fun x Γ Q => Q (put Γ i (.d x)), [i], fun Z x Γ Q _ h => deng_name (by rw [put_set] at h; exact h), fun ws h => goff_name (h i (by simp)), gmono_name⟩
def g0 : Gs K := ⟨gNil, fun xs Γ Q => xs = [] ∧ Q Γ, [], fun Z xs Γ Q _ h => by obtain ⟨rfl, h⟩ := h; exact dengs_nil h, fun ws _ => gsoff_nil, gsmono_nil⟩
def gc (a : G K) (b : Gs K) : Gs K := ⟨gCons a.g b.g, fun xs Γ Q => match xs with | x :: r => a.wp x Γ fun Γ1 => b.wp r Γ1 Q | [] => False, a.vs ++ b.vs,
  fun Z xs Γ Q e h => by
    cases xs with
    | nil => exact h.elim
    | cons x r => exact dengs_cons (fun σ G H v j en rx k kk => a.ok Z x Γ _ e h σ G H v j en rx k fun Γ' σ' q => kk Γ' σ' (b.ok Z r Γ' _ e q)),
  fun ws h => gsoff_cons (a.off ws fun v m => h v (List.mem_append_left _ m)) a.mono (b.off ws fun v m => h v (List.mem_append_right _ m)) b.mono, gsmono_cons a.mono b.mono⟩
def gt (n : Nat) (b : Gs K) : G K := ⟨gTup K n b.g, fun x Γ Q => match x with | .tup xs => xs.length = n ∧ b.wp xs Γ Q | _ => False, b.vs,
  fun Z x Γ Q e h => by
    subst e
    cases x with
    | tup xs => exact deng_tup h.1 (b.ok Z xs Γ Q rfl h.2)
    | _ => exact h.elim,
  fun ws h => goff_tup (b.off ws h), gmono_tup b.mono⟩
def isSq (x : D) (Q : List D → Prop) : Prop :=
  match x with
  | .tup xs => Q xs
  | .lst xs => Q xs
  | _ => False
def iseq (a : X K) : I K := ⟨fun W => iSeq K (a.te W), fun Γ Q E => a.wp Γ (fun x Γ1 => isSq x fun xs => Q xs Γ1) E,
  fun Z Γ Q e h => by
    subst e
    refine deni_seq ((a.ok Z Γ _ rfl h).mono fun x Γ1 h1 => ?_)
    cases x with
    | tup xs => exact ⟨xs, .inr rfl, h1⟩
    | lst xs => exact ⟨xs, .inl rfl, h1⟩
    | _ => exact h1.elim⟩
def rg1W (xs : List D) (Q : List D → Prop) : Prop :=
  match xs with
  | [.int n] => n < 2 ^ 62 ∧ -(2 ^ 62) ≤ n ∧ Q (rgAt 0 n.toNat)
  | _ => False
def irg1 (a : A K) : I K := ⟨fun W => iRng1 (a.ta W), fun Γ Q E => a.wp Γ (fun xs Γ1 => rg1W xs fun ys => Q ys Γ1) E,
  fun Z Γ Q e h => deni_rng1 ((a.ok Z Γ _ e h).mono fun xs Γ1 h1 => by
    unfold rg1W at h1
    split at h1
    · exact ⟨_, rfl, h1⟩
    · exact h1.elim)⟩
def rg2W (xs : List D) (Q : List D → Prop) : Prop :=
  match xs with
  | [.int n, .int m] => (-(2 ^ 62) ≤ n ∧ n < 2 ^ 62 ∧ -(2 ^ 62) ≤ m ∧ m < 2 ^ 62) ∧ Q (rgAt n (m - n).toNat)
  | _ => False
def irg2 (a : A K) : I K := ⟨fun W => iRng2 (a.ta W), fun Γ Q E => a.wp Γ (fun xs Γ1 => rg2W xs fun ys => Q ys Γ1) E,
  fun Z Γ Q e h => deni_rng2 ((a.ok Z Γ _ e h).mono fun xs Γ1 h1 => by
    unfold rg2W at h1
    split at h1
    · exact ⟨_, _, rfl, h1⟩
    · exact h1.elim)⟩
def en1W (xs : List D) (Q : List D → Prop) : Prop :=
  match xs with
  | [x] => isSq x fun ys => Q (enumD ys)
  | _ => False
def ienum (a : A K) : I K := ⟨fun W => iEnumA K (a.ta W), fun Γ Q E => a.wp Γ (fun xs Γ1 => en1W xs fun ys => Q ys Γ1) E,
  fun Z Γ Q e h => by
    subst e
    refine deni_enumT ((a.ok Z Γ _ rfl h).mono fun xs Γ1 h1 => ?_)
    unfold en1W at h1
    split at h1
    · rename_i x
      cases x with
      | tup ys => exact ⟨ys, .inl rfl, h1⟩
      | lst ys => exact ⟨ys, .inr rfl, h1⟩
      | _ => exact h1.elim
    · exact h1.elim⟩
def zipW (xs : List D) (Q : List D → Prop) : Prop :=
  match xs with
  | [.tup us, .tup ys] => Q (zipD us ys)
  | [.lst us, .lst ys] => Q (zipD us ys)
  | _ => False
def izip (a : A K) : I K := ⟨fun W => RZ.iZipA K (a.ta W), fun Γ Q E => a.wp Γ (fun xs Γ1 => zipW xs fun ys => Q ys Γ1) E,
  fun Z Γ Q e h => by
    subst e
    refine deni_zip ((a.ok Z Γ _ rfl h).mono fun xs Γ1 h1 => ?_)
    unfold zipW at h1
    split at h1
    · exact ⟨_, _, .inl rfl, h1⟩
    · exact ⟨_, _, .inr rfl, h1⟩
    · exact h1.elim⟩
end
end Cc
namespace Cc
open PySem L2 Ab
mutual
def noL : D → Bool
  | .lst _ => false
  | .scr _ => false
  | .tup xs => noLs xs
  | .obj _ _ vs => noLs vs
  | .dct _ x => noL x
  | .xtup xs => noLs xs
  | _ => true
def noLs : List D → Bool
  | [] => true
  | x :: xs => noL x && noLs xs
end
def frzB : B → B
  | .own xs => .d (.lst xs)
  | b => b
def frz (Γ : List B) : List B := Γ.map frzB
def noOb : List B → Bool
  | [] => true
  | .ob _ _ _ _ :: _ => false
  | _ :: r => noOb r
theorem noOb_all : ∀ {Γ : List B}, noOb Γ = true → ∀ (i : Nat) (p C : Addr) (ns : List Str) (vs : List D), Γ[i]? ≠ some (.ob p C ns vs)
  | [], _, i, _, _, _, _ => by simp
  | b :: r, h, 0, p, C, ns, vs => by
    intro e
    simp at e
    subst e
    simp [noOb] at h
  | b :: r, h, i + 1, p, C, ns, vs => by
    have h' : noOb r = true := by cases b <;> simp [noOb] at h <;> exact h
    simpa using noOb_all h' i p C ns vs
theorem noLs_all : ∀ {xs : List D}, noLs xs = true ↔ ∀ x ∈ xs, noL x = true
  | [] => by simp [noLs]
  | x :: xs => by simp [noLs, noLs_all (xs := xs)]
open Classical in
/-- an own list's address -/
def Own (Γ : List B) (σ : L2.St) (a : Addr) : Prop := ∃ (i : Nat) (xs : List D), Γ[i]? = some (.own xs) ∧ σ[i]? = some (some (.ref a))
open Classical in
noncomputable def G1 (Γ : List B) (σ : L2.St) (G H : Hp) : Hp := fun a => if Own Γ σ a then H a else G a
open Classical in
noncomputable def G2 (Γ : List B) (σ : L2.St) (G' : Hp) : Hp := fun a => if Own Γ σ a then none else G' a
section
variable {Z : Cz} {Γ : List B} {σ : L2.St} {G H G' H' : Hp}
theorem own_lst (e : En Z G H σ Γ) {a : Addr} (o : Own Γ σ a) : ∃ vs xs, H a = some (.lst vs) ∧ Rps Z.K Z.pl G vs xs ∧ G a = none ∧ Z.H0 a = none := by
  obtain ⟨i, xs, h1, h2⟩ := o
  obtain ⟨v, a1, l, vs, a2, a3, a4, a5, a6⟩ := e.at_ i _ h1
  rw [h2] at a1; cases a1; cases a2
  exact ⟨vs, xs, a3, a4, a5, a6⟩
theorem exG1 (e : En Z G H σ Γ) : Ex G (G1 Γ σ G H) := fun a o h => by
  unfold G1
  split
  · rename_i q
    obtain ⟨_, _, _, _, z, _⟩ := own_lst e q
    rw [z] at h; cases h
  · exact h
theorem jG1 (j : J Z G H) (e : En Z G H σ Γ) : J Z (G1 Γ σ G H) H := ⟨⟨fun a o h => by
    unfold G1 at h
    split at h
    · exact h
    · exact j.sub a o h, j.g0.trans (exG1 e), fun a o h n => by
    unfold G1
    split
    · rename_i q
      obtain ⟨_, _, _, _, _, z⟩ := own_lst e q
      rw [z] at h; cases h
    · exact j.out a o h n, j.fr, fun p c h => by
    obtain ⟨z0, z1, z2, ⟨o1, z3⟩, ⟨o2, z4⟩, z⟩ := j.pool p c h
    refine ⟨z0, ?_, ?_, ⟨o1, z3⟩, ⟨o2, z4⟩, z⟩
    · unfold G1
      split
      · rename_i q
        obtain ⟨_, _, _, _, _, y⟩ := own_lst e q
        rw [y] at z3; cases z3
      · exact z1
    · unfold G1
      split
      · rename_i q
        obtain ⟨_, _, _, _, _, y⟩ := own_lst e q
        rw [y] at z4; cases z4
      · exact z2⟩, j.acc.mono (exG1 e)⟩
theorem frz_get (i : Nat) : (frz Γ)[i]? = (Γ[i]?).map frzB := by unfold frz; rw [List.getElem?_map]
theorem frz_noown (n : noOb Γ = true) (i : Nat) : ¬ IsOwn (frz Γ)[i]? := fun o => by
  rw [frz_get] at o
  cases e : Γ[i]? with
  | none => rw [e] at o; exact o
  | some b =>
    rw [e] at o
    cases b with
    | ob p C ns vs => exact noOb_all n i p C ns vs e
    | un => exact o
    | d x => exact o
    | own xs => exact o
    | exc a c d er => exact o
theorem enG1 (e : En Z G H σ Γ) (n : noOb Γ = true) : En Z (G1 Γ σ G H) H σ (frz Γ) := by
  refine ⟨by unfold frz; rw [List.length_map]; exact e.len, fun i b h => ?_, fun i m l o => absurd o (frz_noown n i)⟩
  rw [frz_get] at h
  cases q : Γ[i]? with
  | none => rw [q] at h; cases h
  | some b0 =>
    rw [q] at h
    simp only [Option.map_some, Option.some.injEq] at h
    obtain ⟨v, a1, a2⟩ := e.at_ i _ q
    refine ⟨v, a1, ?_⟩
    cases b0 with
    | own xs =>
      subst h
      obtain ⟨l, vs, b1, b2, b3, b4, b5⟩ := a2
      subst b1
      have ow : Own Γ σ l := ⟨i, xs, q, a1⟩
      refine ⟨.ref l, rfl, .lst (xs := vs) ?_ (b3.mono (exG1 e))⟩
      unfold G1; rw [if_pos ow]; exact b2
    | un => subst h; trivial
    | d x => subst h; obtain ⟨u, c1, c2⟩ := a2; exact ⟨u, c1, c2.mono (exG1 e)⟩
    | ob p C ns vs => exact absurd q (noOb_all n i p C ns vs)
    | exc a c d er => subst h; exact ⟨a2.1, a2.2.mono (exG1 e)⟩
theorem exG2 (e : En Z G H σ Γ) (x : Ex (G1 Γ σ G H) G') : Ex G (G2 Γ σ G') := fun a o h => by
  unfold G2
  split
  · rename_i q
    obtain ⟨_, _, _, _, z, _⟩ := own_lst e q
    rw [z] at h; cases h
  · exact x a o (exG1 e a o h)
theorem ownH (j' : J Z G' H') (e : En Z G H σ Γ) (x : Ex (G1 Γ σ G H) G') {a : Addr} (o : Own Γ σ a) : H' a = H a := by
  obtain ⟨vs, xs, h1, _⟩ := own_lst e o
  have : G1 Γ σ G H a = some (.lst vs) := by unfold G1; rw [if_pos o]; exact h1
  rw [j'.sub a _ (x a _ this), h1]
theorem jG2 (j : J Z G H) (j' : J Z G' H') (e : En Z G H σ Γ) (x : Ex (G1 Γ σ G H) G') : J Z (G2 Γ σ G') H' := ⟨⟨fun a o h => by
    unfold G2 at h
    split at h
    · cases h
    · exact j'.sub a o h, j.g0.trans (exG2 e x), fun a o h n => by
    unfold G2
    split
    · rfl
    · exact j'.out a o h n, j'.fr, fun p c h => by
    obtain ⟨z0, z1, z2, z3, z4, z⟩ := j'.pool p c h
    refine ⟨z0, ?_, ?_, z3, z4, z⟩
    · unfold G2; split <;> first | rfl | exact z1
    · unfold G2; split <;> first | rfl | exact z2⟩, j.acc.mono (exG2 e x)⟩
theorem enG2 (j' : J Z G' H') (e : En Z G H σ Γ) (n : noOb Γ = true) (x : Ex (G1 Γ σ G H) G') : En Z (G2 Γ σ G') H' σ Γ := by
  refine ⟨e.len, fun i b h => ?_, e.dis⟩
  obtain ⟨v, a1, a2⟩ := e.at_ i _ h
  refine ⟨v, a1, a2.mono (exG2 e x) fun l o b1 b2 b3 b4 b5 => ?_⟩
  cases b with
  | own xs =>
    have ow : Own Γ σ l := ⟨i, xs, h, by rw [a1, b4]⟩
    refine ⟨by rw [ownH j' e x ow]; exact b1, ?_⟩
    unfold G2; rw [if_pos ow]
  | ob p C ns vs => exact absurd h (noOb_all n i p C ns vs)
  | un => exact b5.elim
  | d y => exact b5.elim
  | exc a c d er => exact b5.elim
theorem keepG2 (e : En Z G H σ Γ) (x : Ex (G1 Γ σ G H) G') {a : Addr} {o : HO} (h : G' a = some o) (n : ∀ vs, o ≠ .lst vs) : G2 Γ σ G' a = some o := by
  unfold G2
  split
  · rename_i q
    obtain ⟨vs, xs, h1, _⟩ := own_lst e q
    have : G1 Γ σ G H a = some (.lst vs) := by unfold G1; rw [if_pos q]; exact h1
    rw [x a _ this] at h; cases h
    exact absurd rfl (n vs)
  · exact h
theorem sqtG2 (e : En Z G H σ Γ) (x : Ex (G1 Γ σ G H) G') {a : Addr} {xs : List V} (h : SqT Z.K G' a xs) : SqT Z.K (G2 Γ σ G') a xs := by
  rcases h with (h | ⟨o, h⟩) | h
  · exact .inl (.inl (keepG2 e x h fun _ z => by cases z))
  · exact .inl (.inr ⟨o, keepG2 e x h fun _ z => by cases z⟩)
  · exact .inr h
mutual
theorem rpG2 (j' : J Z G' H') (e : En Z G H σ Γ) (x : Ex (G1 Γ σ G H) G') : ∀ {v : V} {d : D}, noL d = true → Rp Z.K Z.pl G' v d → Rp Z.K Z.pl (G2 Γ σ G') v d
  | _, _, _, .non => .non
  | _, _, _, .bl b => .bl b
  | _, _, _, .int i => .int i
  | _, _, _, .str x => .str x
  | _, _, p, .tup h r => .tup (sqtG2 e x h) (rpsG2 j' e x (by simpa [noL] using p) r)
  | _, _, p, .lst _ _ => by simp [noL] at p
  | _, _, p, .dic h => .dic (keepG2 e x h fun _ z => by cases z)
  | _, _, p, .dct h r => .dct (keepG2 e x h fun _ z => by cases z) (rpG2 j' e x (by simpa [noL] using p) r)
  | _, _, p, .obj h l r => .obj (keepG2 e x h fun _ z => by cases z) l (rpsG2 j' e x (by simpa [noL] using p) r)
  | _, _, _, .pool h => .pool h
  | _, _, _, .ty n => .ty n
  | _, _, _, .cls C => .cls C
  | _, _, p, .scr _ => by simp [noL] at p
  | _, _, p, .xtup h n r => .xtup (keepG2 e x h fun _ z => by cases z) n (rpsG2 j' e x (by simpa [noL] using p) r)
  | _, _, _, .exo h k => .exo (keepG2 e x h fun _ z => by cases z) fun dd z => (k dd z).imp fun _ q => keepG2 e x q fun _ y => by cases y
theorem rpsG2 (j' : J Z G' H') (e : En Z G H σ Γ) (x : Ex (G1 Γ σ G H) G') : ∀ {vs : List V} {ds : List D}, noLs ds = true → Rps Z.K Z.pl G' vs ds → Rps Z.K Z.pl (G2 Γ σ G') vs ds
  | _, _, _, .nil => .nil
  | _, _, p, .cons h r => by
    simp only [noLs, Bool.and_eq_true] at p
    exact .cons (rpG2 j' e x p.1 h) (rpsG2 j' e x p.2 r)
end
theorem spG2 (j : J Z G H) (j' : J Z G' H') (e : En Z G H σ Γ) (n : noOb Γ = true) (s : Sp1 Z σ (frz Γ) (frz Γ) (G1 Γ σ G H) H G' H') : Sp1 Z σ Γ Γ G H (G2 Γ σ G') H' := by
  refine ⟨exG2 e s.ex, fun _ h => h, fun a o ha np w => ?_, s.tr⟩
  obtain ⟨h1, h2⟩ := s.fr a o ha np fun i q => absurd q (frz_noown n i)
  refine ⟨h1, fun g => ?_⟩
  unfold G2
  split
  · rfl
  · rename_i q
    exact h2 (by unfold G1; rw [if_neg q]; exact g)
theorem den_bor {te : TE} {Q : D → List B → Prop} (n : noOb Γ = true) (h : Den Z te (frz Γ) fun d Γ' => Γ' = frz Γ ∧ noL d = true ∧ Q d Γ) : Den Z te Γ Q := fun σ G H j e k kk =>
  h σ (G1 Γ σ G H) H (jG1 j e) (enG1 e n) k fun d Γ' v G' H' ⟨e1, nl, q⟩ s j' e' r => by
    subst e1
    exact kk d Γ v (G2 Γ σ G') H' q (spG2 j j' e n s) (jG2 j j' e s.ex) (enG2 j' e n s.ex) (rpG2 j' e s.ex nl r)
theorem denl_bor {te : TE} {Q : List D → List B → Prop} (n : noOb Γ = true) (h : DenL Z te (frz Γ) fun d Γ' => Γ' = frz Γ ∧ noLs d = true ∧ Q d Γ) : DenL Z te Γ Q := fun σ G H j e k kk =>
  h σ (G1 Γ σ G H) H (jG1 j e) (enG1 e n) k fun d Γ' l vs G' H' ⟨e1, nl, q⟩ s j' e' hl r f hn => by
    subst e1
    refine kk d Γ l vs (G2 Γ σ G') H' q (spG2 j j' e n s) (jG2 j j' e s.ex) (enG2 j' e n s.ex) hl (rpsG2 j' e s.ex nl r) ⟨?_, f.h0, fun i o => e.noown hn i o⟩ hn
    unfold G2; split
    · rfl
    · exact f.g
end
section
variable {K : PySem.W.Frag}
def bor (x : X K) : X K := ⟨x.te, fun Γ Q E => noOb Γ = true ∧ x.wp (frz Γ) (fun d Γ' => Γ' = frz Γ ∧ noL d = true ∧ Q d Γ) E, fun Z Γ Q e h => den_bor h.1 (x.ok Z _ _ e h.2)⟩
def borL (x : L K) : L K := ⟨x.te, fun Γ Q E => noOb Γ = true ∧ x.wp (frz Γ) (fun d Γ' => Γ' = frz Γ ∧ noLs d = true ∧ Q d Γ) E, fun Z Γ Q e h => denl_bor h.1 (x.ok Z _ _ e h.2)⟩
def isOwn (b : B) (Q : List D → Prop) : Prop :=
  match b with
  | .own xs => Q xs
  | _ => False
theorem isOwn_ex {Γ : List B} {i : Nat} {Q : List D → Prop} (h : isOwn (get Γ i) Q) : ∃ xs, Γ[i]? = some (.own xs) ∧ Q xs := by
  cases e : get Γ i with
  | own xs => rw [e] at h; exact ⟨xs, get_some e (by simp), h⟩
  | _ => rw [e] at h; exact h.elim
def app (i : Nat) (x : X K) : X K := ⟨fun W => tBM K "list" rAppend (tVar i) (tCons (x.te W) tNil),
  fun Γ Q E => isOwn (get Γ i) fun _ => x.wp Γ (fun d Γ1 => isOwn (get Γ1 i) fun xs => xs.length < 100000 ∧ Q .non (put Γ1 i (.own (xs ++ [d])))) E,
  fun Z Γ Q e h => by
    subst e
    obtain ⟨xs, h1, h2⟩ := isOwn_ex h
    refine den_append h1 rfl ((x.ok Z Γ _ rfl h2).mono fun d Γ1 h3 => ?_)
    obtain ⟨xs', g1, g2, g3⟩ := isOwn_ex h3
    exact ⟨xs', g1, g2, by rw [put_set] at g3; exact g3⟩⟩
def ext (i : Nat) (x : X K) : X K := ⟨fun W => tBM K "list" rExtend (tVar i) (tCons (x.te W) tNil),
  fun Γ Q E => isOwn (get Γ i) fun _ => x.wp Γ (fun d Γ1 => isOwn (get Γ1 i) fun xs => match d with | .lst ys => xs.length + ys.length ≤ 100000 ∧ Q .non (put Γ1 i (.own (xs ++ ys))) | _ => False) E,
  fun Z Γ Q e h => by
    subst e
    obtain ⟨xs, h1, h2⟩ := isOwn_ex h
    refine den_extend h1 rfl ((x.ok Z Γ _ rfl h2).mono fun d Γ1 h3 => ?_)
    obtain ⟨xs', g1, g2⟩ := isOwn_ex h3
    cases d with
    | lst ys => exact ⟨xs', ys, g1, rfl, g2.1, by have := g2.2; rw [put_set] at this; exact this⟩
    | _ => exact g2.elim⟩
def popAt (i : Nat) (x : X K) : X K := ⟨fun W => tBM K "list" rPopAt (tVar i) (tCons (x.te W) tNil),
  fun Γ Q E => isOwn (get Γ i) fun _ => x.wp Γ (fun d Γ1 => isOwn (get Γ1 i) fun xs => isI d fun n => ∃ y, 0 ≤ n ∧ xs[n.toNat]? = some y ∧ xs.length ≤ 100000 ∧ Q y (put Γ1 i (.own (xs.eraseIdx n.toNat)))) E,
  fun Z Γ Q e h => by
    subst e
    obtain ⟨xs, h1, h2⟩ := isOwn_ex h
    refine den_popAt h1 rfl ((x.ok Z Γ _ rfl h2).mono fun d Γ1 h3 => ?_)
    obtain ⟨xs', g1, g2⟩ := isOwn_ex h3
    obtain ⟨n, rfl, y, n0, g3, g4, g5⟩ := isI_ex g2
    refine ⟨xs', g1, n.toNat, y, by rw [Int.toNat_of_nonneg n0], g3, g4, by rw [put_set] at g5; exact g5⟩⟩
end
end Cc
namespace Cc
open PySem L2 Ab
theorem den_dct1 {Z : Cz} {Γ : List B} {te : TE} {n : Int} {Q : D → List B → Prop} (h : Den Z te Γ fun x Γ' => Q (.dct n x) Γ') : Den Z (tDisp [(tC (.int n), te)]) Γ Q := fun σ G H j e k kk p hp => by
  have np0 : G p = none := j.sub.back hp
  have h0 := j.old hp
  have npp : NotPl Z p := fun a c e1 => by
    obtain ⟨_, _, _, ⟨o1, z3⟩, ⟨o2, z4⟩, _⟩ := j.pool a c e1
    exact ⟨fun z => (by rw [← z] at z3; rw [h0] at z3; cases z3), fun z => (by rw [← z] at z4; rw [h0] at z4; cases z4)⟩
  have no : ∀ i : Nat, IsOwn Γ[i]? → σ[i]? ≠ some (some (.ref p)) := fun i o => e.noown hp i o
  refine h σ G (upd H p (.dK [])) (j.put h0 np0) (e.newM hp) _ fun x Γ1 v G2 H2 q s j2 e2 r => ?_
  obtain ⟨a1, a2⟩ := s.fr p _ upd_same npp no
  have g2 := a2 np0
  refine ⟨a1, [(.inl n, v)], rfl, by simp, ?_⟩
  have j3 : J Z (upd G2 p (.dK [(.inl n, v)])) (upd H2 p (.dK [(.inl n, v)])) := (j2.put h0 g2).still h0 upd_same g2
  refine kk _ Γ1 _ (upd G2 p (.dK [(.inl n, v)])) (upd H2 p (.dK [(.inl n, v)])) q ⟨s.ex.trans (Ex.new g2), s.own, fun a o ha n w => ?_, fun a o ha => ?_⟩ j3 (e2.mono (Ex.new g2) fun l o b1 b2 b3 ⟨i, o1, o2⟩ => ?_) (.dct upd_same (r.mono (Ex.new g2)))
  · have ne : a ≠ p := ne_of_none ha hp
    obtain ⟨z1, z2⟩ := s.fr a o (by rw [upd_ne ne]; exact ha) n w
    rw [upd_ne ne, upd_ne ne]; exact ⟨z1, z2⟩
  · have ne : a ≠ p := ne_of_none ha hp
    obtain ⟨o', z⟩ := s.tr a o (by rw [upd_ne ne]; exact ha)
    exact ⟨o', by rw [upd_ne ne]; exact z⟩
  · have ne : l ≠ p := fun z => no i (s.own i o1) (by rw [o2, z])
    rw [upd_ne ne, upd_ne ne]; exact ⟨b1, b2⟩
theorem den_w0 {Z : Cz} {Γ : List B} {te : TE} {Q : D → List B → Prop} (h : Den (Z.wx W0 EX0) te Γ Q) : Den Z te Γ Q := fun σ G H j e k kk =>
  h σ G H ⟨j.toJ0.wx, fun _ _ _ _ _ _ _ z => z.elim⟩ e.wx k fun d Γ' v G' H' q s j' e' r => kk d Γ' v G' H' q ⟨s.ex, s.own, s.fr, s.tr⟩ ⟨j'.toJ0.ofwx, j.acc.mono s.ex⟩ e'.ofwx r
theorem dent_w0 {Z : Cz} {Γ : List B} {te : TT} {Q : Bool → List B → Prop} (h : DenT (Z.wx W0 EX0) te Γ Q) : DenT Z te Γ Q := fun σ G H j e k kk =>
  h σ G H ⟨j.toJ0.wx, fun _ _ _ _ _ _ _ z => z.elim⟩ e.wx k fun d Γ' G' H' q s j' e' => kk d Γ' G' H' q ⟨s.ex, s.own, s.fr, s.tr⟩ ⟨j'.toJ0.ofwx, j.acc.mono s.ex⟩ e'.ofwx
theorem deni_w0 {Z : Cz} {Γ : List B} {te : TI} {Q : List D → List B → Prop} (h : DenI (Z.wx W0 EX0) te Γ Q) : DenI Z te Γ Q := fun σ G H j e k kk =>
  h σ G H ⟨j.toJ0.wx, fun _ _ _ _ _ _ _ z => z.elim⟩ e.wx k fun d Γ' Jt G' H' q s j' e' it => kk d Γ' Jt G' H' q ⟨s.ex, s.own, s.fr, s.tr⟩ ⟨j'.toJ0.ofwx, j.acc.mono s.ex⟩ e'.ofwx
    ⟨fun G1 H1 i x j1 hi => it.go G1 H1 i x ⟨j1.toJ0.wx, fun _ _ _ _ _ _ _ z => z.elim⟩ hi, fun G1 H1 x j1 => it.stop G1 H1 x ⟨j1.toJ0.wx, fun _ _ _ _ _ _ _ z => z.elim⟩, fun G1 H1 i x H2 e1 j1 hi y => it.yld G1 H1 i x H2 e1 ⟨j1.toJ0.wx, fun _ _ _ _ _ _ _ z => z.elim⟩ hi y⟩
theorem DenI.mono {Z : Cz} {Γ : List B} {te : TI} {Q Q' : List D → List B → Prop} (h : DenI Z te Γ Q) (w : ∀ d Γ', Q d Γ' → Q' d Γ') : DenI Z te Γ Q' := fun σ G H j e k q => h σ G H j e k fun d Γ' Jt G' H' a => q d Γ' Jt G' H' (w _ _ a)
theorem DenG.mono {Z : Cz} {Γ : List B} {g : TG} {x : D} {Q Q' : List B → Prop} (h : DenG Z g x Γ Q) (w : ∀ Γ', Q Γ' → Q' Γ') : DenG Z g x Γ Q' := fun σ G H v j e r k q => h σ G H v j e r k fun Γ' σ' a => q Γ' σ' (w _ a)
def noOwnAt (Γ : List B) : List Nat → Prop
  | [] => True
  | i :: r => ¬ IsOwn (some (get Γ i)) ∧ noOwnAt Γ r
theorem noOwnAt_all {Γ : List B} : ∀ {vs : List Nat}, noOwnAt Γ vs → ∀ i ∈ vs, ¬ IsOwn Γ[i]?
  | [], _, i, m => by cases m
  | v :: vs, h, i, m => by
    rcases List.mem_cons.mp m with rfl | m
    · intro o
      refine h.1 ?_
      cases e : Γ[i]? with
      | none => rw [e] at o; exact o.elim
      | some b =>
        rw [e] at o
        have : get Γ i = b := by
          clear o h
          induction Γ generalizing i with
          | nil => simp at e
          | cons c r ih =>
            cases i with
            | zero => simp at e; simp [get, e]
            | succ i => simp only [get]; exact ih i (by simp) (by simpa using e)
        rw [this]; exact o
    · exact noOwnAt_all h.2 i m
def wipeP (Γ : List B) : List Nat → List B
  | [] => Γ
  | v :: vs => put (wipeP Γ vs) v .un
theorem wipeP_eq (Γ : List B) : ∀ vs, wipeP Γ vs = wipeB Γ vs
  | [] => rfl
  | v :: vs => by simp only [wipeP, wipeB, put_set, wipeP_eq Γ vs]
/-- one turn: some y is kept, none is left out -/
abbrev El := D → (Option D → Prop) → Prop
def lcS (el : El) : List D → List D → (List D → Prop) → Prop
  | [], acc, Q => Q acc
  | d :: ds, acc, Q => el d fun o => match o with
    | some y => lcS el ds (acc ++ [y]) Q
    | none => lcS el ds acc Q
section
variable {K : PySem.W.Frag}
/-- what a comprehension makes of one item -/
def elW (g : G K) (t : T K) (x : X K) (vs : List Nat) (Γ1 : List B) : El := fun d k => g.wp d (wipeP Γ1 vs) fun Γ2 => wipeP Γ2 vs = wipeP Γ1 vs ∧ noOwnAt Γ2 vs ∧
  t.wp Γ2 (fun b Γ3 => Γ3 = Γ2 ∧ if b = true then x.wp Γ2 (fun y Γ4 => Γ4 = Γ2 ∧ k (some y)) EX0 else k none) EX0
theorem drop_get {ds : List D} {i : Nat} {d : D} (hd : ds[i]? = some d) : ds.drop i = d :: ds.drop (i + 1) := by
  obtain ⟨hi, hg⟩ := List.getElem?_eq_some_iff.mp hd
  rw [← hg]; exact (List.getElem_cons_drop hi).symm
def lc (it : I K) (g : G K) (t : T K) (x : X K) (vs : List Nat) (hv : ∀ v ∈ g.vs, v ∈ vs) : L K := ⟨fun W => tLc (it.wi W) g.g (t.tt W0) (x.te W0) vs,
  fun Γ Q E => it.wp Γ (fun ds Γ1 => noOwnAt Γ1 vs ∧ ds.length < 100000 ∧ lcS (elW g t x vs Γ1) ds [] fun acc => Q acc Γ1) E, by
  intro Z Γ Q e h
  refine denl_lc (g.off vs hv) g.mono (DenI.mono (it.ok Z Γ _ e h) ?_)
  rintro ds Γ1 ⟨n, l, w⟩
  refine ⟨noOwnAt_all n, l, fun i acc => lcS (elW g t x vs Γ1) (ds.drop i) acc fun acc => Q acc Γ1, w, ?_, ?_⟩
  · intro i d acc hd _ iv
    (try dsimp only at iv)
    rw [drop_get hd] at iv
    simp only [lcS, elW, wipeP_eq] at iv
    refine DenG.mono (g.ok Z d _ _ e iv) fun Γ2 ⟨a1, a2, a3⟩ => ⟨a1, noOwnAt_all a2, dent_w0 ((t.ok (Z.wx W0 EX0) Γ2 _ e a3).mono fun b Γ3 ⟨b1, b2⟩ => ⟨b1, ?_⟩)⟩
    cases b with
    | true => exact den_w0 ((x.ok (Z.wx W0 EX0) Γ2 _ e b2).mono fun y Γ4 ⟨c1, c2⟩ => ⟨c1, c2⟩)
    | false => exact b2
  · intro acc hl iv
    (try dsimp only at iv)
    rw [List.drop_length] at iv; exact iv⟩
theorem lcS_map {el : El} {f : D → D} : ∀ {ds acc : List D} {Q : List D → Prop}, (∀ d ∈ ds, ∀ k : Option D → Prop, k (some (f d)) → el d k) → Q (acc ++ ds.map f) → lcS el ds acc Q
  | [], acc, Q, _, q => by simpa [lcS] using q
  | d :: ds, acc, Q, h, q => h d (by simp) _ (lcS_map (fun d' m => h d' (by simp [m])) (by simpa using q))
theorem lcS_fm {el : El} {f : D → Option D} : ∀ {ds acc : List D} {Q : List D → Prop}, (∀ d ∈ ds, ∀ k : Option D → Prop, k (f d) → el d k) → Q (acc ++ ds.filterMap f) → lcS el ds acc Q
  | [], acc, Q, _, q => by simpa [lcS] using q
  | d :: ds, acc, Q, h, q => h d List.mem_cons_self _ (by
    have r := fun acc' => lcS_fm (el := el) (f := f) (ds := ds) (acc := acc') (Q := Q) fun d' m => h d' (List.mem_cons_of_mem _ m)
    cases e : f d with
    | none =>
      simp only
      refine r acc ?_
      simpa [List.filterMap_cons, e] using q
    | some y =>
      simp only
      refine r (acc ++ [y]) ?_
      simpa [List.filterMap_cons, e] using q)
/-- each item makes some item that fulfils R -/
theorem lcS_rel {el : El} {R : D → D → Prop} : ∀ {ds acc : List D} {Q : List D → Prop}, (∀ d ∈ ds, ∀ k : Option D → Prop, (∀ y, R d y → k (some y)) → el d k) → (∀ ys, Each R ds ys → Q (acc ++ ys)) → lcS el ds acc Q
  | [], acc, Q, _, q => by simpa [lcS] using q [] .nil
  | d :: ds, acc, Q, h, q => h d List.mem_cons_self _ fun y ry => lcS_rel (R := R) (fun d' m => h d' (List.mem_cons_of_mem _ m)) fun ys ey => by
    rw [List.append_assoc]; exact q (y :: ys) (.cons ry ey)
/-- each item makes one or none, of a sort -/
theorem lcS_all {el : El} {R : D → Prop} : ∀ {ds acc : List D} {Q : List D → Prop}, (∀ d ∈ ds, ∀ k : Option D → Prop, (∀ o : Option D, (∀ y, o = some y → R y) → k o) → el d k) → (∀ ys, (∀ y ∈ ys, R y) → ys.length ≤ ds.length → Q (acc ++ ys)) → lcS el ds acc Q
  | [], acc, Q, _, q => by simpa [lcS] using q [] (by simp) (Nat.le_refl _)
  | d :: ds, acc, Q, h, q => by
    refine h d List.mem_cons_self _ fun o ro => ?_
    cases o with
    | none =>
      simp only
      exact lcS_all (R := R) (fun d' m => h d' (List.mem_cons_of_mem _ m)) fun ys ey hl => q ys ey (Nat.le_succ_of_le hl)
    | some y =>
      simp only
      refine lcS_all (R := R) (fun d' m => h d' (List.mem_cons_of_mem _ m)) fun ys ey hl => ?_
      rw [List.append_assoc]
      exact q (y :: ys) (fun z m => by
        rcases List.mem_cons.mp m with rfl | m
        · exact ro _ rfl
        · exact ey z m) (Nat.succ_le_succ hl)
def dct1 (n : Int) (x : X K) : X K := ⟨fun W => tDisp [(tC (.int n), x.te W)], fun Γ Q E => x.wp Γ (fun d Γ1 => Q (.dct n d) Γ1) E, fun Z Γ Q e h => den_dct1 (x.ok Z Γ _ e h)⟩
end
def spW (K : PySem.W.Frag) (n : Nat) (wp : WP) : Sp := fun vs H Q E => ∃ pl G ds QD ED, J (Cz.call K pl H G) G H ∧ Rps K pl G vs ds ∧ ds.length = n ∧ wp ds QD ED ∧
  (∀ d v G' H', QD d → J (Cz.call K pl H G) G' H' → Rp K pl G' v d → Q v H') ∧
  (∀ er cls d G' H', ED er → J (Cz.call K pl H G) G' H' → RpEr0 K pl G' cls d er → E cls d H')
section
variable {K : PySem.W.Frag}
theorem den_callW {Z : Cz} {Γ : List B} {tr : TA} {n : Nat} {wp : WP} {Q : D → List B → Prop} (h : DenA Z tr Γ fun ds Γ1 => ds.length = n ∧ wp ds (fun d => Q d Γ1) fun er => Z.X er Γ1) : Den Z (tCallS (spW Z.K n wp) (WE Z.W) tr) Γ Q := fun σ G H j e k kk =>
  h σ G H j e _ fun ds Γ1 vs G1 H1 ⟨hn, q⟩ s1 j1 e1 r1 => by
    refine ⟨Z.pl, G1, ds, _, _, j1.enter, r1, hn, q, fun d v G' H' a i r => ?_, fun er cls d G' H' a i re => ?_⟩
    · exact kk d Γ1 v G' H' a (s1.trans (.of i)) (j1.leave i) (e1.called j1.toJ0 i.toJ0) r
    · exact j1.acc er cls d σ G' H' Γ1 a i.g0 (j1.leave i).toJ0 (e1.called j1.toJ0 i.toJ0) re
theorem den_callW0 {Z : Cz} {Γ : List B} {wp : WP} {Q : D → List B → Prop} (h : wp [] (fun d => Q d Γ) fun _ => False) : Den Z (tCall (spW Z.K 0 wp) [] E0 tNil) Γ Q := fun σ G H j e k kk =>
  ⟨Z.pl, G, [], _, _, j.enter, .nil, rfl, h, fun d v G' H' a i r => kk d Γ v G' H' a (.of i) (j.leave i) (e.called j.toJ0 i.toJ0) r, fun _ _ _ _ _ a => a.elim⟩
def call (n : Nat) (wp : WP) (r : A K) : X K := ⟨fun W => tCallS (spW K n wp) (WE W) (r.ta W), fun Γ Q E => r.wp Γ (fun ds Γ1 => ds.length = n ∧ wp ds (fun d => Q d Γ1) fun er => E er Γ1) E,
  fun Z Γ Q e h => by subst e; exact den_callW (r.ok Z Γ _ rfl h)⟩
def call0 (wp : WP) : X K := ⟨fun _ => tCall (spW K 0 wp) [] E0 tNil, fun Γ Q E => wp [] (fun d => Q d Γ) fun _ => False, fun Z Γ Q e h => by subst e; exact den_callW0 h⟩
end
section
variable {K : PySem.W.Frag}
def nil : S K := ⟨fun _ => tNext, fun Γ P _ => P.N Γ, fun Z Γ P _ h => dens_nil h⟩
def seq (a b : S K) : S K := ⟨fun W => tSeq (a.ts W) (b.ts W), fun Γ P E => a.wp Γ ⟨fun Γ1 => b.wp Γ1 P E, P.R, P.Bk, P.Ct⟩ E,
  fun Z Γ P e h => dens_seq ((a.ok Z Γ _ e h).mono (fun Γ1 h1 => b.ok Z Γ1 P e h1) (fun _ x => x) (fun _ x => x) fun _ x => x)⟩
def brk : S K := ⟨fun _ => tBreak, fun Γ P _ => P.Bk Γ, fun Z Γ P _ h => dens_break h⟩
def cnt : S K := ⟨fun _ => tCont, fun Γ P _ => P.Ct Γ, fun Z Γ P _ h => dens_cont h⟩
def drop (x : X K) : S K := ⟨fun W => tDrop (x.te W), fun Γ P E => x.wp Γ (fun _ Γ1 => P.N Γ1) E, fun Z Γ P e h => dens_drop (x.ok Z Γ _ e h)⟩
def ret (x : X K) : S K := ⟨fun W => tRet (x.te W), fun Γ P E => x.wp Γ (fun d _ => P.R d) E, fun Z Γ P e h => dens_ret (x.ok Z Γ _ e h)⟩
def retN : S K := ⟨fun _ => tRetN, fun Γ P _ => P.R .non, fun Z Γ P _ h => dens_retN h⟩
def ifs (t : T K) (a b : S K) : S K := ⟨fun W => tIfS (t.tt W) (a.ts W) (b.ts W), fun Γ P E => t.wp Γ (fun c Γ1 => if c = true then a.wp Γ1 P E else b.wp Γ1 P E) E,
  fun Z Γ P e h => dens_if ((t.ok Z Γ _ e h).mono fun c Γ1 h1 => by
    cases c with
    | true => exact a.ok Z Γ1 P e h1
    | false => exact b.ok Z Γ1 P e h1)⟩
def asg (x : X K) (g : G K) : S K := ⟨fun W => tAsg (x.te W) g.g, fun Γ P E => x.wp Γ (fun d Γ1 => g.wp d Γ1 P.N) E, fun Z Γ P e h => dens_asg ((x.ok Z Γ _ e h).mono fun d Γ1 h1 => g.ok Z d Γ1 _ e h1)⟩
def own (i : Nat) (x : L K) : S K := ⟨fun W => tAsg (x.te W) (gName i), fun Γ P E => x.wp Γ (fun xs Γ1 => P.N (put Γ1 i (.own xs))) E,
  fun Z Γ P e h => dens_own ((x.ok Z Γ _ e h).mono fun xs Γ1 h1 => by rw [put_set] at h1; exact h1)⟩
def two (ds : List D) (Q : D → D → Prop) : Prop :=
  match ds with
  | [x, y] => Q x y
  | _ => False
theorem two_ex {ds : List D} {Q : D → D → Prop} (h : two ds Q) : ∃ x y, ds = [x, y] ∧ Q x y := by
  unfold two at h
  split at h
  · exact ⟨_, _, rfl, h⟩
  · exact h.elim
def par (i m : Nat) (r : A K) : S K := ⟨fun W => tPar i m (r.ta W), fun Γ P E => r.wp Γ (fun ds Γ1 => two ds fun x y => P.N (put (put Γ1 i (.d x)) m (.d y))) E,
  fun Z Γ P e h => dens_par ((r.ok Z Γ _ e h).mono fun ds Γ1 h1 => by
    obtain ⟨x, y, rfl, q⟩ := two_ex h1
    exact ⟨x, y, rfl, by rw [put_set, put_set] at q; exact q⟩)⟩
def forW (g : D → List B → (List B → Prop) → Prop) (s : List B → Po → Prop) (P : Po) : List D → List B → Prop
  | [], Γ => P.N Γ
  | d :: ds, Γ => g d Γ fun Γ1 => s Γ1 ⟨forW g s P ds, P.R, P.N, forW g s P ds⟩
def fors (it : I K) (g : G K) (s : S K) : S K := ⟨fun W => tFor (it.wi W) g.g (s.ts W), fun Γ P E => it.wp Γ (fun ds Γ1 => forW g.wp (fun Γ P => s.wp Γ P E) P ds Γ1) E, by
  intro Z Γ P e h
  refine dens_for (DenI.mono (it.ok Z Γ _ e h) fun ds Γ1 h1 => ⟨fun i Γ2 => forW g.wp (fun Γ P => s.wp Γ P Z.X) P (ds.drop i) Γ2, h1, ?_, ?_⟩)
  · intro i d Γ2 hd iv
    (try dsimp only at iv)
    rw [drop_get hd] at iv
    exact DenG.mono (g.ok Z d Γ2 _ e iv) fun Γ3 h3 => s.ok Z Γ3 _ e h3
  · intro Γ2 iv
    (try dsimp only at iv)
    rw [List.drop_length] at iv; exact iv⟩
/-- an invariant of what is done and what is left -/
theorem forW_inv {g : D → List B → (List B → Prop) → Prop} {s : List B → Po → Prop} {P : Po} (Iv : List D → List D → List B → Prop)
    (hs : ∀ pre d post Γ, Iv pre (d :: post) Γ → ∀ N : List B → Prop, (∀ x, Iv (pre ++ [d]) post x → N x) → g d Γ fun Γ1 => s Γ1 ⟨N, P.R, P.N, N⟩) (he : ∀ pre Γ, Iv pre [] Γ → P.N Γ) :
    ∀ {post pre : List D} {Γ : List B}, Iv pre post Γ → forW g s P post Γ
  | [], pre, Γ, h => he pre Γ h
  | d :: post, pre, Γ, h => hs pre d post Γ h _ fun x hx => forW_inv Iv hs he hx
def whW (t : List B → (Bool → List B → Prop) → Prop) (s : List B → Po → Prop) (P : Po) : Nat → List B → Prop
  | 0, _ => False
  | n + 1, Γ => t Γ fun b Γ1 => if b = true then s Γ1 ⟨whW t s P n, P.R, P.N, whW t s P n⟩ else P.N Γ1
def whs (t : T K) (s : S K) : S K := ⟨fun W => tWhile (t.tt W) (s.ts W), fun Γ P E => ∃ n, whW (fun Γ Q => t.wp Γ Q E) (fun Γ P => s.wp Γ P E) P n Γ,
  fun Z Γ P e h => dens_while (fun m Γ1 => whW (fun Γ Q => t.wp Γ Q Z.X) (fun Γ P => s.wp Γ P Z.X) P m Γ1) h (by
    intro m Γ1 iv
    cases m with
    | zero => exact iv.elim
    | succ n =>
      refine (t.ok Z Γ1 _ e iv).mono fun b Γ2 h2 => ?_
      cases b with
      | true => exact (s.ok Z Γ2 _ e h2).mono (fun Γ3 h3 => ⟨n, Nat.lt_succ_self n, h3⟩) (fun _ x => x) (fun _ x => x) fun Γ3 h3 => ⟨n, Nat.lt_succ_self n, h3⟩
      | false => exact h2)⟩
/-- a measure that falls -/
theorem whW_inv {t : List B → (Bool → List B → Prop) → Prop} {s : List B → Po → Prop} {P : Po} (Iv : Nat → List B → Prop)
    (hs : ∀ m Γ, Iv m Γ → ∀ N : List B → Prop, (∀ x m', m' < m → Iv m' x → N x) → t Γ fun b Γ1 => if b = true then s Γ1 ⟨N, P.R, P.N, N⟩ else P.N Γ1) : ∀ (n m : Nat) (Γ : List B), m < n → Iv m Γ → whW t s P n Γ
  | 0, m, Γ, h, _ => absurd h (Nat.not_lt_zero _)
  | n + 1, m, Γ, h, iv => hs m Γ iv _ fun x m' h' iv' => whW_inv Iv hs n m' x (by omega) iv'
def aug (i : Nat) (x : X K) : S K := ⟨fun W => tAug i (x.te W) (ipI fun i j => i + j), fun Γ P E => match get Γ i with | .d (.int a) => x.wp Γ (fun y Γ1 => isI y fun b => P.N (put Γ1 i (.d (.int (a + b))))) E | _ => False,
  fun Z Γ P e h => by
    split at h
    · rename_i a ea
      exact dens_aug (f := fun i j => i + j) (get_some ea (by simp)) ((x.ok Z Γ _ e h).mono fun y Γ1 h1 => by
        obtain ⟨b, rfl, q⟩ := isI_ex h1
        exact ⟨b, rfl, by rw [put_set] at q; exact q⟩)
    · exact h.elim⟩
/-- m[y] = x -/
def setO (m : Nat) (x y : X K) : S K := ⟨fun W => tAsg (x.te W) (gSub (tVar m) (y.te W) rSetL),
  fun Γ P E => isOwn (get Γ m) fun _ => x.wp Γ (fun d Γ1 => isOwn (get Γ1 m) fun _ => y.wp Γ1 (fun i Γ2 => isOwn (get Γ2 m) fun xs => isI i fun i => ∃ n, ixN xs.length i = some n ∧ P.N (put Γ2 m (.own (xs.set n d)))) E) E,
  fun Z Γ P e h => by
    obtain ⟨xs, h1, h2⟩ := isOwn_ex h
    refine dens_setO h1 ((x.ok Z Γ _ e h2).mono fun d Γ1 h3 => ?_)
    obtain ⟨xs1, g1, g2⟩ := isOwn_ex h3
    refine ⟨⟨xs1, g1⟩, (y.ok Z Γ1 _ e g2).mono fun i Γ2 h4 => ?_⟩
    obtain ⟨xs2, k1, k2⟩ := isOwn_ex h4
    obtain ⟨i, rfl, n, k3, k4⟩ := isI_ex k2
    exact ⟨xs2, k1, i, n, rfl, k3, by rw [put_set] at k4; exact k4⟩⟩
def rai (C : Addr) (f : Str) (x : X K) : S K := ⟨fun W _ σ H => tMkO C (spXI C f) [] (tCons (x.te W) tNil) σ H fun cls d H' => W cls d σ H',
  fun Γ P E => x.wp Γ (fun d Γ1 => E ⟨C, [f], [d]⟩ Γ1) E, fun Z Γ P e h => dens_raise (x.ok Z Γ _ e h)⟩
def rai0 (C : Addr) : S K := ⟨fun W => tRaise0 C W, fun Γ P E => E ⟨C, [], []⟩ Γ, fun Z Γ P e h => dens_raise0 h⟩
def tryAs (c : Value) (i : Nat) (b : S K) (s : Addr → Value → Option Addr → S K) : S K := ⟨fun W => tTry K c i (fun W' => b.ts W') (fun a cl d => (s a cl d).ts W) W,
  fun Γ P E => b.wp Γ P fun er Γ' => ∃ k, PySem.W.exmOne K (.ref er.cls) c = some k ∧ if k = true then ∀ a d, (s a (.ref er.cls) d).wp (put Γ' i (.exc a (.ref er.cls) d er)) ⟨fun Γ2 => P.N (put Γ2 i .un), P.R, fun Γ2 => P.Bk (put Γ2 i .un), fun Γ2 => P.Ct (put Γ2 i .un)⟩ E else E er Γ',
  fun Z Γ P e h => by
    subst e
    refine dens_tryT (Y := fun er Γ' => ∃ k, PySem.W.exmOne Z.K (.ref er.cls) c = some k ∧ if k = true then ∀ a d, (s a (.ref er.cls) d).wp (put Γ' i (.exc a (.ref er.cls) d er)) ⟨fun Γ2 => P.N (put Γ2 i .un), P.R, fun Γ2 => P.Bk (put Γ2 i .un), fun Γ2 => P.Ct (put Γ2 i .un)⟩ Z.X else Z.X er Γ') (fun W => b.ok (Z.wx W _) Γ P rfl h) fun er Γ' ⟨k, k1, k2⟩ => ⟨k, k1, fun hk a d => ?_, fun hk => ?_⟩
    · rw [if_pos hk] at k2
      have z := k2 a d
      simp only [put_set] at z
      exact (s a (.ref er.cls) d).ok Z _ _ rfl z
    · rw [hk] at k2; simpa using k2⟩
end
end Cc
namespace Cc
open PySem L2 Ab
def addW (x y : D) (Q : D → Prop) : Prop :=
  match x, y with
  | .int i, .int j => Q (.int (i + j))
  | .tup xs, .tup ys => xs.length + ys.length ≤ 100000 ∧ Q (.tup (xs ++ ys))
  | .lst xs, .lst ys => xs.length + ys.length ≤ 100000 ∧ Q (.lst (xs ++ ys))
  | _, _ => False
def add {K : PySem.W.Frag} : O2 K := ⟨rPlus K, addW, fun Z x y Q e h => by
  subst e
  unfold addW at h
  split at h
  · exact plus_int h
  · exact plus_tup h.1 h.2
  · exact plusD_lst h.1 h.2
  · exact h.elim⟩
def mulW (x y : D) (Q : D → Prop) : Prop :=
  match x, y with
  | .int i, .int j => (CMul i j ∨ CMulW i j) ∧ Q (.int (i * j))
  | .tup xs, .int n => (xs ≠ [] ∧ 2 ≤ n ∧ n ≤ 1000 ∧ xs.length ≤ 1000) ∧ Q (.tup (List.replicate n.toNat xs).flatten)
  | .lst xs, .int n => (-(2 ^ 63) ≤ n ∧ n < 2 ^ 63 ∧ xs.length * n.toNat ≤ 100000) ∧ Q (.lst (List.replicate n.toNat xs).flatten)
  | _, _ => False
def mul {K : PySem.W.Frag} : O2 K := ⟨rTimes K, mulW, fun Z x y Q e h => by
  subst e
  unfold mulW at h
  split at h
  · rcases h.1 with c | c
    · exact times_int c h.2
    · exact times_wide c h.2
  · exact times_tup h.1.1 h.1.2.1 h.1.2.2.1 h.1.2.2.2 h.2
  · exact timesD_lst h.1.1 h.1.2.1 h.1.2.2 h.2
  · exact h.elim⟩
def iiW (f : Int → Int → D) (x y : D) (Q : D → Prop) : Prop :=
  match x, y with
  | .int i, .int j => Q (f i j)
  | _, _ => False
def ciW (C : Int → Int → Prop) (f : Int → Int → D) (x y : D) (Q : D → Prop) : Prop :=
  match x, y with
  | .int i, .int j => C i j ∧ Q (f i j)
  | _, _ => False
theorem iiW_ex {f : Int → Int → D} {x y : D} {Q : D → Prop} (h : iiW f x y Q) : ∃ i j, x = .int i ∧ y = .int j ∧ Q (f i j) := by
  unfold iiW at h
  split at h
  · exact ⟨_, _, rfl, rfl, h⟩
  · exact h.elim
theorem ciW_ex {C : Int → Int → Prop} {f : Int → Int → D} {x y : D} {Q : D → Prop} (h : ciW C f x y Q) : ∃ i j, x = .int i ∧ y = .int j ∧ C i j ∧ Q (f i j) := by
  unfold ciW at h
  split at h
  · exact ⟨_, _, rfl, rfl, h⟩
  · exact h.elim
section
variable {K : PySem.W.Frag}
def sub : O2 K := ⟨rI0 fun i j => .int (i - j), iiW fun i j => .int (i - j), fun Z x y Q e h => by obtain ⟨i, j, rfl, rfl, q⟩ := iiW_ex h; exact opd_i0 (f := fun i j => i - j) q⟩
def lt : O2 K := ⟨rI0 fun i j => .bl (decide (i < j)), iiW fun i j => .bl (decide (i < j)), fun Z x y Q e h => by obtain ⟨i, j, rfl, rfl, q⟩ := iiW_ex h; exact opd_b0 (f := fun i j => decide (i < j)) q⟩
def le : O2 K := ⟨rI0 fun i j => .bl (decide (i ≤ j)), iiW fun i j => .bl (decide (i ≤ j)), fun Z x y Q e h => by obtain ⟨i, j, rfl, rfl, q⟩ := iiW_ex h; exact opd_b0 (f := fun i j => decide (i ≤ j)) q⟩
def gt' : O2 K := ⟨rI0 fun i j => .bl (decide (j < i)), iiW fun i j => .bl (decide (j < i)), fun Z x y Q e h => by obtain ⟨i, j, rfl, rfl, q⟩ := iiW_ex h; exact opd_b0 (f := fun i j => decide (j < i)) q⟩
def ge : O2 K := ⟨rI0 fun i j => .bl (decide (j ≤ i)), iiW fun i j => .bl (decide (j ≤ i)), fun Z x y Q e h => by obtain ⟨i, j, rfl, rfl, q⟩ := iiW_ex h; exact opd_b0 (f := fun i j => decide (j ≤ i)) q⟩
def fdiv : O2 K := ⟨rI CDivW fun i j => .int (i / j), ciW CDivW fun i j => .int (i / j), fun Z x y Q e h => by obtain ⟨i, j, rfl, rfl, c, q⟩ := ciW_ex h; exact opd_ic (C := CDivW) (f := fun i j => i / j) c q⟩
def mod : O2 K := ⟨rI (fun _ j => 0 < j) fun i j => .int (i % j), ciW (fun _ j => 0 < j) fun i j => .int (i % j), fun Z x y Q e h => by obtain ⟨i, j, rfl, rfl, c, q⟩ := ciW_ex h; exact opd_ic (C := fun _ j => 0 < j) (f := fun i j => i % j) c q⟩
def pow : O2 K := ⟨rI CPow fun i j => .int (i ^ j.toNat), ciW CPow fun i j => .int (i ^ j.toNat), fun Z x y Q e h => by obtain ⟨i, j, rfl, rfl, c, q⟩ := ciW_ex h; exact opd_ic (C := CPow) (f := fun i j => i ^ j.toNat) c q⟩
end
def eqOk (x : D) : Prop := eqD 64 x
def scalD : D → D → Option Bool
  | .non, .non => some true
  | .int i, .int j => some (decide (i = j))
  | .bl i, .bl j => some (decide (i = j))
  | .str i, .str j => some (decide (i = j))
  | .non, .int _ => some false | .int _, .non => some false | .non, .bl _ => some false | .bl _, .non => some false | .non, .str _ => some false | .str _, .non => some false
  | .int _, .str _ => some false | .str _, .int _ => some false | .bl _, .str _ => some false | .str _, .bl _ => some false
  | _, _ => none
theorem scal_rp {K : PySem.W.Frag} {pl} {G : Hp} {x y : D} {vx vy : V} {b : Bool} (h : scalD x y = some b) (rx : Rp K pl G vx x) (ry : Rp K pl G vy y) : scal vx vy = true ∧ decide (vx = vy) = b := by
  cases rx <;> cases ry <;> simp [scalD] at h <;> subst h <;> simp [scal]
def eqW (x y : D) (Q : Bool → Prop) : Prop :=
  match scalD x y with
  | some b => Q b
  | none => eqOk x ∧ eqOk y ∧ Q (eqvD x y)
theorem opd_eqW {Z : Cz} {x y : D} {Q : D → Prop} (h : eqW x y fun b => Q (.bl b)) : OpD Z (rEqq Z.K) x y Q := by
  unfold eqW at h
  split at h
  · rename_i b e
    refine OpD.inl fun G H vx vy j rx ry k kk => ?_
    obtain ⟨h1, h2⟩ := scal_rp e rx ry
    exact ⟨h1, by rw [h2]; exact kk _ _ G H h j.enter (.bl _)⟩
  · exact eqg_eqv h.1 h.2.1 (by decide) (by decide) h.2.2
theorem opd_neW {Z : Cz} {x y : D} {Q : D → Prop} (h : eqW x y fun b => Q (.bl (!b))) : OpD Z (rNeq Z.K) x y Q := by
  unfold eqW at h
  split at h
  · rename_i b e
    refine OpD.inl fun G H vx vy j rx ry k kk => ?_
    obtain ⟨h1, h2⟩ := scal_rp e rx ry
    exact ⟨h1, by rw [h2]; exact kk _ _ G H h j.enter (.bl _)⟩
  · exact neg_eqv h.1 h.2.1 (by decide) (by decide) h.2.2
section
variable {K : PySem.W.Frag}
def eq : O2 K := ⟨rEqq K, fun x y Q => eqW x y fun b => Q (.bl b), fun Z x y Q e h => by subst e; exact opd_eqW h⟩
def ne : O2 K := ⟨rNeq K, fun x y Q => eqW x y fun b => Q (.bl (!b)), fun Z x y Q e h => by subst e; exact opd_neW h⟩
end
def flatD : D → Bool
  | .non => true | .bl _ => true | .int _ => true | .str _ => true | _ => false
theorem flat_rp {K : PySem.W.Frag} {pl} {G : Hp} {x : D} {vx : V} (h : flatD x = true) (rx : Rp K pl G vx x) : flatV vx = true := by
  cases rx <;> simp [flatD] at h <;> rfl
def inW (x y : D) (Q : Bool → Prop) : Prop :=
  match x, y with
  | .int i, .tup xs => ∃ js : List Int, xs = js.map D.int ∧ Q (decide (i ∈ js))
  | .int i, .lst xs => ∃ js : List Int, xs = js.map D.int ∧ Q (decide (i ∈ js))
  | _, _ => False
section
variable {K : PySem.W.Frag}
def inn : O2 K := ⟨rIn K false, fun x y Q => inW x y fun b => Q (.bl b), fun Z x y Q e h => by
  subst e
  unfold inW at h
  split at h
  · obtain ⟨js, rfl, q⟩ := h; exact opd_inI (.inr rfl) q
  · obtain ⟨js, rfl, q⟩ := h; exact opd_inI (.inl rfl) q
  · exact h.elim⟩
end
theorem inV_ints {i : Int} : ∀ {js : List Int}, inV (.int i) (js.map V.int) = decide (i ∈ js)
  | [] => rfl
  | j :: js => by
    have h := inV_ints (i := i) (js := js)
    unfold inV at h ⊢
    rw [List.map_cons, List.any_cons, h]
    simp [eqV, Bool.decide_or]
    congr 1
    by_cases z : i = j
    · subst z; simp
    · have z2 : ¬ j = i := fun e => z e.symm
      simp [z, z2]
theorem opd_ninI {Z : Cz} {i : Int} {js : List Int} {x : D} {Q : D → Prop} (hx : x = .lst (js.map D.int) ∨ x = .tup (js.map D.int)) (q : Q (.bl (!decide (i ∈ js)))) : OpD Z (rIn Z.K true) (.int i) x Q := fun G H vx vy jj rx ry k kk => by
  cases rx
  have fl : (js.map V.int).all flatV = true := by simp [flatV]
  rcases hx with rfl | rfl
  · obtain ⟨p, ws, rfl, s, r1⟩ := ry.sql jj.sub
    have := ints_vs r1
    subst this
    exact ⟨p, _, rfl, .inl s, rfl, fl, by simp only [if_true, inV_ints]; exact kk _ _ G H q jj.enter (.bl _)⟩
  · cases ry with
    | @tup a ws _ h1 r1 =>
      have := ints_vs r1
      subst this
      exact ⟨a, _, rfl, .inr (jj.sub.sqt h1), rfl, fl, by simp only [if_true, inV_ints]; exact kk _ _ G H q jj.enter (.bl _)⟩
section
variable {K : PySem.W.Frag}
def nin : O2 K := ⟨rIn K true, fun x y Q => inW x y fun b => Q (.bl (!b)), fun Z x y Q e h => by
  subst e
  unfold inW at h
  split at h
  · obtain ⟨js, rfl, q⟩ := h; exact opd_ninI (.inr rfl) q
  · obtain ⟨js, rfl, q⟩ := h; exact opd_ninI (.inl rfl) q
  · exact h.elim⟩
end
def ixW (x y : D) (Q : D → Prop) : Prop :=
  match x, y with
  | .tup xs, .int i => ∃ d, atI xs i = some d ∧ Q d
  | .lst xs, .int i => ∃ d, atI xs i = some d ∧ Q d
  | _, _ => False
def ix {K : PySem.W.Frag} : O2 K := ⟨rIx K, ixW, fun Z x y Q e h => by
  subst e
  unfold ixW at h
  split at h
  · obtain ⟨d, h1, h2⟩ := h; exact opd_ixT h1 h2
  · obtain ⟨d, h1, h2⟩ := h; exact opd_ixL h1 h2
  · exact h.elim⟩
def lenW (xs : List D) (Q : D → Prop) : Prop :=
  match xs with
  | [.tup ys] => Q (.int ys.length)
  | [.lst ys] => Q (.int ys.length)
  | [.scr ns] => Q (.int ns.length)
  | _ => False
def len {K : PySem.W.Frag} : Bi K := ⟨Ab.rLen K, lenW, fun Z xs Q e h => by
  subst e
  unfold lenW at h
  split at h
  · exact cad_lenT h
  · exact cad_lenL h
  · exact cad_lenS h
  · exact h.elim⟩
def absW (xs : List D) (Q : D → Prop) : Prop :=
  match xs with
  | [.int i] => Q (.int (if i < 0 then -i else i))
  | _ => False
def abs {K : PySem.W.Frag} : Bi K := ⟨rAbs, absW, fun Z xs Q e h => by
  unfold absW at h
  split at h
  · exact cad_abs h
  · exact h.elim⟩
def intW (xs : List D) (Q : D → Prop) : Prop :=
  match xs with
  | [.int i] => Q (.int i)
  | [.bl b] => Q (.int (if b then 1 else 0))
  | _ => False
def toInt {K : PySem.W.Frag} : Bi K := ⟨rInt1, intW, fun Z xs Q e h => by
  unfold intW at h
  split at h
  · exact cad_intI h
  · exact cad_intB h
  · exact h.elim⟩
def gcdW (xs : List D) (Q : D → Prop) : Prop :=
  match xs with
  | [.int i, .int j] => Q (.int (Nat.gcd i.natAbs j.natAbs : Nat))
  | _ => False
def gcd {K : PySem.W.Frag} : Bi K := ⟨rGcd, gcdW, fun Z xs Q e h => by
  unfold gcdW at h
  split at h
  · exact cad_gcd h
  · exact h.elim⟩
def allW (f : List Bool → Bool) (xs : List D) (Q : D → Prop) : Prop :=
  match xs with
  | [.lst ys] => ∃ bs : List Bool, ys = bs.map D.bl ∧ Q (.bl (f bs))
  | _ => False
def all {K : PySem.W.Frag} : Bi K := ⟨rAll K, allW fun bs => bs.all id, fun Z xs Q e h => by
  subst e
  unfold allW at h
  split at h
  · obtain ⟨bs, rfl, q⟩ := h; exact cad_all q
  · exact h.elim⟩
def any {K : PySem.W.Frag} : Bi K := ⟨rAny K, allW fun bs => bs.any id, fun Z xs Q e h => by
  subst e
  unfold allW at h
  split at h
  · obtain ⟨bs, rfl, q⟩ := h; exact cad_any q
  · exact h.elim⟩
def sumW (xs : List D) (Q : D → Prop) : Prop :=
  match xs with
  | [.lst ys] => ∃ ns : List Int, ys = ns.map D.int ∧ Q (.int ns.sum)
  | _ => False
def sum {K : PySem.W.Frag} : Bi K := ⟨rSum K, sumW, fun Z xs Q e h => by
  subst e
  unfold sumW at h
  split at h
  · obtain ⟨bs, rfl, q⟩ := h; exact cad_sum q
  · exact h.elim⟩
def tupleW (xs : List D) (Q : D → Prop) : Prop :=
  match xs with
  | [.lst ys] => Q (.tup ys)
  | [.tup ys] => Q (.tup ys)
  | _ => False
def tuple {K : PySem.W.Frag} : Bi K := ⟨rTupleOf K, tupleW, fun Z xs Q e h => by
  subst e
  unfold tupleW at h
  split at h
  · exact cad_tupleL h
  · exact cad_tupleT h
  · exact h.elim⟩
def taggedD (x : D) : Bool := (tagD x).isSome
theorem cad_isT' {Z : Cz} {x : D} {T : String} {Q : D → Prop} (h : taggedD x = true) (hT : T ∈ ["bool", "int", "str", "tuple", "list", "dict"]) (q : Q (.bl (isTy T x))) : CaD Z (rIsi Z.K) [x, .ty T] Q := by
  obtain ⟨t, ht⟩ := Option.isSome_iff_exists.mp h
  have ht' : t ∈ ["NoneType", "bool", "int", "str", "tuple", "list", "dict"] := by
    cases x <;> simp only [tagD, Option.some.injEq, reduceCtorEq] at ht <;> subst ht <;> simp
  refine cad_isi ht (kit_all t ht' T hT) ?_
  have e : ((t == T) || (t == "bool" && T == "int")) = isTy T x := by
    have f : ∀ T ∈ ["bool", "int", "str", "tuple", "list", "dict"], (("NoneType" == T) || ("NoneType" == "bool" && T == "int")) = false ∧ (("int" == T) || ("int" == "bool" && T == "int")) = (T == "int") ∧ (("str" == T) || ("str" == "bool" && T == "int")) = (T == "str") ∧
        (("tuple" == T) || ("tuple" == "bool" && T == "int")) = (T == "tuple") ∧ (("list" == T) || ("list" == "bool" && T == "int")) = (T == "list") ∧ (("dict" == T) || ("dict" == "bool" && T == "int")) = (T == "dict") ∧ (("bool" == T) || ("bool" == "bool" && T == "int")) = (T == "bool" || T == "int") := by decide +kernel
    obtain ⟨f1, f2, f3, f4, f5, f6, f7⟩ := f T hT
    cases x <;> simp only [tagD, Option.some.injEq, reduceCtorEq] at ht <;> subst ht <;> simp only [isTy] <;> first | exact f1 | exact f2 | exact f3 | exact f4 | exact f5 | exact f6 | exact f7
  rw [e]; exact q
/-- isinstance(x, T) with a written built-in type -/
def isT {K : PySem.W.Frag} (T : String) (hT : T ∈ ["bool", "int", "str", "tuple", "list", "dict"]) : Bi K := ⟨rIsi K, fun xs Q => match xs with
  | [x, .ty T'] => T' = T ∧ taggedD x = true ∧ Q (.bl (isTy T x))
  | _ => False, fun Z xs Q e h => by
  subst e
  split at h
  · obtain ⟨rfl, h1, h2⟩ := h; exact cad_isT' h1 hT h2
  · exact h.elim⟩
theorem cad_isC {Z : Cz} {x : D} {C : Addr} {t : String} {b : Bool} {Q : D → Prop} (h : tagD x = some t) (hk : PySem.W.kitOne Z.K (.type t) (.ref C) = some b) (q : Q (.bl b)) : CaD Z (rIsi Z.K) [x, .cls C] Q := fun G H us jj r kk fin => by
  cases r with
  | cons a c => cases c with
    | cons c d =>
      cases d; cases c
      exact ⟨_, _, _, _, b, rfl, .own C, tag_ty jj.sub h a, hk, fin _ _ G H q jj.enter (.bl _)⟩
def isCW (K : PySem.W.Frag) (xs : List D) (Q : D → Prop) : Prop :=
  match xs with
  | [.obj C' _ _, .cls C] => (C' = C ∧ KitO K C) ∧ Q (.bl true)
  | [x, .cls C] => ∃ t b, tagD x = some t ∧ PySem.W.kitOne K (.type t) (.ref C) = some b ∧ Q (.bl b)
  | _ => False
def isC {K : PySem.W.Frag} : Bi K := ⟨rIsi K, isCW K, fun Z xs Q e h => by
  subst e
  unfold isCW at h
  split at h
  · obtain ⟨⟨rfl, k⟩, q⟩ := h; exact cad_isO k q
  · obtain ⟨t, b, h1, h2, h3⟩ := h; exact cad_isC h1 h2 h3
  · exact h.elim⟩
def sqW (xs : List D) (Q : List D → Prop) : Prop :=
  match xs with
  | [.lst ys] => Q ys
  | [.tup ys] => Q ys
  | _ => False
section
variable {K : PySem.W.Frag}
theorem DenA.mono' {Z : Cz} {Γ : List B} {tr : TA} {Q Q' : List D → List B → Prop} (h : DenA Z tr Γ Q) (w : ∀ d Γ', Q d Γ' → Q' d Γ') : DenA Z tr Γ Q' := h.mono w
def list (r : A K) : L K := ⟨fun W => tCB (rListOf K) (r.ta W), fun Γ Q E => r.wp Γ (fun ds Γ1 => sqW ds fun ys => Q ys Γ1) E, fun Z Γ Q e h => by
  subst e
  refine denl_cb ((r.ok Z Γ _ rfl h).mono fun ds Γ1 h1 => ?_)
  unfold sqW at h1
  split at h1
  · exact cal_listL h1
  · exact cal_listT h1
  · exact h1.elim⟩
/-- list(range(n)) -/
def listRg (a : X K) : X K := ⟨fun W => tLstRg (tRg1 (a.te W)), fun Γ Q E => a.wp Γ (fun x Γ1 => isI x fun n => 0 ≤ n ∧ n ≤ 100000 ∧ Q (.lst (((List.range n.toNat).map fun i => ((i : Nat) : Int)).map D.int)) Γ1) E, fun Z Γ Q e h =>
  den_listRg ((a.ok Z Γ _ e h).mono fun x Γ1 h1 => by
    obtain ⟨n, rfl, q⟩ := isI_ex h1
    exact ⟨n, rfl, q⟩)⟩
/-- a list plus a list, a list times a number: new -/
def addL (a b : X K) : L K := ⟨fun W => tOp (rPlus K) (a.te W) (b.te W), fun Γ Q E => a.wp Γ (fun x Γ1 => b.wp Γ1 (fun y Γ2 => match x, y with | .lst xs, .lst ys => xs.length + ys.length ≤ 100000 ∧ Q (xs ++ ys) Γ2 | _, _ => False) E) E,
  fun Z Γ Q e h => by
    subst e
    refine denl_op ((a.ok Z Γ _ rfl h).mono fun x Γ1 h1 => (b.ok Z Γ1 _ rfl h1).mono fun y Γ2 h2 => ?_)
    split at h2
    · exact plus_lst h2.1 h2.2
    · exact h2.elim⟩
end
end Cc
namespace Cc
open PySem L2 Ab
def startB (ds : List D) (n : Nat) : List B := ds.map B.d ++ List.replicate (n - ds.length) .un
def bodyW {K : PySem.W.Frag} (b : S K) (n : Nat) : WP := fun ds Q E => b.wp (startB ds n) ⟨fun _ => Q .non, Q, fun _ => False, fun _ => False⟩ fun er _ => E er
section
variable {P : Program} {w : World} {K : PySem.W.Frag} {mg : Str → Option Value} {base : Heap}
/-- THE RULE for a def: its certified body -/
theorem fn_w {x qual : Str} {st : Stmt} {f : Addr} {fd : FuncData} {N ps : List Str} {k : Nat} (F : Fun K x qual st f fd) (Sc : FnScope N ps (defScope st)) (b : S K) (hl : ps.length ≤ N.length)
    (hbody : ∀ (cdv : Value) (A : Around) (outer : List PySem.Env) (s : Shared) (H : Hp) (E : XK) (W : WX), Room k (A.deeper (PyProof.Rows.envOfC qual (defScope st) s.heap.objs.size f cdv)) → Takes (cxOf (L2.CX P w) P w K mg base N qual (defScope st) f cdv A outer s H E) W →
      PSs (cxOf (L2.CX P w) P w K mg base N qual (defScope st) f cdv A outer s H E) (defBody st) (b.ts W)) : FnOk P w K mg base (L2.CX P w) (k + 1) f fd ps (spW K ps.length (bodyW b N.length)) := by
  refine F.okX Sc (fun vs H Q E h => ?_) (fun cdv A outer s H vs Q E hr h => ?_)
  · obtain ⟨pl, G, ds, _, _, _, r, hn, _⟩ := h
    rw [r.length, hn]
  · obtain ⟨pl, G, ds, QD, ED, j, r, hn, hp, hq, he⟩ := h
    refine ⟨_, hbody cdv A outer s H E (fun cls d _ H => E cls d H) hr (takes_of rfl rfl rfl rfl), ?_⟩
    let Z : Cz := ⟨K, pl, H, G, fun cls d _ H => E cls d H, fun er _ => ED er⟩
    exact b.ok Z _ _ rfl hp _ G H ⟨j.toJ0.re rfl rfl rfl, fun er cls d σ G' H' Γ hx _ j' _ re => he er cls d G' H' hx ⟨j'.re rfl rfl rfl, fun _ _ _ _ _ _ _ z => z.elim⟩ re⟩ (en_start r (by omega)) _ ⟨fun Γ σ G' H' hN _ j' _ => hq .non .non G' H' hN ⟨j'.toJ0.re rfl rfl rfl, fun _ _ _ _ _ _ _ z => z.elim⟩ .non,
      fun x v G' H' hR _ j' rx => hq x v G' H' hR ⟨j'.toJ0.re rfl rfl rfl, fun _ _ _ _ _ _ _ z => z.elim⟩ rx, fun _ _ _ _ z => z.elim, fun _ _ _ _ z => z.elim⟩
structure DfnW (P : Program) (w : World) (K : PySem.W.Frag) (mg : Str → Option Value) (base : Heap) (x : Str) (k n : Nat) (wp : WP) : Prop where
  ex : ∃ f fd ps, FnOk P w K mg base (L2.CX P w) k f fd ps (spW K n wp) ∧ mg x = some (.ref f) ∧ PySem.W.keepIn K (.ref f) = true ∧ Binds K fd ps []
/-- less is promised -/
theorem DfnW.imp {x : Str} {k n : Nat} {wp wp' : WP} (c : DfnW P w K mg base x k n wp) (h : ∀ ds Q E, wp' ds Q E → wp ds Q E) : DfnW P w K mg base x k n wp' := by
  obtain ⟨f, fd, ps, h1, h2⟩ := c.ex
  refine ⟨f, fd, ps, h1.imp fun vs H Q E q => ?_, h2⟩
  obtain ⟨pl, G, ds, QD, ED, j, r, hn, hp, hq, he⟩ := q
  exact ⟨pl, G, ds, QD, ED, j, r, hn, h _ _ _ hp, hq, he⟩
theorem dfnw_mk {x qual : Str} {st : Stmt} {f : Addr} {fd : FuncData} {ps : List Str} {k : Nat} {wp : WP} (F : Fun K x qual st f fd) (m : mg x = some (.ref f)) (b : Binds K fd ps [])
    (h : FnOk P w K mg base (L2.CX P w) k f fd ps (spW K ps.length wp)) : DfnW P w K mg base x k ps.length wp := ⟨⟨f, fd, ps, h, m, F.kp, b⟩⟩
/-- an elder promise by P and R -/
def wpS (S : FSpec) : WP := fun ds Q E => S.P ds ∧ (∀ d, S.R ds d → Q d) ∧ ∀ er, S.X ds er → E er
theorem DfnW.ofS {x : Str} {k n : Nat} {S : FSpec} (c : Dfn P w K mg base x k n S) : DfnW P w K mg base x k n (wpS S) := by
  obtain ⟨f, fd, ps, h1, h2⟩ := c.ex
  refine ⟨f, fd, ps, h1.imp fun vs H Q E q => ?_, h2⟩
  obtain ⟨pl, G, ds, QD, ED, j, r, hn, ⟨hp, hr, hx⟩, hq, he⟩ := q
  exact ⟨pl, G, ds, j, r, hn, hp, fun d v G' H' a => hq d v G' H' (hr d a), fun er cls d G' H' a => he er cls d G' H' (hx er a)⟩
end
section
variable {X : Cx} {P : Program} {w : World} {K : PySem.W.Frag} {mg : Str → Option Value} {base : Heap} {x : Str} {e : Expr} {es : List Expr} {t : TA} {k n j : Nat} {wp : WP} {p pos : Pos}
theorem kw_fn {W : WX} (tk : Takes X W) (c : DfnW P w K mg base x k n wp) (hr : Room j X.A) (hk : k ≤ j) (hX : X.prog = P ∧ X.w = w ∧ X.K = K ∧ X.mg = mg ∧ X.base = base) (hg : Gl X x) (ha : PA X (e :: es) t) (hdb : (x == ("__debug__" : Str)) = false := by decide)
    (he : starEach (e :: es) X.env = (false, eval e X.env) :: starEach es X.env := by rfl) (hpl : (backTo pos (starEach es X.env)).any (·.1) = false := by rfl) : PE X (.Call (.Name x p) (e :: es) [] pos) (tCallS (spW K n wp) (WE W) t) := by
  obtain ⟨rfl, rfl, rfl, rfl, rfl⟩ := hX
  obtain ⟨f, fd, ps, h1, h2, h3, h4⟩ := c.ex
  exact pe_callS h1 (hr.mono hk) hg h2 h3 h4 (fun σ => passAt tk σ) ha hdb he hpl
theorem kw_fn0 (c : DfnW P w K mg base x k 0 wp) (hr : Room j X.A) (hk : k ≤ j) (hX : X.prog = P ∧ X.w = w ∧ X.K = K ∧ X.mg = mg ∧ X.base = base) (hg : Gl X x) (hdb : (x == ("__debug__" : Str)) = false := by decide) :
    PE X (.Call (.Name x p) [] [] pos) (tCall (spW K 0 wp) [] E0 tNil) := by
  obtain ⟨rfl, rfl, rfl, rfl, rfl⟩ := hX
  obtain ⟨f, fd, ps, h1, h2, h3, h4⟩ := c.ex
  exact pe_call0 h1 (hr.mono hk) hg h2 h3 h4 .nil passL hdb
end
abbrev WI := List D → (List D → Prop) → (Er → Prop) → Prop
def spIW (K : PySem.W.Frag) (C : Addr) (n : Nat) (fs : List Str) (wi : WI) : Sp := fun vs H Q E => ∃ pl G ds H1 x dx ws QD ED, vs = .ref x :: ws ∧ H = upd (upd H1 dx (.own x)) x (.ins C dx []) ∧ H1 x = none ∧ H1 dx = none ∧ dx ≠ x ∧
  J (Cz.call K pl H1 G) G H1 ∧ Rps K pl G ws ds ∧ ds.length = n ∧ wi ds QD ED ∧
  (∀ us G' H' dx' xs, QD us → J (Cz.call K pl H1 G) G' H' → H' x = some (.ins C dx' (fs.zip xs)) → fs.length = xs.length → Rps K pl G' xs us → G' x = none → Q .non H') ∧
  (∀ er cls d G' H', ED er → J (Cz.call K pl H1 G) G' H' → RpEr0 K pl G' cls d er → E cls d H')
def bodyI {K : PySem.W.Frag} (b : S K) (C : Addr) (fs : List Str) (n : Nat) : WI := fun ds Q E => ∀ x, b.wp (B.ob x C [] [] :: (ds.map B.d ++ List.replicate (n - (ds.length + 1)) .un)) ⟨fun Γ => ∃ us, Q us ∧ Γ[0]? = some (.ob x C fs us), fun _ => False, fun _ => False, fun _ => False⟩ fun er _ => E er
section
variable {P : Program} {w : World} {K : PySem.W.Frag} {mg : Str → Option Value} {base : Heap}
theorem spI_spIW {C : Addr} {n : Nat} {fs : List Str} {wi : WI} {vs : List V} {H : Hp} {Q : VK} {E : XK} (h : spIW K C n fs wi vs H Q E) : ∃ S : ISpec, S.ns = fs ∧ (∀ ds, S.P ds → wi ds (S.R ds) (S.X ds)) ∧ spI K C n S vs H Q E := by
  obtain ⟨pl, G, ds, H1, x, dx, ws, QD, ED, h1, h2, h3, h4, h5, h6, h7, h8, h9, h10, h11⟩ := h
  exact ⟨⟨fs, fun es => es = ds, fun _ => QD, fun _ => ED⟩, rfl, fun es e => by cases e; exact h9, pl, G, ds, H1, x, dx, ws, h1, h2, h3, h4, h5, h6, h7, h8, rfl, h10, h11⟩
theorem init_w {qual : Str} {st : Stmt} {f C : Addr} {fd : FuncData} {N ps : List Str} {k : Nat} (F : Fun K "__init__" qual st f fd) (Sc : FnScope N ps (defScope st)) (fs : List Str) (b : S K) (hl : ps.length ≤ N.length) {n : Nat} (hn : ps.length = n + 1)
    (hbody : ∀ (cdv : Value) (A : Around) (outer : List PySem.Env) (s : Shared) (H : Hp) (E : XK) (W : WX), Room k (A.deeper (PyProof.Rows.envOfC qual (defScope st) s.heap.objs.size f cdv)) → Takes (cxOf (L2.CX P w) P w K mg base N qual (defScope st) f cdv A outer s H E) W →
      PSs (cxOf (L2.CX P w) P w K mg base N qual (defScope st) f cdv A outer s H E) (defBody st) (b.ts W)) : FnOk P w K mg base (L2.CX P w) (k + 1) f fd ps (spIW K C n fs (bodyI b C fs N.length)) := by
  have key : ∀ S : ISpec, S.ns = fs → (∀ ds, S.P ds → bodyI b C fs N.length ds (S.R ds) (S.X ds)) → FnOk P w K mg base (L2.CX P w) (k + 1) f fd ps (spI K C n S) := fun S e hS =>
    init_ab F Sc S hl hn fun cdv A outer s H E x ds W hr tk hds hp => ⟨_, hbody cdv A outer s H E W hr tk, fun Z hK hW hX => by
      have z := hS ds hp x
      subst hW
      exact b.ok { Z with X := fun er _ => S.X ds er } _ _ hK z |> fun d => by
        intro σ G H j en De de
        exact d σ G H ⟨j.toJ0.re rfl rfl rfl, fun er cls dd σ' G' H' Γ hx x' j' e' re => j.acc er cls dd σ' G' H' Γ (hX er Γ hx) x' (j'.re rfl rfl rfl) (by
          refine ⟨e'.len, fun i bb hb => ?_, e'.dis⟩
          obtain ⟨v, h1, h2⟩ := e'.at_ i bb hb
          exact ⟨v, h1, by cases bb <;> exact h2⟩) re⟩ (by
          refine ⟨en.len, fun i bb hb => ?_, en.dis⟩
          obtain ⟨v, h1, h2⟩ := en.at_ i bb hb
          exact ⟨v, h1, by cases bb <;> exact h2⟩) De ⟨fun Γ σ2 G2 H2 a x2 j2 e2 => de.n Γ σ2 G2 H2 (by
            obtain ⟨us, hu, hg⟩ := a
            exact ⟨us, hu, by rw [e]; exact hg⟩) x2 ⟨j2.toJ0.re rfl rfl rfl, j.acc.mono x2⟩ (by
          refine ⟨e2.len, fun i bb hb => ?_, e2.dis⟩
          obtain ⟨v, h1, h2⟩ := e2.at_ i bb hb
          exact ⟨v, h1, by cases bb <;> exact h2⟩), fun _ _ _ _ z => z.elim, fun _ _ _ _ z => z.elim, fun _ _ _ _ z => z.elim⟩⟩
  have base0 := key ⟨fs, fun _ => False, fun _ _ => False, fun _ _ => False⟩ rfl fun _ z => z.elim
  refine ⟨fun vs H Q E h => ?_, fun A outer s H args us vs Q E hr h1 h2 h3 h4 => ?_⟩
  · obtain ⟨S, e, hS, q⟩ := spI_spIW h
    exact (key S e hS).len vs H Q E q
  · obtain ⟨S, e, hS, q⟩ := spI_spIW h4
    exact (key S e hS).run A outer s H args us vs Q E hr h1 h2 h3 q
structure MakW (P : Program) (w : World) (K : PySem.W.Frag) (mg : Str → Option Value) (base : Heap) (x : Str) (C : Addr) (k n : Nat) (fs : List Str) (wi : WI) : Prop where
  ex : ∃ f fd ps, Mk K C f ∧ FnOk P w K mg base (L2.CX P w) k f fd ps (spIW K C n fs wi) ∧ mg x = some (.ref C) ∧ Binds K fd ps []
end
section
variable {X : Cx} {P : Program} {w : World} {K : PySem.W.Frag} {mg : Str → Option Value} {base : Heap} {x : Str} {e : Expr} {es : List Expr} {t : TA} {k n j : Nat} {C : Addr} {fs : List Str} {wi : WI} {p pos : Pos}
theorem kw_mk {W : WX} (tk : Takes X W) (c : MakW P w K mg base x C k n fs wi) (hr : Room j X.A) (hk : k + 1 ≤ j) (hX : X.prog = P ∧ X.w = w ∧ X.K = K ∧ X.mg = mg ∧ X.base = base) (hg : Gl X x) (ha : PA X (e :: es) t) (hdb : (x == ("__debug__" : Str)) = false := by decide)
    (he : starEach (e :: es) X.env = (false, eval e X.env) :: starEach es X.env := by rfl) (hpl : (backTo pos (starEach es X.env)).any (·.1) = false := by rfl) : PE X (.Call (.Name x p) (e :: es) [] pos) (tMakeS C (spIW K C n fs wi) (WE W) t) := by
  obtain ⟨rfl, rfl, rfl, rfl, rfl⟩ := hX
  obtain ⟨f, fd, ps, M, h1, h2, h4⟩ := c.ex
  exact pe_makeS M h1 (hr.mono hk) hg h2 h4 (fun σ => passAt tk σ) ha hdb he hpl
end
section
variable {K : PySem.W.Frag}
theorem den_makeW {Z : Cz} {Γ : List B} {tr : TA} {n : Nat} {C : Addr} {fs : List Str} {wi : WI} {Q : D → List B → Prop} (h : DenA Z tr Γ fun ds Γ1 => ds.length = n ∧ wi ds (fun us => Q (.obj C fs us) Γ1) fun er => Z.X er Γ1) : Den Z (tMakeS C (spIW Z.K C n fs wi) (WE Z.W) tr) Γ Q := fun σ G H j e k kk =>
  h σ G H j e _ fun ds Γ1 vs G1 H1 ⟨hn, q⟩ s1 j1 e1 r1 x dx nx ndx ne => by
    refine ⟨Z.pl, G1, ds, H1, x, dx, vs, _, _, rfl, rfl, nx, ndx, ne, j1.enter, r1, hn, q, fun fs G' H' dx' xs a i h1 h2 r gx => ⟨rfl, ?_⟩, fun er cls d G' H' a i re => ?_⟩
    · obtain ⟨G2, s2, j2, e2, r2⟩ := made_state j1 e1 nx i h1 h2 r gx
      exact kk _ Γ1 _ G2 H' a (s1.trans s2) j2 e2 r2
    · exact j1.acc er cls d σ G' H' Γ1 a i.g0 (j1.leave i).toJ0 (e1.called j1.toJ0 i.toJ0) re
def mk (C : Addr) (n : Nat) (fs : List Str) (wi : WI) (r : A K) : X K := ⟨fun W => tMakeS C (spIW K C n fs wi) (WE W) (r.ta W), fun Γ Q E => r.wp Γ (fun ds Γ1 => ds.length = n ∧ wi ds (fun us => Q (.obj C fs us) Γ1) fun er => E er Γ1) E,
  fun Z Γ Q e h => by subst e; exact den_makeW (r.ok Z Γ _ rfl h)⟩
/-- self.f = x -/
def setf (m : Nat) (f : Str) (x : X K) : S K := ⟨fun W => sFld K (tVar m) (x.te W) f, fun Γ P E => match get Γ m with
  | .ob p C ns vs => Cls K C ∧ NoAttr K C f ∧ f ∉ ns ∧ ns.length < 1000 ∧ x.wp Γ (fun d Γ1 => Γ1 = Γ ∧ P.N (put Γ1 m (.ob p C (ns ++ [f]) (vs ++ [d])))) E
  | _ => False, fun Z Γ P e h => by
    subst e
    split at h
    · rename_i p C ns vs eg
      obtain ⟨c, n, hf, hl, hx⟩ := h
      exact dens_fld (get_some eg (by simp)) c n hf hl ((x.ok Z Γ _ rfl hx).mono fun d Γ1 ⟨h1, h2⟩ => ⟨h1, by rw [put_set] at h2; exact h2⟩)
    · exact h.elim⟩
end
end Cc
namespace L2
open PySem PySem.Spec PyProof.Rows
section
variable {X : Cx} {e : Expr} {te : TE} {pos p2 p3 p4 : Pos} {kk : Nat}
/-- a list turned round: xs[::-1] -/
def tRev (K : PySem.W.Frag) (te : TE) : TE := fun σ H Q => te σ H fun x H1 => ∃ a xs, x = .ref a ∧ SqL K H1 a xs ∧ ∀ p, H1 p = none → Q (.ref p) (upd H1 p (.lst xs.reverse))
theorem pe_rev (he : PE X e te) (hs : PE X (.UnaryOp .USub (.Constant (.int 1) kk p3) p4) (tUn (rU fun i => .int (-i)) (tC (.int 1)))) : PE X (.Subscript e (.Slice none none (some (.UnaryOp .USub (.Constant (.int 1) kk p3) p4)) p2) pos) (tRev X.K te) := by
  refine ⟨fun pins s σ H Q I h => ?_⟩
  refine Subscript_ (thn (he.run pins s σ H _ I h) fun v s1 ⟨x, H1, I1, r1, q1⟩ => ?_)
  obtain ⟨a, xs, rfl, hx, q⟩ := q1
  refine wpAny_Slice ?_
  rw [evalPart_none]
  refine wpAny_pure (wpAny_pure ?_)
  have pst : PO X (some (.UnaryOp .USub (.Constant (.int 1) kk p3) p4)) (tPart (tUn (rU fun i => .int (-i)) (tC (.int 1)))) := po_some hs
  refine thn (pst.run pins s1 σ H1 (fun l H2 => l = some (-1) ∧ H2 = H1) I1 ⟨1, rfl, -1, rfl, rfl, rfl⟩) fun vk s3 ⟨l, H3, I3, pk, e1, e2⟩ => ?_
  subst e1; subst e2
  have I4 : Inv X pins σ H3 { s3 with heap := s3.heap.push { cls := .type "slice", data := .fields #[.none, .none, vk] } } := I3.kept (t' := s3.toks) fun b ob q => Heap.get?_push_of_some _ q
  cases r1
  obtain ⟨its, r, ht, hz⟩ := I4.list hx
  have hlen := r.length
  show wpAny (model X.prog X.w) X.A (subscriptTail e (.Slice none none (some (.UnaryOp .USub (.Constant (.int 1) kk p3) p4)) p2) (.ref a) (.ref s3.heap.objs.size)) (EP X pins σ Q) X.xe { s3 with heap := s3.heap.push { cls := .type "slice", data := .fields #[.none, .none, vk] } }
  refine tail_any (ops := [.ref a, .ref s3.heap.objs.size]) ht.isList.typeIs slot_list_getitem.lookup ?_ (by with_unfolding_all rfl)
  refine wpAny_getItem_list_slice ht.isList (Heap.IsSliceOf.new ..) .none .none pk (by decide) ?_ (by rw [List.size_toArray]; omega)
  rw [PySem.W.krv_pick]
  refine ⟨.ref (s3.heap.push { cls := .type "slice", data := .fields #[.none, .none, vk] }).objs.size, _, I4.laid (t' := s3.toks) (o := .lst xs.reverse) (fun b ob q => Heap.get?_push_of_some _ q) (Nat.le_refl _) ?_, rfl, q _ (I4.hok.fresh (Nat.le_refl _))⟩
  refine ⟨by rw [List.length_reverse]; exact hz, _, 0, ?_, Heap.get?_push_size _ rfl⟩
  simpa using r.reverse
end
end L2
namespace L2
open PySem PySem.Spec PyProof.Rows StX
theorem k_rev {X : Cx} (K : PySem.W.Frag) {e : Expr} {te : TE} {pos p2 p3 p4 : Pos} {kk : Nat} (he : PE X e te) (hc : PE X (.Constant (.int 1) kk p3) (tC (.int 1)) := by exact pe_int) (h : X.K = K := by rfl) :
    PE X (.Subscript e (.Slice none none (some (.UnaryOp .USub (.Constant (.int 1) kk p3) p4)) p2) pos) (tRev K te) := by subst h; exact pe_rev he (pe_un un_neg hc)
theorem ka_star {X : Cx} (K : PySem.W.Frag) {e : Expr} {es : List Expr} {te : TE} {t : TA} {p : Pos} (he : PE X e te) (hr : PA X es t) (hs : starEach (.Starred e p :: es) X.env = (true, eval e X.env) :: starEach es X.env := by rfl) (h : X.K = K := by rfl) : PA X (.Starred e p :: es) (tStar K te t) := by subst h; exact pa_star he hr hs
/-- t.count(y), t a tuple known to the object, of flat items -/
def tCountX (K : PySem.W.Frag) (to : TE) (t : TA) : TE := fun σ H Q => to σ H fun x H1 => ∃ (a : Addr) (o : Obj) (ys : List V), x = .ref a ∧ H1 a = some (.frz o (.tup ys)) ∧ o.dict = none ∧ t σ H1 fun xs H2 => ∃ y, xs = [y] ∧ SqT K H2 a ys ∧ flatV y = true ∧ ys.all flatV = true ∧ Q (.int ((ys.countP fun z => eqV z y : Nat) : Int)) H2
theorem pe_countX {X : Cx} {o e : Expr} {to : TE} {t : TA} {apos cpos : Pos} (ho : PE X o to) (ha : PA X [e] t)
    (hbase : attributeBase o "count" X.env (eval o X.env) = eval o X.env := by rfl)
    (hfew : ((backTo cpos (starEach [e] X.env)).all (fun x => !x.1) && (backToKw cpos (keywordEach [] X.env)).all (fun x => x.1.isSome)
      && decide ([e].length + ([] : List Keyword).length + (if ([] : List Keyword).isEmpty then 0 else 1) < 30)) = true := by rfl)
    (hline : (apos.endLine == cpos.line) = true := by rfl) (hs : starEach [e] X.env = (false, eval e X.env) :: starEach [] X.env := by rfl) (hplain : (backTo cpos (starEach [] X.env)).any (·.1) = false := by rfl) :
    PE X (.Call (.Attribute o "count" apos) [e] [] cpos) (tCountX X.K to t) := by
  refine ⟨fun pins s σ H Q I h => ?_⟩
  refine wpAny_Call_method_late hbase hfew hline rfl (thn (ho.run pins s σ H _ I h) fun v s1 ⟨x, H1, I1, r1, q1⟩ => ?_)
  obtain ⟨a, ob, ys, rfl, hH, hd, q1⟩ := q1
  cases r1
  obtain ⟨e1, _, _, _, ⟨cls, dd, data, sl⟩, e2, c2, _⟩ := (show ObjOk X.prog X.w H1 s1.heap a (.frz ob (.tup ys)) from I1.hok a _ hH)
  have hT : s1.TypeIs (.ref a) "tuple" := ⟨_, e2, c2⟩
  refine ⟨"tuple", "tuple.count", PySem.F.plainAttrs_tuple, PySem.F.slot_tuple_count, PySem.F.type_tuple_count, hT, fun b e => by cases e; exact ⟨ob, e1, hd⟩, ?_⟩
  have hA := ha.run cpos pins s1 σ H1 _ I1 q1
  rw [hs] at hA ⊢
  refine Calls.callWith_builtin (by show (false || (backTo cpos (starEach [] X.env)).any (·.1)) = false; rw [hplain] <;> rfl) (Calls.evalArgs_plain ?_)
  refine thn hA fun us s2 ⟨vs, H2, I2, r2, q2⟩ => ?_
  obtain ⟨y, rfl, hs2, fy, fys, q⟩ := q2
  obtain ⟨u, rfl, ru⟩ := r2.one
  obtain ⟨its, rv, ⟨⟨cls2, dd2, data2, sl2⟩, ho2, hc2, n, hd2⟩, hlen⟩ := I2.tuple hs2
  simp only at hc2 hd2
  subst hc2 hd2
  refine call_meets (PySem.F.slot_tuple_count) ⟨_, ho2, rfl⟩ (PySem.F.entry_tuple_count) (PySem.F.args_tuple_count_2 _ _) (SeqAt.tuple_countAt a its.toArray n dd2 sl2 u (eqU y)) ⟨ho2, fun w hw => mem_eqAt ru fy rv fys w (by simpa using hw), ?_⟩
  refine ⟨.int ((ys.countP fun z => eqV z y : Nat) : Int), H2, I2.tok _, ⟨s2.toks, ?_⟩, q⟩
  have e : its.toArray.toList.countP (eqU y) = ys.countP fun z => eqV z y := countP_eqU rv fys
  show Value.int ((its.toArray.toList.countP (eqU y) : Nat) : Int) s2.toks = _
  rw [e]
theorem k_countX {X : Cx} (K : PySem.W.Frag) {o e : Expr} {to : TE} {t : TA} {apos cpos : Pos} (ho : PE X o to) (ha : PA X [e] t) (h : X.K = K := by rfl)
    (hbase : attributeBase o "count" X.env (eval o X.env) = eval o X.env := by rfl)
    (hfew : ((backTo cpos (starEach [e] X.env)).all (fun x => !x.1) && (backToKw cpos (keywordEach [] X.env)).all (fun x => x.1.isSome)
      && decide ([e].length + ([] : List Keyword).length + (if ([] : List Keyword).isEmpty then 0 else 1) < 30)) = true := by rfl)
    (hline : (apos.endLine == cpos.line) = true := by rfl) (hs : starEach [e] X.env = (false, eval e X.env) :: starEach [] X.env := by rfl) (hplain : (backTo cpos (starEach [] X.env)).any (·.1) = false := by rfl) :
    PE X (.Call (.Attribute o "count" apos) [e] [] cpos) (tCountX K to t) := by subst h; exact pe_countX ho ha hbase hfew hline hs hplain
/-- tuple(list), the new tuple known to the object -/
def rTupleX (K : PySem.W.Frag) : List V → Hp → VK → Prop := fun xs H Q => ∃ p ys, xs = [.ref p] ∧ SqL K H p ys ∧ ∀ l (o : Obj), H l = none → o.dict = none → Q (.ref l) (upd H l (.frz o (.tup ys)))
theorem call_tupleX {X : Cx} : CallR X (.type "tuple") (rTupleX X.K) := by
  intro pins s σ H xs us Q I r h
  obtain ⟨p, ys, rfl, hq, q⟩ := h
  obtain ⟨u, rfl, rx⟩ := vals1 r
  cases rx
  obtain ⟨its, r', pl, hz⟩ := I.list hq
  have hlen := r'.length
  refine call_tuple_list pl.isList (fun h' kp => ?_) (by simp only [List.size_toArray] <;> omega)
  have I1 : Inv X pins σ H { s with heap := h' } := I.kept (t' := s.toks) kp
  have I2 : Inv X pins σ (upd H h'.objs.size (.frz { cls := .type "tuple", data := .seq its.toArray } (.tup ys))) { s with heap := h'.push { cls := .type "tuple", data := .seq its.toArray } } :=
    I1.laid (t' := s.toks) (fun b o e => Heap.get?_push_of_some _ e) (Nat.le_refl _) (show ObjOk X.prog X.w _ _ _ (.frz _ (.tup ys)) from ⟨Heap.get?_push_size _ rfl, hz, its, r', IsTup.new _ _⟩)
  exact ⟨.ref h'.objs.size, _, I2, rfl, q _ _ (I1.hok.fresh (Nat.le_refl _)) rfl⟩
theorem k_tupleX {X : Cx} (K : PySem.W.Frag) (h : X.K = K := by rfl) : CallR X (.type "tuple") (rTupleX K) := by subst h; exact call_tupleX
/-- lcm of two small ints -/
def rLcm : List V → Hp → VK → Prop := fun vs H Q => ∃ a b : Int, vs = [.int a, .int b] ∧ a.natAbs < 2 ^ 64 ∧ b.natAbs < 2 ^ 64 ∧ Q (.int ((Nat.lcm a.natAbs b.natAbs : Nat) : Int)) H
theorem cr_lcm {X : Cx} : CallR X (.builtin "math.lcm") rLcm := by
  intro pins s σ H vs us Q I r h
  obtain ⟨a, b, rfl, ha, hb, q⟩ := h
  obtain ⟨t, u, rfl⟩ := Vals.int2 r
  exact PySem.W.mc_lcm ha hb fun _ => ⟨.int _, H, I.tok _, ⟨_, rfl⟩, q⟩
end L2
namespace Cc
open PySem L2 Ab StX
section
variable {K : PySem.W.Frag}
theorem strs_vs {pl} {G : Hp} : ∀ {vs : List V} {bs : List Str}, Rps K pl G vs (bs.map D.str) → vs = bs.map V.str
  | _, [], .nil => rfl
  | _, b :: bs, .cons h r => by
    cases h
    rw [List.map_cons, strs_vs r]
/-- x.count(text), a tuple of texts -/
theorem den_countS {Z : Cz} {Γ : List B} {te ta : TE} {Q : D → List B → Prop} (h : Den Z te Γ fun x Γ1 => ∃ bs : List Str, x = .xtup (bs.map D.str) ∧ Den Z ta Γ1 fun y Γ2 => ∃ b : Str, y = .str b ∧ Q (.int (bs.count b : Nat)) Γ2) : Den Z (tCountX Z.K te (tCons ta tNil)) Γ Q := fun σ G H j e k kk =>
  h σ G H j e _ fun x Γ1 v G1 H1 q s1 j1 e1 r1 => by
    obtain ⟨bs, rfl, q⟩ := q
    cases r1 with
    | @xtup l o vs _ h1 hd rs =>
      have ev := strs_vs rs
      subst ev
      refine ⟨l, o, _, rfl, j1.sub _ _ h1, hd, q σ G1 H1 j1 e1 _ fun y Γ2 vy G2 H2 q2 s2 j2 e2 r2 => ?_⟩
      obtain ⟨b, rfl, q2⟩ := q2
      cases r2
      refine ⟨.str b, rfl, .inl (.inr ⟨o, j2.sub _ _ (s2.ex _ _ h1)⟩), rfl, by simp [List.all_eq_true, flatV], ?_⟩
      have e3 : ((bs.map V.str).countP fun z => eqV z (.str b)) = bs.count b := by
        rw [List.countP_map, List.count]
        congr 1
      rw [e3]
      exact kk _ Γ2 _ G2 H2 q2 (s1.trans s2) j2 e2 (.int _)
def mcountT (x y : X K) : X K := ⟨fun W => tCountX K (x.te W) (tCons (y.te W) tNil), fun Γ Q E => x.wp Γ (fun d Γ1 => match d with
    | .xtup ys => ∃ bs : List Str, ys = bs.map D.str ∧ y.wp Γ1 (fun e Γ2 => match e with | .str b => Q (.int (bs.count b : Nat)) Γ2 | _ => False) E
    | _ => False) E, fun Z Γ Q e h => by
  subst e
  refine den_countS ((x.ok Z Γ _ rfl h).mono fun d Γ1 h1 => ?_)
  split at h1
  · obtain ⟨bs, rfl, h2⟩ := h1
    refine ⟨bs, rfl, (y.ok Z Γ1 _ rfl h2).mono fun e Γ2 h3 => ?_⟩
    split at h3
    · exact ⟨_, rfl, h3⟩
    · exact h3.elim
  · exact h1.elim⟩
/-- tuple(x), known to the object -/
def tupleX : Bi K := ⟨rTupleX K, fun xs Q => match xs with
    | [.lst ys] => Q (.xtup ys)
    | _ => False, fun Z xs Q e h => by
  subst e
  split at h
  · rename_i ys
    intro G H vs jj r k kk
    cases r with
    | cons a b =>
      cases b
      obtain ⟨p, ws, rfl, s, r1⟩ := a.sql jj.sub
      exact ⟨p, ws, rfl, s, fun l o hl hd => kk _ _ _ _ h (jj.sp hl) (.xtup upd_same hd (r1.mono (Ex.new (jj.sub.back hl))))⟩
  · exact h.elim⟩
def mcount (x y : X K) : X K := ⟨fun W => tBM K "list" (rCountF K) (x.te W) (tCons (y.te W) tNil), fun Γ Q E => x.wp Γ (fun d Γ1 => match d with
    | .lst ys => ∃ bs : List Bool, ys = bs.map D.bl ∧ y.wp Γ1 (fun e Γ2 => isBl e fun b => Q (.int (bs.count b : Nat)) Γ2) E
    | _ => False) E, fun Z Γ Q e h => by
  subst e
  refine den_countB rfl ((x.ok Z Γ _ rfl h).mono fun d Γ1 h1 => ?_)
  split at h1
  · obtain ⟨bs, rfl, h2⟩ := h1
    exact ⟨bs, rfl, (y.ok Z Γ1 _ rfl h2).mono fun e Γ2 h3 => isBl_ex h3⟩
  · exact h1.elim⟩
def mindex (x y : X K) : X K := ⟨fun W => tBM K "list" (rIndex K) (x.te W) (tCons (y.te W) tNil), fun Γ Q E => x.wp Γ (fun d Γ1 => match d with
    | .lst ys => ∃ bs : List Bool, ys = bs.map D.bl ∧ y.wp Γ1 (fun e Γ2 => isBl e fun b => ∃ n : Nat, bs[n]? = some b ∧ (∀ m < n, bs[m]? ≠ some b) ∧ Q (.int (n : Nat)) Γ2) E
    | _ => False) E, fun Z Γ Q e h => by
  subst e
  refine den_indexB rfl ((x.ok Z Γ _ rfl h).mono fun d Γ1 h1 => ?_)
  split at h1
  · obtain ⟨bs, rfl, h2⟩ := h1
    exact ⟨bs, rfl, (y.ok Z Γ1 _ rfl h2).mono fun e Γ2 h3 => by
      obtain ⟨b, rfl, n, h4⟩ := isBl_ex h3
      exact ⟨b, n, rfl, h4⟩⟩
  · exact h1.elim⟩
def lcm : Bi K := ⟨rLcm, fun xs Q => match xs with
    | [.int i, .int j] => i.natAbs < 2 ^ 64 ∧ j.natAbs < 2 ^ 64 ∧ Q (.int (Nat.lcm i.natAbs j.natAbs : Nat))
    | _ => False, fun Z xs Q e h => by
  split at h
  · rename_i i j
    intro G H vs jj r k kk
    cases r with
    | cons a b => cases b with
      | cons b c => cases c; cases a; cases b; exact ⟨i, j, rfl, h.1, h.2.1, kk _ _ G H h.2.2 jj.enter (.int _)⟩
  · exact h.elim⟩
theorem dena_star {Z : Cz} {Γ : List B} {te : TE} {tr : TA} {Q : List D → List B → Prop} (h : Den Z te Γ fun x Γ1 => ∃ xs, (x = .tup xs ∨ x = .lst xs) ∧ DenA Z tr Γ1 fun ys Γ2 => Q (xs ++ ys) Γ2) : DenA Z (tStar Z.K te tr) Γ Q := fun σ G H j e k kk =>
  h σ G H j e _ fun x Γ1 v G1 H1 h1 s1 j1 e1 r1 => by
    obtain ⟨xs, hx, q⟩ := h1
    rcases hx with rfl | rfl
    · cases r1 with
      | @tup a vs _ g1 rs => exact ⟨a, vs, rfl, .inl (j1.sub.sqt g1), q σ G1 H1 j1 e1 _ fun ys Γ2 ws G2 H2 q2 s2 j2 e2 r2 => kk _ Γ2 _ G2 H2 q2 (s1.trans s2) j2 e2 ((rs.mono s2.ex).append r2)⟩
    · cases r1 with
      | @lst a vs _ g1 rs => exact ⟨a, vs, rfl, .inr (.inl (.inl (j1.sub _ _ g1))), q σ G1 H1 j1 e1 _ fun ys Γ2 ws G2 H2 q2 s2 j2 e2 r2 => kk _ Γ2 _ G2 H2 q2 (s1.trans s2) j2 e2 ((rs.mono s2.ex).append r2)⟩
def astar (x : X K) (r : A K) : A K := ⟨fun W => tStar K (x.te W) (r.ta W), fun Γ Q E => x.wp Γ (fun d Γ1 => isSq d fun xs => r.wp Γ1 (fun ys Γ2 => Q (xs ++ ys) Γ2) E) E, fun Z Γ Q e h => by
  subst e
  refine dena_star ((x.ok Z Γ _ rfl h).mono fun d Γ1 h1 => ?_)
  cases d with
  | tup xs => exact ⟨xs, .inl rfl, r.ok Z Γ1 _ rfl h1⟩
  | lst xs => exact ⟨xs, .inr rfl, r.ok Z Γ1 _ rfl h1⟩
  | _ => exact h1.elim⟩
theorem denl_rev {Z : Cz} {Γ : List B} {te : TE} {Q : List D → List B → Prop} (h : Den Z te Γ fun x Γ1 => ∃ xs, x = .lst xs ∧ Q xs.reverse Γ1) : DenL Z (tRev Z.K te) Γ Q := fun σ G H j e k kk =>
  h σ G H j e _ fun x Γ1 v G1 H1 q s1 j1 e1 r1 => by
    obtain ⟨xs, rfl, q⟩ := q
    cases r1 with
    | @lst a vs _ g1 rs =>
      refine ⟨a, vs, rfl, .inl (.inl (j1.sub _ _ g1)), fun p hp => ?_⟩
      have n := j1.sub.back hp
      refine kk _ Γ1 p vs.reverse G1 (upd H1 p (.lst vs.reverse)) q (s1.trans ⟨Ex.refl _, fun _ h => h, fun a o ha _ _ => ⟨?_, fun z => z⟩, fun a o ha => ⟨o, ?_⟩⟩) (j1.put (j1.old hp) n) (e1.newM hp) upd_same rs.reverse ⟨n, j1.old hp, fun i o => e1.noown hp i o⟩ (s1.back hp)
      · rw [upd_ne (ne_of_none ha hp)]; exact ha
      · rw [upd_ne (ne_of_none ha hp)]; exact ha
def revL (x : X K) : L K := ⟨fun W => tRev K (x.te W), fun Γ Q E => x.wp Γ (fun d Γ1 => match d with | .lst xs => Q xs.reverse Γ1 | _ => False) E, fun Z Γ Q e h => by
  subst e
  refine denl_rev ((x.ok Z Γ _ rfl h).mono fun d Γ1 h1 => ?_)
  cases d with
  | lst xs => exact ⟨xs, rfl, h1⟩
  | _ => exact h1.elim⟩
def rev (x : X K) : X K := ofL (revL x)
def lc2 (it : I K) (g : G K) (it1 : I K) (g1 : G K) (x : X K) (vs vs1 : List Nat) (hv : ∀ v ∈ g.vs, v ∈ vs) (hv1 : ∀ v ∈ g1.vs, v ∈ vs1) (sub : ∀ i ∈ vs1, i ∈ vs) : L K := ⟨fun W => tLc2 (it.wi W) g.g tYes (it1.wi W0) g1.g tYes (x.te W0) vs vs1,
  fun Γ Q E => it.wp Γ (fun ds Γ1 => noOwnAt Γ1 vs ∧ ∃ (inner : D → List D) (f : D → D → D), (ds.flatMap fun d => (inner d).map (f d)).length < 100000 ∧
    (∀ d ∈ ds, g.wp d (wipeP Γ1 vs) fun Γ2 => wipeP Γ2 vs = wipeP Γ1 vs ∧ noOwnAt Γ2 vs ∧ it1.wp Γ2 (fun es Γ3 => Γ3 = Γ2 ∧ es = inner d ∧ ∀ e ∈ es, g1.wp e (wipeP Γ2 vs1) fun Γ4 => wipeP Γ4 vs1 = wipeP Γ2 vs1 ∧ noOwnAt Γ4 vs1 ∧ x.wp Γ4 (fun y Γ5 => Γ5 = Γ4 ∧ y = f d e) EX0) EX0) ∧
    Q (ds.flatMap fun d => (inner d).map (f d)) Γ1) E, by
  intro Z Γ Q e h
  refine denl_flat (g.off vs hv) g.mono (g1.off vs1 hv1) g1.mono sub (DenI.mono (it.ok Z Γ _ e h) ?_)
  rintro ds Γ1 ⟨n, inner, f, l, hs, q⟩
  refine ⟨noOwnAt_all n, inner, f, l, fun i d hd => ?_, q⟩
  have z := hs d (List.mem_of_getElem? hd)
  simp only [wipeP_eq] at z
  refine DenG.mono (g.ok Z d _ _ e z) fun Γ2 ⟨a1, a2, a3⟩ => ⟨a1, noOwnAt_all a2, ?_⟩
  refine deni_w0 (DenI.mono (it1.ok (Z.wx W0 EX0) Γ2 _ e a3) ?_)
  rintro es Γ3 ⟨b1, b2, b3⟩
  refine ⟨b1, b2, fun k e1 he => ?_⟩
  have z2 := b3 e1 (List.mem_of_getElem? he)
  refine DenG.mono (g1.ok Z e1 _ _ e z2) fun Γ4 ⟨c1, c2, c3⟩ => ⟨c1, noOwnAt_all c2, den_w0 ((x.ok (Z.wx W0 EX0) Γ4 _ e c3).mono fun y Γ5 h5 => h5)⟩⟩
def callG (n : Nat) (P : FSpec) (r : A K) : X K := ⟨fun W => tCall (spS K n P) [] (fun _ _ _ => False) (r.ta W), fun Γ Q E => r.wp Γ (fun ds Γ1 => ds.length = n ∧ P.P ds ∧ (∀ d, P.R ds d → Q d Γ1) ∧ ∀ er, ¬ P.X ds er) E, fun Z Γ Q e h => by subst e; exact den_call (r.ok Z Γ _ rfl h)⟩
end
end Cc
namespace L2
open PySem PySem.Spec PyProof.Rows
def tIsXA (K : PySem.W.Frag) (a : Addr) (cls : Value) (d : Option Addr) (ta : TA) : TE := fun σ H Q => ∃ C, cls = .ref C ∧ KitE K C ∧ tIsX K a cls d C ta σ H Q
theorem kx_isx {X : Cx} (K : PySem.W.Frag) {a : Addr} {oe : Obj} {cls : Value} {d : Option Addr} {pn : List (Addr × Obj)} {e1 e2 : Expr} {ta : TA} {p pos : Pos} (hz : Zc cls d oe) (hf : ∃ vs, oe.data = .fields vs)
    (hg : Gl (X.suite a ((a, oe) :: pn)) "isinstance") (hm : (X.suite a ((a, oe) :: pn)).mg "isinstance" = none) (hv : bootBuiltins "isinstance" = some (.builtin "isinstance")) (ha : PA (X.suite a ((a, oe) :: pn)) [e1, e2] ta)
    (he : starEach [e1, e2] (X.suite a ((a, oe) :: pn)).env = (false, eval e1 (X.suite a ((a, oe) :: pn)).env) :: starEach [e2] (X.suite a ((a, oe) :: pn)).env := by rfl) (hpl : (backTo pos (starEach [e2] (X.suite a ((a, oe) :: pn)).env)).any (·.1) = false := by rfl) (hK : X.K = K := by rfl) :
    PE (X.suite a ((a, oe) :: pn)) (.Call (.Name "isinstance" p) [e1, e2] [] pos) (tIsXA K a cls d ta) := by
  subst hK
  exact ⟨fun pins s σ H Q I h => by
    obtain ⟨C, hc, T, h⟩ := h
    exact (pe_isX T hz hf hg hm hv ha he hpl).run pins s σ H Q I h⟩
def tXfA (K : PySem.W.Frag) (a : Addr) (cls : Value) (d : Option Addr) (f : Str) (te : TE) : TE := fun σ H Q => ∃ C, cls = .ref C ∧ XfC K C ∧ PySem.W.findIn K (.ref C) f = some none ∧ tXf a cls d C f te σ H Q
theorem kx_f {X : Cx} (K : PySem.W.Frag) {a : Addr} {oe : Obj} {cls : Value} {d : Option Addr} {pn : List (Addr × Obj)} {e : Expr} {te : TE} {pos : Pos} {n : Str}
    (hz : Zc cls d oe) (hf : ∃ vs, oe.data = .fields vs) (he : PE (X.suite a ((a, oe) :: pn)) e te) (hb : attributeBase e n X.env (eval e X.env) = eval e X.env := by rfl) (hK : X.K = K := by rfl) :
    PE (X.suite a ((a, oe) :: pn)) (.Attribute e n pos) (tXfA K a cls d n te) := by
  subst hK
  exact ⟨fun pins s σ H Q I h => by
    obtain ⟨C, hc, T, hno, h⟩ := h
    exact (pe_xf T hno hz hf he hb).run pins s σ H Q I h⟩
end L2
namespace Cc
open PySem L2 Ab
section
variable {K : PySem.W.Frag}
def isX (a : Addr) (cls : Value) (d : Option Addr) (i : Nat) (c : V) (u : Value) (k : ClsV c u) : X K := ⟨fun _ => tIsXA K a cls d (tCons (tVar i) (tCons (tC c) tNil)), fun Γ Q _ => match get Γ i with
  | .exc a' cl' d' er => (a' = a ∧ cl' = cls ∧ d' = d) ∧ KitE K er.cls ∧ ∃ b, PySem.W.kitOne K (.ref er.cls) u = some b ∧ Q (.bl b) Γ
  | _ => False, fun Z Γ Q e h => by
    subst e
    split at h
    · rename_i a' cl' d' er eg
      obtain ⟨⟨rfl, rfl, rfl⟩, T, b, hk, q⟩ := h
      have hg := get_some eg (by simp)
      intro σ G H j en kk q'
      obtain ⟨v, h1, h2, re⟩ := en.at_ i _ hg
      exact ⟨er.cls, re.c, T, den_isX hg rfl k hk q σ G H j en kk q'⟩
    · exact h.elim⟩
def xf (a : Addr) (cls : Value) (d : Option Addr) (f : Str) (i : Nat) : X K := ⟨fun _ => tXfA K a cls d f (tVar i), fun Γ Q _ => match get Γ i with
  | .exc a' cl' d' er => (a' = a ∧ cl' = cls ∧ d' = d) ∧ (XfC K er.cls ∧ PySem.W.findIn K (.ref er.cls) f = some none) ∧ ∃ y, er.ns = [f] ∧ er.vs = [y] ∧ Q y Γ
  | _ => False, fun Z Γ Q e h => by
    subst e
    split at h
    · rename_i a' cl' d' er eg
      obtain ⟨⟨rfl, rfl, rfl⟩, ⟨T, hno⟩, y, hn, hv, q⟩ := h
      have hg := get_some eg (by simp)
      intro σ G H j en kk q'
      obtain ⟨v, h1, h2, re⟩ := en.at_ i _ hg
      exact ⟨er.cls, re.c, T, hno, den_xf hg rfl hn hv q σ G H j en kk q'⟩
    · exact h.elim⟩
end
end Cc
namespace Cc
open PySem L2 Ab
section
variable {P : Program} {w : World} {K : PySem.W.Frag} {mg : Str → Option Value} {base : Heap}
theorem fn_e {x qual : Str} {st : Stmt} {f : Addr} {fd : FuncData} {N ps : List Str} {k : Nat} (F : Fun K x qual st f fd) (Sc : FnScope N ps (defScope st)) (b : S K) (hl : ps.length ≤ N.length)
    (hbody : ∀ (cdv : Value) (A : Around) (outer : List PySem.Env) (s : Shared) (H : Hp) (E : XK) (W : WX), Room k (A.deeper (PyProof.Rows.envOfC qual (defScope st) s.heap.objs.size f cdv)) → Takes (cxOf (L2.CX P w) P w K mg base N qual (defScope st) f cdv A outer s H E) W →
      ∃ t, PSs (cxOf (L2.CX P w) P w K mg base N qual (defScope st) f cdv A outer s H E) (defBody st) t ∧ t = b.ts W) : FnOk P w K mg base (L2.CX P w) (k + 1) f fd ps (spW K ps.length (bodyW b N.length)) :=
  fn_w F Sc b hl fun cdv A outer s H E W hr tk => by
    obtain ⟨t, h, e⟩ := hbody cdv A outer s H E W hr tk
    rw [← e]; exact h
theorem init_e {qual : Str} {st : Stmt} {f C : Addr} {fd : FuncData} {N ps : List Str} {k : Nat} (F : Fun K "__init__" qual st f fd) (Sc : FnScope N ps (defScope st)) (fs : List Str) (b : S K) (hl : ps.length ≤ N.length) {n : Nat} (hn : ps.length = n + 1)
    (hbody : ∀ (cdv : Value) (A : Around) (outer : List PySem.Env) (s : Shared) (H : Hp) (E : XK) (W : WX), Room k (A.deeper (PyProof.Rows.envOfC qual (defScope st) s.heap.objs.size f cdv)) → Takes (cxOf (L2.CX P w) P w K mg base N qual (defScope st) f cdv A outer s H E) W →
      ∃ t, PSs (cxOf (L2.CX P w) P w K mg base N qual (defScope st) f cdv A outer s H E) (defBody st) t ∧ t = b.ts W) : FnOk P w K mg base (L2.CX P w) (k + 1) f fd ps (spIW K C n fs (bodyI b C fs N.length)) :=
  init_w F Sc fs b hl hn fun cdv A outer s H E W hr tk => by
    obtain ⟨t, h, e⟩ := hbody cdv A outer s H E W hr tk
    rw [← e]; exact h
end
end Cc
namespace L2
open PySem PySem.Spec PyProof.Rows
section
variable {X : Cx} (K : PySem.W.Frag) {o e : Expr} {to : TE} {t : TA} {apos cpos : Pos}
theorem k_countL (ho : PE X o to) (ha : PA X [e] t) (h : X.K = K := by rfl)
    (hbase : attributeBase o "count" X.env (eval o X.env) = eval o X.env := by rfl)
    (hfew : ((backTo cpos (starEach [e] X.env)).all (fun x => !x.1) && (backToKw cpos (keywordEach [] X.env)).all (fun x => x.1.isSome)
      && decide ([e].length + ([] : List Keyword).length + (if ([] : List Keyword).isEmpty then 0 else 1) < 30)) = true := by rfl)
    (hline : (apos.endLine == cpos.line) = true := by rfl) (hs : starEach [e] X.env = (false, eval e X.env) :: starEach [] X.env := by rfl) (hplain : (backTo cpos (starEach [] X.env)).any (·.1) = false := by rfl) :
    PE X (.Call (.Attribute o "count" apos) [e] [] cpos) (tBM K "list" (rCountF K) to t) := by
  subst h
  exact pe_bm PySem.F.plainAttrs_list PySem.F.slot_list_count PySem.F.type_list_count mt_countF ho ha hbase hfew hline hs hplain
theorem k_indexL (ho : PE X o to) (ha : PA X [e] t) (h : X.K = K := by rfl)
    (hbase : attributeBase o "index" X.env (eval o X.env) = eval o X.env := by rfl)
    (hfew : ((backTo cpos (starEach [e] X.env)).all (fun x => !x.1) && (backToKw cpos (keywordEach [] X.env)).all (fun x => x.1.isSome)
      && decide ([e].length + ([] : List Keyword).length + (if ([] : List Keyword).isEmpty then 0 else 1) < 30)) = true := by rfl)
    (hline : (apos.endLine == cpos.line) = true := by rfl) (hs : starEach [e] X.env = (false, eval e X.env) :: starEach [] X.env := by rfl) (hplain : (backTo cpos (starEach [] X.env)).any (·.1) = false := by rfl) :
    PE X (.Call (.Attribute o "index" apos) [e] [] cpos) (tBM K "list" (rIndex K) to t) := by
  subst h
  exact pe_bm PySem.F.plainAttrs_list PySem.F.slot_list_index PySem.F.type_list_index mt_index ho ha hbase hfew hline hs hplain
end
end L2
namespace L2
open PySem PySem.Spec PyProof.Rows
/-- an error that is made, as a value -/
def tMade (tm : St → Hp → XK → Prop) : TE := fun σ H Q => tm σ H fun cls d H1 => ∃ C, cls = .ref C ∧ ∀ a, H1 a = none → Q (.ref a) (upd H1 a (ExD a C d))
theorem pe_made {X : Cx} {e : Expr} {tm : St → Hp → XK → Prop} (h : PMk X e tm) : PE X e (tMade tm) := by
  refine ⟨fun pins s σ H Q I q => wpAny_mono (h pins s σ H _ I q) (fun u s1 hu => ?_) fun _ _ x => x⟩
  obtain ⟨a, oe, vs, sI, H', cls, d, rfl, J, k, hne, ha, hz, hd, h1, na, os, ag, r, C, ec, q⟩ := hu
  subst ec
  exact ⟨.ref a, upd H' a (ExD a C d), J.call' (ch := []) os (Un.laidN k hne na) (J.hok.laidN k na (exD_ok ha hz hd)) ag (fun b z => absurd z (by simp)), rfl, q a na⟩
/-- o.f of an error object -/
def tXv (K : PySem.W.Frag) (te : TE) (f : Str) : TE := fun σ H Q => te σ H fun x H1 => ∃ (a C dd : Addr) (fs : List (Str × V)) (v : V), x = .ref a ∧ H1 a = some (ExD a C (some dd)) ∧ (XfC K C ∧ PySem.W.findIn K (.ref C) f = some none) ∧ H1 dd = some (.xd fs) ∧ fs.lookup f = some v ∧ Q v H1
theorem pe_xv {X : Cx} {e : Expr} {te : TE} {pos : Pos} {n : Str} (he : PE X e te) (hb : attributeBase e n X.env (eval e X.env) = eval e X.env := by rfl) : PE X (.Attribute e n pos) (tXv X.K te n) := by
  refine ⟨fun pins s σ H Q I h => ?_⟩
  refine attr_of hb (thn (he.run pins s σ H _ I h) fun u s1 hh => ?_)
  obtain ⟨x, H1, I1, rx, a, C, dd, fs, v, ex, ha, ⟨T, hno⟩, ea, l, q⟩ := hh
  subst ex
  obtain rfl : u = Value.ref a := rx
  obtain ⟨oe, vs, hx0, hz, hd⟩ := exD_at I1.hok ha
  have hx : ObjOk X.prog X.w H1 s1.heap dd (.xd fs) := I1.hok dd _ ea
  obtain ⟨mA, hns, hr⟩ := hx
  obtain ⟨od, ho, hl⟩ := lookIn_ns hns
  obtain ⟨u, hu, ru⟩ := RelO.some_of (v := v) (o := mA n) (by rw [← l]; exact hr n)
  have J : PySem.W.InstAt s1.heap a oe C (some od) := ⟨hx0, hz.1, by unfold PySem.W.notCls; rw [hd] <;> rfl, by rw [hz.2]; exact ho⟩
  exact HandSPX.exc_get I1.kIn J T.ga T.gg T.exC (PySem.W.findObj_own T.hdC hno rfl (by rw [hl, hu])) (handed_of ru) ⟨v, H1, I1.tok _, ru, q⟩
/-- isinstance(e, c) of an error object -/
def rIsE (K : PySem.W.Frag) : List V → Hp → VK → Prop := fun vs H Q => ∃ (a C : Addr) (d : Option Addr) (c : V) (u : Value) (b : Bool), vs = [.ref a, c] ∧ H a = some (ExD a C d) ∧ (∀ dd, d = some dd → ∃ fs, H dd = some (.xd fs)) ∧ KitE K C ∧ ClsV c u ∧ PySem.W.kitOne K (.ref C) u = some b ∧ Q (.bl b) H
theorem cr_isE {X : Cx} : CallR X (.builtin "isinstance") (rIsE X.K) := by
  intro pins s σ H vs us Q I r h
  obtain ⟨a, C, d, c, u, b, rfl, ha, hd0, T, k, e, q⟩ := h
  obtain ⟨u1, u2, rfl, r1, r2⟩ := vals2 r
  have e2 := k.eq r2
  subst e2
  obtain rfl : u1 = Value.ref a := r1
  obtain ⟨oe, vs, hx, hz, hd⟩ := exD_at I.hok ha
  have key : ∃ od, PySem.W.InstAt s.heap a oe C od := by
    cases d with
    | none => exact ⟨none, hx, hz.1, by (unfold PySem.W.notCls; rw [hd]) <;> rfl, by rw [hz.2]; trivial⟩
    | some dd =>
      obtain ⟨fs, ea⟩ := hd0 dd rfl
      have xo : ObjOk X.prog X.w H s.heap dd (.xd fs) := I.hok dd _ ea
      obtain ⟨mA, hns, _⟩ := xo
      obtain ⟨od, ho, _⟩ := lookIn_ns hns
      exact ⟨some od, hx, hz.1, by (unfold PySem.W.notCls; rw [hd]) <;> rfl, by rw [hz.2]; exact ho⟩
  obtain ⟨od, J⟩ := key
  exact PySem.W.kia_one (PySem.W.kitx_exc T.cl T.xf.ga T.xf.gg T.xf.exC T.ha T.hn T.tk T.hm) I.kIn J e (fun z => nomatch z) fun tk => ⟨.bl b, H, I.tok tk, rfl, q⟩
theorem k_isE {X : Cx} (K : PySem.W.Frag) (h : X.K = K := by rfl) : CallR X (.builtin "isinstance") (rIsE K) := by subst h; exact cr_isE
/-- repr of data or of a new dict -/
def rReprD (K : PySem.W.Frag) : List V → Hp → VK → Prop := fun vs H Q => rRepr K vs H Q ∨ ∃ a, vs = [.ref a] ∧ H a = some (.dK []) ∧ Q (.str (PyData.shown (.dict []))) H
theorem k_reprD {X : Cx} (K : PySem.W.Frag) (hg : X.A.guards = some []) (hu : X.A.units + 64 < cLine) (hK : X.K = K := by rfl) : CallR X (.builtin "repr") (rReprD K) := by
  subst hK
  intro pins s σ H vs us Q I r h
  rcases h with h | ⟨a, rfl, ha, q⟩
  · exact cr_repr hg hu pins s σ H vs us Q I r h
  · obtain ⟨u, rfl, ru⟩ := vals1 r
    obtain rfl : u = Value.ref a := ru
    obtain ⟨z, hsm, ws, kv, o, es, ep, ho, hex, hdat, ks, pr, nd⟩ := dk_of I.hok ha
    have e0 : ws = [] := by cases kv; rfl
    subst e0
    have e1 : es.toList = [] := by cases hp : es.toList with
      | nil => rfl
      | cons x xs => rw [hp] at pr; cases pr
    have rd : Reads s.heap (.ref a) (.dict []) (a :: [] ++ []) := .dict ho hex.1 hdat (by rw [e1]; exact .nil) (by rw [e1]; exact .nil)
    have dp : (PyData.dict []).depth ≤ 60 := by decide
    exact repr_of_reads' rd (by decide) (fun _ m => by simp at m; rw [m] at hsm; simp at hsm) hg (by omega) (fun _ _ e => e) (fun h' w tk k => ⟨.str _, H, I.kept k, ⟨_, rfl⟩, q⟩)
section
variable {X : Cx} {P : Program} {w : World} {mg : Str → Option Value} {base : Heap} {x fn : Str} {C : Addr} {e : Expr} {es : List Expr} {ta : TA} {te : TE} {j : Nat} {p pos : Pos}
theorem k_xv (K : PySem.W.Frag) {n : Str} (he : PE X e te) (hK : X.K = K := by rfl) (hb : attributeBase e n X.env (eval e X.env) = eval e X.env := by rfl) : PE X (.Attribute e n pos) (tXv K te n) := by subst hK; exact pe_xv he hb
theorem k_lenSet (K : PySem.W.Frag) {p2 q : Pos} (hc : X.calm = true) (hg : Gl X "len") (hm : X.mg "len" = none) (hg2 : Gl X "set") (hm2 : X.mg "set" = none) (ha : PE X e te) (hK : X.K = K := by rfl)
    (na : starEach [e] X.env = (false, eval e X.env) :: starEach [] X.env := by rfl) : PE X (.Call (.Name "len" p) [.Call (.Name "set" p2) [e] [] q] [] pos) (tLenSetI K te) := by subst hK; exact pe_lenSetI hc hg hm hg2 hm2 ha na
end
end L2
namespace Ab
open PySem L2
section
variable {X : Cx} {P : Program} {w : World} {K : PySem.W.Frag} {mg : Str → Option Value} {base : Heap} {x fn : Str} {C : Addr} {e : Expr} {es : List Expr} {ta : TA} {j : Nat} {p pos : Pos}
theorem k_mkE (c : Exn1 P w K mg base x C fn) (hr : Room j X.A) (hk : 2 ≤ j) (hX : X.prog = P ∧ X.w = w ∧ X.K = K ∧ X.mg = mg ∧ X.base = base) (hg : Gl X x) (ha : PA X (e :: es) ta) (hdb : (x == ("__debug__" : Str)) = false := by decide)
    (he : starEach (e :: es) X.env = (false, eval e X.env) :: starEach es X.env := by rfl) (hpl : (backTo pos (starEach es X.env)).any (·.1) = false := by rfl) :
    PE X (.Call (.Name x p) (e :: es) [] pos) (tMade (tMkO C (spXI C fn) [] ta)) := by
  obtain ⟨rfl, rfl, rfl, rfl, rfl⟩ := hX
  obtain ⟨fI, fd, ps, h1, h2, h3, h4⟩ := c.ex
  exact pe_made (pmk_oex c.o h1 h2 h3 (hr.mono hk) h4 .nil passL hg c.m ha hdb he hpl)
theorem k_mkE0 (c : Exn0 P w K mg base x C) (hr : Room j X.A) (hk : 2 ≤ j) (hX : X.prog = P ∧ X.w = w ∧ X.K = K ∧ X.mg = mg ∧ X.base = base) (hg : Gl X x) (hdb : (x == ("__debug__" : Str)) = false := by decide) :
    PE X (.Call (.Name x p) [] [] pos) (tMade fun _ H Q => Q (.ref C) none H) := by
  obtain ⟨rfl, rfl, rfl, rfl, rfl⟩ := hX
  obtain ⟨fI, fd, ps, h1, h2, h3, h4⟩ := c.ex
  exact pe_made (pmk_plain c.o h1 h2 h3 (hr.mono hk) h4 hg c.m hdb)
end
end Ab
namespace Cc
open PySem L2 Ab
section
variable {K : PySem.W.Frag}
theorem mk_eH {H1 : Hp} {a dx C : Addr} {f : Str} {v : V} (ha : H1 a = none) : upd (del (upd (upd (upd H1 a (L2.exo a C none)) dx (exd dx [(f, v)])) a (L2.exo a C (some dx))) a) dx (.xd [(f, v)]) = upd H1 dx (.xd [(f, v)]) := by
  funext b
  by_cases h1 : b = dx
  · rw [h1, upd_same, upd_same]
  · rw [upd_ne h1, upd_ne h1]
    by_cases h2 : b = a
    · rw [h2, del_same, ha]
    · rw [del_ne h2, upd_ne h2, upd_ne h1, upd_ne h2]
theorem den_mkE {Z : Cz} {Γ : List B} {te : TE} {C : Addr} {f : Str} {Q : D → List B → Prop} (h : Den Z te Γ fun _ Γ1 => Q (.exo C) Γ1) : Den Z (tMade (tMkO C (spXI C f) [] (tCons te tNil))) Γ Q := fun σ G H j e k kk =>
  h σ G H j e _ fun x Γ1 v G1 H1 q s1 j1 e1 r1 => ⟨(by show 1 ≤ 1000; decide), fun a ha => ⟨a, v, rfl, upd_same, fun dx hd ne => by
    have hd1 : H1 dx = none := by rw [upd_ne ne] at hd; exact hd
    refine ⟨rfl, dx, [(f, v)], upd_same, by rw [upd_ne ne, upd_same], hd1, C, rfl, fun a2 ha2 => ?_⟩
    rw [mk_eH ha] at ha2 ⊢
    have n2 : dx ≠ a2 := fun z => by rw [z, upd_same] at ha2; cases ha2
    have j2 := j1.new (o := .xd [(f, v)]) hd1
    exact kk _ Γ1 _ (upd (upd G1 dx (.xd [(f, v)])) a2 (ExD a2 C (some dx))) _ q (s1.trans ((Sp1.of (j1.sp hd1)).trans (Sp1.of (j2.sp ha2)))) (j2.new ha2) ((e1.new j1.toJ0 hd1).new j2.toJ0 ha2) (.exo upd_same fun dd z => by cases z; exact ⟨_, (upd_ne n2).trans upd_same⟩)⟩⟩
theorem den_mkF {Z : Cz} {Γ : List B} {te : TE} {C : Addr} {f : Str} {Q : D → List B → Prop} (T : XfC Z.K C) (hno : PySem.W.findIn Z.K (.ref C) f = some none) (h : Den Z te Γ Q) : Den Z (tXv Z.K (tMade (tMkO C (spXI C f) [] (tCons te tNil))) f) Γ Q := fun σ G H j e k kk =>
  h σ G H j e _ fun x Γ1 v G1 H1 q s1 j1 e1 r1 => ⟨(by show 1 ≤ 1000; decide), fun a ha => ⟨a, v, rfl, upd_same, fun dx hd ne => by
    have hd1 : H1 dx = none := by rw [upd_ne ne] at hd; exact hd
    refine ⟨rfl, dx, [(f, v)], upd_same, by rw [upd_ne ne, upd_same], hd1, C, rfl, fun a2 ha2 => ?_⟩
    rw [mk_eH ha] at ha2 ⊢
    have n2 : dx ≠ a2 := fun z => by rw [z, upd_same] at ha2; cases ha2
    have j2 := j1.new (o := .xd [(f, v)]) hd1
    refine ⟨a2, C, dx, [(f, v)], v, rfl, upd_same, ⟨T, hno⟩, (upd_ne n2).trans upd_same, by simp [List.lookup], ?_⟩
    have s3 : Sp1 Z σ Γ1 Γ1 G1 H1 (upd (upd G1 dx (.xd [(f, v)])) a2 (ExD a2 C (some dx))) (upd (upd H1 dx (.xd [(f, v)])) a2 (ExD a2 C (some dx))) := (Sp1.of (j1.sp hd1)).trans (Sp1.of (j2.sp ha2))
    exact kk _ Γ1 _ _ _ q (s1.trans s3) (j2.new ha2) ((e1.new j1.toJ0 hd1).new j2.toJ0 ha2) (r1.mono s3.ex)⟩⟩
def mkE (C : Addr) (f : Str) (x : X K) : X K := ⟨fun W => tMade (tMkO C (spXI C f) [] (tCons (x.te W) tNil)), fun Γ Q E => x.wp Γ (fun _ Γ1 => Q (.exo C) Γ1) E, fun Z Γ Q e h => den_mkE (x.ok Z Γ _ e h)⟩
def mkF (C : Addr) (f : Str) (x : X K) : X K := ⟨fun W => tXv K (tMade (tMkO C (spXI C f) [] (tCons (x.te W) tNil))) f, fun Γ Q E => (XfC K C ∧ PySem.W.findIn K (.ref C) f = some none) ∧ x.wp Γ Q E, fun Z Γ Q e h => by
  subst e; exact den_mkF h.1.1 h.1.2 (x.ok Z Γ _ rfl h.2)⟩
def mkE0 (C : Addr) : X K := ⟨fun _ => tMade fun _ H Q => Q (.ref C) none H, fun Γ Q _ => Q (.exo C) Γ, fun Z Γ Q e q => fun σ G H j e k kk =>
  ⟨C, rfl, fun a ha => kk _ Γ _ (upd G a (ExD a C none)) _ q (.of (j.sp ha)) (j.new ha) (e.new j.toJ0 ha) (.exo upd_same fun _ z => by cases z)⟩⟩
def isEW (K : PySem.W.Frag) (xs : List D) (Q : D → Prop) : Prop := match xs with
  | [.exo C, .cls C'] => KitE K C ∧ ∃ b, PySem.W.kitOne K (.ref C) (.ref C') = some b ∧ Q (.bl b)
  | [.exo C, .ty T] => KitE K C ∧ ∃ b, PySem.W.kitOne K (.ref C) (.type T) = some b ∧ Q (.bl b)
  | _ => False
def isE : Bi K := ⟨rIsE K, isEW K, fun Z xs Q e h => by
  subst e
  unfold isEW at h
  split at h
  · obtain ⟨T, b, hk, q⟩ := h
    intro G H us jj r kk fin
    cases r with
    | cons a c => cases c with
      | cons c d =>
        cases d; cases c
        cases a with
        | exo g1 g2 => exact ⟨_, _, _, _, _, b, rfl, jj.sub _ _ g1, fun dd z => (g2 dd z).imp fun _ q => jj.sub _ _ q, T, .own _, hk, fin _ _ G H q jj.enter (.bl _)⟩
  · obtain ⟨T, b, hk, q⟩ := h
    intro G H us jj r kk fin
    cases r with
    | cons a c => cases c with
      | cons c d =>
        cases d; cases c
        cases a with
        | exo g1 g2 => exact ⟨_, _, _, _, _, b, rfl, jj.sub _ _ g1, fun dd z => (g2 dd z).imp fun _ q => jj.sub _ _ q, T, .ty _, hk, fin _ _ G H q jj.enter (.bl _)⟩
  · exact h.elim⟩
def reprW (xs : List D) (Q : D → Prop) : Prop := match xs with
  | [.dic] => Q (.str (PyData.shown (.dict [])))
  | [x] => ShowOk x ∧ Q (.str (pyD x).shown)
  | _ => False
def reprD : Bi K := ⟨rReprD K, reprW, fun Z xs Q e h => by
  subst e
  unfold reprW at h
  split at h
  · intro G H us jj r kk fin
    cases r with
    | cons a c =>
      cases c
      cases a with
      | dic g => exact .inr ⟨_, rfl, jj.sub _ _ g, fin _ _ G H h jj.enter (.str _)⟩
  · intro G H us jj r kk fin
    exact .inl (cad_repr h.1 h.2 G H us jj r kk fin)
  · exact h.elim⟩
def lenSet (x : X K) : X K := ⟨fun W => tLenSetI K (x.te W), fun Γ Q E => x.wp Γ (fun d Γ1 => match d with
  | .lst ds => ∃ ns : List Int, ds = ns.map D.int ∧ ns.length < 64 ∧ ns.Nodup ∧ Q (.int ns.length) Γ1
  | _ => False) E, fun Z Γ Q e h => by
  subst e
  intro σ G H j en k kk
  refine x.ok Z Γ _ rfl h σ G H j en _ fun d Γ1 v G1 H1 q s1 j1 e1 r1 => ?_
  split at q
  · obtain ⟨ns, rfl, hl, hn, q⟩ := q
    cases r1 with
    | @lst l xs _ g1 rs =>
      have := ints_vs rs
      subst this
      exact ⟨l, ns, rfl, .inl (.inl (j1.sub _ _ g1)), hl, hn, kk _ Γ1 _ G1 H1 q s1 j1 e1 (.int _)⟩
  · exact q.elim⟩
theorem e_te_mkE (C : Addr) (f : Str) (x : X K) (W : WX) : (mkE C f x : X K).te W = tMade (tMkO C (spXI C f) [] (tCons (x.te W) tNil)) := rfl
theorem e_wp_mkE (C : Addr) (f : Str) (x : X K) (Γ : List B) (Q : D → List B → Prop) (E : EX) : (mkE C f x : X K).wp Γ Q E = x.wp Γ (fun _ Γ1 => Q (.exo C) Γ1) E := rfl
theorem e_te_mkF (C : Addr) (f : Str) (x : X K) (W : WX) : (mkF C f x : X K).te W = tXv K (tMade (tMkO C (spXI C f) [] (tCons (x.te W) tNil))) f := rfl
theorem e_wp_mkF (C : Addr) (f : Str) (x : X K) (Γ : List B) (Q : D → List B → Prop) (E : EX) : (mkF C f x : X K).wp Γ Q E = ((XfC K C ∧ PySem.W.findIn K (.ref C) f = some none) ∧ x.wp Γ Q E) := rfl
theorem e_te_mkE0 (C : Addr) (W : WX) : (mkE0 C : X K).te W = tMade fun _ H Q => Q (.ref C) none H := rfl
theorem e_wp_mkE0 (C : Addr) (Γ : List B) (Q : D → List B → Prop) (E : EX) : (mkE0 C : X K).wp Γ Q E = Q (.exo C) Γ := rfl
theorem e_r_isE : (isE : Bi K).r = rIsE K := rfl
theorem e_wp_isE : (isE : Bi K).wp = isEW K := rfl
theorem e_r_reprD : (reprD : Bi K).r = rReprD K := rfl
theorem e_wp_reprD : (reprD : Bi K).wp = reprW := rfl
theorem e_te_lenSet (x : X K) (W : WX) : (lenSet x : X K).te W = tLenSetI K (x.te W) := rfl
theorem e_wp_lenSet (x : X K) (Γ : List B) (Q : D → List B → Prop) (E : EX) : (lenSet x : X K).wp Γ Q E = x.wp Γ (fun d Γ1 => match d with
  | .lst ds => ∃ ns : List Int, ds = ns.map D.int ∧ ns.length < 64 ∧ ns.Nodup ∧ Q (.int ns.length) Γ1
  | _ => False) E := rfl
end
end Cc
namespace Cc
open PySem L2 Ab StX
section
variable {K : PySem.W.Frag}
theorem e_te_v (i : Nat) (W : WX) : (Cc.v i : X K).te W = (fun _ => tVar i : WX → TE) W := rfl
theorem e_wp_v (i : Nat) (Γ : List B) (Q : D → List B → Prop) (E : EX) : (Cc.v i : X K).wp Γ Q E = (fun Γ Q _ => varW Γ i Q : List B → (D → List B → Prop) → EX → Prop) Γ Q E := rfl
theorem e_te_vr (i : Nat) (W : WX) : (Cc.vr i : X K).te W = (fun _ => tVar i : WX → TE) W := rfl
theorem e_wp_vr (i : Nat) (Γ : List B) (Q : D → List B → Prop) (E : EX) : (Cc.vr i : X K).wp Γ Q E = (fun Γ Q _ => match get Γ i with
  | .d x => Q x Γ
  | _ => False : List B → (D → List B → Prop) → EX → Prop) Γ Q E := rfl
theorem e_te_wk (x : X K) (W : WX) : (Cc.wk x : X K).te W = (x.te : WX → TE) W := rfl
theorem e_wp_wk (x : X K) (Γ : List B) (Q : D → List B → Prop) (E : EX) : (Cc.wk x : X K).wp Γ Q E = (fun Γ Q E => x.wp Γ (fun d Γ' => Q (unx d) Γ') E : List B → (D → List B → Prop) → EX → Prop) Γ Q E := rfl
theorem e_te_int (i : Int) (W : WX) : (Cc.int i : X K).te W = (fun _ => tC (.int i) : WX → TE) W := rfl
theorem e_wp_int (i : Int) (Γ : List B) (Q : D → List B → Prop) (E : EX) : (Cc.int i : X K).wp Γ Q E = (fun Γ Q _ => Q (.int i) Γ : List B → (D → List B → Prop) → EX → Prop) Γ Q E := rfl
theorem e_te_bl (b : Bool) (W : WX) : (Cc.bl b : X K).te W = (fun _ => tC (.bl b) : WX → TE) W := rfl
theorem e_wp_bl (b : Bool) (Γ : List B) (Q : D → List B → Prop) (E : EX) : (Cc.bl b : X K).wp Γ Q E = (fun Γ Q _ => Q (.bl b) Γ : List B → (D → List B → Prop) → EX → Prop) Γ Q E := rfl
theorem e_te_non (W : WX) : (Cc.non : X K).te W = (fun _ => tC .non : WX → TE) W := rfl
theorem e_wp_non (Γ : List B) (Q : D → List B → Prop) (E : EX) : (Cc.non : X K).wp Γ Q E = (fun Γ Q _ => Q .non Γ : List B → (D → List B → Prop) → EX → Prop) Γ Q E := rfl
theorem e_te_str (x : Str) (W : WX) : (Cc.str x : X K).te W = (fun _ => tC (.str x) : WX → TE) W := rfl
theorem e_wp_str (x : Str) (Γ : List B) (Q : D → List B → Prop) (E : EX) : (Cc.str x : X K).wp Γ Q E = (fun Γ Q _ => Q (.str x) Γ : List B → (D → List B → Prop) → EX → Prop) Γ Q E := rfl
theorem e_te_ty (t : String) (W : WX) : (Cc.ty t : X K).te W = (fun _ => tC (.ty t) : WX → TE) W := rfl
theorem e_wp_ty (t : String) (Γ : List B) (Q : D → List B → Prop) (E : EX) : (Cc.ty t : X K).wp Γ Q E = (fun Γ Q _ => Q (.ty t) Γ : List B → (D → List B → Prop) → EX → Prop) Γ Q E := rfl
theorem e_te_cls (C : Addr) (W : WX) : (Cc.cls C : X K).te W = (fun _ => tC (.ref C) : WX → TE) W := rfl
theorem e_wp_cls (C : Addr) (Γ : List B) (Q : D → List B → Prop) (E : EX) : (Cc.cls C : X K).wp Γ Q E = (fun Γ Q _ => Q (.cls C) Γ : List B → (D → List B → Prop) → EX → Prop) Γ Q E := rfl
theorem e_te_con (a : Addr) (d : D) (W : WX) : (Cc.con a d : X K).te W = (fun _ => tC (.ref a) : WX → TE) W := rfl
theorem e_wp_con (a : Addr) (d : D) (Γ : List B) (Q : D → List B → Prop) (E : EX) : (Cc.con a d : X K).wp Γ Q E = (fun Γ Q _ => KRp K a d ∧ Q d Γ : List B → (D → List B → Prop) → EX → Prop) Γ Q E := rfl
theorem e_te_a0 (W : WX) : (Cc.a0 : A K).ta W = (fun _ => tNil : WX → TA) W := rfl
theorem e_wp_a0 (Γ : List B) (Q : List D → List B → Prop) (E : EX) : (Cc.a0 : A K).wp Γ Q E = (fun Γ Q _ => Q [] Γ : List B → (List D → List B → Prop) → EX → Prop) Γ Q E := rfl
theorem e_te_ac (x : X K) (r : A K) (W : WX) : (Cc.ac x r : A K).ta W = (fun W => tCons (x.te W) (r.ta W) : WX → TA) W := rfl
theorem e_wp_ac (x : X K) (r : A K) (Γ : List B) (Q : List D → List B → Prop) (E : EX) : (Cc.ac x r : A K).wp Γ Q E = (fun Γ Q E => x.wp Γ (fun d Γ1 => r.wp Γ1 (fun ds Γ2 => Q (d :: ds) Γ2) E) E : List B → (List D → List B → Prop) → EX → Prop) Γ Q E := rfl
theorem e_te_tup (r : A K) (W : WX) : (Cc.tup r : X K).te W = (fun W => tTup (r.ta W) : WX → TE) W := rfl
theorem e_wp_tup (r : A K) (Γ : List B) (Q : D → List B → Prop) (E : EX) : (Cc.tup r : X K).wp Γ Q E = (fun Γ Q E => r.wp Γ (fun ds Γ1 => ds.length ≤ 100000 ∧ Q (.tup ds) Γ1) E : List B → (D → List B → Prop) → EX → Prop) Γ Q E := rfl
theorem e_te_dic (W : WX) : (Cc.dic : X K).te W = (fun _ => tDNewK : WX → TE) W := rfl
theorem e_wp_dic (Γ : List B) (Q : D → List B → Prop) (E : EX) : (Cc.dic : X K).wp Γ Q E = (fun Γ Q _ => Q .dic Γ : List B → (D → List B → Prop) → EX → Prop) Γ Q E := rfl
theorem e_te_lst (r : A K) (W : WX) : (Cc.lst r : L K).te W = (fun W => tLst (r.ta W) : WX → TE) W := rfl
theorem e_wp_lst (r : A K) (Γ : List B) (Q : List D → List B → Prop) (E : EX) : (Cc.lst r : L K).wp Γ Q E = (fun Γ Q E => r.wp Γ (fun ds Γ1 => ds.length ≤ 100000 ∧ Q ds Γ1) E : List B → (List D → List B → Prop) → EX → Prop) Γ Q E := rfl
theorem e_te_ofL (l : L K) (W : WX) : (Cc.ofL l : X K).te W = (l.te : WX → TE) W := rfl
theorem e_wp_ofL (l : L K) (Γ : List B) (Q : D → List B → Prop) (E : EX) : (Cc.ofL l : X K).wp Γ Q E = (fun Γ Q E => l.wp Γ (fun ds Γ1 => Q (.lst ds) Γ1) E : List B → (D → List B → Prop) → EX → Prop) Γ Q E := rfl
theorem e_te_op (o : O2 K) (a b : X K) (W : WX) : (Cc.op o a b : X K).te W = (fun W => tOp o.r (a.te W) (b.te W) : WX → TE) W := rfl
theorem e_wp_op (o : O2 K) (a b : X K) (Γ : List B) (Q : D → List B → Prop) (E : EX) : (Cc.op o a b : X K).wp Γ Q E = (fun Γ Q E => a.wp Γ (fun x Γ1 => b.wp Γ1 (fun y Γ2 => o.wp x y fun d => Q d Γ2) E) E : List B → (D → List B → Prop) → EX → Prop) Γ Q E := rfl
theorem e_te_nt (a : X K) (W : WX) : (Cc.nt a : X K).te W = (fun W => tNotV (a.te W) : WX → TE) W := rfl
theorem e_wp_nt (a : X K) (Γ : List B) (Q : D → List B → Prop) (E : EX) : (Cc.nt a : X K).wp Γ Q E = (fun Γ Q E => a.wp Γ (fun x Γ1 => isBl x fun b => Q (.bl (!b)) Γ1) E : List B → (D → List B → Prop) → EX → Prop) Γ Q E := rfl
theorem e_te_and (a b : X K) (W : WX) : (Cc.and a b : X K).te W = (fun W => tAndV (a.te W) (b.te W) : WX → TE) W := rfl
theorem e_wp_and (a b : X K) (Γ : List B) (Q : D → List B → Prop) (E : EX) : (Cc.and a b : X K).wp Γ Q E = (fun Γ Q E => a.wp Γ (fun x Γ1 => isBl x fun c => if c = true then b.wp Γ1 Q E else Q (.bl false) Γ1) E : List B → (D → List B → Prop) → EX → Prop) Γ Q E := rfl
theorem e_te_or (a b : X K) (W : WX) : (Cc.or a b : X K).te W = (fun W => tOrV (a.te W) (b.te W) : WX → TE) W := rfl
theorem e_wp_or (a b : X K) (Γ : List B) (Q : D → List B → Prop) (E : EX) : (Cc.or a b : X K).wp Γ Q E = (fun Γ Q E => a.wp Γ (fun x Γ1 => isBl x fun c => if c = true then Q (.bl true) Γ1 else b.wp Γ1 Q E) E : List B → (D → List B → Prop) → EX → Prop) Γ Q E := rfl
theorem e_te_chain (o o' : O2 K) (a b c : X K) (W : WX) : (Cc.chain o o' a b c : X K).te W = (fun W => tChain o.r o'.r (a.te W) (b.te W) (c.te W) : WX → TE) W := rfl
theorem e_wp_chain (o o' : O2 K) (a b c : X K) (Γ : List B) (Q : D → List B → Prop) (E : EX) : (Cc.chain o o' a b c : X K).wp Γ Q E = (fun Γ Q E => a.wp Γ (fun x Γ1 => b.wp Γ1 (fun y Γ2 => o.wp x y fun d => isBl d fun k => if k = true then c.wp Γ2 (fun z Γ3 => o'.wp y z fun d => Q d Γ3) E else Q (.bl false) Γ2) E) E : List B → (D → List B → Prop) → EX → Prop) Γ Q E := rfl
theorem e_te_neg (a : X K) (W : WX) : (Cc.neg a : X K).te W = (fun W => tUn (rU fun i => .int (-i)) (a.te W) : WX → TE) W := rfl
theorem e_wp_neg (a : X K) (Γ : List B) (Q : D → List B → Prop) (E : EX) : (Cc.neg a : X K).wp Γ Q E = (fun Γ Q E => a.wp Γ (fun x Γ1 => match x with | .int i => Q (.int (-i)) Γ1 | _ => False) E : List B → (D → List B → Prop) → EX → Prop) Γ Q E := rfl
theorem e_te_isN (a : X K) (W : WX) : (Cc.isN a : X K).te W = (fun W => tIsN (a.te W) : WX → TE) W := rfl
theorem e_wp_isN (a : X K) (Γ : List B) (Q : D → List B → Prop) (E : EX) : (Cc.isN a : X K).wp Γ Q E = (fun Γ Q E => a.wp Γ (fun x Γ1 => Q (.bl (isNon x)) Γ1) E : List B → (D → List B → Prop) → EX → Prop) Γ Q E := rfl
theorem e_te_notN (a : X K) (W : WX) : (Cc.notN a : X K).te W = (fun W => tNotN (a.te W) : WX → TE) W := rfl
theorem e_wp_notN (a : X K) (Γ : List B) (Q : D → List B → Prop) (E : EX) : (Cc.notN a : X K).wp Γ Q E = (fun Γ Q E => a.wp Γ (fun x Γ1 => Q (.bl (!isNon x)) Γ1) E : List B → (D → List B → Prop) → EX → Prop) Γ Q E := rfl
theorem e_te_tst (a : X K) (W : WX) : (Cc.tst a : T K).tt W = (fun W => tTest (a.te W) : WX → TT) W := rfl
theorem e_wp_tst (a : X K) (Γ : List B) (Q : Bool → List B → Prop) (E : EX) : (Cc.tst a : T K).wp Γ Q E = (fun Γ Q E => a.wp Γ (fun x Γ1 => isBl x fun b => Q b Γ1) E : List B → (Bool → List B → Prop) → EX → Prop) Γ Q E := rfl
theorem e_te_tB' (a : X K) (W : WX) : (Cc.tB' a : T K).tt W = (fun W => tB (a.te W) : WX → TT) W := rfl
theorem e_wp_tB' (a : X K) (Γ : List B) (Q : Bool → List B → Prop) (E : EX) : (Cc.tB' a : T K).wp Γ Q E = (fun Γ Q E => a.wp Γ (fun x Γ1 => isBl x fun b => Q b Γ1) E : List B → (Bool → List B → Prop) → EX → Prop) Γ Q E := rfl
theorem e_te_tand (a b : T K) (W : WX) : (Cc.tand a b : T K).tt W = (fun W => tAnd (a.tt W) (b.tt W) : WX → TT) W := rfl
theorem e_wp_tand (a b : T K) (Γ : List B) (Q : Bool → List B → Prop) (E : EX) : (Cc.tand a b : T K).wp Γ Q E = (fun Γ Q E => a.wp Γ (fun c Γ1 => if c = true then b.wp Γ1 Q E else Q false Γ1) E : List B → (Bool → List B → Prop) → EX → Prop) Γ Q E := rfl
theorem e_te_tor (a b : T K) (W : WX) : (Cc.tor a b : T K).tt W = (fun W => tOr (a.tt W) (b.tt W) : WX → TT) W := rfl
theorem e_wp_tor (a b : T K) (Γ : List B) (Q : Bool → List B → Prop) (E : EX) : (Cc.tor a b : T K).wp Γ Q E = (fun Γ Q E => a.wp Γ (fun c Γ1 => if c = true then Q true Γ1 else b.wp Γ1 Q E) E : List B → (Bool → List B → Prop) → EX → Prop) Γ Q E := rfl
theorem e_te_tnot (a : T K) (W : WX) : (Cc.tnot a : T K).tt W = (fun W => tNot (a.tt W) : WX → TT) W := rfl
theorem e_wp_tnot (a : T K) (Γ : List B) (Q : Bool → List B → Prop) (E : EX) : (Cc.tnot a : T K).wp Γ Q E = (fun Γ Q E => a.wp Γ (fun c Γ1 => Q (!c) Γ1) E : List B → (Bool → List B → Prop) → EX → Prop) Γ Q E := rfl
theorem e_te_tyes (W : WX) : (Cc.tyes : T K).tt W = (fun _ => tYes : WX → TT) W := rfl
theorem e_wp_tyes (Γ : List B) (Q : Bool → List B → Prop) (E : EX) : (Cc.tyes : T K).wp Γ Q E = (fun Γ Q _ => Q true Γ : List B → (Bool → List B → Prop) → EX → Prop) Γ Q E := rfl
theorem e_te_ife (t : T K) (a b : X K) (W : WX) : (Cc.ife t a b : X K).te W = (fun W => tIf (t.tt W) (a.te W) (b.te W) : WX → TE) W := rfl
theorem e_wp_ife (t : T K) (a b : X K) (Γ : List B) (Q : D → List B → Prop) (E : EX) : (Cc.ife t a b : X K).wp Γ Q E = (fun Γ Q E => t.wp Γ (fun c Γ1 => if c = true then a.wp Γ1 Q E else b.wp Γ1 Q E) E : List B → (D → List B → Prop) → EX → Prop) Γ Q E := rfl
theorem e_te_bi (f : Bi K) (r : A K) (W : WX) : (Cc.bi f r : X K).te W = (fun W => tCB f.r (r.ta W) : WX → TE) W := rfl
theorem e_wp_bi (f : Bi K) (r : A K) (Γ : List B) (Q : D → List B → Prop) (E : EX) : (Cc.bi f r : X K).wp Γ Q E = (fun Γ Q E => r.wp Γ (fun ds Γ1 => f.wp ds fun d => Q d Γ1) E : List B → (D → List B → Prop) → EX → Prop) Γ Q E := rfl
theorem e_te_o0 (W : WX) : (Cc.o0 : O K).to W = (fun _ => tNoPart : WX → TO) W := rfl
theorem e_wp_o0 (Γ : List B) (Q : Option Int → List B → Prop) (E : EX) : (Cc.o0 : O K).wp Γ Q E = (fun Γ Q _ => Q none Γ : List B → (Option Int → List B → Prop) → EX → Prop) Γ Q E := rfl
theorem e_te_o1 (a : X K) (W : WX) : (Cc.o1 a : O K).to W = (fun W => tPart (a.te W) : WX → TO) W := rfl
theorem e_wp_o1 (a : X K) (Γ : List B) (Q : Option Int → List B → Prop) (E : EX) : (Cc.o1 a : O K).wp Γ Q E = (fun Γ Q E => a.wp Γ (fun x Γ1 => isI x fun i => Q (some i) Γ1) E : List B → (Option Int → List B → Prop) → EX → Prop) Γ Q E := rfl
theorem e_te_sl (a : X K) (lo hi : O K) (W : WX) : (Cc.sl a lo hi : X K).te W = (fun W => tSl (rSlG K) (a.te W) (lo.to W) (hi.to W) : WX → TE) W := rfl
theorem e_wp_sl (a : X K) (lo hi : O K) (Γ : List B) (Q : D → List B → Prop) (E : EX) : (Cc.sl a lo hi : X K).wp Γ Q E = (fun Γ Q E => a.wp Γ (fun x Γ1 => lo.wp Γ1 (fun l Γ2 => hi.wp Γ2 (fun h Γ3 => ∃ d, slR l h x = some d ∧ Q d Γ3) E) E) E : List B → (D → List B → Prop) → EX → Prop) Γ Q E := rfl
theorem e_te_fld (a : X K) (f : Str) (W : WX) : (Cc.fld a f : X K).te W = (fun W => tFld K (a.te W) f : WX → TE) W := rfl
theorem e_wp_fld (a : X K) (f : Str) (Γ : List B) (Q : D → List B → Prop) (E : EX) : (Cc.fld a f : X K).wp Γ Q E = (fun Γ Q E => a.wp Γ (fun x Γ1 => match x with | .obj C ns vs => Cls K C ∧ NoAttr K C f ∧ ∃ d, (ns.zip vs).lookup f = some d ∧ Q d Γ1 | _ => False) E : List B → (D → List B → Prop) → EX → Prop) Γ Q E := rfl
theorem e_g_nm (i : Nat) : (Cc.nm i : G K).g = gName i := rfl
theorem e_wp_nm (i : Nat) : (Cc.nm i : G K).wp = fun x Γ Q => Q (put Γ i (.d x)) := rfl
theorem e_vs_nm (i : Nat) : (Cc.nm i : G K).vs = [i] := rfl
theorem e_g_g0 : (Cc.g0 : Gs K).g = gNil := rfl
theorem e_wp_g0 : (Cc.g0 : Gs K).wp = fun xs Γ Q => xs = [] ∧ Q Γ := rfl
theorem e_vs_g0 : (Cc.g0 : Gs K).vs = [] := rfl
theorem e_g_gc (a : G K) (b : Gs K) : (Cc.gc a b : Gs K).g = gCons a.g b.g := rfl
theorem e_wp_gc (a : G K) (b : Gs K) : (Cc.gc a b : Gs K).wp = fun xs Γ Q => match xs with | x :: r => a.wp x Γ fun Γ1 => b.wp r Γ1 Q | [] => False := rfl
theorem e_vs_gc (a : G K) (b : Gs K) : (Cc.gc a b : Gs K).vs = a.vs ++ b.vs := rfl
theorem e_g_gt (n : Nat) (b : Gs K) : (Cc.gt n b : G K).g = gTup K n b.g := rfl
theorem e_wp_gt (n : Nat) (b : Gs K) : (Cc.gt n b : G K).wp = fun x Γ Q => match x with | .tup xs => xs.length = n ∧ b.wp xs Γ Q | _ => False := rfl
theorem e_vs_gt (n : Nat) (b : Gs K) : (Cc.gt n b : G K).vs = b.vs := rfl
theorem e_te_iseq (a : X K) (W : WX) : (Cc.iseq a : I K).wi W = (fun W => iSeq K (a.te W) : WX → TI) W := rfl
theorem e_wp_iseq (a : X K) (Γ : List B) (Q : List D → List B → Prop) (E : EX) : (Cc.iseq a : I K).wp Γ Q E = (fun Γ Q E => a.wp Γ (fun x Γ1 => isSq x fun xs => Q xs Γ1) E : List B → (List D → List B → Prop) → EX → Prop) Γ Q E := rfl
theorem e_te_irg1 (a : A K) (W : WX) : (Cc.irg1 a : I K).wi W = (fun W => iRng1 (a.ta W) : WX → TI) W := rfl
theorem e_wp_irg1 (a : A K) (Γ : List B) (Q : List D → List B → Prop) (E : EX) : (Cc.irg1 a : I K).wp Γ Q E = (fun Γ Q E => a.wp Γ (fun xs Γ1 => rg1W xs fun ys => Q ys Γ1) E : List B → (List D → List B → Prop) → EX → Prop) Γ Q E := rfl
theorem e_te_irg2 (a : A K) (W : WX) : (Cc.irg2 a : I K).wi W = (fun W => iRng2 (a.ta W) : WX → TI) W := rfl
theorem e_wp_irg2 (a : A K) (Γ : List B) (Q : List D → List B → Prop) (E : EX) : (Cc.irg2 a : I K).wp Γ Q E = (fun Γ Q E => a.wp Γ (fun xs Γ1 => rg2W xs fun ys => Q ys Γ1) E : List B → (List D → List B → Prop) → EX → Prop) Γ Q E := rfl
theorem e_te_ienum (a : A K) (W : WX) : (Cc.ienum a : I K).wi W = (fun W => iEnumA K (a.ta W) : WX → TI) W := rfl
theorem e_wp_ienum (a : A K) (Γ : List B) (Q : List D → List B → Prop) (E : EX) : (Cc.ienum a : I K).wp Γ Q E = (fun Γ Q E => a.wp Γ (fun xs Γ1 => en1W xs fun ys => Q ys Γ1) E : List B → (List D → List B → Prop) → EX → Prop) Γ Q E := rfl
theorem e_te_izip (a : A K) (W : WX) : (Cc.izip a : I K).wi W = (fun W => RZ.iZipA K (a.ta W) : WX → TI) W := rfl
theorem e_wp_izip (a : A K) (Γ : List B) (Q : List D → List B → Prop) (E : EX) : (Cc.izip a : I K).wp Γ Q E = (fun Γ Q E => a.wp Γ (fun xs Γ1 => zipW xs fun ys => Q ys Γ1) E : List B → (List D → List B → Prop) → EX → Prop) Γ Q E := rfl
theorem e_te_bor (x : X K) (W : WX) : (Cc.bor x : X K).te W = (x.te : WX → TE) W := rfl
theorem e_wp_bor (x : X K) (Γ : List B) (Q : D → List B → Prop) (E : EX) : (Cc.bor x : X K).wp Γ Q E = (fun Γ Q E => noOb Γ = true ∧ x.wp (frz Γ) (fun d Γ' => Γ' = frz Γ ∧ noL d = true ∧ Q d Γ) E : List B → (D → List B → Prop) → EX → Prop) Γ Q E := rfl
theorem e_te_borL (x : L K) (W : WX) : (Cc.borL x : L K).te W = (x.te : WX → TE) W := rfl
theorem e_wp_borL (x : L K) (Γ : List B) (Q : List D → List B → Prop) (E : EX) : (Cc.borL x : L K).wp Γ Q E = (fun Γ Q E => noOb Γ = true ∧ x.wp (frz Γ) (fun d Γ' => Γ' = frz Γ ∧ noLs d = true ∧ Q d Γ) E : List B → (List D → List B → Prop) → EX → Prop) Γ Q E := rfl
theorem e_te_app (i : Nat) (x : X K) (W : WX) : (Cc.app i x : X K).te W = (fun W => tBM K "list" rAppend (tVar i) (tCons (x.te W) tNil) : WX → TE) W := rfl
theorem e_wp_app (i : Nat) (x : X K) (Γ : List B) (Q : D → List B → Prop) (E : EX) : (Cc.app i x : X K).wp Γ Q E = (fun Γ Q E => isOwn (get Γ i) fun _ => x.wp Γ (fun d Γ1 => isOwn (get Γ1 i) fun xs => xs.length < 100000 ∧ Q .non (put Γ1 i (.own (xs ++ [d])))) E : List B → (D → List B → Prop) → EX → Prop) Γ Q E := rfl
theorem e_te_ext (i : Nat) (x : X K) (W : WX) : (Cc.ext i x : X K).te W = (fun W => tBM K "list" rExtend (tVar i) (tCons (x.te W) tNil) : WX → TE) W := rfl
theorem e_wp_ext (i : Nat) (x : X K) (Γ : List B) (Q : D → List B → Prop) (E : EX) : (Cc.ext i x : X K).wp Γ Q E = (fun Γ Q E => isOwn (get Γ i) fun _ => x.wp Γ (fun d Γ1 => isOwn (get Γ1 i) fun xs => match d with | .lst ys => xs.length + ys.length ≤ 100000 ∧ Q .non (put Γ1 i (.own (xs ++ ys))) | _ => False) E : List B → (D → List B → Prop) → EX → Prop) Γ Q E := rfl
theorem e_te_popAt (i : Nat) (x : X K) (W : WX) : (Cc.popAt i x : X K).te W = (fun W => tBM K "list" rPopAt (tVar i) (tCons (x.te W) tNil) : WX → TE) W := rfl
theorem e_wp_popAt (i : Nat) (x : X K) (Γ : List B) (Q : D → List B → Prop) (E : EX) : (Cc.popAt i x : X K).wp Γ Q E = (fun Γ Q E => isOwn (get Γ i) fun _ => x.wp Γ (fun d Γ1 => isOwn (get Γ1 i) fun xs => isI d fun n => ∃ y, 0 ≤ n ∧ xs[n.toNat]? = some y ∧ xs.length ≤ 100000 ∧ Q y (put Γ1 i (.own (xs.eraseIdx n.toNat)))) E : List B → (D → List B → Prop) → EX → Prop) Γ Q E := rfl
theorem e_te_lc (it : I K) (g : G K) (t : T K) (x : X K) (vs : List Nat) (hv : ∀ v ∈ g.vs, v ∈ vs) (W : WX) : (Cc.lc it g t x vs hv : L K).te W = (fun W => tLc (it.wi W) g.g (t.tt W0) (x.te W0) vs : WX → TE) W := rfl
theorem e_wp_lc (it : I K) (g : G K) (t : T K) (x : X K) (vs : List Nat) (hv : ∀ v ∈ g.vs, v ∈ vs) (Γ : List B) (Q : List D → List B → Prop) (E : EX) : (Cc.lc it g t x vs hv : L K).wp Γ Q E = (fun Γ Q E => it.wp Γ (fun ds Γ1 => noOwnAt Γ1 vs ∧ ds.length < 100000 ∧ lcS (elW g t x vs Γ1) ds [] fun acc => Q acc Γ1) E : List B → (List D → List B → Prop) → EX → Prop) Γ Q E := rfl
theorem e_te_dct1 (n : Int) (x : X K) (W : WX) : (Cc.dct1 n x : X K).te W = (fun W => tDisp [(tC (.int n), x.te W)] : WX → TE) W := rfl
theorem e_wp_dct1 (n : Int) (x : X K) (Γ : List B) (Q : D → List B → Prop) (E : EX) : (Cc.dct1 n x : X K).wp Γ Q E = (fun Γ Q E => x.wp Γ (fun d Γ1 => Q (.dct n d) Γ1) E : List B → (D → List B → Prop) → EX → Prop) Γ Q E := rfl
theorem e_te_call (n : Nat) (wp : WP) (r : A K) (W : WX) : (Cc.call n wp r : X K).te W = (fun W => tCallS (spW K n wp) (WE W) (r.ta W) : WX → TE) W := rfl
theorem e_wp_call (n : Nat) (wp : WP) (r : A K) (Γ : List B) (Q : D → List B → Prop) (E : EX) : (Cc.call n wp r : X K).wp Γ Q E = (fun Γ Q E => r.wp Γ (fun ds Γ1 => ds.length = n ∧ wp ds (fun d => Q d Γ1) fun er => E er Γ1) E : List B → (D → List B → Prop) → EX → Prop) Γ Q E := rfl
theorem e_te_call0 (wp : WP) (W : WX) : (Cc.call0 wp : X K).te W = (fun _ => tCall (spW K 0 wp) [] E0 tNil : WX → TE) W := rfl
theorem e_wp_call0 (wp : WP) (Γ : List B) (Q : D → List B → Prop) (E : EX) : (Cc.call0 wp : X K).wp Γ Q E = (fun Γ Q E => wp [] (fun d => Q d Γ) fun _ => False : List B → (D → List B → Prop) → EX → Prop) Γ Q E := rfl
theorem e_te_nil (W : WX) : (Cc.nil : S K).ts W = (fun _ => tNext : WX → TS) W := rfl
theorem e_wp_nil (Γ : List B) (P : Po) (E : EX) : (Cc.nil : S K).wp Γ P E = (fun Γ P _ => P.N Γ : List B → (Po) → EX → Prop) Γ P E := rfl
theorem e_te_seq (a b : S K) (W : WX) : (Cc.seq a b : S K).ts W = (fun W => tSeq (a.ts W) (b.ts W) : WX → TS) W := rfl
theorem e_wp_seq (a b : S K) (Γ : List B) (P : Po) (E : EX) : (Cc.seq a b : S K).wp Γ P E = (fun Γ P E => a.wp Γ ⟨fun Γ1 => b.wp Γ1 P E, P.R, P.Bk, P.Ct⟩ E : List B → (Po) → EX → Prop) Γ P E := rfl
theorem e_te_brk (W : WX) : (Cc.brk : S K).ts W = (fun _ => tBreak : WX → TS) W := rfl
theorem e_wp_brk (Γ : List B) (P : Po) (E : EX) : (Cc.brk : S K).wp Γ P E = (fun Γ P _ => P.Bk Γ : List B → (Po) → EX → Prop) Γ P E := rfl
theorem e_te_cnt (W : WX) : (Cc.cnt : S K).ts W = (fun _ => tCont : WX → TS) W := rfl
theorem e_wp_cnt (Γ : List B) (P : Po) (E : EX) : (Cc.cnt : S K).wp Γ P E = (fun Γ P _ => P.Ct Γ : List B → (Po) → EX → Prop) Γ P E := rfl
theorem e_te_drop (x : X K) (W : WX) : (Cc.drop x : S K).ts W = (fun W => tDrop (x.te W) : WX → TS) W := rfl
theorem e_wp_drop (x : X K) (Γ : List B) (P : Po) (E : EX) : (Cc.drop x : S K).wp Γ P E = (fun Γ P E => x.wp Γ (fun _ Γ1 => P.N Γ1) E : List B → (Po) → EX → Prop) Γ P E := rfl
theorem e_te_ret (x : X K) (W : WX) : (Cc.ret x : S K).ts W = (fun W => tRet (x.te W) : WX → TS) W := rfl
theorem e_wp_ret (x : X K) (Γ : List B) (P : Po) (E : EX) : (Cc.ret x : S K).wp Γ P E = (fun Γ P E => x.wp Γ (fun d _ => P.R d) E : List B → (Po) → EX → Prop) Γ P E := rfl
theorem e_te_retN (W : WX) : (Cc.retN : S K).ts W = (fun _ => tRetN : WX → TS) W := rfl
theorem e_wp_retN (Γ : List B) (P : Po) (E : EX) : (Cc.retN : S K).wp Γ P E = (fun Γ P _ => P.R .non : List B → (Po) → EX → Prop) Γ P E := rfl
theorem e_te_ifs (t : T K) (a b : S K) (W : WX) : (Cc.ifs t a b : S K).ts W = (fun W => tIfS (t.tt W) (a.ts W) (b.ts W) : WX → TS) W := rfl
theorem e_wp_ifs (t : T K) (a b : S K) (Γ : List B) (P : Po) (E : EX) : (Cc.ifs t a b : S K).wp Γ P E = (fun Γ P E => t.wp Γ (fun c Γ1 => if c = true then a.wp Γ1 P E else b.wp Γ1 P E) E : List B → (Po) → EX → Prop) Γ P E := rfl
theorem e_te_asg (x : X K) (g : G K) (W : WX) : (Cc.asg x g : S K).ts W = (fun W => tAsg (x.te W) g.g : WX → TS) W := rfl
theorem e_wp_asg (x : X K) (g : G K) (Γ : List B) (P : Po) (E : EX) : (Cc.asg x g : S K).wp Γ P E = (fun Γ P E => x.wp Γ (fun d Γ1 => g.wp d Γ1 P.N) E : List B → (Po) → EX → Prop) Γ P E := rfl
theorem e_te_own (i : Nat) (x : L K) (W : WX) : (Cc.own i x : S K).ts W = (fun W => tAsg (x.te W) (gName i) : WX → TS) W := rfl
theorem e_wp_own (i : Nat) (x : L K) (Γ : List B) (P : Po) (E : EX) : (Cc.own i x : S K).wp Γ P E = (fun Γ P E => x.wp Γ (fun xs Γ1 => P.N (put Γ1 i (.own xs))) E : List B → (Po) → EX → Prop) Γ P E := rfl
theorem e_te_par (i m : Nat) (r : A K) (W : WX) : (Cc.par i m r : S K).ts W = (fun W => tPar i m (r.ta W) : WX → TS) W := rfl
theorem e_wp_par (i m : Nat) (r : A K) (Γ : List B) (P : Po) (E : EX) : (Cc.par i m r : S K).wp Γ P E = (fun Γ P E => r.wp Γ (fun ds Γ1 => two ds fun x y => P.N (put (put Γ1 i (.d x)) m (.d y))) E : List B → (Po) → EX → Prop) Γ P E := rfl
theorem e_te_fors (it : I K) (g : G K) (s : S K) (W : WX) : (Cc.fors it g s : S K).ts W = (fun W => tFor (it.wi W) g.g (s.ts W) : WX → TS) W := rfl
theorem e_wp_fors (it : I K) (g : G K) (s : S K) (Γ : List B) (P : Po) (E : EX) : (Cc.fors it g s : S K).wp Γ P E = (fun Γ P E => it.wp Γ (fun ds Γ1 => forW g.wp (fun Γ P => s.wp Γ P E) P ds Γ1) E : List B → (Po) → EX → Prop) Γ P E := rfl
theorem e_te_whs (t : T K) (s : S K) (W : WX) : (Cc.whs t s : S K).ts W = (fun W => tWhile (t.tt W) (s.ts W) : WX → TS) W := rfl
theorem e_wp_whs (t : T K) (s : S K) (Γ : List B) (P : Po) (E : EX) : (Cc.whs t s : S K).wp Γ P E = (fun Γ P E => ∃ n, whW (fun Γ Q => t.wp Γ Q E) (fun Γ P => s.wp Γ P E) P n Γ : List B → (Po) → EX → Prop) Γ P E := rfl
theorem e_te_aug (i : Nat) (x : X K) (W : WX) : (Cc.aug i x : S K).ts W = (fun W => tAug i (x.te W) (ipI fun i j => i + j) : WX → TS) W := rfl
theorem e_wp_aug (i : Nat) (x : X K) (Γ : List B) (P : Po) (E : EX) : (Cc.aug i x : S K).wp Γ P E = (fun Γ P E => match get Γ i with | .d (.int a) => x.wp Γ (fun y Γ1 => isI y fun b => P.N (put Γ1 i (.d (.int (a + b))))) E | _ => False : List B → (Po) → EX → Prop) Γ P E := rfl
theorem e_te_setO (m : Nat) (x y : X K) (W : WX) : (Cc.setO m x y : S K).ts W = (fun W => tAsg (x.te W) (gSub (tVar m) (y.te W) rSetL) : WX → TS) W := rfl
theorem e_wp_setO (m : Nat) (x y : X K) (Γ : List B) (P : Po) (E : EX) : (Cc.setO m x y : S K).wp Γ P E = (fun Γ P E => isOwn (get Γ m) fun _ => x.wp Γ (fun d Γ1 => isOwn (get Γ1 m) fun _ => y.wp Γ1 (fun i Γ2 => isOwn (get Γ2 m) fun xs => isI i fun i => ∃ n, ixN xs.length i = some n ∧ P.N (put Γ2 m (.own (xs.set n d)))) E) E : List B → (Po) → EX → Prop) Γ P E := rfl
theorem e_te_rai (C : Addr) (f : Str) (x : X K) (W : WX) : (Cc.rai C f x : S K).ts W = (fun W _ σ H => tMkO C (spXI C f) [] (tCons (x.te W) tNil) σ H fun cls d H' => W cls d σ H' : WX → TS) W := rfl
theorem e_wp_rai (C : Addr) (f : Str) (x : X K) (Γ : List B) (P : Po) (E : EX) : (Cc.rai C f x : S K).wp Γ P E = (fun Γ P E => x.wp Γ (fun d Γ1 => E ⟨C, [f], [d]⟩ Γ1) E : List B → (Po) → EX → Prop) Γ P E := rfl
theorem e_te_rai0 (C : Addr) (W : WX) : (Cc.rai0 C : S K).ts W = (fun W => tRaise0 C W : WX → TS) W := rfl
theorem e_wp_rai0 (C : Addr) (Γ : List B) (P : Po) (E : EX) : (Cc.rai0 C : S K).wp Γ P E = (fun Γ P E => E ⟨C, [], []⟩ Γ : List B → (Po) → EX → Prop) Γ P E := rfl
theorem e_te_tryAs (c : Value) (i : Nat) (b : S K) (s : Addr → Value → Option Addr → S K) (W : WX) : (Cc.tryAs c i b s : S K).ts W = (fun W => tTry K c i (fun W' => b.ts W') (fun a cl d => (s a cl d).ts W) W : WX → TS) W := rfl
theorem e_wp_tryAs (c : Value) (i : Nat) (b : S K) (s : Addr → Value → Option Addr → S K) (Γ : List B) (P : Po) (E : EX) : (Cc.tryAs c i b s : S K).wp Γ P E = (fun Γ P E => b.wp Γ P fun er Γ' => ∃ k, PySem.W.exmOne K (.ref er.cls) c = some k ∧ if k = true then ∀ a d, (s a (.ref er.cls) d).wp (put Γ' i (.exc a (.ref er.cls) d er)) ⟨fun Γ2 => P.N (put Γ2 i .un), P.R, fun Γ2 => P.Bk (put Γ2 i .un), fun Γ2 => P.Ct (put Γ2 i .un)⟩ E else E er Γ' : List B → (Po) → EX → Prop) Γ P E := rfl
theorem e_r_add  : (Cc.add : O2 K).r = rPlus K := rfl
theorem e_wp_add  : (Cc.add : O2 K).wp = addW := rfl
theorem e_r_mul  : (Cc.mul : O2 K).r = rTimes K := rfl
theorem e_wp_mul  : (Cc.mul : O2 K).wp = mulW := rfl
theorem e_r_sub : (Cc.sub : O2 K).r = rI0 fun i j => .int (i - j) := rfl
theorem e_wp_sub : (Cc.sub : O2 K).wp = iiW fun i j => .int (i - j) := rfl
theorem e_r_lt : (Cc.lt : O2 K).r = rI0 fun i j => .bl (decide (i < j)) := rfl
theorem e_wp_lt : (Cc.lt : O2 K).wp = iiW fun i j => .bl (decide (i < j)) := rfl
theorem e_r_le : (Cc.le : O2 K).r = rI0 fun i j => .bl (decide (i ≤ j)) := rfl
theorem e_wp_le : (Cc.le : O2 K).wp = iiW fun i j => .bl (decide (i ≤ j)) := rfl
theorem e_r_gt' : (Cc.gt' : O2 K).r = rI0 fun i j => .bl (decide (j < i)) := rfl
theorem e_wp_gt' : (Cc.gt' : O2 K).wp = iiW fun i j => .bl (decide (j < i)) := rfl
theorem e_r_ge : (Cc.ge : O2 K).r = rI0 fun i j => .bl (decide (j ≤ i)) := rfl
theorem e_wp_ge : (Cc.ge : O2 K).wp = iiW fun i j => .bl (decide (j ≤ i)) := rfl
theorem e_r_fdiv : (Cc.fdiv : O2 K).r = rI CDivW fun i j => .int (i / j) := rfl
theorem e_wp_fdiv : (Cc.fdiv : O2 K).wp = ciW CDivW fun i j => .int (i / j) := rfl
theorem e_r_mod : (Cc.mod : O2 K).r = rI (fun _ j => 0 < j) fun i j => .int (i % j) := rfl
theorem e_wp_mod : (Cc.mod : O2 K).wp = ciW (fun _ j => 0 < j) fun i j => .int (i % j) := rfl
theorem e_r_pow : (Cc.pow : O2 K).r = rI CPow fun i j => .int (i ^ j.toNat) := rfl
theorem e_wp_pow : (Cc.pow : O2 K).wp = ciW CPow fun i j => .int (i ^ j.toNat) := rfl
theorem e_r_eq : (Cc.eq : O2 K).r = rEqq K := rfl
theorem e_wp_eq : (Cc.eq : O2 K).wp = fun x y Q => eqW x y fun b => Q (.bl b) := rfl
theorem e_r_ne : (Cc.ne : O2 K).r = rNeq K := rfl
theorem e_wp_ne : (Cc.ne : O2 K).wp = fun x y Q => eqW x y fun b => Q (.bl (!b)) := rfl
theorem e_r_inn : (Cc.inn : O2 K).r = rIn K false := rfl
theorem e_wp_inn : (Cc.inn : O2 K).wp = fun x y Q => inW x y fun b => Q (.bl b) := rfl
theorem e_r_nin : (Cc.nin : O2 K).r = rIn K true := rfl
theorem e_wp_nin : (Cc.nin : O2 K).wp = fun x y Q => inW x y fun b => Q (.bl (!b)) := rfl
theorem e_r_ix  : (Cc.ix : O2 K).r = rIx K := rfl
theorem e_wp_ix  : (Cc.ix : O2 K).wp = ixW := rfl
theorem e_r_len  : (Cc.len : Bi K).r = Ab.rLen K := rfl
theorem e_wp_len  : (Cc.len : Bi K).wp = lenW := rfl
theorem e_r_abs  : (Cc.abs : Bi K).r = rAbs := rfl
theorem e_wp_abs  : (Cc.abs : Bi K).wp = absW := rfl
theorem e_r_toInt  : (Cc.toInt : Bi K).r = rInt1 := rfl
theorem e_wp_toInt  : (Cc.toInt : Bi K).wp = intW := rfl
theorem e_r_gcd  : (Cc.gcd : Bi K).r = rGcd := rfl
theorem e_wp_gcd  : (Cc.gcd : Bi K).wp = gcdW := rfl
theorem e_r_all  : (Cc.all : Bi K).r = rAll K := rfl
theorem e_wp_all  : (Cc.all : Bi K).wp = allW fun bs => bs.all id := rfl
theorem e_r_any  : (Cc.any : Bi K).r = rAny K := rfl
theorem e_wp_any  : (Cc.any : Bi K).wp = allW fun bs => bs.any id := rfl
theorem e_r_sum  : (Cc.sum : Bi K).r = rSum K := rfl
theorem e_wp_sum  : (Cc.sum : Bi K).wp = sumW := rfl
theorem e_r_tuple  : (Cc.tuple : Bi K).r = rTupleOf K := rfl
theorem e_wp_tuple  : (Cc.tuple : Bi K).wp = tupleW := rfl
theorem e_r_isT  (T : String) (hT : T ∈ ["bool", "int", "str", "tuple", "list", "dict"]) : (Cc.isT T hT : Bi K).r = rIsi K := rfl
theorem e_wp_isT  (T : String) (hT : T ∈ ["bool", "int", "str", "tuple", "list", "dict"]) : (Cc.isT T hT : Bi K).wp = fun xs Q => match xs with
  | [x, .ty T'] => T' = T ∧ taggedD x = true ∧ Q (.bl (isTy T x))
  | _ => False := rfl
theorem e_r_isC  : (Cc.isC : Bi K).r = rIsi K := rfl
theorem e_wp_isC  : (Cc.isC : Bi K).wp = isCW K := rfl
theorem e_te_list (r : A K) (W : WX) : (Cc.list r : L K).te W = (fun W => tCB (rListOf K) (r.ta W) : WX → TE) W := rfl
theorem e_wp_list (r : A K) (Γ : List B) (Q : List D → List B → Prop) (E : EX) : (Cc.list r : L K).wp Γ Q E = (fun Γ Q E => r.wp Γ (fun ds Γ1 => sqW ds fun ys => Q ys Γ1) E : List B → (List D → List B → Prop) → EX → Prop) Γ Q E := rfl
theorem e_te_listRg (a : X K) (W : WX) : (Cc.listRg a : X K).te W = (fun W => tLstRg (tRg1 (a.te W)) : WX → TE) W := rfl
theorem e_wp_listRg (a : X K) (Γ : List B) (Q : D → List B → Prop) (E : EX) : (Cc.listRg a : X K).wp Γ Q E = (fun Γ Q E => a.wp Γ (fun x Γ1 => isI x fun n => 0 ≤ n ∧ n ≤ 100000 ∧ Q (.lst (((List.range n.toNat).map fun i => ((i : Nat) : Int)).map D.int)) Γ1) E : List B → (D → List B → Prop) → EX → Prop) Γ Q E := rfl
theorem e_te_addL (a b : X K) (W : WX) : (Cc.addL a b : L K).te W = (fun W => tOp (rPlus K) (a.te W) (b.te W) : WX → TE) W := rfl
theorem e_wp_addL (a b : X K) (Γ : List B) (Q : List D → List B → Prop) (E : EX) : (Cc.addL a b : L K).wp Γ Q E = (fun Γ Q E => a.wp Γ (fun x Γ1 => b.wp Γ1 (fun y Γ2 => match x, y with | .lst xs, .lst ys => xs.length + ys.length ≤ 100000 ∧ Q (xs ++ ys) Γ2 | _, _ => False) E) E : List B → (List D → List B → Prop) → EX → Prop) Γ Q E := rfl
theorem e_te_mk (C : Addr) (n : Nat) (fs : List Str) (wi : WI) (r : A K) (W : WX) : (Cc.mk C n fs wi r : X K).te W = (fun W => tMakeS C (spIW K C n fs wi) (WE W) (r.ta W) : WX → TE) W := rfl
theorem e_wp_mk (C : Addr) (n : Nat) (fs : List Str) (wi : WI) (r : A K) (Γ : List B) (Q : D → List B → Prop) (E : EX) : (Cc.mk C n fs wi r : X K).wp Γ Q E = (fun Γ Q E => r.wp Γ (fun ds Γ1 => ds.length = n ∧ wi ds (fun us => Q (.obj C fs us) Γ1) fun er => E er Γ1) E : List B → (D → List B → Prop) → EX → Prop) Γ Q E := rfl
theorem e_te_setf (m : Nat) (f : Str) (x : X K) (W : WX) : (Cc.setf m f x : S K).ts W = (fun W => sFld K (tVar m) (x.te W) f : WX → TS) W := rfl
theorem e_wp_setf (m : Nat) (f : Str) (x : X K) (Γ : List B) (P : Po) (E : EX) : (Cc.setf m f x : S K).wp Γ P E = (fun Γ P E => match get Γ m with
  | .ob p C ns vs => Cls K C ∧ NoAttr K C f ∧ f ∉ ns ∧ ns.length < 1000 ∧ x.wp Γ (fun d Γ1 => Γ1 = Γ ∧ P.N (put Γ1 m (.ob p C (ns ++ [f]) (vs ++ [d])))) E
  | _ => False : List B → (Po) → EX → Prop) Γ P E := rfl
theorem e_te_mcountT (x y : X K) (W : WX) : (Cc.mcountT x y : X K).te W = (fun W => tCountX K (x.te W) (tCons (y.te W) tNil) : WX → TE) W := rfl
theorem e_wp_mcountT (x y : X K) (Γ : List B) (Q : D → List B → Prop) (E : EX) : (Cc.mcountT x y : X K).wp Γ Q E = (fun Γ Q E => x.wp Γ (fun d Γ1 => match d with
    | .xtup ys => ∃ bs : List Str, ys = bs.map D.str ∧ y.wp Γ1 (fun e Γ2 => match e with | .str b => Q (.int (bs.count b : Nat)) Γ2 | _ => False) E
    | _ => False) E : List B → (D → List B → Prop) → EX → Prop) Γ Q E := rfl
theorem e_r_tupleX : (Cc.tupleX : Bi K).r = rTupleX K := rfl
theorem e_wp_tupleX : (Cc.tupleX : Bi K).wp = fun xs Q => match xs with
    | [.lst ys] => Q (.xtup ys)
    | _ => False := rfl
theorem e_te_mcount (x y : X K) (W : WX) : (Cc.mcount x y : X K).te W = (fun W => tBM K "list" (rCountF K) (x.te W) (tCons (y.te W) tNil) : WX → TE) W := rfl
theorem e_wp_mcount (x y : X K) (Γ : List B) (Q : D → List B → Prop) (E : EX) : (Cc.mcount x y : X K).wp Γ Q E = (fun Γ Q E => x.wp Γ (fun d Γ1 => match d with
    | .lst ys => ∃ bs : List Bool, ys = bs.map D.bl ∧ y.wp Γ1 (fun e Γ2 => isBl e fun b => Q (.int (bs.count b : Nat)) Γ2) E
    | _ => False) E : List B → (D → List B → Prop) → EX → Prop) Γ Q E := rfl
theorem e_te_mindex (x y : X K) (W : WX) : (Cc.mindex x y : X K).te W = (fun W => tBM K "list" (rIndex K) (x.te W) (tCons (y.te W) tNil) : WX → TE) W := rfl
theorem e_wp_mindex (x y : X K) (Γ : List B) (Q : D → List B → Prop) (E : EX) : (Cc.mindex x y : X K).wp Γ Q E = (fun Γ Q E => x.wp Γ (fun d Γ1 => match d with
    | .lst ys => ∃ bs : List Bool, ys = bs.map D.bl ∧ y.wp Γ1 (fun e Γ2 => isBl e fun b => ∃ n : Nat, bs[n]? = some b ∧ (∀ m < n, bs[m]? ≠ some b) ∧ Q (.int (n : Nat)) Γ2) E
    | _ => False) E : List B → (D → List B → Prop) → EX → Prop) Γ Q E := rfl
theorem e_r_lcm : (Cc.lcm : Bi K).r = rLcm := rfl
theorem e_wp_lcm : (Cc.lcm : Bi K).wp = fun xs Q => match xs with
    | [.int i, .int j] => i.natAbs < 2 ^ 64 ∧ j.natAbs < 2 ^ 64 ∧ Q (.int (Nat.lcm i.natAbs j.natAbs : Nat))
    | _ => False := rfl
theorem e_te_astar (x : X K) (r : A K) (W : WX) : (Cc.astar x r : A K).ta W = (fun W => tStar K (x.te W) (r.ta W) : WX → TA) W := rfl
theorem e_wp_astar (x : X K) (r : A K) (Γ : List B) (Q : List D → List B → Prop) (E : EX) : (Cc.astar x r : A K).wp Γ Q E = (fun Γ Q E => x.wp Γ (fun d Γ1 => isSq d fun xs => r.wp Γ1 (fun ys Γ2 => Q (xs ++ ys) Γ2) E) E : List B → (List D → List B → Prop) → EX → Prop) Γ Q E := rfl
theorem e_te_revL (x : X K) (W : WX) : (Cc.revL x : L K).te W = (fun W => tRev K (x.te W) : WX → TE) W := rfl
theorem e_wp_revL (x : X K) (Γ : List B) (Q : List D → List B → Prop) (E : EX) : (Cc.revL x : L K).wp Γ Q E = (fun Γ Q E => x.wp Γ (fun d Γ1 => match d with | .lst xs => Q xs.reverse Γ1 | _ => False) E : List B → (List D → List B → Prop) → EX → Prop) Γ Q E := rfl
theorem e_te_lc2 (it : I K) (g : G K) (it1 : I K) (g1 : G K) (x : X K) (vs vs1 : List Nat) (hv : ∀ v ∈ g.vs, v ∈ vs) (hv1 : ∀ v ∈ g1.vs, v ∈ vs1) (sub : ∀ i ∈ vs1, i ∈ vs) (W : WX) : (Cc.lc2 it g it1 g1 x vs vs1 hv hv1 sub : L K).te W = (fun W => tLc2 (it.wi W) g.g tYes (it1.wi W0) g1.g tYes (x.te W0) vs vs1 : WX → TE) W := rfl
theorem e_wp_lc2 (it : I K) (g : G K) (it1 : I K) (g1 : G K) (x : X K) (vs vs1 : List Nat) (hv : ∀ v ∈ g.vs, v ∈ vs) (hv1 : ∀ v ∈ g1.vs, v ∈ vs1) (sub : ∀ i ∈ vs1, i ∈ vs) (Γ : List B) (Q : List D → List B → Prop) (E : EX) : (Cc.lc2 it g it1 g1 x vs vs1 hv hv1 sub : L K).wp Γ Q E = (fun Γ Q E => it.wp Γ (fun ds Γ1 => noOwnAt Γ1 vs ∧ ∃ (inner : D → List D) (f : D → D → D), (ds.flatMap fun d => (inner d).map (f d)).length < 100000 ∧
    (∀ d ∈ ds, g.wp d (wipeP Γ1 vs) fun Γ2 => wipeP Γ2 vs = wipeP Γ1 vs ∧ noOwnAt Γ2 vs ∧ it1.wp Γ2 (fun es Γ3 => Γ3 = Γ2 ∧ es = inner d ∧ ∀ e ∈ es, g1.wp e (wipeP Γ2 vs1) fun Γ4 => wipeP Γ4 vs1 = wipeP Γ2 vs1 ∧ noOwnAt Γ4 vs1 ∧ x.wp Γ4 (fun y Γ5 => Γ5 = Γ4 ∧ y = f d e) EX0) EX0) ∧
    Q (ds.flatMap fun d => (inner d).map (f d)) Γ1) E : List B → (List D → List B → Prop) → EX → Prop) Γ Q E := rfl
theorem e_te_callG (n : Nat) (P : FSpec) (r : A K) (W : WX) : (Cc.callG n P r : X K).te W = (fun W => tCall (spS K n P) [] (fun _ _ _ => False) (r.ta W) : WX → TE) W := rfl
theorem e_wp_callG (n : Nat) (P : FSpec) (r : A K) (Γ : List B) (Q : D → List B → Prop) (E : EX) : (Cc.callG n P r : X K).wp Γ Q E = (fun Γ Q E => r.wp Γ (fun ds Γ1 => ds.length = n ∧ P.P ds ∧ (∀ d, P.R ds d → Q d Γ1) ∧ ∀ er, ¬ P.X ds er) E : List B → (D → List B → Prop) → EX → Prop) Γ Q E := rfl
theorem e_te_isX (a : Addr) (cls : Value) (d : Option Addr) (i : Nat) (c : V) (u : Value) (k : ClsV c u) (W : WX) : (Cc.isX a cls d i c u k : X K).te W = (fun _ => tIsXA K a cls d (tCons (tVar i) (tCons (tC c) tNil)) : WX → TE) W := rfl
theorem e_wp_isX (a : Addr) (cls : Value) (d : Option Addr) (i : Nat) (c : V) (u : Value) (k : ClsV c u) (Γ : List B) (Q : D → List B → Prop) (E : EX) : (Cc.isX a cls d i c u k : X K).wp Γ Q E = (fun Γ Q _ => match get Γ i with
  | .exc a' cl' d' er => (a' = a ∧ cl' = cls ∧ d' = d) ∧ KitE K er.cls ∧ ∃ b, PySem.W.kitOne K (.ref er.cls) u = some b ∧ Q (.bl b) Γ
  | _ => False : List B → (D → List B → Prop) → EX → Prop) Γ Q E := rfl
theorem e_te_xf (a : Addr) (cls : Value) (d : Option Addr) (f : Str) (i : Nat) (W : WX) : (Cc.xf a cls d f i : X K).te W = (fun _ => tXfA K a cls d f (tVar i) : WX → TE) W := rfl
theorem e_wp_xf (a : Addr) (cls : Value) (d : Option Addr) (f : Str) (i : Nat) (Γ : List B) (Q : D → List B → Prop) (E : EX) : (Cc.xf a cls d f i : X K).wp Γ Q E = (fun Γ Q _ => match get Γ i with
  | .exc a' cl' d' er => (a' = a ∧ cl' = cls ∧ d' = d) ∧ (XfC K er.cls ∧ PySem.W.findIn K (.ref er.cls) f = some none) ∧ ∃ y, er.ns = [f] ∧ er.vs = [y] ∧ Q y Γ
  | _ => False : List B → (D → List B → Prop) → EX → Prop) Γ Q E := rfl
end
end Cc
namespace Cc
open PySem L2 Ab
theorem r_get0 {b : B} {r : List B} : Cc.get (b :: r) 0 = b := rfl
theorem r_getS {b : B} {r : List B} {n : Nat} : Cc.get (b :: r) (n + 1) = Cc.get r n := rfl
theorem r_put0 {b c : B} {r : List B} : Cc.put (b :: r) 0 c = c :: r := rfl
theorem r_putS {b c : B} {r : List B} {n : Nat} : Cc.put (b :: r) (n + 1) c = b :: Cc.put r n c := rfl
theorem r_var {Γ : List B} {i : Nat} {Q : D → List B → Prop} : Cc.varW Γ i Q = Cc.vB (Cc.get Γ i) Γ i Q := rfl
theorem r_vd {x : D} {Γ : List B} {i : Nat} {Q : D → List B → Prop} : Cc.vB (.d x) Γ i Q = Q x Γ := rfl
theorem r_vown {xs : List D} {Γ : List B} {i : Nat} {Q : D → List B → Prop} : Cc.vB (.own xs) Γ i Q = Q (.lst xs) (Cc.put Γ i (.d (.lst xs))) := rfl
theorem r_isBl {b : Bool} {Q : Bool → Prop} : Cc.isBl (.bl b) Q = Q b := rfl
theorem r_isI {i : Int} {Q : Int → Prop} : Cc.isI (.int i) Q = Q i := rfl
theorem r_isSqT {xs : List D} {Q : List D → Prop} : Cc.isSq (.tup xs) Q = Q xs := rfl
theorem r_isSqL {xs : List D} {Q : List D → Prop} : Cc.isSq (.lst xs) Q = Q xs := rfl
theorem r_two {x y : D} {Q : D → D → Prop} : Cc.two [x, y] Q = Q x y := rfl
theorem r_isOwn {xs : List D} {Q : List D → Prop} : Cc.isOwn (.own xs) Q = Q xs := rfl
theorem r_no {x : D} : (¬ IsOwn (some (.d x))) = True := by simp [IsOwn]
theorem r_noU : (¬ IsOwn (some .un)) = True := by simp [IsOwn]
theorem r_unxI {i : Int} : Cc.unx (.int i) = .int i := rfl
theorem r_unxT {xs : List D} : Cc.unx (.tup xs) = .tup xs := rfl
theorem r_unxX {xs : List D} : Cc.unx (.xtup xs) = .tup xs := rfl
theorem r_unxO {C : Addr} {ns : List Str} {vs : List D} : Cc.unx (.obj C ns vs) = .obj C ns vs := rfl
theorem r_addI {i j : Int} {Q : D → Prop} : Cc.addW (.int i) (.int j) Q = Q (.int (i + j)) := rfl
theorem r_addT {xs ys : List D} {Q : D → Prop} : Cc.addW (.tup xs) (.tup ys) Q = (xs.length + ys.length ≤ 100000 ∧ Q (.tup (xs ++ ys))) := rfl
theorem r_addL {xs ys : List D} {Q : D → Prop} : Cc.addW (.lst xs) (.lst ys) Q = (xs.length + ys.length ≤ 100000 ∧ Q (.lst (xs ++ ys))) := rfl
theorem r_mulI {i j : Int} {Q : D → Prop} : Cc.mulW (.int i) (.int j) Q = ((CMul i j ∨ CMulW i j) ∧ Q (.int (i * j))) := rfl
theorem r_mulT {xs : List D} {n : Int} {Q : D → Prop} : Cc.mulW (.tup xs) (.int n) Q = ((xs ≠ [] ∧ 2 ≤ n ∧ n ≤ 1000 ∧ xs.length ≤ 1000) ∧ Q (.tup (List.replicate n.toNat xs).flatten)) := rfl
theorem r_ii {f : Int → Int → D} {i j : Int} {Q : D → Prop} : Cc.iiW f (.int i) (.int j) Q = Q (f i j) := rfl
theorem r_ci {C : Int → Int → Prop} {f : Int → Int → D} {i j : Int} {Q : D → Prop} : Cc.ciW C f (.int i) (.int j) Q = (C i j ∧ Q (f i j)) := rfl
theorem r_eqI {i j : Int} {Q : Bool → Prop} : Cc.eqW (.int i) (.int j) Q = Q (decide (i = j)) := rfl
theorem r_eqS {i j : Str} {Q : Bool → Prop} : Cc.eqW (.str i) (.str j) Q = Q (decide (i = j)) := rfl
theorem r_eqB {i j : Bool} {Q : Bool → Prop} : Cc.eqW (.bl i) (.bl j) Q = Q (decide (i = j)) := rfl
theorem r_inT {i : Int} {xs : List D} {Q : Bool → Prop} : Cc.inW (.int i) (.tup xs) Q = ∃ js : List Int, xs = js.map D.int ∧ Q (decide (i ∈ js)) := rfl
theorem r_inL {i : Int} {xs : List D} {Q : Bool → Prop} : Cc.inW (.int i) (.lst xs) Q = ∃ js : List Int, xs = js.map D.int ∧ Q (decide (i ∈ js)) := rfl
theorem r_ixT {i : Int} {xs : List D} {Q : D → Prop} : Cc.ixW (.tup xs) (.int i) Q = ∃ d, atI xs i = some d ∧ Q d := rfl
theorem r_ixL {i : Int} {xs : List D} {Q : D → Prop} : Cc.ixW (.lst xs) (.int i) Q = ∃ d, atI xs i = some d ∧ Q d := rfl
theorem r_lenT {xs : List D} {Q : D → Prop} : Cc.lenW [.tup xs] Q = Q (.int xs.length) := rfl
theorem r_lenL {xs : List D} {Q : D → Prop} : Cc.lenW [.lst xs] Q = Q (.int xs.length) := rfl
theorem r_abs {i : Int} {Q : D → Prop} : Cc.absW [.int i] Q = Q (.int (if i < 0 then -i else i)) := rfl
theorem r_intI {i : Int} {Q : D → Prop} : Cc.intW [.int i] Q = Q (.int i) := rfl
theorem r_intB {b : Bool} {Q : D → Prop} : Cc.intW [.bl b] Q = Q (.int (if b then 1 else 0)) := rfl
theorem r_gcd {i j : Int} {Q : D → Prop} : Cc.gcdW [.int i, .int j] Q = Q (.int (Nat.gcd i.natAbs j.natAbs : Nat)) := rfl
theorem r_all {f : List Bool → Bool} {xs : List D} {Q : D → Prop} : Cc.allW f [.lst xs] Q = ∃ bs : List Bool, xs = bs.map D.bl ∧ Q (.bl (f bs)) := rfl
theorem r_sum {xs : List D} {Q : D → Prop} : Cc.sumW [.lst xs] Q = ∃ ns : List Int, xs = ns.map D.int ∧ Q (.int ns.sum) := rfl
theorem r_tupL {xs : List D} {Q : D → Prop} : Cc.tupleW [.lst xs] Q = Q (.tup xs) := rfl
theorem r_tupT {xs : List D} {Q : D → Prop} : Cc.tupleW [.tup xs] Q = Q (.tup xs) := rfl
theorem r_sqT {xs : List D} {Q : List D → Prop} : Cc.sqW [.tup xs] Q = Q xs := rfl
theorem r_sqL {xs : List D} {Q : List D → Prop} : Cc.sqW [.lst xs] Q = Q xs := rfl
theorem r_rg1 {n : Int} {Q : List D → Prop} : Cc.rg1W [.int n] Q = (n < 2 ^ 62 ∧ -(2 ^ 62) ≤ n ∧ Q (rgAt 0 n.toNat)) := rfl
theorem r_en {x : D} {Q : List D → Prop} : Cc.en1W [x] Q = Cc.isSq x fun ys => Q (enumD ys) := rfl
theorem r_zipT {us ys : List D} {Q : List D → Prop} : Cc.zipW [.tup us, .tup ys] Q = Q (zipD us ys) := rfl
theorem r_zipL {us ys : List D} {Q : List D → Prop} : Cc.zipW [.lst us, .lst ys] Q = Q (zipD us ys) := rfl
theorem r_slT {lo hi : Option Int} {xs : List D} {Q : D → Prop} : (∃ d, slR lo hi (.tup xs) = some d ∧ Q d) = Q (.tup (cutD xs lo hi)) := by simp [slR]
theorem r_slL {lo hi : Option Int} {xs : List D} {Q : D → Prop} : (∃ d, slR lo hi (.lst xs) = some d ∧ Q d) = Q (.lst (cutD xs lo hi)) := by simp [slR]
theorem r_noOwn0 {Γ : List B} : Cc.noOwnAt Γ [] = True := rfl
theorem r_noOwnS {Γ : List B} {i : Nat} {r : List Nat} : Cc.noOwnAt Γ (i :: r) = (¬ IsOwn (some (Cc.get Γ i)) ∧ Cc.noOwnAt Γ r) := rfl
theorem r_wip0 {Γ : List B} : Cc.wipeP Γ [] = Γ := rfl
theorem r_wipS {Γ : List B} {i : Nat} {r : List Nat} : Cc.wipeP Γ (i :: r) = Cc.put (Cc.wipeP Γ r) i .un := rfl
theorem r_start {ds : List D} {n : Nat} : Cc.startB ds n = ds.map B.d ++ List.replicate (n - ds.length) .un := rfl
theorem r_body {K : PySem.W.Frag} {b : S K} {n : Nat} {ds : List D} {Q : D → Prop} {E : Er → Prop} : Cc.bodyW b n ds Q E = b.wp (Cc.startB ds n) ⟨fun _ => Q .non, Q, fun _ => False, fun _ => False⟩ fun er _ => E er := rfl
theorem r_lt {i j : Int} : (decide (i < j) = true) = (i < j) := by simp
theorem r_isN0 : Cc.isNon .non = true := rfl
theorem r_isNT {xs : List D} : Cc.isNon (.tup xs) = false := rfl
theorem r_isNI {i : Int} : Cc.isNon (.int i) = false := rfl
theorem r_isNL {xs : List D} : Cc.isNon (.lst xs) = false := rfl
end Cc
namespace Cc
open PySem L2 Ab
/-- a loop whose state keeps a shape -/
theorem forW_keep {g : D → List B → (List B → Prop) → Prop} {s : List B → Po → Prop} {P : Po} (I : List B → Prop) (he : ∀ Γ, I Γ → P.N Γ) : ∀ {ds : List D} {Γ : List B}, I Γ →
    (∀ d ∈ ds, ∀ Γ, I Γ → ∀ N : List B → Prop, (∀ Γ', I Γ' → N Γ') → g d Γ fun Γ1 => s Γ1 ⟨N, P.R, P.N, N⟩) → forW g s P ds Γ
  | [], Γ, h, _ => he Γ h
  | d :: ds, Γ, h, hs => hs d List.mem_cons_self Γ h _ fun Γ' h' => forW_keep I he h' fun d' m => hs d' (List.mem_cons_of_mem _ m)
/-- a loop by what is done and what is left of the items -/
theorem forW_by {g : D → List B → (List B → Prop) → Prop} {s : List B → Po → Prop} {P : Po} {ds : List D} {Γ : List B} (I : List D → List B → Prop) (h0 : I [] Γ) (he : ∀ Γ, I ds Γ → P.N Γ)
    (hs : ∀ pre d post, ds = pre ++ d :: post → ∀ Γ, I pre Γ → ∀ N : List B → Prop, (∀ Γ', I (pre ++ [d]) Γ' → N Γ') → g d Γ fun Γ1 => s Γ1 ⟨N, P.R, P.N, N⟩) : forW g s P ds Γ :=
  forW_inv (fun pre post Γ => pre ++ post = ds ∧ I pre Γ) (fun pre d post Γ ⟨e, h⟩ N hN => hs pre d post e.symm Γ h N fun Γ' h' => hN Γ' ⟨by simpa using e, h'⟩) (fun pre Γ ⟨e, h⟩ => he Γ (by simpa [← e] using h)) (pre := []) ⟨rfl, h0⟩
theorem mem_enum {xs : List D} {d : D} (h : d ∈ enumD xs) : ∃ (i : Nat) (x : D), xs[i]? = some x ∧ d = .tup [.int (i : Nat), x] := by
  obtain ⟨i, hi⟩ := List.mem_iff_getElem?.mp h
  obtain ⟨x, h1, h2⟩ := enumD_inv hi
  exact ⟨i, x, h1, h2⟩
theorem mem_zip {xs ys : List D} {d : D} (h : d ∈ zipD xs ys) : ∃ (i : Nat) (x y : D), xs[i]? = some x ∧ ys[i]? = some y ∧ d = .tup [x, y] := by
  obtain ⟨i, hi⟩ := List.mem_iff_getElem?.mp h
  obtain ⟨x, y, h1, h2, h3⟩ := zipD_inv hi
  exact ⟨i, x, y, h1, h2, h3⟩
theorem mem_rg {lo : Int} {n : Nat} {d : D} (h : d ∈ rgAt lo n) : ∃ i : Nat, i < n ∧ d = .int (lo + (i : Nat)) := by
  simp only [rgAt, List.mem_map, List.mem_range] at h
  obtain ⟨i, h1, h2⟩ := h
  exact ⟨i, h1, h2.symm⟩
theorem rg_len {lo : Int} {n : Nat} : (rgAt lo n).length = n := by simp [rgAt]
end Cc
namespace Cc
open PySem L2 Ab
def sqOf : D → List D
  | .tup xs => xs
  | .lst xs => xs
  | _ => []
def okB : B → Prop
  | .un => True
  | .d _ => True
  | _ => False
theorem okB_cases {b : B} (h : okB b) : b = .un ∨ ∃ x, b = .d x := by
  cases b with
  | un => exact .inl rfl
  | d x => exact .inr ⟨x, rfl⟩
  | _ => exact h.elim
theorem r_okU : okB .un = True := rfl
theorem r_okD {x : D} : okB (.d x) = True := rfl
theorem r_noOb0 : noOb [] = true := rfl
theorem r_noObU {r : List B} : noOb (.un :: r) = noOb r := rfl
theorem r_noObD {x : D} {r : List B} : noOb (.d x :: r) = noOb r := rfl
theorem r_noObO {xs : List D} {r : List B} : noOb (.own xs :: r) = noOb r := rfl
theorem r_frz0 : frz [] = [] := rfl
theorem r_frzU {r : List B} : frz (.un :: r) = .un :: frz r := rfl
theorem r_frzD {x : D} {r : List B} : frz (.d x :: r) = .d x :: frz r := rfl
theorem r_frzO {xs : List D} {r : List B} : frz (.own xs :: r) = .d (.lst xs) :: frz r := rfl
theorem r_noLi {i : Int} : noL (.int i) = true := rfl
theorem r_noLb {i : Bool} : noL (.bl i) = true := rfl
theorem r_noLs {i : Str} : noL (.str i) = true := rfl
theorem r_noLn : noL .non = true := rfl
theorem noLs_of {xs : List D} (h : ∀ x ∈ xs, noL x = true) : noLs xs = true := noLs_all.mpr h
theorem noL_tup {xs : List D} (h : ∀ x ∈ xs, noL x = true) : noL (.tup xs) = true := by unfold noL; exact noLs_all.mpr h
theorem noL_xtup {xs : List D} (h : ∀ x ∈ xs, noL x = true) : noL (.xtup xs) = true := by unfold noL; exact noLs_all.mpr h
end Cc
namespace Cc
open PySem L2 Ab
/-- a loop by the number of its turn -/
theorem forW_ix {g : D → List B → (List B → Prop) → Prop} {s : List B → Po → Prop} {P : Po} {ds : List D} {Γ : List B} (I : Nat → List B → Prop) (h0 : I 0 Γ) (he : ∀ Γ, I ds.length Γ → P.N Γ)
    (hs : ∀ i d, ds[i]? = some d → ∀ Γ, I i Γ → ∀ N : List B → Prop, (∀ Γ', I (i + 1) Γ' → N Γ') → g d Γ fun Γ1 => s Γ1 ⟨N, P.R, P.N, N⟩) : forW g s P ds Γ :=
  forW_by (fun pre Γ => I pre.length Γ) h0 he fun pre d post e Γ h N hN => hs pre.length d (by rw [e]; simp) Γ h N fun Γ' h' => hN Γ' (by simpa using h')
theorem map_get {α : Type} {f : α → D} {xs : List α} {i : Nat} {d : D} (h : (xs.map f)[i]? = some d) : ∃ x, xs[i]? = some x ∧ d = f x := by
  rw [List.getElem?_map] at h
  cases e : xs[i]? with
  | none => rw [e] at h; cases h
  | some x => rw [e] at h; cases h; exact ⟨x, rfl, rfl⟩
theorem take_succ_get {α : Type} {xs : List α} {i : Nat} {x : α} (h : xs[i]? = some x) : xs.take (i + 1) = xs.take i ++ [x] := take_snoc h
theorem okB_no {b : B} (h : okB b) : (¬ IsOwn (some b)) := by
  rcases okB_cases h with rfl | ⟨x, rfl⟩ <;> exact fun z => z
end Cc
namespace My
open PySem L2 Ab
def top (i : Nat) : Stmt := PySem.Challenge.pw_oncetwice_k00_errors_of_the_package.main.body.getD i (.Pass ⟨0, 0, 0, 0⟩)
abbrev s_BadWish_init : Stmt := inClass (top 2) 0
abbrev N_BadWish_init : List Str := ["self", "part"]
theorem sc_BadWish_init : FnScope N_BadWish_init ["self", "part"] (defScope s_BadWish_init) := ⟨rfl, rfl, rfl, by decide +kernel, rfl, by decide +kernel, by decide +kernel⟩
abbrev s_NoProgram_init : Stmt := inClass (top 3) 0
abbrev s_NoContents_init : Stmt := inClass (top 4) 0
abbrev s_NoOrder_init : Stmt := inClass (top 5) 0
abbrev s_NoMoment_init : Stmt := inClass (top 6) 0
abbrev s_NoPrices_init : Stmt := inClass (top 7) 0
abbrev s_NoNumber_init : Stmt := inClass (top 8) 0
abbrev s_NoTimetable_init : Stmt := inClass (top 9) 0
abbrev s_NotOnto_init : Stmt := inClass (top 10) 0
abbrev s_NotAlike_init : Stmt := inClass (top 11) 0
abbrev s_NotWhole_init : Stmt := inClass (top 12) 0
abbrev s_TooMany_init : Stmt := inClass (top 13) 0
abbrev N_TooMany_init : List Str := ["self", "most"]
theorem sc_TooMany_init : FnScope N_TooMany_init ["self", "most"] (defScope s_TooMany_init) := ⟨rfl, rfl, rfl, by decide +kernel, rfl, by decide +kernel, by decide +kernel⟩
abbrev s_NoSources_init : Stmt := inClass (top 14) 0
abbrev s_BadTable_init : Stmt := inClass (top 15) 0
abbrev N_BadTable_init : List Str := ["self", "part"]
theorem sc_BadTable_init : FnScope N_BadTable_init ["self", "part"] (defScope s_BadTable_init) := ⟨rfl, rfl, rfl, by decide +kernel, rfl, by decide +kernel, by decide +kernel⟩
abbrev s_BadCode_init : Stmt := inClass (top 16) 0
abbrev N_BadCode_init : List Str := ["self", "part"]
theorem sc_BadCode_init : FnScope N_BadCode_init ["self", "part"] (defScope s_BadCode_init) := ⟨rfl, rfl, rfl, by decide +kernel, rfl, by decide +kernel, by decide +kernel⟩
abbrev s_NoRow_init : Stmt := inClass (top 17) 0
abbrev s_NoCompiled_init : Stmt := inClass (top 18) 0
abbrev s_NotRunning_init : Stmt := inClass (top 19) 0
abbrev s_NothingDone_init : Stmt := inClass (top 20) 0
abbrev s_NoCell_init : Stmt := inClass (top 21) 0
abbrev s_NoItem_init : Stmt := inClass (top 22) 0
abbrev s_IsLocked_init : Stmt := inClass (top 23) 0
abbrev s_NotLocked_init : Stmt := inClass (top 24) 0
abbrev s_NoWay_init : Stmt := inClass (top 25) 0
abbrev s_BadText_init : Stmt := inClass (top 26) 0
abbrev N_BadText_init : List Str := ["self", "line"]
theorem sc_BadText_init : FnScope N_BadText_init ["self", "line"] (defScope s_BadText_init) := ⟨rfl, rfl, rfl, by decide +kernel, rfl, by decide +kernel, by decide +kernel⟩
abbrev s_NoLine_init : Stmt := inClass (top 27) 0
abbrev s_NoName_init : Stmt := inClass (top 28) 0
abbrev N_NoName_init : List Str := ["self", "name"]
theorem sc_NoName_init : FnScope N_NoName_init ["self", "name"] (defScope s_NoName_init) := ⟨rfl, rfl, rfl, by decide +kernel, rfl, by decide +kernel, by decide +kernel⟩
abbrev s_NoRunner_init : Stmt := inClass (top 29) 0
abbrev s__law_pool : Stmt := top 31
abbrev N__law_pool : List Str := ["script", "seed", "cell"]
theorem sc__law_pool : FnScope N__law_pool ["script"] (defScope s__law_pool) := ⟨rfl, rfl, rfl, by decide +kernel, rfl, by decide +kernel, by decide +kernel⟩
abbrev s__law_draw : Stmt := top 32
abbrev N__law_draw : List Str := ["pool", "many", "cells", "digit", "mixed"]
theorem sc__law_draw : FnScope N__law_draw ["pool", "many"] (defScope s__law_draw) := ⟨rfl, rfl, rfl, by decide +kernel, rfl, by decide +kernel, by decide +kernel⟩
abbrev s__law_deep : Stmt := top 33
abbrev N__law_deep : List Str := ["thing", "turn"]
theorem sc__law_deep : FnScope N__law_deep [] (defScope s__law_deep) := ⟨rfl, rfl, rfl, by decide +kernel, rfl, by decide +kernel, by decide +kernel⟩
abbrev s__law_made : Stmt := top 34
abbrev N__law_made : List Str := ["which", "thing"]
theorem sc__law_made : FnScope N__law_made ["which", "thing"] (defScope s__law_made) := ⟨rfl, rfl, rfl, by decide +kernel, rfl, by decide +kernel, by decide +kernel⟩
abbrev s__law_plain_ones : Stmt := top 35
abbrev N__law_plain_ones : List Str := ["found"]
theorem sc__law_plain_ones : FnScope N__law_plain_ones [] (defScope s__law_plain_ones) := ⟨rfl, rfl, rfl, by decide +kernel, rfl, by decide +kernel, by decide +kernel⟩
abbrev s__law_kinds : Stmt := top 36
abbrev N__law_kinds : List Str := ["error", "found"]
theorem sc__law_kinds : FnScope N__law_kinds ["error"] (defScope s__law_kinds) := ⟨rfl, rfl, rfl, by decide +kernel, rfl, by decide +kernel, by decide +kernel⟩
abbrev s_law : Stmt := top 37
abbrev N_law : List Str := ["script", "pool", "things", "errors", "which", "thing", "told", "error"]
theorem sc_law : FnScope N_law ["script"] (defScope s_law) := ⟨rfl, rfl, rfl, by decide +kernel, rfl, by decide +kernel, by decide +kernel⟩
structure HasM (mg : Str → Option Value) (x : Str) (C : Addr) : Prop where
  m : mg x = some (.ref C)
structure Tx (mg : Str → Option Value) : Prop where
  ValueError : mg "ValueError" = none
  abs : mg "abs" = none
  int : mg "int" = none
  isinstance : mg "isinstance" = none
  len : mg "len" = none
  range : mg "range" = none
  repr : mg "repr" = none
  set : mg "set" = none
  sum : mg "sum" = none
end My
namespace My
open PySem L2 Ab
theorem no_own1 {Γ : List B} {k : Nat} (h : ¬ IsOwn Γ[k]?) : ∀ i ∈ [k], ¬ IsOwn Γ[i]? := fun i hi => by
  have e : i = k := by simpa using hi
  rw [e]; exact h
local macro_rules | `(tactic| walk_at "den") => `(tactic| first
  | ((with_reducible refine' den_var ?h ?_); (case h => rfl))
  | with_reducible refine ifT ?_ | with_reducible refine ifF ?_
  | with_reducible refine den_int ?_ | with_reducible refine den_bl ?_ | with_reducible refine den_non ?_ | with_reducible refine den_str ?_ | with_reducible refine den_ty ?_
  | with_reducible refine dens_nil ?_ | with_reducible refine dens_seq ?_ | with_reducible refine dens_ret ?_ | with_reducible refine dens_if ?_ | with_reducible refine dens_asg ?_ | with_reducible refine dens_drop ?_ | with_reducible refine dens_raise ?_
  | with_reducible refine dena_nil ?_ | with_reducible refine dena_cons ?_
  | with_reducible refine den_and ?_ | with_reducible refine den_or ?_ | with_reducible refine den_not ?_ | with_reducible refine den_chain ?_ | with_reducible refine den_cb ?_ | with_reducible refine den_op ?_ | with_reducible refine den_tup ?_ | with_reducible refine den_un ?_ | with_reducible refine den_isN ?_ | with_reducible refine den_notN ?_
  | with_reducible refine dent_test ?_ | with_reducible refine dent_B ?_ | with_reducible refine dent_and ?_ | with_reducible refine dent_or ?_ | with_reducible refine dent_not ?_ | with_reducible refine dent_yes ?_
  | with_reducible refine den_fun ?_ | with_reducible refine den_l (denl_lst ?_) | with_reducible refine den_sl ?_ | with_reducible refine cad_lenS ?_ | with_reducible refine deno_none ?_ | with_reducible refine deno_some ?_
  | with_reducible refine deng_name ?_ | ((with_reducible refine' deng_tup ?h ?_); (case h => rfl)) | with_reducible refine dengs_cons ?_ | with_reducible refine dengs_nil ?_
  | with_reducible refine plus_int ?_ | with_reducible refine opd_b0 ?_ | with_reducible refine eqg_int ?_ | with_reducible refine neg_int ?_ | with_reducible refine opd_i0 ?_ | with_reducible refine und_neg ?_
  | with_reducible refine dens_retN ?_ | with_reducible refine dens_cont ?_ | with_reducible refine dens_break ?_ | with_reducible refine dens_par ?_ | with_reducible refine den_if ?_ | with_reducible refine den_dic ?_ | with_reducible refine den_cls ?_)
local macro_rules | `(tactic| walk_at "dem") => `(tactic| first
  | ((with_reducible refine' den_lenO ?h ?_); (case h => rfl)) | ((with_reducible refine' den_var ?h ?_); (case h => rfl))
  | with_reducible refine ifT ?_ | with_reducible refine ifF ?_
  | with_reducible refine den_int ?_ | with_reducible refine den_bl ?_ | with_reducible refine den_non ?_ | with_reducible refine den_str ?_ | with_reducible refine den_ty ?_
  | with_reducible refine dens_nil ?_ | with_reducible refine dens_seq ?_ | with_reducible refine dens_ret ?_ | with_reducible refine dens_if ?_ | with_reducible refine dens_drop ?_ | with_reducible refine dens_raise ?_
  | with_reducible refine dena_nil ?_ | with_reducible refine dena_cons ?_
  | with_reducible refine den_and ?_ | with_reducible refine den_or ?_ | with_reducible refine den_not ?_ | with_reducible refine den_chain ?_ | with_reducible refine den_cb ?_ | with_reducible refine den_op ?_ | with_reducible refine den_tup ?_ | with_reducible refine den_un ?_ | with_reducible refine den_isN ?_ | with_reducible refine den_notN ?_
  | with_reducible refine dent_test ?_ | with_reducible refine dent_B ?_ | with_reducible refine dent_and ?_ | with_reducible refine dent_or ?_ | with_reducible refine dent_not ?_ | with_reducible refine dent_yes ?_
  | with_reducible refine den_fun ?_ | with_reducible refine den_l (denl_lst ?_) | with_reducible refine den_sl ?_ | with_reducible refine cad_lenS ?_ | with_reducible refine deno_none ?_ | with_reducible refine deno_some ?_
  | with_reducible refine deng_name ?_ | ((with_reducible refine' deng_tup ?h ?_); (case h => rfl)) | with_reducible refine dengs_cons ?_ | with_reducible refine dengs_nil ?_
  | with_reducible refine plus_int ?_ | with_reducible refine opd_b0 ?_ | with_reducible refine eqg_int ?_ | with_reducible refine neg_int ?_ | with_reducible refine opd_i0 ?_ | with_reducible refine und_neg ?_
  | with_reducible refine dens_retN ?_ | with_reducible refine dens_cont ?_ | with_reducible refine dens_break ?_ | with_reducible refine dens_par ?_ | with_reducible refine den_if ?_ | with_reducible refine den_dic ?_ | with_reducible refine den_cls ?_)
local macro_rules | `(tactic| walk_at "fin") => `(tactic| (first | refine (show (_ : D) = _ from ?_) | skip))
section
variable {P : Program} {w : World} {K : PySem.W.Frag} {mg : Str → Option Value} {base : Heap}
theorem ixN0 (n : Nat) : ixN (n + 1) 0 = some 0 := by
  unfold ixN
  rw [if_pos (by decide), if_pos (by omega)]; rfl
theorem atI0 {α : Type} (x : α) (xs : List α) : atI (x :: xs) 0 = some x := by
  unfold atI
  rw [List.length_cons, ixN0]; rfl
theorem lowlog {m : Int} (h0 : 0 ≤ m) (h : m < 2 ^ 30) : m.natAbs.log2 < 9000 := by
  have : m.natAbs < 2 ^ 30 := by omega
  by_cases z : m.natAbs = 0
  · rw [z]; decide
  · exact Nat.lt_trans ((Nat.log2_lt z).mpr this) (by decide)
theorem ok_law_draw {f : Addr} {fd : FuncData} (F : Fun K "_law_draw" "_law_draw" s__law_draw f fd) (T : Tx mg) : FnOk P w K mg base (L2.CX P w) 1 f fd ["pool", "many"] (spS K 2 S_draw) := by
  refine F.okX sc__law_draw (fun vs H Q E h => ?_) (fun cdv A outer s H vs Q E hr h => ?_)
  · obtain ⟨pl, G, ds, _, r, hn, _⟩ := h
    rw [r.length, hn]; rfl
  · refine ⟨_, (pss_cons (ps_asg (pe_op (k_plus K) (pe_ix (k_ix K) (pv 0) pe_int (fun _ _ => rfl)) pe_int) (pg_sub (pv 0) pe_int set_list))
      (pss_cons (ps_set (i := 2) sc__law_draw.nd rfl (Or.inl rfl) (pe_ix (k_ix K) (pv 0) pe_int (fun _ _ => rfl)))
      (pss_cons (ps_if (pt_cmpR op_gt (pe_callB (k_len K) rfl T.len (by decide +kernel) (pa_cons (pv 2) pa_nil)) pe_int (nomark _)) (pss_cons (ps_set (i := 3) sc__law_draw.nd rfl (Or.inl rfl) (pe_op op_mod (pe_callTy call_int1 rfl T.int (by decide +kernel) (pa_cons (pe_ix (k_ix K) (pv 2) pe_int (fun _ _ => rfl)) pa_nil)) (pv 1)))
      (pss_cons (ps_asg (pe_op op_fdivW (pe_callTy call_int1 rfl T.int (by decide +kernel) (pa_cons (pe_ix (k_ix K) (pv 2) pe_int (fun _ _ => rfl)) pa_nil)) (pv 1)) (pg_sub (pv 2) pe_int set_list))
      (pss_cons (ps_if (pt_cmpR (k_eq K hr.units) (pe_ix (k_ix K) (pv 2) pe_int (fun _ _ => rfl)) pe_int (nomark _)) (pss_one (ps_expr (pe_bm PySem.F.plainAttrs_list PySem.F.slot_list_pop PySem.F.type_list_pop mt_popAt (pv 2) (pa_cons pe_int pa_nil)))) pss_nil)
      (pss_one (ps_ret (pv 3)))))) pss_nil)
      (pss_cons (ps_set (i := 4) sc__law_draw.nd rfl (Or.inl rfl) (pe_op op_mod (pe_callTy call_int1 rfl T.int (by decide +kernel) (pa_cons (pe_op (k_times K) (pe_op (k_plus K) (pe_ix (k_ix K) (pv 0) pe_int (fun _ _ => rfl)) (pe_op (k_times K) pe_int (pe_ix (k_ix K) (pv 0) pe_int (fun _ _ => rfl)))) pe_int) pa_nil)) pe_int))
      (pss_cons (ps_set (i := 4) sc__law_draw.nd rfl (Or.inl rfl) (pe_op op_mod (pe_callTy call_int1 rfl T.int (by decide +kernel) (pa_cons (pe_op (k_times K) (pv 4) (pe_op (k_plus K) (pe_op op_fdivW (pv 4) pe_int) pe_int)) pa_nil)) pe_int))
      (pss_cons (ps_set (i := 4) sc__law_draw.nd rfl (Or.inl rfl) (pe_op op_mod (pe_callTy call_int1 rfl T.int (by decide +kernel) (pa_cons (pe_op (k_times K) (pv 4) (pe_op (k_plus K) (pe_op op_fdivW (pv 4) pe_int) pe_int)) pa_nil)) pe_int))
      (pss_one (ps_ret (pe_op op_mod (pe_callTy call_int1 rfl T.int (by decide +kernel) (pa_cons (pe_op op_fdivW (pv 4) pe_int) pa_nil)) (pv 1)))))))))), ?_⟩
    obtain ⟨pl, G, ds, j, r, hn, ⟨m, rfl, hm1, hm2⟩, hq, _⟩ := h
    cases r with
    | cons r1 r2 => cases r2 with
      | cons r2 r3 =>
        cases r3; cases r2
        cases r1 with
        | @pool p c hpl =>
          obtain ⟨pc, gp, gc, _, _, uu, ww, hp, hc, seed, k, ns, rfl, rfl, b1, b2, b3, b4, b5⟩ := j.pool p c hpl
          have fin : ∀ (i : Int) (seed' k' : Int) (ns' : List Int) (H' : Hp), 0 ≤ i → i < m → H' p = some (.lst [.int seed', .int k', .ref c]) → H' c = some (.lst (ns'.map V.int)) →
              (0 ≤ seed' ∧ seed' < 2147483647 ∧ 0 ≤ k' ∧ (∀ n ∈ ns', 0 ≤ n) ∧ ns'.length ≤ 63) → (∀ a, a ≠ p → a ≠ c → H' a = H a) → Q (.int i) H' := fun i seed' k' ns' H' i1 i2 e1 e2 e3 e4 =>
            hq (.int i) (.int i) G H' ⟨m, i, rfl, rfl, i1, i2⟩ (j.pl hpl e1 e2 ⟨seed', k', ns', rfl, rfl, e3⟩ e4) (.int i)
          have s0 : (start N__law_draw [.ref p, .int m])[0]? = some (some (.ref p)) := rfl
          have s1 : (start N__law_draw [.ref p, .int m])[1]? = some (some (.int m)) := rfl
          refine ps_item (D := { nx := _, rt := Q }) (v := .int (k + 1)) (l := p) (i := 1) (n := 1) (pu_add (pu_ix (pu_var s0) pu_c hp rfl) pu_c) (pu_var s0) pu_c hp rfl ?_
          have hp1 : upd H p (.lst ([.int seed, .int k, .ref c].set 1 (.int (k + 1)))) p = some (.lst [.int seed, .int (k + 1), .ref c]) := upd_same
          have hc1 : upd H p (.lst ([.int seed, .int k, .ref c].set 1 (.int (k + 1)))) c = some (.lst (ns.map V.int)) := by rw [upd_ne (Ne.symm pc)]; exact hc
          have hf1 : ∀ a, a ≠ p → a ≠ c → upd H p (.lst ([.int seed, .int k, .ref c].set 1 (.int (k + 1)))) a = H a := fun a n1 _ => upd_ne n1
          revert hp1 hc1 hf1
          generalize upd H p (.lst ([.int seed, .int k, .ref c].set 1 (.int (k + 1)))) = H1
          intro hp1 hc1 hf1
          refine ps_name (v := .ref c) (pu_ix (pu_var s0) pu_c hp1 rfl) ?_
          have t1 : ((start N__law_draw [.ref p, .int m]).set 2 (some (.ref c)))[1]? = some (some (.int m)) := rfl
          have t2 : ((start N__law_draw [.ref p, .int m]).set 2 (some (.ref c)))[2]? = some (some (.ref c)) := rfl
          have t0 : ((start N__law_draw [.ref p, .int m]).set 2 (some (.ref c)))[0]? = some (some (.ref p)) := rfl
          have hl3 : 3 < ((start N__law_draw [.ref p, .int m]).set 2 (some (.ref c))).length := by simp [L2.start]
          have hl4 : 4 < ((start N__law_draw [.ref p, .int m]).set 2 (some (.ref c))).length := by simp [L2.start]
          revert t0 t1 t2 hl3 hl4
          generalize (start N__law_draw [.ref p, .int m]).set 2 (some (.ref c)) = σ
          intro t1 t2 t0 hl3 hl4
          refine ps_when (pu_B (f := fun i j => decide (i > j)) (pu_len (pu_var t2) hc1) pu_c) (fun hlt => ?_) (fun _ => ?_)
          · cases ns with
            | nil => simp at hlt
            | cons n ns =>
              have hn0 : 0 ≤ n := b4 n (by simp)
              have pix : ∀ {H} {x : V} {xs : List V}, H c = some (.lst (x :: xs)) → Pu (tOp (rIx K) (tVar 2) (tC (.int 0))) σ H x := fun h => pu_ix (pu_var t2) pu_c h (atI0 _ _)
              refine ps_name (v := .int (n % m)) (pu_I (C := fun _ j => 0 < j) (f := fun i j => i % j) (pu_int (pix hc1)) (pu_var t1) (by omega)) ?_
              have u0 : (σ.set 3 (some (.int (n % m))))[0]? = some (some (.ref p)) := by rw [List.getElem?_set_ne (by decide)]; exact t0
              have u1 : (σ.set 3 (some (.int (n % m))))[1]? = some (some (.int m)) := by rw [List.getElem?_set_ne (by decide)]; exact t1
              have u2 : (σ.set 3 (some (.int (n % m))))[2]? = some (some (.ref c)) := by rw [List.getElem?_set_ne (by decide)]; exact t2
              have u3 : (σ.set 3 (some (.int (n % m))))[3]? = some (some (.int (n % m))) := List.getElem?_set_self (by simpa using hl3)
              revert u0 u1 u2 u3
              generalize σ.set 3 (some (.int (n % m))) = σ'
              intro u0 u1 u2 u3
              have pix' : ∀ {H} {x : V} {xs : List V}, H c = some (.lst (x :: xs)) → Pu (tOp (rIx K) (tVar 2) (tC (.int 0))) σ' H x := fun h => pu_ix (pu_var u2) pu_c h (atI0 _ _)
              refine ps_item (v := .int (n / m)) (n := 0) (pu_I (C := CDivW) (f := fun i j => i / j) (pu_int (pix' hc1)) (pu_var u1) ⟨by omega, lowlog (by omega) hm2⟩) (pu_var u2) pu_c hc1 (by rw [List.length_map, List.length_cons]; exact ixN0 _) ?_
              have hp2 : upd H1 c (.lst (((n :: ns).map V.int).set 0 (.int (n / m)))) p = some (.lst [.int seed, .int (k + 1), .ref c]) := by rw [upd_ne pc]; exact hp1
              have hc2 : upd H1 c (.lst (((n :: ns).map V.int).set 0 (.int (n / m)))) c = some (.lst ((n / m :: ns).map V.int)) := upd_same
              have hf2 : ∀ a, a ≠ p → a ≠ c → upd H1 c (.lst (((n :: ns).map V.int).set 0 (.int (n / m)))) a = H a := fun a n1 n2 => by rw [upd_ne n2]; exact hf1 a n1 n2
              revert hp2 hc2 hf2
              generalize upd H1 c (.lst (((n :: ns).map V.int).set 0 (.int (n / m)))) = H2
              intro hp2 hc2 hf2
              have hq0 : 0 ≤ n / m := Int.ediv_nonneg hn0 (by omega)
              have hr0 : 0 ≤ n % m := Int.emod_nonneg _ (by omega)
              have hr1 : n % m < m := Int.emod_lt_of_pos _ (by omega)
              have hmem : ∀ x ∈ ns, 0 ≤ x := fun x hx => b4 x (by simp [hx])
              have hlen : ns.length + 1 ≤ 63 := by simpa using b5
              refine ps_when (pu_eqI (pix' hc2) pu_c) (fun _ => ?_) (fun _ => ?_)
              · refine ⟨.ref c, u2, .inl ⟨rfl, _, SqL.of hc2⟩, ⟨c, _, 0, 0, .int (n / m), rfl, rfl, hc2, by decide, by decide, (ixN_seq (by rw [List.length_map, List.length_cons]; exact ixN0 _)).1, rfl, ?_⟩⟩
                refine ps_give (pu_var u3) ?_
                exact fin _ seed (k + 1) ns _ hr0 hr1 (by rw [upd_ne pc]; exact hp2) (by rw [upd_same]; rfl) ⟨b1, b2, by omega, hmem, by omega⟩ fun a n1 n2 => by rw [upd_ne n2]; exact hf2 a n1 n2
              · refine ps_give (pu_var u3) ?_
                exact fin _ seed (k + 1) (n / m :: ns) _ hr0 hr1 hp2 hc2 ⟨b1, b2, by omega, fun x hx => by
                  rcases List.mem_cons.mp hx with e | e
                  · rw [e]; exact hq0
                  · exact hmem x e, by simpa using hlen⟩ hf2
          · have pix0 : Pu (tOp (rIx K) (tVar 0) (tC (.int 0))) σ H1 (.int seed) := pu_ix (pu_var t0) pu_c hp1 rfl
            have pix1 : Pu (tOp (rIx K) (tVar 0) (tC (.int 1))) σ H1 (.int (k + 1)) := pu_ix (pu_var t0) pu_c hp1 rfl
            refine ps_name (pu_I (C := fun _ j => 0 < j) (f := fun i j => i % j) (pu_int (pu_mul (pu_add pix0 (pu_mul pu_c pix1 (.inl (by decide)))) pu_c (.inr (by decide)))) pu_c (by decide)) ?_
            have step : ∀ (a d e : Int) (M : Int), 0 < M → M < 2147483648 → 0 < a → a < 1073741824 → 0 ≤ d → d < 2147483648 → ∀ σ x, σ[4]? = some (some (V.int x)) → 0 ≤ x → x < 2147483648 → 
                Pu (tOp (rI (fun _ j => 0 < j) fun i j => .int (i % j)) (tCB rInt1 (tCons (tOp (rTimes K) (tVar 4) (tOp (rPlus K) (tOp (rI CDivW fun i j => .int (i / j)) (tVar 4) (tC (.int a))) (tC (.int d)))) tNil)) (tC (.int M))) σ H1 (.int ((x * (x / a + d)) % M)) := fun a d e M h1 h2 h3 h4 h5 h6 σ x hx hx0 hx1 =>
              pu_I (C := fun _ j => 0 < j) (f := fun i j => i % j) (pu_int (pu_mul (pu_var hx) (pu_add (pu_I (C := CDivW) (f := fun i j => i / j) (pu_var hx) pu_c ⟨h3, lowlog (by omega) (by simpa using h4)⟩) pu_c) (.inl (by omega)))) pu_c h1
            have md : ∀ (x M : Int), 0 < M → 0 ≤ x % M ∧ x % M < M := fun x M h => ⟨Int.emod_nonneg _ (by omega), Int.emod_lt_of_pos _ h⟩
            have sl : ∀ (σ : L2.St) (v : V), 4 < σ.length → (σ.set 4 (some v))[4]? = some (some v) := fun σ v h => List.getElem?_set_self h
            have g1 := md ((seed + 7919 * (k + 1)) * 48271) 2147483647 (by decide)
            revert g1
            generalize (seed + 7919 * (k + 1)) * 48271 % 2147483647 = x1
            intro g1
            refine ps_name (step 1009 69621 0 2147483647 (by decide) (by decide) (by decide) (by decide) (by decide) (by decide) _ x1 (sl _ _ hl4) g1.1 (by omega)) ?_
            have g2 := md (x1 * (x1 / 1009 + 69621)) 2147483647 (by decide)
            revert g2
            generalize x1 * (x1 / 1009 + 69621) % 2147483647 = x2
            intro g2
            refine ps_name (step 2003 40692 0 2147483399 (by decide) (by decide) (by decide) (by decide) (by decide) (by decide) _ x2 (sl _ _ (by simpa using hl4)) g2.1 (by omega)) ?_
            generalize x2 * (x2 / 2003 + 40692) % 2147483399 = x3
            refine ps_give (v := .int (x3 / 16 % m)) (pu_I (C := fun _ j => 0 < j) (f := fun i j => i % j) (pu_int (pu_I (C := CDivW) (f := fun i j => i / j) (pu_var (sl _ _ (by simpa using hl4))) pu_c ⟨by decide, lowlog (by decide) (by decide)⟩)) (pu_var (by
              rw [List.getElem?_set_ne (by decide), List.getElem?_set_ne (by decide), List.getElem?_set_ne (by decide)]; exact t1)) (by omega)) ?_
            have g4 := md (x3 / 16) m (by omega)
            exact fin _ seed (k + 1) ns _ g4.1 g4.2 hp1 hc1 ⟨b1, b2, by omega, b4, b5⟩ hf1
end
end My
namespace My
open PySem L2 Ab
local macro_rules | `(tactic| walk_at "den") => `(tactic| first
  | ((with_reducible refine' den_var ?h ?_); (case h => rfl))
  | with_reducible refine ifT ?_ | with_reducible refine ifF ?_
  | with_reducible refine den_int ?_ | with_reducible refine den_bl ?_ | with_reducible refine den_non ?_ | with_reducible refine den_str ?_ | with_reducible refine den_ty ?_
  | with_reducible refine dens_nil ?_ | with_reducible refine dens_seq ?_ | with_reducible refine dens_ret ?_ | with_reducible refine dens_if ?_ | with_reducible refine dens_asg ?_ | with_reducible refine dens_drop ?_ | with_reducible refine dens_raise ?_
  | with_reducible refine dena_nil ?_ | with_reducible refine dena_cons ?_
  | with_reducible refine den_and ?_ | with_reducible refine den_or ?_ | with_reducible refine den_not ?_ | with_reducible refine den_chain ?_ | with_reducible refine den_cb ?_ | with_reducible refine den_op ?_ | with_reducible refine den_tup ?_ | with_reducible refine den_un ?_ | with_reducible refine den_isN ?_ | with_reducible refine den_notN ?_
  | with_reducible refine dent_test ?_ | with_reducible refine dent_B ?_ | with_reducible refine dent_and ?_ | with_reducible refine dent_or ?_ | with_reducible refine dent_not ?_ | with_reducible refine dent_yes ?_
  | with_reducible refine den_fun ?_ | with_reducible refine den_l (denl_lst ?_) | with_reducible refine den_sl ?_ | with_reducible refine cad_lenS ?_ | with_reducible refine deno_none ?_ | with_reducible refine deno_some ?_
  | with_reducible refine deng_name ?_ | ((with_reducible refine' deng_tup ?h ?_); (case h => rfl)) | with_reducible refine dengs_cons ?_ | with_reducible refine dengs_nil ?_
  | with_reducible refine plus_int ?_ | with_reducible refine opd_b0 ?_ | with_reducible refine eqg_int ?_ | with_reducible refine neg_int ?_ | with_reducible refine opd_i0 ?_ | with_reducible refine und_neg ?_
  | with_reducible refine dens_retN ?_ | with_reducible refine dens_cont ?_ | with_reducible refine dens_break ?_ | with_reducible refine dens_par ?_ | with_reducible refine den_if ?_ | with_reducible refine den_dic ?_ | with_reducible refine den_cls ?_)
local macro_rules | `(tactic| walk_at "dem") => `(tactic| first
  | ((with_reducible refine' den_lenO ?h ?_); (case h => rfl)) | ((with_reducible refine' den_var ?h ?_); (case h => rfl))
  | with_reducible refine ifT ?_ | with_reducible refine ifF ?_
  | with_reducible refine den_int ?_ | with_reducible refine den_bl ?_ | with_reducible refine den_non ?_ | with_reducible refine den_str ?_ | with_reducible refine den_ty ?_
  | with_reducible refine dens_nil ?_ | with_reducible refine dens_seq ?_ | with_reducible refine dens_ret ?_ | with_reducible refine dens_if ?_ | with_reducible refine dens_drop ?_ | with_reducible refine dens_raise ?_
  | with_reducible refine dena_nil ?_ | with_reducible refine dena_cons ?_
  | with_reducible refine den_and ?_ | with_reducible refine den_or ?_ | with_reducible refine den_not ?_ | with_reducible refine den_chain ?_ | with_reducible refine den_cb ?_ | with_reducible refine den_op ?_ | with_reducible refine den_tup ?_ | with_reducible refine den_un ?_ | with_reducible refine den_isN ?_ | with_reducible refine den_notN ?_
  | with_reducible refine dent_test ?_ | with_reducible refine dent_B ?_ | with_reducible refine dent_and ?_ | with_reducible refine dent_or ?_ | with_reducible refine dent_not ?_ | with_reducible refine dent_yes ?_
  | with_reducible refine den_fun ?_ | with_reducible refine den_l (denl_lst ?_) | with_reducible refine den_sl ?_ | with_reducible refine cad_lenS ?_ | with_reducible refine deno_none ?_ | with_reducible refine deno_some ?_
  | with_reducible refine deng_name ?_ | ((with_reducible refine' deng_tup ?h ?_); (case h => rfl)) | with_reducible refine dengs_cons ?_ | with_reducible refine dengs_nil ?_
  | with_reducible refine plus_int ?_ | with_reducible refine opd_b0 ?_ | with_reducible refine eqg_int ?_ | with_reducible refine neg_int ?_ | with_reducible refine opd_i0 ?_ | with_reducible refine und_neg ?_
  | with_reducible refine dens_retN ?_ | with_reducible refine dens_cont ?_ | with_reducible refine dens_break ?_ | with_reducible refine dens_par ?_ | with_reducible refine den_if ?_ | with_reducible refine den_dic ?_ | with_reducible refine den_cls ?_)
local macro_rules | `(tactic| walk_at "fin") => `(tactic| (first | refine (show (_ : D) = _ from ?_) | skip))
section
variable {P : Program} {w : World} {K : PySem.W.Frag} {mg : Str → Option Value} {base : Heap}
abbrev S_pool : FSpec := ⟨fun ds => ∃ ns : List Int, ds = [.scr ns] ∧ ns.length ≤ 63, fun ds d => ∃ (seed : Int) (cs : List Int), d = .lst [.int seed, .int 0, .lst (cs.map D.int)] ∧ 0 ≤ seed ∧ seed < 2147483647 ∧ (∀ n ∈ cs, 0 ≤ n) ∧ cs.length ≤ 63, fun _ _ => False⟩
theorem ok_law_pool {f : Addr} {fd : FuncData} (F : Fun K "_law_pool" "_law_pool" s__law_pool f fd) (T : Tx mg) : FnOk P w K mg base (L2.CX P w) 1 f fd ["script"] (spS K 1 S_pool) := by
  refine fn_ab F sc__law_pool S_pool (by decide) fun cdv A outer s H E ds W hr tk hn hp => ?_
  refine ⟨_, (pss_cons (ps_set (i := 1) sc__law_pool.nd rfl (Or.inl rfl) (pe_op (k_plus K) (pe_op (k_plus K) (pe_op op_mod (pe_callTy call_int1 rfl T.int (by decide +kernel) (pa_cons (pe_callB (k_sum K rfl) rfl T.sum (by decide +kernel) (pa_cons (pe_slice (k_sl K) (pv 0) po_none (po_some pe_int)) pa_nil)) pa_nil)) pe_int) (pe_callB (k_len K) rfl T.len (by decide +kernel) (pa_cons (pv 0) pa_nil))) pe_int))
      (pss_cons (ps_for (passes_of rfl) rfl (ki_seq K (pe_slice (k_sl K) (pv 0) po_none (po_some pe_int))) (pg_name (i := 2) sc__law_pool.nd rfl (Or.inl rfl))
      (pss_one (ps_set (i := 1) sc__law_pool.nd rfl (Or.inl rfl) (pe_op op_mod (pe_callTy call_int1 rfl T.int (by decide +kernel) (pa_cons (pe_op (k_plus K) (pe_op (k_plus K) (pe_op (k_times K) (pv 1) pe_int) (pe_op op_mod (pe_callTy call_int1 rfl T.int (by decide +kernel) (pa_cons (pv 2) pa_nil)) pe_int)) pe_int) pa_nil)) pe_int))))
      (pss_one (ps_ret (pe_lst (pa_cons (pv 1) (pa_cons pe_int (pa_cons (pe_lc (own := [("cell", 2)]) rfl sc__law_pool.nd (ki_seq K (pe_slice (k_sl K) (pv 0) po_none (po_some pe_int))) (blkOk_by (own := [("cell", 2)]) (N := N__law_pool) (sc := defScope s__law_pool) (by decide +kernel))
        (fun _ _ _ _ _ => (pg_name (i := 2) sc__law_pool.nd rfl (Or.inl rfl))) (fun _ _ _ _ _ => (pts_one (pt_cmpR op_ge (pe_callB call_abs rfl T.abs (by decide +kernel) (pa_cons (pv 2) pa_nil)) (pe_op op_pow pe_int pe_int) (nomark _)))) (fun _ _ _ _ _ => (pe_callB call_abs rfl T.abs (by decide +kernel) (pa_cons (pv 2) pa_nil)))) pa_nil)))))))), ?_⟩
  rintro Z rfl rfl hX
  obtain ⟨ns, rfl, hns⟩ := hp
  repeat walk_at "den"
  refine ⟨1, rfl, ?_⟩
  repeat walk_at "den"
  refine ⟨_, rfl, ?_⟩
  repeat walk_at "den"
  rw [show ((1 : Int)) = ((1 : Nat) : Int) from rfl, cut_map]
  refine cad_sum ?_
  repeat walk_at "den"
  refine cad_intI ?_
  repeat walk_at "den"
  refine opd_ic (f := fun i j => i % j) (by decide) ?_
  repeat walk_at "den"
  have b0 : 0 ≤ (ns.take 1).sum % 1000003 ∧ (ns.take 1).sum % 1000003 < 1000003 := ⟨Int.emod_nonneg _ (by decide), Int.emod_lt_of_pos _ (by decide)⟩
  refine dens_for (deni_seq ?_)
  repeat walk_at "den"
  refine ⟨63, rfl, ?_⟩
  repeat walk_at "den"
  refine ⟨_, rfl, ?_⟩
  rw [show ((63 : Int)) = ((63 : Nat) : Int) from rfl, cut_map]
  refine ⟨_, .inl rfl, fun i Γ => ∃ (seed : Int) (b : B), Γ = [.d (.scr ns), .d (.int seed), b] ∧ ¬ IsOwn (some b) ∧ 0 ≤ seed ∧ seed < 2147483647, ⟨_, .un, rfl, fun z => z, by omega, by omega⟩, ?_, ?_⟩
  · rintro i d Γ hd ⟨seed, b, rfl, hb, h1, h2⟩
    obtain ⟨c, rfl⟩ : ∃ c, d = .int c := by
      rw [List.getElem?_map] at hd
      cases e : (ns.take 63)[i]? with
      | none => rw [e] at hd; cases hd
      | some c => rw [e] at hd; cases hd; exact ⟨c, rfl⟩
    repeat walk_at "den"
    refine times_int (.inr (by decide)) ?_
    repeat walk_at "den"
    refine cad_intI ?_
    repeat walk_at "den"
    refine opd_ic (f := fun i j => i % j) (by decide) ?_
    repeat walk_at "den"
    refine cad_intI ?_
    repeat walk_at "den"
    refine opd_ic (f := fun i j => i % j) (by decide) ?_
    repeat walk_at "den"
    exact ⟨_, _, rfl, fun z => z, Int.emod_nonneg _ (by decide), Int.emod_lt_of_pos _ (by decide)⟩
  · rintro Γ ⟨seed, b, rfl, hb, h1, h2⟩
    repeat walk_at "den"
    refine den_l (denl_lc (goff_name (by simp)) gmono_name (deni_seq ?_))
    repeat walk_at "den"
    refine ⟨63, rfl, ?_⟩
    repeat walk_at "den"
    refine ⟨_, rfl, ?_⟩
    rw [show ((63 : Int)) = ((63 : Nat) : Int) from rfl, cut_map]
    refine ⟨_, .inl rfl, fun i hi => by
      have e : i = 2 := by simpa using hi
      rw [e]; exact hb, by simp; omega, fun i acc => ∃ cs : List Int, acc = cs.map D.int ∧ (∀ n ∈ cs, 0 ≤ n) ∧ cs.length ≤ i, ⟨[], rfl, by simp, Nat.le_refl _⟩, ?_, ?_⟩
    · rintro i d acc hd hl ⟨cs, rfl, hc, hl2⟩
      obtain ⟨c, rfl⟩ : ∃ c, d = .int c := by
        rw [List.getElem?_map] at hd
        cases e : (ns.take 63)[i]? with
        | none => rw [e] at hd; cases hd
        | some c => rw [e] at hd; cases hd; exact ⟨c, rfl⟩
      refine deng_name ⟨rfl, no_own1 (fun z => z), ?_⟩
      repeat walk_at "den"
      refine cad_abs ?_
      repeat walk_at "den"
      refine opd_ic (f := fun i j => i ^ j.toNat) ⟨by decide, by decide, by decide⟩ ?_
      repeat walk_at "den"
      refine ⟨_, rfl, rfl, ite_b (fun h => ?_) fun h => ?_⟩
      · repeat walk_at "den"
        refine cad_abs ⟨rfl, cs ++ [_], by rw [List.map_append]; rfl, fun n hn => ?_, by simp; omega⟩
        rcases List.mem_append.mp hn with e | e
        · exact hc n e
        · rw [List.mem_singleton.mp e]; split <;> omega
      · exact ⟨cs, rfl, hc, by omega⟩
    · rintro acc hl ⟨cs, rfl, hc, hl2⟩
      repeat walk_at "den"
      refine ⟨by simp, seed, cs, rfl, h1, h2, hc, ?_⟩
      simp at hl2; omega
end
end My
namespace My
open PySem L2 Ab Cc
theorem vsub {K : PySem.W.Frag} {g : G K} {vs : List Nat} (h : (g.vs.all fun v => decide (v ∈ vs)) = true) : ∀ v ∈ g.vs, v ∈ vs := fun v m => by simpa using (List.all_eq_true.mp h) v m
structure Ad where
  C_CellError : Addr
  C_BadWish : Addr
  C_NoProgram : Addr
  C_NoContents : Addr
  C_NoOrder : Addr
  C_NoMoment : Addr
  C_NoPrices : Addr
  C_NoNumber : Addr
  C_NoTimetable : Addr
  C_NotOnto : Addr
  C_NotAlike : Addr
  C_NotWhole : Addr
  C_TooMany : Addr
  C_NoSources : Addr
  C_BadTable : Addr
  C_BadCode : Addr
  C_NoRow : Addr
  C_NoCompiled : Addr
  C_NotRunning : Addr
  C_NothingDone : Addr
  C_NoCell : Addr
  C_NoItem : Addr
  C_IsLocked : Addr
  C_NotLocked : Addr
  C_NoWay : Addr
  C_BadText : Addr
  C_NoLine : Addr
  C_NoName : Addr
  C_NoRunner : Addr
def b__law_deep (K : PySem.W.Frag) (a : Ad) : S K :=
      (seq (asg (ofL (lst (ac non a0))) (nm 0))
      (seq (fors (irg1 (ac (int 35) a0)) (nm 1)
      (asg (ofL (lst (ac (v 0) a0))) (nm 0)))
      (ret (v 0))))
def wp__law_deep (K : PySem.W.Frag) (a : Ad) : WP := bodyW (b__law_deep K a) 2
def b__law_kinds (K : PySem.W.Frag) (a : Ad) : S K :=
      (seq (asg (ofL (lst (ac (bi isE (ac (v 0) (ac (cls a.C_BadWish) a0))) (ac (bi isE (ac (v 0) (ac (cls a.C_BadTable) a0))) (ac (bi isE (ac (v 0) (ac (cls a.C_BadCode) a0))) (ac (bi isE (ac (v 0) (ac (cls a.C_TooMany) a0))) a0)))))) (nm 1))
      (seq (asg (op add (v 1) (ofL (lst (ac (bi isE (ac (v 0) (ac (cls a.C_BadText) a0))) (ac (bi isE (ac (v 0) (ac (cls a.C_NoName) a0))) (ac (bi isE (ac (v 0) (ac (cls a.C_NoProgram) a0))) a0)))))) (nm 1))
      (seq (asg (op add (v 1) (ofL (lst (ac (bi isE (ac (v 0) (ac (cls a.C_NoContents) a0))) (ac (bi isE (ac (v 0) (ac (cls a.C_NoOrder) a0))) (ac (bi isE (ac (v 0) (ac (cls a.C_NoMoment) a0))) a0)))))) (nm 1))
      (seq (asg (op add (v 1) (ofL (lst (ac (bi isE (ac (v 0) (ac (cls a.C_NoPrices) a0))) (ac (bi isE (ac (v 0) (ac (cls a.C_NoNumber) a0))) (ac (bi isE (ac (v 0) (ac (cls a.C_NoTimetable) a0))) a0)))))) (nm 1))
      (seq (asg (op add (v 1) (ofL (lst (ac (bi isE (ac (v 0) (ac (cls a.C_NotOnto) a0))) (ac (bi isE (ac (v 0) (ac (cls a.C_NotAlike) a0))) (ac (bi isE (ac (v 0) (ac (cls a.C_NotWhole) a0))) a0)))))) (nm 1))
      (seq (asg (op add (v 1) (ofL (lst (ac (bi isE (ac (v 0) (ac (cls a.C_NoSources) a0))) (ac (bi isE (ac (v 0) (ac (cls a.C_NoRow) a0))) (ac (bi isE (ac (v 0) (ac (cls a.C_NoCompiled) a0))) a0)))))) (nm 1))
      (seq (asg (op add (v 1) (ofL (lst (ac (bi isE (ac (v 0) (ac (cls a.C_NotRunning) a0))) (ac (bi isE (ac (v 0) (ac (cls a.C_NothingDone) a0))) (ac (bi isE (ac (v 0) (ac (cls a.C_NoCell) a0))) a0)))))) (nm 1))
      (seq (asg (op add (v 1) (ofL (lst (ac (bi isE (ac (v 0) (ac (cls a.C_NoItem) a0))) (ac (bi isE (ac (v 0) (ac (cls a.C_IsLocked) a0))) (ac (bi isE (ac (v 0) (ac (cls a.C_NotLocked) a0))) a0)))))) (nm 1))
      (ret (op add (v 1) (ofL (lst (ac (bi isE (ac (v 0) (ac (cls a.C_NoWay) a0))) (ac (bi isE (ac (v 0) (ac (cls a.C_NoLine) a0))) (ac (bi isE (ac (v 0) (ac (cls a.C_NoRunner) a0))) a0)))))))))))))))
def wp__law_kinds (K : PySem.W.Frag) (a : Ad) : WP := bodyW (b__law_kinds K a) 2
def b__law_made (K : PySem.W.Frag) (a : Ad) : S K :=
      (seq (ifs (tst (op eq (v 0) (int 0))) (ret (tup (ac (mkF a.C_BadWish "part" (v 1)) (ac (mkE a.C_BadWish "part" (v 1)) a0)))) nil)
      (seq (ifs (tst (op eq (v 0) (int 1))) (ret (tup (ac (mkF a.C_BadTable "part" (v 1)) (ac (mkE a.C_BadTable "part" (v 1)) a0)))) nil)
      (seq (ifs (tst (op eq (v 0) (int 2))) (ret (tup (ac (mkF a.C_BadCode "part" (v 1)) (ac (mkE a.C_BadCode "part" (v 1)) a0)))) nil)
      (seq (ifs (tst (op eq (v 0) (int 3))) (ret (tup (ac (mkF a.C_TooMany "most" (v 1)) (ac (mkE a.C_TooMany "most" (v 1)) a0)))) nil)
      (seq (ifs (tst (op eq (v 0) (int 4))) (ret (tup (ac (mkF a.C_BadText "line" (v 1)) (ac (mkE a.C_BadText "line" (v 1)) a0)))) nil)
      (ret (tup (ac (mkF a.C_NoName "name" (v 1)) (ac (mkE a.C_NoName "name" (v 1)) a0)))))))))
def wp__law_made (K : PySem.W.Frag) (a : Ad) : WP := bodyW (b__law_made K a) 2
def b__law_plain_ones (K : PySem.W.Frag) (a : Ad) : S K :=
      (seq (asg (ofL (lst (ac (mkE0 a.C_NoProgram) (ac (mkE0 a.C_NoContents) (ac (mkE0 a.C_NoOrder) (ac (mkE0 a.C_NoMoment) (ac (mkE0 a.C_NoPrices) (ac (mkE0 a.C_NoNumber) (ac (mkE0 a.C_NoTimetable) (ac (mkE0 a.C_NotOnto) (ac (mkE0 a.C_NotAlike) a0))))))))))) (nm 0))
      (seq (asg (op add (v 0) (ofL (lst (ac (mkE0 a.C_NotWhole) (ac (mkE0 a.C_NoSources) (ac (mkE0 a.C_NoRow) (ac (mkE0 a.C_NoCompiled) (ac (mkE0 a.C_NotRunning) (ac (mkE0 a.C_NothingDone) (ac (mkE0 a.C_NoCell) (ac (mkE0 a.C_NoItem) a0))))))))))) (nm 0))
      (ret (op add (v 0) (ofL (lst (ac (mkE0 a.C_IsLocked) (ac (mkE0 a.C_NotLocked) (ac (mkE0 a.C_NoWay) (ac (mkE0 a.C_NoLine) (ac (mkE0 a.C_NoRunner) a0)))))))))))
def wp__law_plain_ones (K : PySem.W.Frag) (a : Ad) : WP := bodyW (b__law_plain_ones K a) 1
end My
namespace My
open PySem L2 Ab Cc
theorem W0_eq : W0 = fun _ _ _ _ => False := rfl
local macro_rules | `(tactic| walk_at "rd") => `(tactic| (simp only [e_te_v, e_te_vr, e_te_wk, e_te_int, e_te_bl, e_te_non, e_te_str, e_te_ty, e_te_cls, e_te_con, e_te_a0, e_te_ac, e_te_tup, e_te_dic, e_te_lst, e_te_ofL, e_te_op, e_te_nt, e_te_and, e_te_or, e_te_chain, e_te_neg, e_te_isN, e_te_notN, e_te_tst, e_te_tB', e_te_tand, e_te_tor, e_te_tnot, e_te_tyes, e_te_ife, e_te_bi, e_te_o0, e_te_o1, e_te_sl, e_te_fld, e_g_nm, e_vs_nm, e_g_g0, e_vs_g0, e_g_gc, e_vs_gc, e_g_gt, e_vs_gt, e_te_iseq, e_te_irg1, e_te_irg2, e_te_ienum, e_te_izip, e_te_bor, e_te_borL, e_te_app, e_te_ext, e_te_popAt, e_te_lc, e_te_dct1, e_te_call, e_te_call0, e_te_nil, e_te_seq, e_te_brk, e_te_cnt, e_te_drop, e_te_ret, e_te_retN, e_te_ifs, e_te_asg, e_te_own, e_te_par, e_te_fors, e_te_whs, e_te_aug, e_te_setO, e_te_rai, e_te_rai0, e_te_tryAs, e_r_add, e_r_mul, e_r_sub, e_r_lt, e_r_le, e_r_gt', e_r_ge, e_r_fdiv, e_r_mod, e_r_pow, e_r_eq, e_r_ne, e_r_inn, e_r_nin, e_r_ix, e_r_len, e_r_abs, e_r_toInt, e_r_gcd, e_r_all, e_r_any, e_r_sum, e_r_tuple, e_r_isT, e_r_isC, e_te_list, e_te_listRg, e_te_addL, e_te_mk, e_te_setf, e_te_mcountT, e_r_tupleX, e_te_mcount, e_te_mindex, e_r_lcm, e_te_astar, e_te_revL, e_te_lc2, e_te_callG, e_te_isX, e_te_xf, e_te_mkE, e_te_mkF, e_te_mkE0, e_r_isE, e_r_reprD, e_te_lenSet, b__law_deep, b__law_kinds, b__law_made, b__law_plain_ones, rev, W0_eq, List.map_cons, List.map_nil] <;> rfl))
section
variable {P : Program} {w : World} {K : PySem.W.Frag} {mg : Str → Option Value} {base : Heap} {a : Ad}
theorem ok__law_deep {f : Addr} {fd : FuncData} (F : Fun K "_law_deep" "_law_deep" s__law_deep f fd) (T : Tx mg) : FnOk P w K mg base (L2.CX P w) 1 f fd [] (spW K 0 (wp__law_deep K a)) :=
  fn_e (k := 0) F sc__law_deep (b__law_deep K a) (by decide) fun cdv A outer s H E W hr tk => ⟨_,
    (pss_cons (ps_set (i := 0) sc__law_deep.nd rfl (Or.inl rfl) (pe_lst (pa_cons pe_non pa_nil)))
      (pss_cons (ps_for (passes_of rfl) rfl (pi_range1 rfl T.range (pa_cons pe_int pa_nil)) (pg_name (i := 1) sc__law_deep.nd rfl (Or.inl rfl))
      (pss_one (ps_set (i := 0) sc__law_deep.nd rfl (Or.inl rfl) (pe_lst (pa_cons (pv 0) pa_nil)))))
      (pss_one (ps_ret (pv 0))))), by walk_at "rd"⟩
theorem ok__law_kinds {f : Addr} {fd : FuncData} (F : Fun K "_law_kinds" "_law_kinds" s__law_kinds f fd) (T : Tx mg) (k_TooMany : mg "TooMany" = some (.ref a.C_TooMany)) (k_BadCode : mg "BadCode" = some (.ref a.C_BadCode)) (k_BadTable : mg "BadTable" = some (.ref a.C_BadTable)) (k_BadWish : mg "BadWish" = some (.ref a.C_BadWish)) (k_NoProgram : mg "NoProgram" = some (.ref a.C_NoProgram)) (k_NoName : mg "NoName" = some (.ref a.C_NoName)) (k_BadText : mg "BadText" = some (.ref a.C_BadText)) (k_NoMoment : mg "NoMoment" = some (.ref a.C_NoMoment)) (k_NoOrder : mg "NoOrder" = some (.ref a.C_NoOrder)) (k_NoContents : mg "NoContents" = some (.ref a.C_NoContents)) (k_NoTimetable : mg "NoTimetable" = some (.ref a.C_NoTimetable)) (k_NoNumber : mg "NoNumber" = some (.ref a.C_NoNumber)) (k_NoPrices : mg "NoPrices" = some (.ref a.C_NoPrices)) (k_NotWhole : mg "NotWhole" = some (.ref a.C_NotWhole)) (k_NotAlike : mg "NotAlike" = some (.ref a.C_NotAlike)) (k_NotOnto : mg "NotOnto" = some (.ref a.C_NotOnto)) (k_NoCompiled : mg "NoCompiled" = some (.ref a.C_NoCompiled)) (k_NoRow : mg "NoRow" = some (.ref a.C_NoRow)) (k_NoSources : mg "NoSources" = some (.ref a.C_NoSources)) (k_NoCell : mg "NoCell" = some (.ref a.C_NoCell)) (k_NothingDone : mg "NothingDone" = some (.ref a.C_NothingDone)) (k_NotRunning : mg "NotRunning" = some (.ref a.C_NotRunning)) (k_NotLocked : mg "NotLocked" = some (.ref a.C_NotLocked)) (k_IsLocked : mg "IsLocked" = some (.ref a.C_IsLocked)) (k_NoItem : mg "NoItem" = some (.ref a.C_NoItem)) (k_NoRunner : mg "NoRunner" = some (.ref a.C_NoRunner)) (k_NoLine : mg "NoLine" = some (.ref a.C_NoLine)) (k_NoWay : mg "NoWay" = some (.ref a.C_NoWay)) : FnOk P w K mg base (L2.CX P w) 1 f fd ["error"] (spW K 1 (wp__law_kinds K a)) :=
  fn_e (k := 0) F sc__law_kinds (b__law_kinds K a) (by decide) fun cdv A outer s H E W hr tk => ⟨_,
    (pss_cons (ps_set (i := 1) sc__law_kinds.nd rfl (Or.inl rfl) (pe_lst (pa_cons (pe_callB (k_isE K) rfl T.isinstance (by decide +kernel) (pa_cons (pv 0) (pa_cons (pe_glob (v := .ref a.C_BadWish) rfl k_BadWish rfl) pa_nil))) (pa_cons (pe_callB (k_isE K) rfl T.isinstance (by decide +kernel) (pa_cons (pv 0) (pa_cons (pe_glob (v := .ref a.C_BadTable) rfl k_BadTable rfl) pa_nil))) (pa_cons (pe_callB (k_isE K) rfl T.isinstance (by decide +kernel) (pa_cons (pv 0) (pa_cons (pe_glob (v := .ref a.C_BadCode) rfl k_BadCode rfl) pa_nil))) (pa_cons (pe_callB (k_isE K) rfl T.isinstance (by decide +kernel) (pa_cons (pv 0) (pa_cons (pe_glob (v := .ref a.C_TooMany) rfl k_TooMany rfl) pa_nil))) pa_nil))))))
      (pss_cons (ps_set (i := 1) sc__law_kinds.nd rfl (Or.inl rfl) (pe_op (k_plus K) (pv 1) (pe_lst (pa_cons (pe_callB (k_isE K) rfl T.isinstance (by decide +kernel) (pa_cons (pv 0) (pa_cons (pe_glob (v := .ref a.C_BadText) rfl k_BadText rfl) pa_nil))) (pa_cons (pe_callB (k_isE K) rfl T.isinstance (by decide +kernel) (pa_cons (pv 0) (pa_cons (pe_glob (v := .ref a.C_NoName) rfl k_NoName rfl) pa_nil))) (pa_cons (pe_callB (k_isE K) rfl T.isinstance (by decide +kernel) (pa_cons (pv 0) (pa_cons (pe_glob (v := .ref a.C_NoProgram) rfl k_NoProgram rfl) pa_nil))) pa_nil))))))
      (pss_cons (ps_set (i := 1) sc__law_kinds.nd rfl (Or.inl rfl) (pe_op (k_plus K) (pv 1) (pe_lst (pa_cons (pe_callB (k_isE K) rfl T.isinstance (by decide +kernel) (pa_cons (pv 0) (pa_cons (pe_glob (v := .ref a.C_NoContents) rfl k_NoContents rfl) pa_nil))) (pa_cons (pe_callB (k_isE K) rfl T.isinstance (by decide +kernel) (pa_cons (pv 0) (pa_cons (pe_glob (v := .ref a.C_NoOrder) rfl k_NoOrder rfl) pa_nil))) (pa_cons (pe_callB (k_isE K) rfl T.isinstance (by decide +kernel) (pa_cons (pv 0) (pa_cons (pe_glob (v := .ref a.C_NoMoment) rfl k_NoMoment rfl) pa_nil))) pa_nil))))))
      (pss_cons (ps_set (i := 1) sc__law_kinds.nd rfl (Or.inl rfl) (pe_op (k_plus K) (pv 1) (pe_lst (pa_cons (pe_callB (k_isE K) rfl T.isinstance (by decide +kernel) (pa_cons (pv 0) (pa_cons (pe_glob (v := .ref a.C_NoPrices) rfl k_NoPrices rfl) pa_nil))) (pa_cons (pe_callB (k_isE K) rfl T.isinstance (by decide +kernel) (pa_cons (pv 0) (pa_cons (pe_glob (v := .ref a.C_NoNumber) rfl k_NoNumber rfl) pa_nil))) (pa_cons (pe_callB (k_isE K) rfl T.isinstance (by decide +kernel) (pa_cons (pv 0) (pa_cons (pe_glob (v := .ref a.C_NoTimetable) rfl k_NoTimetable rfl) pa_nil))) pa_nil))))))
      (pss_cons (ps_set (i := 1) sc__law_kinds.nd rfl (Or.inl rfl) (pe_op (k_plus K) (pv 1) (pe_lst (pa_cons (pe_callB (k_isE K) rfl T.isinstance (by decide +kernel) (pa_cons (pv 0) (pa_cons (pe_glob (v := .ref a.C_NotOnto) rfl k_NotOnto rfl) pa_nil))) (pa_cons (pe_callB (k_isE K) rfl T.isinstance (by decide +kernel) (pa_cons (pv 0) (pa_cons (pe_glob (v := .ref a.C_NotAlike) rfl k_NotAlike rfl) pa_nil))) (pa_cons (pe_callB (k_isE K) rfl T.isinstance (by decide +kernel) (pa_cons (pv 0) (pa_cons (pe_glob (v := .ref a.C_NotWhole) rfl k_NotWhole rfl) pa_nil))) pa_nil))))))
      (pss_cons (ps_set (i := 1) sc__law_kinds.nd rfl (Or.inl rfl) (pe_op (k_plus K) (pv 1) (pe_lst (pa_cons (pe_callB (k_isE K) rfl T.isinstance (by decide +kernel) (pa_cons (pv 0) (pa_cons (pe_glob (v := .ref a.C_NoSources) rfl k_NoSources rfl) pa_nil))) (pa_cons (pe_callB (k_isE K) rfl T.isinstance (by decide +kernel) (pa_cons (pv 0) (pa_cons (pe_glob (v := .ref a.C_NoRow) rfl k_NoRow rfl) pa_nil))) (pa_cons (pe_callB (k_isE K) rfl T.isinstance (by decide +kernel) (pa_cons (pv 0) (pa_cons (pe_glob (v := .ref a.C_NoCompiled) rfl k_NoCompiled rfl) pa_nil))) pa_nil))))))
      (pss_cons (ps_set (i := 1) sc__law_kinds.nd rfl (Or.inl rfl) (pe_op (k_plus K) (pv 1) (pe_lst (pa_cons (pe_callB (k_isE K) rfl T.isinstance (by decide +kernel) (pa_cons (pv 0) (pa_cons (pe_glob (v := .ref a.C_NotRunning) rfl k_NotRunning rfl) pa_nil))) (pa_cons (pe_callB (k_isE K) rfl T.isinstance (by decide +kernel) (pa_cons (pv 0) (pa_cons (pe_glob (v := .ref a.C_NothingDone) rfl k_NothingDone rfl) pa_nil))) (pa_cons (pe_callB (k_isE K) rfl T.isinstance (by decide +kernel) (pa_cons (pv 0) (pa_cons (pe_glob (v := .ref a.C_NoCell) rfl k_NoCell rfl) pa_nil))) pa_nil))))))
      (pss_cons (ps_set (i := 1) sc__law_kinds.nd rfl (Or.inl rfl) (pe_op (k_plus K) (pv 1) (pe_lst (pa_cons (pe_callB (k_isE K) rfl T.isinstance (by decide +kernel) (pa_cons (pv 0) (pa_cons (pe_glob (v := .ref a.C_NoItem) rfl k_NoItem rfl) pa_nil))) (pa_cons (pe_callB (k_isE K) rfl T.isinstance (by decide +kernel) (pa_cons (pv 0) (pa_cons (pe_glob (v := .ref a.C_IsLocked) rfl k_IsLocked rfl) pa_nil))) (pa_cons (pe_callB (k_isE K) rfl T.isinstance (by decide +kernel) (pa_cons (pv 0) (pa_cons (pe_glob (v := .ref a.C_NotLocked) rfl k_NotLocked rfl) pa_nil))) pa_nil))))))
      (pss_one (ps_ret (pe_op (k_plus K) (pv 1) (pe_lst (pa_cons (pe_callB (k_isE K) rfl T.isinstance (by decide +kernel) (pa_cons (pv 0) (pa_cons (pe_glob (v := .ref a.C_NoWay) rfl k_NoWay rfl) pa_nil))) (pa_cons (pe_callB (k_isE K) rfl T.isinstance (by decide +kernel) (pa_cons (pv 0) (pa_cons (pe_glob (v := .ref a.C_NoLine) rfl k_NoLine rfl) pa_nil))) (pa_cons (pe_callB (k_isE K) rfl T.isinstance (by decide +kernel) (pa_cons (pv 0) (pa_cons (pe_glob (v := .ref a.C_NoRunner) rfl k_NoRunner rfl) pa_nil))) pa_nil))))))))))))))), by walk_at "rd"⟩
theorem ok__law_made {f : Addr} {fd : FuncData} (F : Fun K "_law_made" "_law_made" s__law_made f fd) (T : Tx mg) (x_BadWish : Exn1 P w K mg base "BadWish" a.C_BadWish "part") (x_BadTable : Exn1 P w K mg base "BadTable" a.C_BadTable "part") (x_BadCode : Exn1 P w K mg base "BadCode" a.C_BadCode "part") (x_TooMany : Exn1 P w K mg base "TooMany" a.C_TooMany "most") (x_BadText : Exn1 P w K mg base "BadText" a.C_BadText "line") (x_NoName : Exn1 P w K mg base "NoName" a.C_NoName "name") : FnOk P w K mg base (L2.CX P w) 3 f fd ["which", "thing"] (spW K 2 (wp__law_made K a)) :=
  fn_e (k := 2) F sc__law_made (b__law_made K a) (by decide) fun cdv A outer s H E W hr tk => ⟨_,
    (pss_cons (ps_if (pt_cmpR (k_eq K hr.units) (pv 0) pe_int (nomark _)) (pss_one (ps_ret (pe_tup (pa_cons (k_xv K (k_mkE x_BadWish hr (by decide) ⟨rfl, rfl, rfl, rfl, rfl⟩ rfl (pa_cons (pv 1) pa_nil))) (pa_cons (k_mkE x_BadWish hr (by decide) ⟨rfl, rfl, rfl, rfl, rfl⟩ rfl (pa_cons (pv 1) pa_nil)) pa_nil))))) pss_nil)
      (pss_cons (ps_if (pt_cmpR (k_eq K hr.units) (pv 0) pe_int (nomark _)) (pss_one (ps_ret (pe_tup (pa_cons (k_xv K (k_mkE x_BadTable hr (by decide) ⟨rfl, rfl, rfl, rfl, rfl⟩ rfl (pa_cons (pv 1) pa_nil))) (pa_cons (k_mkE x_BadTable hr (by decide) ⟨rfl, rfl, rfl, rfl, rfl⟩ rfl (pa_cons (pv 1) pa_nil)) pa_nil))))) pss_nil)
      (pss_cons (ps_if (pt_cmpR (k_eq K hr.units) (pv 0) pe_int (nomark _)) (pss_one (ps_ret (pe_tup (pa_cons (k_xv K (k_mkE x_BadCode hr (by decide) ⟨rfl, rfl, rfl, rfl, rfl⟩ rfl (pa_cons (pv 1) pa_nil))) (pa_cons (k_mkE x_BadCode hr (by decide) ⟨rfl, rfl, rfl, rfl, rfl⟩ rfl (pa_cons (pv 1) pa_nil)) pa_nil))))) pss_nil)
      (pss_cons (ps_if (pt_cmpR (k_eq K hr.units) (pv 0) pe_int (nomark _)) (pss_one (ps_ret (pe_tup (pa_cons (k_xv K (k_mkE x_TooMany hr (by decide) ⟨rfl, rfl, rfl, rfl, rfl⟩ rfl (pa_cons (pv 1) pa_nil))) (pa_cons (k_mkE x_TooMany hr (by decide) ⟨rfl, rfl, rfl, rfl, rfl⟩ rfl (pa_cons (pv 1) pa_nil)) pa_nil))))) pss_nil)
      (pss_cons (ps_if (pt_cmpR (k_eq K hr.units) (pv 0) pe_int (nomark _)) (pss_one (ps_ret (pe_tup (pa_cons (k_xv K (k_mkE x_BadText hr (by decide) ⟨rfl, rfl, rfl, rfl, rfl⟩ rfl (pa_cons (pv 1) pa_nil))) (pa_cons (k_mkE x_BadText hr (by decide) ⟨rfl, rfl, rfl, rfl, rfl⟩ rfl (pa_cons (pv 1) pa_nil)) pa_nil))))) pss_nil)
      (pss_one (ps_ret (pe_tup (pa_cons (k_xv K (k_mkE x_NoName hr (by decide) ⟨rfl, rfl, rfl, rfl, rfl⟩ rfl (pa_cons (pv 1) pa_nil))) (pa_cons (k_mkE x_NoName hr (by decide) ⟨rfl, rfl, rfl, rfl, rfl⟩ rfl (pa_cons (pv 1) pa_nil)) pa_nil)))))))))), by walk_at "rd"⟩
theorem ok__law_plain_ones {f : Addr} {fd : FuncData} (F : Fun K "_law_plain_ones" "_law_plain_ones" s__law_plain_ones f fd) (T : Tx mg) (x_NotAlike : Exn0 P w K mg base "NotAlike" a.C_NotAlike) (x_NotOnto : Exn0 P w K mg base "NotOnto" a.C_NotOnto) (x_NoTimetable : Exn0 P w K mg base "NoTimetable" a.C_NoTimetable) (x_NoNumber : Exn0 P w K mg base "NoNumber" a.C_NoNumber) (x_NoPrices : Exn0 P w K mg base "NoPrices" a.C_NoPrices) (x_NoMoment : Exn0 P w K mg base "NoMoment" a.C_NoMoment) (x_NoOrder : Exn0 P w K mg base "NoOrder" a.C_NoOrder) (x_NoContents : Exn0 P w K mg base "NoContents" a.C_NoContents) (x_NoProgram : Exn0 P w K mg base "NoProgram" a.C_NoProgram) (x_NoItem : Exn0 P w K mg base "NoItem" a.C_NoItem) (x_NoCell : Exn0 P w K mg base "NoCell" a.C_NoCell) (x_NothingDone : Exn0 P w K mg base "NothingDone" a.C_NothingDone) (x_NotRunning : Exn0 P w K mg base "NotRunning" a.C_NotRunning) (x_NoCompiled : Exn0 P w K mg base "NoCompiled" a.C_NoCompiled) (x_NoRow : Exn0 P w K mg base "NoRow" a.C_NoRow) (x_NoSources : Exn0 P w K mg base "NoSources" a.C_NoSources) (x_NotWhole : Exn0 P w K mg base "NotWhole" a.C_NotWhole) (x_NoRunner : Exn0 P w K mg base "NoRunner" a.C_NoRunner) (x_NoLine : Exn0 P w K mg base "NoLine" a.C_NoLine) (x_NoWay : Exn0 P w K mg base "NoWay" a.C_NoWay) (x_NotLocked : Exn0 P w K mg base "NotLocked" a.C_NotLocked) (x_IsLocked : Exn0 P w K mg base "IsLocked" a.C_IsLocked) : FnOk P w K mg base (L2.CX P w) 3 f fd [] (spW K 0 (wp__law_plain_ones K a)) :=
  fn_e (k := 2) F sc__law_plain_ones (b__law_plain_ones K a) (by decide) fun cdv A outer s H E W hr tk => ⟨_,
    (pss_cons (ps_set (i := 0) sc__law_plain_ones.nd rfl (Or.inl rfl) (pe_lst (pa_cons (k_mkE0 x_NoProgram hr (by decide) ⟨rfl, rfl, rfl, rfl, rfl⟩ rfl) (pa_cons (k_mkE0 x_NoContents hr (by decide) ⟨rfl, rfl, rfl, rfl, rfl⟩ rfl) (pa_cons (k_mkE0 x_NoOrder hr (by decide) ⟨rfl, rfl, rfl, rfl, rfl⟩ rfl) (pa_cons (k_mkE0 x_NoMoment hr (by decide) ⟨rfl, rfl, rfl, rfl, rfl⟩ rfl) (pa_cons (k_mkE0 x_NoPrices hr (by decide) ⟨rfl, rfl, rfl, rfl, rfl⟩ rfl) (pa_cons (k_mkE0 x_NoNumber hr (by decide) ⟨rfl, rfl, rfl, rfl, rfl⟩ rfl) (pa_cons (k_mkE0 x_NoTimetable hr (by decide) ⟨rfl, rfl, rfl, rfl, rfl⟩ rfl) (pa_cons (k_mkE0 x_NotOnto hr (by decide) ⟨rfl, rfl, rfl, rfl, rfl⟩ rfl) (pa_cons (k_mkE0 x_NotAlike hr (by decide) ⟨rfl, rfl, rfl, rfl, rfl⟩ rfl) pa_nil)))))))))))
      (pss_cons (ps_set (i := 0) sc__law_plain_ones.nd rfl (Or.inl rfl) (pe_op (k_plus K) (pv 0) (pe_lst (pa_cons (k_mkE0 x_NotWhole hr (by decide) ⟨rfl, rfl, rfl, rfl, rfl⟩ rfl) (pa_cons (k_mkE0 x_NoSources hr (by decide) ⟨rfl, rfl, rfl, rfl, rfl⟩ rfl) (pa_cons (k_mkE0 x_NoRow hr (by decide) ⟨rfl, rfl, rfl, rfl, rfl⟩ rfl) (pa_cons (k_mkE0 x_NoCompiled hr (by decide) ⟨rfl, rfl, rfl, rfl, rfl⟩ rfl) (pa_cons (k_mkE0 x_NotRunning hr (by decide) ⟨rfl, rfl, rfl, rfl, rfl⟩ rfl) (pa_cons (k_mkE0 x_NothingDone hr (by decide) ⟨rfl, rfl, rfl, rfl, rfl⟩ rfl) (pa_cons (k_mkE0 x_NoCell hr (by decide) ⟨rfl, rfl, rfl, rfl, rfl⟩ rfl) (pa_cons (k_mkE0 x_NoItem hr (by decide) ⟨rfl, rfl, rfl, rfl, rfl⟩ rfl) pa_nil)))))))))))
      (pss_one (ps_ret (pe_op (k_plus K) (pv 0) (pe_lst (pa_cons (k_mkE0 x_IsLocked hr (by decide) ⟨rfl, rfl, rfl, rfl, rfl⟩ rfl) (pa_cons (k_mkE0 x_NotLocked hr (by decide) ⟨rfl, rfl, rfl, rfl, rfl⟩ rfl) (pa_cons (k_mkE0 x_NoWay hr (by decide) ⟨rfl, rfl, rfl, rfl, rfl⟩ rfl) (pa_cons (k_mkE0 x_NoLine hr (by decide) ⟨rfl, rfl, rfl, rfl, rfl⟩ rfl) (pa_cons (k_mkE0 x_NoRunner hr (by decide) ⟨rfl, rfl, rfl, rfl, rfl⟩ rfl) pa_nil))))))))))), by walk_at "rd"⟩
end
end My
namespace My
open PySem L2 Ab Cc
def b_rest (K : PySem.W.Frag) (a : Ad) : S K := (seq (asg (ofL (lst (ac non (ac (int 0) (ac (bl true) (ac (str "a") (ac (tup a0) (ac (tup (ac (str "row") (ac (int 3) a0))) (ac (ofL (lst (ac (int 1) a0))) (ac dic (ac (call0 (wp__law_deep K a)) (ac (neg (int 7)) (ac (op pow (int 10) (int 29)) a0))))))))))))) (nm 2))
      (seq (own 3 (lst a0))
      (seq (fors (irg1 (ac (int 6) a0)) (nm 4)
      (seq (asg (op ix (v 2) (call 2 (wpS S_draw) (ac (v 1) (ac (int 11) a0)))) (nm 5))
      (seq (asg (call 2 (wp__law_made K a) (ac (v 4) (ac (v 5) a0))) (gt 2 (gc (nm 6) (gc (nm 7) g0))))
      (seq (ifs (tst (op ne (bi reprD (ac (v 6) a0)) (bi reprD (ac (v 5) a0)))) (ret (bl false)) nil)
      (drop (app 3 (v 7)))))))
      (seq (own 3 (addL (v 3) (call0 (wp__law_plain_ones K a))))
      (seq (fors (iseq (v 3)) (nm 7)
      (ifs (tor (tnot (tB' (bi isE (ac (v 7) (ac (cls a.C_CellError) a0))))) (tor (tnot (tB' (bi isE (ac (v 7) (ac (ty "ValueError") a0))))) (tst (op ne (mcount (call 1 (wp__law_kinds K a) (ac (v 7) a0)) (bl true)) (int 1))))) (ret (bl false)) nil))
      (ret (op eq (lenSet (ofL (borL (lc (iseq (v 3)) (nm 7) tyes (mindex (call 1 (wp__law_kinds K a) (ac (v 7) a0)) (bl true)) [7] (vsub rfl))))) (bor (bi len (ac (v 3) a0))))))))))
def sp_law (K : PySem.W.Frag) : Sp := fun vs H Q _ => ∃ (p : Addr) (ns : List Int), vs = [.ref p] ∧ SqL K H p (ns.map V.int) ∧ ns.length ≤ 63 ∧ Only H ∧ ∀ H', Q (.bl true) H'
local macro_rules | `(tactic| walk_at "rd") => `(tactic| (simp only [e_te_v, e_te_vr, e_te_wk, e_te_int, e_te_bl, e_te_non, e_te_str, e_te_ty, e_te_cls, e_te_con, e_te_a0, e_te_ac, e_te_tup, e_te_dic, e_te_lst, e_te_ofL, e_te_op, e_te_nt, e_te_and, e_te_or, e_te_chain, e_te_neg, e_te_isN, e_te_notN, e_te_tst, e_te_tB', e_te_tand, e_te_tor, e_te_tnot, e_te_tyes, e_te_ife, e_te_bi, e_te_o0, e_te_o1, e_te_sl, e_te_fld, e_g_nm, e_vs_nm, e_g_g0, e_vs_g0, e_g_gc, e_vs_gc, e_g_gt, e_vs_gt, e_te_iseq, e_te_irg1, e_te_irg2, e_te_ienum, e_te_izip, e_te_bor, e_te_borL, e_te_app, e_te_ext, e_te_popAt, e_te_lc, e_te_dct1, e_te_call, e_te_call0, e_te_nil, e_te_seq, e_te_brk, e_te_cnt, e_te_drop, e_te_ret, e_te_retN, e_te_ifs, e_te_asg, e_te_own, e_te_par, e_te_fors, e_te_whs, e_te_aug, e_te_setO, e_te_rai, e_te_rai0, e_te_tryAs, e_r_add, e_r_mul, e_r_sub, e_r_lt, e_r_le, e_r_gt', e_r_ge, e_r_fdiv, e_r_mod, e_r_pow, e_r_eq, e_r_ne, e_r_inn, e_r_nin, e_r_ix, e_r_len, e_r_abs, e_r_toInt, e_r_gcd, e_r_all, e_r_any, e_r_sum, e_r_tuple, e_r_isT, e_r_isC, e_te_list, e_te_listRg, e_te_addL, e_te_mk, e_te_setf, e_te_mcountT, e_r_tupleX, e_te_mcount, e_te_mindex, e_r_lcm, e_te_astar, e_te_revL, e_te_lc2, e_te_callG, e_te_isX, e_te_xf, e_te_mkE, e_te_mkF, e_te_mkE0, e_r_isE, e_r_reprD, e_te_lenSet, b__law_deep, b__law_kinds, b__law_made, b__law_plain_ones, b_rest, rev, W0_eq, List.map_cons, List.map_nil] <;> rfl))
section
variable {P : Program} {w : World} {K : PySem.W.Frag} {mg : Str → Option Value} {base : Heap} {a : Ad}
theorem ok_law {f : Addr} {fd : FuncData} (F : Fun K "law" "law" s_law f fd) (T : Tx mg) (c__law_pool : Dfn P w K mg base "_law_pool" 1 1 S_pool) (c__law_deep : DfnW P w K mg base "_law_deep" 1 0 (wp__law_deep K a)) (c__law_draw : DfnW P w K mg base "_law_draw" 1 2 (wpS S_draw)) (c__law_made : DfnW P w K mg base "_law_made" 3 2 (wp__law_made K a)) (c__law_plain_ones : DfnW P w K mg base "_law_plain_ones" 3 0 (wp__law_plain_ones K a)) (c__law_kinds : DfnW P w K mg base "_law_kinds" 1 1 (wp__law_kinds K a)) (k_CellError : mg "CellError" = some (.ref a.C_CellError))
    (wish : ∀ ns : List Int, ns.length ≤ 63 → (b_rest K a).wp (B.d (.scr ns) :: .d .pool :: List.replicate 6 .un) ⟨fun _ => False, fun x => x = .bl true, fun _ => False, fun _ => False⟩ (fun _ _ => False)) : FnOkG P w K mg base (L2.CX P w) 4 f fd ["script"] (sp_law K) := by
  refine fnG_of F sc_law (fun vs H Q E h => by obtain ⟨p, ns, rfl, _⟩ := h; rfl) fun cdv A outer s H vs Q E hg0 hr h => ?_
  have tk : Takes (cxOf (L2.CX P w) P w K mg base N_law "law" (defScope s_law) f cdv A outer s H E) W0 := takes0
  obtain ⟨t2, h2, e2⟩ : ∃ t, PSs (cxOf (L2.CX P w) P w K mg base N_law "law" (defScope s_law) f cdv A outer s H E) (defBody s_law).tail t ∧ t = (b_rest K a).ts W0 := ⟨_,
    (pss_cons (ps_set (i := 2) sc_law.nd rfl (Or.inl rfl) (pe_lst (pa_cons pe_non (pa_cons pe_int (pa_cons pe_bl (pa_cons pe_str (pa_cons (pe_tup pa_nil) (pa_cons (pe_tup (pa_cons pe_str (pa_cons pe_int pa_nil))) (pa_cons (pe_lst (pa_cons pe_int pa_nil)) (pa_cons pe_dnewK (pa_cons (kw_fn0 c__law_deep hr (by decide) ⟨rfl, rfl, rfl, rfl, rfl⟩ rfl) (pa_cons (pe_un un_neg pe_int) (pa_cons (pe_op op_pow pe_int pe_int) pa_nil)))))))))))))
      (pss_cons (ps_set (i := 3) sc_law.nd rfl (Or.inl rfl) (pe_lst pa_nil))
      (pss_cons (ps_for (passes_of rfl) rfl (pi_range1 rfl T.range (pa_cons pe_int pa_nil)) (pg_name (i := 4) sc_law.nd rfl (Or.inl rfl))
      (pss_cons (ps_set (i := 5) sc_law.nd rfl (Or.inl rfl) (pe_ix (k_ix K) (pv 2) (kw_fn tk c__law_draw hr (by decide) ⟨rfl, rfl, rfl, rfl, rfl⟩ rfl (pa_cons (pv 1) (pa_cons pe_int pa_nil))) (fun _ _ => rfl)))
      (pss_cons (ps_asg (kw_fn tk c__law_made hr (by decide) ⟨rfl, rfl, rfl, rfl, rfl⟩ rfl (pa_cons (pv 4) (pa_cons (pv 5) pa_nil))) (kg_tup (n := 2) K rfl (pgs_cons (pg_name (i := 6) sc_law.nd rfl (Or.inl rfl)) (pgs_cons (pg_name (i := 7) sc_law.nd rfl (Or.inl rfl)) pgs_nil))))
      (pss_cons (ps_if (pt_cmpR (k_ne K hr.units) (pe_callB (k_reprD K hg0 hr.units) rfl T.repr (by decide +kernel) (pa_cons (pv 6) pa_nil)) (pe_callB (k_reprD K hg0 hr.units) rfl T.repr (by decide +kernel) (pa_cons (pv 5) pa_nil)) (nomark _)) (pss_one (ps_ret pe_bl)) pss_nil)
      (pss_one (ps_expr (pe_bm PySem.F.plainAttrs_list PySem.F.slot_list_append PySem.F.type_list_append mt_append (pv 3) (pa_cons (pv 7) pa_nil))))))))
      (pss_cons (ps_set (i := 3) sc_law.nd rfl (Or.inl rfl) (pe_op (k_plus K) (pv 3) (kw_fn0 c__law_plain_ones hr (by decide) ⟨rfl, rfl, rfl, rfl, rfl⟩ rfl)))
      (pss_cons (ps_for (passes_of rfl) rfl (ki_seq K (pv 3)) (pg_name (i := 7) sc_law.nd rfl (Or.inl rfl))
      (pss_one (ps_if (PW.pt (pw_or (pt_not (pt_val (pe_callB (k_isE K) rfl T.isinstance (by decide +kernel) (pa_cons (pv 7) (pa_cons (pe_glob (v := .ref a.C_CellError) rfl k_CellError rfl) pa_nil))))) (pw_or (pt_not (pt_val (pe_callB (k_isE K) rfl T.isinstance (by decide +kernel) (pa_cons (pv 7) (pa_cons (pe_bltn (v := .ty "ValueError") rfl T.ValueError (by decide +kernel) rfl) pa_nil))))) (pw_or1 (pt_cmpR (k_ne K hr.units) (k_countL K (kw_fn tk c__law_kinds hr (by decide) ⟨rfl, rfl, rfl, rfl, rfl⟩ rfl (pa_cons (pv 7) pa_nil)) (pa_cons pe_bl pa_nil)) pe_int (nomark _)))))) (pss_one (ps_ret pe_bl)) pss_nil)))
      (pss_one (ps_ret (pe_cmpR (k_eq K hr.units) (k_lenSet K rfl rfl T.len rfl T.set (pe_lc (own := [("error", 7)]) rfl sc_law.nd (ki_seq K (pv 3)) (blkOk_by (own := [("error", 7)]) (N := N_law) (sc := defScope s_law) (by decide +kernel))
        (fun _ _ _ _ _ => (pg_name (i := 7) sc_law.nd rfl (Or.inl rfl))) (fun _ _ _ _ _ => pts_nil) (fun _ _ _ _ _ => (k_indexL K (kw_fn takes0 c__law_kinds hr (by decide) ⟨rfl, rfl, rfl, rfl, rfl⟩ rfl (pa_cons (pv 7) pa_nil)) (pa_cons pe_bl pa_nil))))) (pe_callB (k_len K) rfl T.len (by decide +kernel) (pa_cons (pv 3) pa_nil)) (nomark _))))))))), by walk_at "rd"⟩
  subst e2
  refine ⟨_, pss_cons (ps_set (i := 1) sc_law.nd rfl (Or.inl rfl) (kc_fn c__law_pool hr (by decide) ⟨rfl, rfl, rfl, rfl, rfl⟩ rfl (pa_cons (pv 0) pa_nil))) h2, ?_⟩
  obtain ⟨p, ns, rfl, hS, hlen, hO, hQ⟩ := h
  refine lawpool_start (S := S_pool) (N := N_law) hS hlen hO (fun d ⟨seed, cs, h⟩ => ⟨seed, cs, h⟩) ⟨ns, rfl, hlen⟩ (fun _ z => z) (by decide) (fun Z hZ hW hX => ?_) hQ rfl
  have := (b_rest K a).ok Z (B.d (.scr ns) :: .d .pool :: List.replicate 6 .un) ⟨fun _ => False, fun x => x = .bl true, fun _ => False, fun _ => False⟩ hZ (by rw [hX]; exact wish ns hlen)
  rw [hW] at this
  exact this
end
end My
namespace My
open PySem L2 Ab Cc
local macro_rules | `(tactic| walk_at "wp") => `(tactic| (try simp only [e_wp_v, e_wp_vr, e_wp_wk, e_wp_int, e_wp_bl, e_wp_non, e_wp_str, e_wp_ty, e_wp_cls, e_wp_con, e_wp_a0, e_wp_ac, e_wp_tup, e_wp_dic, e_wp_lst, e_wp_ofL, e_wp_op, e_wp_nt, e_wp_and, e_wp_or, e_wp_chain, e_wp_neg, e_wp_isN, e_wp_notN, e_wp_tst, e_wp_tB', e_wp_tand, e_wp_tor, e_wp_tnot, e_wp_tyes, e_wp_ife, e_wp_bi, e_wp_o0, e_wp_o1, e_wp_sl, e_wp_fld, e_wp_nm, e_wp_g0, e_wp_gc, e_wp_gt, e_wp_iseq, e_wp_irg1, e_wp_irg2, e_wp_ienum, e_wp_izip, e_wp_bor, e_wp_borL, e_wp_app, e_wp_ext, e_wp_popAt, e_wp_lc, e_wp_dct1, e_wp_call, e_wp_call0, e_wp_nil, e_wp_seq, e_wp_brk, e_wp_cnt, e_wp_drop, e_wp_ret, e_wp_retN, e_wp_ifs, e_wp_asg, e_wp_own, e_wp_par, e_wp_fors, e_wp_whs, e_wp_aug, e_wp_setO, e_wp_rai, e_wp_rai0, e_wp_tryAs, e_wp_add, e_wp_mul, e_wp_sub, e_wp_lt, e_wp_le, e_wp_gt', e_wp_ge, e_wp_fdiv, e_wp_mod, e_wp_pow, e_wp_eq, e_wp_ne, e_wp_inn, e_wp_nin, e_wp_ix, e_wp_len, e_wp_abs, e_wp_toInt, e_wp_gcd, e_wp_all, e_wp_any, e_wp_sum, e_wp_tuple, e_wp_isT, e_wp_isC, e_wp_list, e_wp_listRg, e_wp_addL, e_wp_mk, e_wp_setf, e_wp_mcountT, e_wp_tupleX, e_wp_mcount, e_wp_mindex, e_wp_lcm, e_wp_astar, e_wp_revL, e_wp_lc2, e_wp_callG, e_wp_mkE, e_wp_mkF, e_wp_mkE0, e_wp_isE, e_wp_reprD, e_wp_lenSet, e_wp_isX, e_wp_xf, r_get0, r_getS, r_put0, r_putS, r_var, r_vd, r_vown, r_isBl, r_isI, r_isSqT, r_isSqL, r_two, r_isOwn, r_no, r_noU, r_unxI, r_unxT, r_unxX, r_unxO, r_addI, r_addT, r_addL, r_mulI, r_mulT, r_ii, r_ci, r_eqI, r_eqS, r_eqB, r_inT, r_inL, r_ixT, r_ixL, r_lenT, r_lenL, r_abs, r_intI, r_intB, r_gcd, r_all, r_sum, r_tupL, r_tupT, r_sqT, r_sqL, r_rg1, r_en, r_zipT, r_zipL, r_slT, r_slL, r_noOwn0, r_noOwnS, r_wip0, r_wipS, r_start, r_body, r_lt, r_isN0, r_isNT, r_isNI, r_isNL, r_okU, r_okD, r_noOb0, r_noObU, r_noObD, r_noObO, r_frz0, r_frzU, r_frzD, r_frzO, r_noLi, r_noLb, r_noLs, r_noLn, rev, List.map_cons, List.map_nil, List.length_cons, List.length_nil, List.replicate, List.nil_append, List.cons_append, Nat.sub_self, Nat.reduceAdd, Nat.reduceSub, not_false_eq_true, and_self, true_and, and_true, if_true, if_false, Bool.not_true, Bool.not_false, Bool.false_eq_true, and_false, false_and, reduceIte, ite_self, Nat.zero_add, decide_eq_true_eq]))
local macro_rules | `(tactic| walk_at "ws") => `(tactic| simp_all [r_get0, r_getS, r_put0, r_putS, r_var, r_vd, r_vown, r_isBl, r_isI, r_isSqT, r_isSqL, r_two, r_isOwn, r_no, r_noU, r_unxI, r_unxT, r_unxX, r_unxO, r_addI, r_addT, r_addL, r_mulI, r_mulT, r_ii, r_ci, r_eqI, r_eqS, r_eqB, r_inT, r_inL, r_ixT, r_ixL, r_lenT, r_lenL, r_abs, r_intI, r_intB, r_gcd, r_all, r_sum, r_tupL, r_tupT, r_sqT, r_sqL, r_rg1, r_en, r_zipT, r_zipL, r_slT, r_slL, r_noOwn0, r_noOwnS, r_wip0, r_wipS, r_start, r_body, r_lt, r_isN0, r_isNT, r_isNI, r_isNL, r_okU, r_okD, r_noOb0, r_noObU, r_noObD, r_noObO, r_frz0, r_frzU, r_frzD, r_frzO, r_noLi, r_noLb, r_noLs, r_noLn, isTy, taggedD, tagD])
def er (a : Ad) : List Addr := [a.C_BadWish, a.C_BadTable, a.C_BadCode, a.C_TooMany, a.C_BadText, a.C_NoName, a.C_NoProgram, a.C_NoContents, a.C_NoOrder, a.C_NoMoment, a.C_NoPrices, a.C_NoNumber, a.C_NoTimetable, a.C_NotOnto, a.C_NotAlike, a.C_NotWhole, a.C_NoSources, a.C_NoRow, a.C_NoCompiled, a.C_NotRunning, a.C_NothingDone, a.C_NoCell, a.C_NoItem, a.C_IsLocked, a.C_NotLocked, a.C_NoWay, a.C_NoLine, a.C_NoRunner]
structure KF (K : PySem.W.Frag) (a : Ad) : Prop where
  kit : ∀ C ∈ er a, KitE K C
  one : ∀ C ∈ er a, ∀ C' ∈ er a, PySem.W.kitOne K (.ref C) (.ref C') = some (decide (C' = C))
  cel : ∀ C ∈ er a, PySem.W.kitOne K (.ref C) (.ref a.C_CellError) = some true
  val : ∀ C ∈ er a, PySem.W.kitOne K (.ref C) (.type "ValueError") = some true
  nd : (er a).Nodup
  f_BadWish : XfC K a.C_BadWish ∧ PySem.W.findIn K (.ref a.C_BadWish) "part" = some none
  f_BadTable : XfC K a.C_BadTable ∧ PySem.W.findIn K (.ref a.C_BadTable) "part" = some none
  f_BadCode : XfC K a.C_BadCode ∧ PySem.W.findIn K (.ref a.C_BadCode) "part" = some none
  f_TooMany : XfC K a.C_TooMany ∧ PySem.W.findIn K (.ref a.C_TooMany) "most" = some none
  f_BadText : XfC K a.C_BadText ∧ PySem.W.findIn K (.ref a.C_BadText) "line" = some none
  f_NoName : XfC K a.C_NoName ∧ PySem.W.findIn K (.ref a.C_NoName) "name" = some none
section
variable {K : PySem.W.Frag} {a : Ad} {Q : D → Prop} {E : Er → Prop}
theorem m_BadWish : a.C_BadWish ∈ er a := by simp [er]
theorem m_BadTable : a.C_BadTable ∈ er a := by simp [er]
theorem m_BadCode : a.C_BadCode ∈ er a := by simp [er]
theorem m_TooMany : a.C_TooMany ∈ er a := by simp [er]
theorem m_BadText : a.C_BadText ∈ er a := by simp [er]
theorem m_NoName : a.C_NoName ∈ er a := by simp [er]
theorem m_NoProgram : a.C_NoProgram ∈ er a := by simp [er]
theorem m_NoContents : a.C_NoContents ∈ er a := by simp [er]
theorem m_NoOrder : a.C_NoOrder ∈ er a := by simp [er]
theorem m_NoMoment : a.C_NoMoment ∈ er a := by simp [er]
theorem m_NoPrices : a.C_NoPrices ∈ er a := by simp [er]
theorem m_NoNumber : a.C_NoNumber ∈ er a := by simp [er]
theorem m_NoTimetable : a.C_NoTimetable ∈ er a := by simp [er]
theorem m_NotOnto : a.C_NotOnto ∈ er a := by simp [er]
theorem m_NotAlike : a.C_NotAlike ∈ er a := by simp [er]
theorem m_NotWhole : a.C_NotWhole ∈ er a := by simp [er]
theorem m_NoSources : a.C_NoSources ∈ er a := by simp [er]
theorem m_NoRow : a.C_NoRow ∈ er a := by simp [er]
theorem m_NoCompiled : a.C_NoCompiled ∈ er a := by simp [er]
theorem m_NotRunning : a.C_NotRunning ∈ er a := by simp [er]
theorem m_NothingDone : a.C_NothingDone ∈ er a := by simp [er]
theorem m_NoCell : a.C_NoCell ∈ er a := by simp [er]
theorem m_NoItem : a.C_NoItem ∈ er a := by simp [er]
theorem m_IsLocked : a.C_IsLocked ∈ er a := by simp [er]
theorem m_NotLocked : a.C_NotLocked ∈ er a := by simp [er]
theorem m_NoWay : a.C_NoWay ∈ er a := by simp [er]
theorem m_NoLine : a.C_NoLine ∈ er a := by simp [er]
theorem m_NoRunner : a.C_NoRunner ∈ er a := by simp [er]
theorem isE_one {C C' : Addr} (k : KF K a) (h : C ∈ er a) (h' : C' ∈ er a) : isEW K [.exo C, .cls C'] Q ↔ Q (.bl (decide (C' = C))) := by
  constructor
  · rintro ⟨_, b, e, q⟩
    rw [k.one C h C' h'] at e
    cases e
    exact q
  · exact fun q => ⟨k.kit C h, _, k.one C h C' h', q⟩
theorem isE_cel {C : Addr} (k : KF K a) (h : C ∈ er a) : isEW K [.exo C, .cls a.C_CellError] Q ↔ Q (.bl true) := by
  constructor
  · rintro ⟨_, b, e, q⟩
    rw [k.cel C h] at e
    cases e
    exact q
  · exact fun q => ⟨k.kit C h, _, k.cel C h, q⟩
theorem isE_val {C : Addr} (k : KF K a) (h : C ∈ er a) : isEW K [.exo C, .ty "ValueError"] Q ↔ Q (.bl true) := by
  constructor
  · rintro ⟨_, b, e, q⟩
    rw [k.val C h] at e
    cases e
    exact q
  · exact fun q => ⟨k.kit C h, _, k.val C h, q⟩
def flags (a : Ad) (C : Addr) : List Bool := (er a).map fun C' => decide (C' = C)
theorem w_kinds {C : Addr} (k : KF K a) (h : C ∈ er a) (q : Q (.lst ((flags a C).map D.bl))) : wp__law_kinds K a [.exo C] Q E := by
  unfold wp__law_kinds b__law_kinds
  walk_at "wp"
  simp only [isE_one k h m_BadWish, isE_one k h m_BadTable, isE_one k h m_BadCode, isE_one k h m_TooMany, isE_one k h m_BadText, isE_one k h m_NoName, isE_one k h m_NoProgram, isE_one k h m_NoContents, isE_one k h m_NoOrder, isE_one k h m_NoMoment, isE_one k h m_NoPrices, isE_one k h m_NoNumber, isE_one k h m_NoTimetable, isE_one k h m_NotOnto, isE_one k h m_NotAlike, isE_one k h m_NotWhole, isE_one k h m_NoSources, isE_one k h m_NoRow, isE_one k h m_NoCompiled, isE_one k h m_NotRunning, isE_one k h m_NothingDone, isE_one k h m_NoCell, isE_one k h m_NoItem, isE_one k h m_IsLocked, isE_one k h m_NotLocked, isE_one k h m_NoWay, isE_one k h m_NoLine, isE_one k h m_NoRunner]
  walk_at "wp"
  repeat refine ⟨by decide, ?_⟩
  exact q
theorem er_get {i : Nat} {C : Addr} (h : (er a)[i]? = some C) : C ∈ er a := List.mem_of_getElem? h
theorem flags_at {i : Nat} {C : Addr} (nd : (er a).Nodup) (h : (er a)[i]? = some C) : (flags a C)[i]? = some true ∧ ∀ m < i, (flags a C)[m]? ≠ some true := by
  obtain ⟨hi, he⟩ := List.getElem?_eq_some_iff.mp h
  refine ⟨by simp [flags, h], fun m hm e => ?_⟩
  have hm' : m < (er a).length := by omega
  simp [flags, List.getElem?_map, List.getElem?_eq_getElem hm'] at e
  exact List.pairwise_iff_getElem.mp nd m i hm' hi hm (by rw [e, he])
theorem cnt0 {C : Addr} : ∀ {l : List Addr}, C ∉ l → (l.map fun C' => decide (C' = C)).count true = 0
  | [], _ => rfl
  | x :: l, h => by
    have h1 : x ≠ C := fun z => h (z ▸ List.mem_cons_self)
    have h2 : C ∉ l := fun z => h (List.mem_cons_of_mem _ z)
    rw [List.map_cons, List.count_cons, cnt0 h2]
    simp [h1]
theorem cnt1 {C : Addr} : ∀ {l : List Addr}, l.Nodup → C ∈ l → (l.map fun C' => decide (C' = C)).count true = 1
  | x :: l, nd, h => by
    have n1 := List.nodup_cons.mp nd
    rw [List.map_cons, List.count_cons]
    by_cases e : x = C
    · subst e
      rw [cnt0 n1.1]
      simp
    · have m : C ∈ l := by
        rcases List.mem_cons.mp h with z | z
        · exact absurd z.symm e
        · exact z
      rw [cnt1 n1.2 m]
      simp [e]
theorem flags_count {C : Addr} (nd : (er a).Nodup) (h : C ∈ er a) : (flags a C).count true = 1 := by
  unfold flags
  exact cnt1 nd h
theorem w_plain (k : KF K a) (q : Q (.lst (((er a).drop 6).map D.exo))) : wp__law_plain_ones K a [] Q E := by
  unfold wp__law_plain_ones b__law_plain_ones
  walk_at "wp"
  repeat refine ⟨by decide, ?_⟩
  exact q
def deepD : Nat → D
  | 0 => .lst [.non]
  | n + 1 => .lst [deepD n]
theorem w_deep (q : Q (deepD 35)) : wp__law_deep K a [] Q E := by
  unfold wp__law_deep b__law_deep
  walk_at "wp"
  refine ⟨by decide, ?_⟩
  refine ⟨by decide, by decide, ?_⟩
  refine forW_ix (fun i Γ => ∃ b, okB b ∧ Γ = [.d (deepD i), b]) ⟨.un, trivial, rfl⟩ ?_ ?_
  · rintro Γ ⟨b, k1, rfl⟩
    walk_at "wp"
    exact q
  · rintro i d hd Γ ⟨b, k1, rfl⟩ N hN
    walk_at "wp"
    exact ⟨by decide, hN _ ⟨.d d, trivial, rfl⟩⟩
theorem w_made {i : Nat} {C : Addr} {x : D} (k : KF K a) (hi : i < 6) (h : (er a)[i]? = some C) (q : Q (.tup [x, .exo C])) : wp__law_made K a [.int (i : Nat), x] Q E := by
  unfold wp__law_made b__law_made
  walk_at "wp"
  have hc : i = 0 ∨ i = 1 ∨ i = 2 ∨ i = 3 ∨ i = 4 ∨ i = 5 := by omega
  rcases hc with rfl | rfl | rfl | rfl | rfl | rfl <;> simp only [er, List.getElem?_cons_succ, List.getElem?_cons_zero, Option.some.injEq] at h <;> subst h
  · exact ⟨k.f_BadWish, by decide, q⟩
  · exact ⟨k.f_BadTable, by decide, q⟩
  · exact ⟨k.f_BadCode, by decide, q⟩
  · exact ⟨k.f_TooMany, by decide, q⟩
  · exact ⟨k.f_BadText, by decide, q⟩
  · exact ⟨k.f_NoName, by decide, q⟩
def things : List D := [.non, .int 0, .bl true, .str "a", .tup [], .tup [.str "row", .int 3], .lst [.int 1], .dic, deepD 35, .int (-7), .int (10 ^ Int.toNat 29)]
theorem show_things : ∀ x ∈ things, x = .dic ∨ ShowOk x := by
  intro x hx
  simp only [things, List.mem_cons, List.not_mem_nil, or_false] at hx
  rcases hx with rfl | rfl | rfl | rfl | rfl | rfl | rfl | rfl | rfl | rfl | rfl
  all_goals first
    | exact .inl rfl
    | exact .inr ⟨by decide +kernel, by decide +kernel, by decide +kernel, by decide +kernel, by rw [sizeLine_eq]; decide +kernel⟩
theorem rg_get {n i : Nat} {d : D} (h : (rgAt 0 n)[i]? = some d) : i < n ∧ d = .int (i : Nat) := by
  unfold rgAt at h
  rw [List.getElem?_map] at h
  cases e : (List.range n)[i]? with
  | none => rw [e] at h; simp at h
  | some j =>
    rw [e] at h
    obtain ⟨h1, h2⟩ := List.getElem?_eq_some_iff.mp e
    simp at h1 h2 h
    subst h2
    exact ⟨h1, by rw [← h]⟩
theorem atI_of {xs : List D} {p : Nat} {x : D} (h : xs[p]? = some x) : atI xs (p : Nat) = some x := by
  obtain ⟨hp, he⟩ := List.getElem?_eq_some_iff.mp h
  unfold atI ixN
  rw [if_pos (by omega), if_pos (by omega)]
  simpa using h
theorem forW_ixG {g : D → List B → (List B → Prop) → Prop} {s : List B → Po → Prop} {P : Po} {ds : List D} {Γ : List B} (I : Nat → List B → Prop) (h0 : I 0 Γ) (he : ∀ Γ, I ds.length Γ → P.N Γ)
    (hs : ∀ (R : D → Prop) (Bk : List B → Prop) i d, ds[i]? = some d → ∀ Γ, I i Γ → ∀ N : List B → Prop, (∀ Γ', I (i + 1) Γ' → N Γ') → g d Γ fun Γ1 => s Γ1 ⟨N, R, Bk, N⟩) : forW g s P ds Γ := forW_ix I h0 he fun i d h Γ q N hN => hs _ _ i d h Γ q N hN
theorem lcS_ix {el : El} {Q : List D → Prop} (r : Nat → D) : ∀ {ds acc : List D} {i0 : Nat}, (∀ i d, ds[i]? = some d → ∀ kk : Option D → Prop, kk (some (r (i0 + i))) → el d kk) → Q (acc ++ (List.range ds.length).map fun i => r (i0 + i)) → lcS el ds acc Q
  | [], acc, i0, _, q => by simpa [lcS] using q
  | d :: ds, acc, i0, h, q => by
    unfold lcS
    refine h 0 d rfl _ ?_
    refine lcS_ix (i0 := i0 + 1) r (fun i d' hd kk hk => h (i + 1) d' (by simpa using hd) kk (by rw [show i0 + (i + 1) = i0 + 1 + i by omega]; exact hk)) ?_
    have e : acc ++ [r (i0 + 0)] ++ (List.range ds.length).map (fun i => r (i0 + 1 + i)) = acc ++ (List.range (d :: ds).length).map fun i => r (i0 + i) := by
      rw [List.length_cons, List.range_succ_eq_map, List.map_cons, List.map_map, List.append_assoc, List.singleton_append]
      congr 2
      refine List.map_congr_left fun x _ => ?_
      show r (i0 + 1 + x) = r (i0 + (x + 1))
      congr 1
      omega
    rw [e]
    exact q
theorem frz_ok {b : B} {r : List B} (h : okB b) : frz (b :: r) = b :: frz r := by rcases okB_cases h with rfl | ⟨x, rfl⟩ <;> rfl
theorem noOb_ok {b : B} {r : List B} (h : okB b) : noOb (b :: r) = noOb r := by rcases okB_cases h with rfl | ⟨x, rfl⟩ <;> rfl
theorem frz_nil : frz [] = [] := rfl
theorem noOb_nil : noOb [] = true := rfl
theorem w_rest (k : KF K a) : ∀ ns : List Int, ns.length ≤ 63 → (b_rest K a).wp (B.d (.scr ns) :: .d .pool :: List.replicate 6 .un) ⟨fun _ => False, fun x => x = .bl true, fun _ => False, fun _ => False⟩ (fun _ _ => False) := by
  intro ns hn
  unfold b_rest
  walk_at "wp"
  refine ⟨by decide, by decide, by decide, w_deep ?_⟩
  walk_at "wp"
  refine ⟨by unfold CPow; decide, by decide, by decide, by decide, by decide, ?_⟩
  refine forW_ix (fun i Γ => ∃ b4 b5 b6 b7, okB b4 ∧ okB b5 ∧ okB b6 ∧ okB b7 ∧ Γ = [.d (.scr ns), .d .pool, .d (.lst things), .own (((er a).take i).map D.exo), b4, b5, b6, b7]) ⟨.un, .un, .un, .un, trivial, trivial, trivial, trivial, rfl⟩ ?_ ?_
  · rintro Γ ⟨b4, b5, b6, b7, k4, k5, k6, k7, rfl⟩
    walk_at "wp"
    refine w_plain k ?_
    have e6 : ((er a).take (rgAt 0 (Int.toNat 6)).length).map D.exo ++ ((er a).drop 6).map D.exo = (er a).map D.exo := by
      rw [rg_len, ← List.map_append, show (Int.toNat 6) = 6 from rfl, List.take_append_drop]
    have l6 : (((er a).take (rgAt 0 (Int.toNat 6)).length).map D.exo).length + (((er a).drop 6).map D.exo).length ≤ 100000 := by
      rw [rg_len]; simp [er]
    simp only
    rw [e6]
    refine ⟨l6, ?_⟩
    walk_at "wp"
    refine forW_ixG (fun i Γ => ∃ b, okB b ∧ Γ = [.d (.scr ns), .d .pool, .d (.lst things), .d (.lst ((er a).map D.exo)), b4, b5, b6, b]) ⟨b7, k7, rfl⟩ ?_ ?_
    · rintro Γ ⟨b, kb, rfl⟩
      walk_at "wp"
      simp only [noOb_ok k4, noOb_ok k5, noOb_ok k6, noOb_ok kb, frz_ok k4, frz_ok k5, frz_ok k6, frz_ok kb, frz_nil, noOb_nil]
      walk_at "wp"
      refine ⟨okB_no kb, by simp [er], lcS_ix (i0 := 0) (fun i => .int (i : Nat)) (fun i d hd kk hk => ?_) ?_⟩
      · obtain ⟨C, hC, rfl⟩ := map_get hd
        have hm := er_get hC
        obtain ⟨g1, g2⟩ := flags_at k.nd hC
        simp only [elW, e_wp_nm, e_wp_tyes, e_wp_mindex, e_wp_call, e_wp_ac, e_wp_a0, e_wp_v, e_wp_bl, if_true]
        simp only [r_wip0, r_wipS, r_put0, r_putS, r_noOwn0, r_noOwnS]
        refine ⟨trivial, ⟨?_, trivial⟩, trivial, ?_⟩
        · simp only [r_get0, r_getS]
          exact fun z => z
        rw [r_var]
        simp only [r_get0, r_getS]
        rw [r_vd]
        refine ⟨rfl, w_kinds k hm ⟨_, rfl, i, g1, g2, rfl, ?_⟩⟩
        rw [show 0 + i = i by omega] at hk
        exact hk
      · rw [List.nil_append]
        refine ⟨noLs_all.mpr fun x hx => ?_, (List.range ((er a).map D.exo).length).map (fun i : Nat => (i : Int)), ?_, ?_, ?_, ?_⟩
        · obtain ⟨i, _, rfl⟩ := List.mem_map.mp hx
          rfl
        · simp
        · simp [er]
        · simp only [er, List.map_cons, List.map_nil, List.length_cons, List.length_nil]
          decide
        · simp
    · rintro R Bk i d hd Γ ⟨b, kb, rfl⟩ N hN
      obtain ⟨C, hC, rfl⟩ := map_get hd
      have hm := er_get hC
      simp only [r_put0, r_putS]
      simp only [r_get0, r_getS]
      rw [r_vd, isE_cel k hm, r_isBl, if_neg (by decide)]
      simp only [r_get0, r_getS]
      rw [r_vd, isE_val k hm, r_isBl, if_neg (by decide)]
      simp only [r_get0, r_getS]
      rw [r_vd]
      refine w_kinds k hm ?_
      refine ⟨_, rfl, ?_⟩
      rw [flags_count k.nd hm, if_neg (by decide)]
      exact hN _ ⟨.d (.exo C), trivial, rfl⟩
  · rintro i d hd Γ ⟨b4, b5, b6, b7, k4, k5, k6, k7, rfl⟩ N hN
    obtain ⟨hi, e⟩ := rg_get hd
    subst e
    obtain ⟨C, hC⟩ : ∃ C, (er a)[i]? = some C := ⟨_, List.getElem?_eq_getElem (show i < (er a).length by simp [er]; omega)⟩
    walk_at "wp"
    refine ⟨⟨11, rfl, by decide, by decide⟩, fun d hd => ?_, fun _ z => z⟩
    obtain ⟨m, j, e, rfl, h0, h1⟩ := hd
    cases e
    walk_at "wp"
    obtain ⟨x, hx⟩ : ∃ x, things[j.toNat]? = some x := ⟨_, List.getElem?_eq_getElem (show j.toNat < things.length by simp [things]; omega)⟩
    have hxm : x ∈ things := List.mem_of_getElem? hx
    refine ⟨x, ?_, ?_⟩
    · have : j = (j.toNat : Nat) := by omega
      rw [this]
      exact atI_of hx
    walk_at "wp"
    refine w_made k hi hC ?_
    simp only
    walk_at "wp"
    have fin := hN [.d (.scr ns), .d .pool, .d (.lst things), .own (((er a).take (i + 1)).map D.exo), .d (.int (i : Nat)), .d x, .d x, .d (.exo C)] ⟨.d (.int (i : Nat)), .d x, .d x, .d (.exo C), trivial, trivial, trivial, trivial, rfl⟩
    rw [take_succ_get hC, List.map_append] at fin
    have hl : (((er a).take i).map D.exo).length < 100000 := by simp [er]; omega
    rcases show_things x hxm with rfl | hs
    · simp only [reprW]
      walk_at "wp"
      exact ⟨hl, fin⟩
    · simp only [reprW]
      cases x
      case dic => exact (nomatch hs.pl)
      all_goals
        refine ⟨hs, ?_⟩
        simp only [reprW]
        refine ⟨hs, ?_⟩
        walk_at "wp"
        exact ⟨hl, fin⟩
end
end My
namespace My
open PySem L2 Ab Cc PyProof.Rows
/-- an error class of the program -/
structure EC (K : PySem.W.Frag) (E C : Addr) : Prop where
  x : ∃ nm q N bs sn sub ab col dd k0 k1 k2 k3 k5, K.lookup C = some (excClassObj nm q C N bs [.ref E, .type "ValueError", .type "Exception", .type "BaseException", .type "object"] true sn sub ab col dd k0 k1 k2 k3 k5 "ValueError.__new__")
  sa : PySem.W.findIn K (.ref C) "__setattr__" = some (some (.builtin "object.__setattr__"))
  ty : PySem.W.typeIn K (.ref C) = some (.type "type")
  kp : PySem.W.keepIn K (.ref C) = true
  ga : PySem.W.findIn K (.ref C) "__getattribute__" = some (some (.builtin "BaseException.__getattribute__"))
  gg : PySem.W.findIn K (.ref C) "__getattr__" = some none
  hd : PySem.W.hasDictIn K C = true
  ha : PySem.W.findIn K (.ref C) "__class__" = some (some (.builtin "object.__class__"))
theorem ec_mk {K : PySem.W.Frag} {E C : Addr} {nm q : Str} {N : Addr} {bs : List Value} {sn : List Str} {sub : List Value} {ab : Bool} {col : Option Bool} {dd : Option Addr} {k0 k1 k2 k3 k5 : Option Value} (x : K.lookup C = some (excClassObj nm q C N bs [.ref E, .type "ValueError", .type "Exception", .type "BaseException", .type "object"] true sn sub ab col dd k0 k1 k2 k3 k5 "ValueError.__new__"))
    (sa : PySem.W.findIn K (.ref C) "__setattr__" = some (some (.builtin "object.__setattr__"))) (ty : PySem.W.typeIn K (.ref C) = some (.type "type")) (kp : PySem.W.keepIn K (.ref C) = true) (ga : PySem.W.findIn K (.ref C) "__getattribute__" = some (some (.builtin "BaseException.__getattribute__")))
    (gg : PySem.W.findIn K (.ref C) "__getattr__" = some none) (hd : PySem.W.hasDictIn K C = true) (ha : PySem.W.findIn K (.ref C) "__class__" = some (some (.builtin "object.__class__"))) : EC K E C := ⟨⟨_, _, _, _, _, _, _, _, _, _, _, _, _, _, x⟩, sa, ty, kp, ga, gg, hd, ha⟩
section
variable {K : PySem.W.Frag} {E C : Addr}
theorem EC.cls (e : EC K E C) : ∃ cd, PySem.W.clsIn K C = some cd ∧ cd.mro = [.ref C, .ref E, .type "ValueError", .type "Exception", .type "BaseException", .type "object"] := by
  obtain ⟨nm, q, N, bs, sn, sub, ab, col, dd, k0, k1, k2, k3, k5, x⟩ := e.x
  unfold PySem.W.clsIn
  rw [x]
  exact ⟨_, rfl, rfl⟩
theorem EC.mro (e : EC K E C) (u : Value) : PySem.W.mroIn K C u = some ([Value.ref C, .ref E, .type "ValueError", .type "Exception", .type "BaseException", .type "object"].contains u) := by
  obtain ⟨cd, h1, h2⟩ := e.cls
  unfold PySem.W.mroIn
  rw [h1, Option.bind_some, h2]
  rfl
theorem EC.sub (e : EC K E C) (u : Value) : PySem.W.subIn K (.ref C) u = some ([Value.ref C, .ref E, .type "ValueError", .type "Exception", .type "BaseException", .type "object"].contains u) := e.mro u
theorem EC.isC (e : EC K E C) : PySem.W.isClsIn K C = true := by
  obtain ⟨cd, h1, _⟩ := e.cls
  unfold PySem.W.isClsIn
  rw [h1]; rfl
theorem EC.oex (e : EC K E C) : OexC K C := by
  obtain ⟨nm, q, N, bs, sn, sub, ab, col, dd, k0, k1, k2, k3, k5, x⟩ := e.x
  exact ⟨⟨nm, q, N, bs, _, sn, sub, ab, col, dd, k0, k1, k2, k3, k5, x, rfl⟩, e.sa, by rw [e.sub]; simp [List.contains_cons], e.ty, e.kp⟩
theorem EC.kit (e : EC K E C) (hn : PySem.W.specialIn K (.builtin "object.__class__") "__get__" = some (some (.builtin "getset_descriptor.__get__"))) (tk : PySem.W.takesIn K (.builtin "object.__class__") = some true) : KitE K C :=
  ⟨e.isC, ⟨e.ga, e.gg, by rw [e.sub]; simp [List.contains_cons], e.hd⟩, e.ha, hn, tk, by rw [e.mro]; simp [List.contains_cons]⟩
theorem EC.one {C' : Addr} (e : EC K E C) (e' : EC K E C') (n : C' ≠ E) : PySem.W.kitOne K (.ref C) (.ref C') = some (decide (C' = C)) := by
  by_cases h : C' = C
  · subst h
    unfold PySem.W.kitOne
    simp
  · refine kitOne_other ?_ (kitCls_ref e'.isC e'.ty ?_)
    · simpa using fun z => h z.symm
    · rw [e.sub]
      simp [List.contains_cons, h, n]
end
/-- an own __init__ that says super().__init__() alone -/
structure PIn (P : Program) (K : PySem.W.Frag) (C : Addr) (st : Stmt) (qual : Str) : Prop where
  ex : ∃ (f : Addr) (oc : Value) (od : Option Addr) (kV doc pm : Value) (an : Option Addr) (ct : Value) (osl : Array (Option Value)) (cda cc : Addr) (ccl : Value) (cdd : Option Addr) (vs : Array Value) (ccs : Array (Option Value)) (file : Str) (tf : Tok) (cl : Value) (cld : Option Addr) (csl : Array (Option Value)),
    PySem.W.findIn K (.ref C) "__init__" = some (some (.ref f)) ∧ PySem.W.typeIn K (.ref f) = some (.type "function") ∧
    K.lookup f = some ⟨oc, od, .func (PySem.W.fnX "__init__" qual (defArgs st) (defBody st) (defScope st) [("__class__", cc)] .none kV doc pm an (.ref cda) ct), osl⟩ ∧ PySem.W.codeIn K (.ref cda) qual = true ∧
    K.lookup cda = some ⟨ccl, cdd, .fields vs, ccs⟩ ∧ vs[2]? = some (.str file tf) ∧ ((P.main.file : Str) == file) = true ∧ K.lookup cc = some ⟨cl, cld, .cell (some (.ref C)), csl⟩
  meth : PySem.W.ks_superIn K C C "__init__" = some (some (.builtin "ValueError.__init__"))
  ini : PySem.W.excInitIn K C veMro "ValueError.__new__" = true
theorem pin_mk {P : Program} {K : PySem.W.Frag} {C : Addr} {st : Stmt} {qual : Str} {f : Addr} {oc : Value} {od : Option Addr} {kV doc pm : Value} {an : Option Addr} {ct : Value} {osl : Array (Option Value)} {cda cc : Addr} {ccl : Value} {cdd : Option Addr} {vs : Array Value} {ccs : Array (Option Value)} {file : Str} {tf : Tok} {cl : Value} {cld : Option Addr} {csl : Array (Option Value)}
    (h1 : PySem.W.findIn K (.ref C) "__init__" = some (some (.ref f))) (h2 : PySem.W.typeIn K (.ref f) = some (.type "function"))
    (h3 : K.lookup f = some ⟨oc, od, .func (PySem.W.fnX "__init__" qual (defArgs st) (defBody st) (defScope st) [("__class__", cc)] .none kV doc pm an (.ref cda) ct), osl⟩) (h4 : PySem.W.codeIn K (.ref cda) qual = true)
    (h5 : K.lookup cda = some ⟨ccl, cdd, .fields vs, ccs⟩) (h6 : vs[2]? = some (.str file tf)) (h7 : ((P.main.file : Str) == file) = true) (h8 : K.lookup cc = some ⟨cl, cld, .cell (some (.ref C)), csl⟩)
    (me : PySem.W.ks_superIn K C C "__init__" = some (some (.builtin "ValueError.__init__"))) (ini : PySem.W.excInitIn K C veMro "ValueError.__new__" = true) : PIn P K C st qual :=
  ⟨⟨f, oc, od, kV, doc, pm, an, ct, osl, cda, cc, ccl, cdd, vs, ccs, file, tf, cl, cld, csl, h1, h2, h3, h4, h5, h6, h7, h8⟩, me, ini⟩
/-- an own __init__ with one field -/
def EIn (K : PySem.W.Frag) (C : Addr) (st : Stmt) (qual : Str) : Prop := ∃ (f : Addr) (fd : FuncData), PySem.W.findIn K (.ref C) "__init__" = some (some (.ref f)) ∧ PySem.W.typeIn K (.ref f) = some (.type "function") ∧ Fun K "__init__" qual st f fd
theorem ein_mk {K : PySem.W.Frag} {C : Addr} {st : Stmt} {qual : Str} {f : Addr} {oc : Value} {od an : Option Addr} {osl : Array (Option Value)} {kV doc pm cdv ct : Value} (h1 : PySem.W.findIn K (.ref C) "__init__" = some (some (.ref f))) (h2 : PySem.W.typeIn K (.ref f) = some (.type "function"))
    (l : K.lookup f = some ⟨oc, od, .func (PySem.W.fnOf "__init__" qual (defArgs st) (defBody st) (defScope st) .none kV doc pm an cdv ct), osl⟩) (c : PySem.W.codeIn K cdv qual = true) (k : PySem.W.keepIn K (.ref f) = true) : EIn K C st qual := ⟨f, _, h1, h2, fun_mk l c k⟩
section
variable {P : Program} {w : World} {K : PySem.W.Frag} {mg : Str → Option Value} {base : Heap} {E C : Addr}
theorem x0_NoProgram (e : EC K E C) (p : PIn P K C s_NoProgram_init "NoProgram.__init__") (ns : PySem.W.nsIn K mainGlobals "super" = some none) (na : PySem.W.nsIn K cStatics "thirdparty.any" = some none) (top : (P.main.scope.names.lookup ("super" : Str)).isSome = false) (m : mg "NoProgram" = some (.ref C)) : Exn0 P w K mg base "NoProgram" C := by
  obtain ⟨f, oc, od, kV, doc, pm, an, ct, osl, cda, cc, ccl, cdd, vs, ccs, file, tf, cl, cld, csl, h1, h2, h3, h4, h5, h6, h7, h8⟩ := p.ex
  obtain ⟨cd, c1, _⟩ := e.cls
  exact ⟨e.oex, ⟨f, _, ["self"], h1, h2, super0 (st := s_NoProgram_init) (qual := "NoProgram.__init__") ⟨⟨_, _, _, _, _, rfl, fun env => ⟨_, rfl⟩⟩, ⟨_, rfl, rfl⟩, ⟨oc, od, kV, doc, pm, an, ct, osl, cda, cc, rfl, h3, h4, ⟨ccl, cdd, vs, ccs, file, tf, h5, h6, h7⟩, ⟨cl, cld, csl, h8⟩⟩, ⟨cd, c1⟩, by rw [e.mro]; simp [List.contains_cons], ns, na, p.meth, by rw [e.sub]; simp [List.contains_cons], p.ini, top, rfl, rfl, rfl, rfl, rfl, rfl, by decide⟩,
    .all fun us hl => match us, hl with | [_], _ => rfl⟩, m⟩
theorem x0_NoContents (e : EC K E C) (p : PIn P K C s_NoContents_init "NoContents.__init__") (ns : PySem.W.nsIn K mainGlobals "super" = some none) (na : PySem.W.nsIn K cStatics "thirdparty.any" = some none) (top : (P.main.scope.names.lookup ("super" : Str)).isSome = false) (m : mg "NoContents" = some (.ref C)) : Exn0 P w K mg base "NoContents" C := by
  obtain ⟨f, oc, od, kV, doc, pm, an, ct, osl, cda, cc, ccl, cdd, vs, ccs, file, tf, cl, cld, csl, h1, h2, h3, h4, h5, h6, h7, h8⟩ := p.ex
  obtain ⟨cd, c1, _⟩ := e.cls
  exact ⟨e.oex, ⟨f, _, ["self"], h1, h2, super0 (st := s_NoContents_init) (qual := "NoContents.__init__") ⟨⟨_, _, _, _, _, rfl, fun env => ⟨_, rfl⟩⟩, ⟨_, rfl, rfl⟩, ⟨oc, od, kV, doc, pm, an, ct, osl, cda, cc, rfl, h3, h4, ⟨ccl, cdd, vs, ccs, file, tf, h5, h6, h7⟩, ⟨cl, cld, csl, h8⟩⟩, ⟨cd, c1⟩, by rw [e.mro]; simp [List.contains_cons], ns, na, p.meth, by rw [e.sub]; simp [List.contains_cons], p.ini, top, rfl, rfl, rfl, rfl, rfl, rfl, by decide⟩,
    .all fun us hl => match us, hl with | [_], _ => rfl⟩, m⟩
theorem x0_NoOrder (e : EC K E C) (p : PIn P K C s_NoOrder_init "NoOrder.__init__") (ns : PySem.W.nsIn K mainGlobals "super" = some none) (na : PySem.W.nsIn K cStatics "thirdparty.any" = some none) (top : (P.main.scope.names.lookup ("super" : Str)).isSome = false) (m : mg "NoOrder" = some (.ref C)) : Exn0 P w K mg base "NoOrder" C := by
  obtain ⟨f, oc, od, kV, doc, pm, an, ct, osl, cda, cc, ccl, cdd, vs, ccs, file, tf, cl, cld, csl, h1, h2, h3, h4, h5, h6, h7, h8⟩ := p.ex
  obtain ⟨cd, c1, _⟩ := e.cls
  exact ⟨e.oex, ⟨f, _, ["self"], h1, h2, super0 (st := s_NoOrder_init) (qual := "NoOrder.__init__") ⟨⟨_, _, _, _, _, rfl, fun env => ⟨_, rfl⟩⟩, ⟨_, rfl, rfl⟩, ⟨oc, od, kV, doc, pm, an, ct, osl, cda, cc, rfl, h3, h4, ⟨ccl, cdd, vs, ccs, file, tf, h5, h6, h7⟩, ⟨cl, cld, csl, h8⟩⟩, ⟨cd, c1⟩, by rw [e.mro]; simp [List.contains_cons], ns, na, p.meth, by rw [e.sub]; simp [List.contains_cons], p.ini, top, rfl, rfl, rfl, rfl, rfl, rfl, by decide⟩,
    .all fun us hl => match us, hl with | [_], _ => rfl⟩, m⟩
theorem x0_NoMoment (e : EC K E C) (p : PIn P K C s_NoMoment_init "NoMoment.__init__") (ns : PySem.W.nsIn K mainGlobals "super" = some none) (na : PySem.W.nsIn K cStatics "thirdparty.any" = some none) (top : (P.main.scope.names.lookup ("super" : Str)).isSome = false) (m : mg "NoMoment" = some (.ref C)) : Exn0 P w K mg base "NoMoment" C := by
  obtain ⟨f, oc, od, kV, doc, pm, an, ct, osl, cda, cc, ccl, cdd, vs, ccs, file, tf, cl, cld, csl, h1, h2, h3, h4, h5, h6, h7, h8⟩ := p.ex
  obtain ⟨cd, c1, _⟩ := e.cls
  exact ⟨e.oex, ⟨f, _, ["self"], h1, h2, super0 (st := s_NoMoment_init) (qual := "NoMoment.__init__") ⟨⟨_, _, _, _, _, rfl, fun env => ⟨_, rfl⟩⟩, ⟨_, rfl, rfl⟩, ⟨oc, od, kV, doc, pm, an, ct, osl, cda, cc, rfl, h3, h4, ⟨ccl, cdd, vs, ccs, file, tf, h5, h6, h7⟩, ⟨cl, cld, csl, h8⟩⟩, ⟨cd, c1⟩, by rw [e.mro]; simp [List.contains_cons], ns, na, p.meth, by rw [e.sub]; simp [List.contains_cons], p.ini, top, rfl, rfl, rfl, rfl, rfl, rfl, by decide⟩,
    .all fun us hl => match us, hl with | [_], _ => rfl⟩, m⟩
theorem x0_NoPrices (e : EC K E C) (p : PIn P K C s_NoPrices_init "NoPrices.__init__") (ns : PySem.W.nsIn K mainGlobals "super" = some none) (na : PySem.W.nsIn K cStatics "thirdparty.any" = some none) (top : (P.main.scope.names.lookup ("super" : Str)).isSome = false) (m : mg "NoPrices" = some (.ref C)) : Exn0 P w K mg base "NoPrices" C := by
  obtain ⟨f, oc, od, kV, doc, pm, an, ct, osl, cda, cc, ccl, cdd, vs, ccs, file, tf, cl, cld, csl, h1, h2, h3, h4, h5, h6, h7, h8⟩ := p.ex
  obtain ⟨cd, c1, _⟩ := e.cls
  exact ⟨e.oex, ⟨f, _, ["self"], h1, h2, super0 (st := s_NoPrices_init) (qual := "NoPrices.__init__") ⟨⟨_, _, _, _, _, rfl, fun env => ⟨_, rfl⟩⟩, ⟨_, rfl, rfl⟩, ⟨oc, od, kV, doc, pm, an, ct, osl, cda, cc, rfl, h3, h4, ⟨ccl, cdd, vs, ccs, file, tf, h5, h6, h7⟩, ⟨cl, cld, csl, h8⟩⟩, ⟨cd, c1⟩, by rw [e.mro]; simp [List.contains_cons], ns, na, p.meth, by rw [e.sub]; simp [List.contains_cons], p.ini, top, rfl, rfl, rfl, rfl, rfl, rfl, by decide⟩,
    .all fun us hl => match us, hl with | [_], _ => rfl⟩, m⟩
theorem x0_NoNumber (e : EC K E C) (p : PIn P K C s_NoNumber_init "NoNumber.__init__") (ns : PySem.W.nsIn K mainGlobals "super" = some none) (na : PySem.W.nsIn K cStatics "thirdparty.any" = some none) (top : (P.main.scope.names.lookup ("super" : Str)).isSome = false) (m : mg "NoNumber" = some (.ref C)) : Exn0 P w K mg base "NoNumber" C := by
  obtain ⟨f, oc, od, kV, doc, pm, an, ct, osl, cda, cc, ccl, cdd, vs, ccs, file, tf, cl, cld, csl, h1, h2, h3, h4, h5, h6, h7, h8⟩ := p.ex
  obtain ⟨cd, c1, _⟩ := e.cls
  exact ⟨e.oex, ⟨f, _, ["self"], h1, h2, super0 (st := s_NoNumber_init) (qual := "NoNumber.__init__") ⟨⟨_, _, _, _, _, rfl, fun env => ⟨_, rfl⟩⟩, ⟨_, rfl, rfl⟩, ⟨oc, od, kV, doc, pm, an, ct, osl, cda, cc, rfl, h3, h4, ⟨ccl, cdd, vs, ccs, file, tf, h5, h6, h7⟩, ⟨cl, cld, csl, h8⟩⟩, ⟨cd, c1⟩, by rw [e.mro]; simp [List.contains_cons], ns, na, p.meth, by rw [e.sub]; simp [List.contains_cons], p.ini, top, rfl, rfl, rfl, rfl, rfl, rfl, by decide⟩,
    .all fun us hl => match us, hl with | [_], _ => rfl⟩, m⟩
theorem x0_NoTimetable (e : EC K E C) (p : PIn P K C s_NoTimetable_init "NoTimetable.__init__") (ns : PySem.W.nsIn K mainGlobals "super" = some none) (na : PySem.W.nsIn K cStatics "thirdparty.any" = some none) (top : (P.main.scope.names.lookup ("super" : Str)).isSome = false) (m : mg "NoTimetable" = some (.ref C)) : Exn0 P w K mg base "NoTimetable" C := by
  obtain ⟨f, oc, od, kV, doc, pm, an, ct, osl, cda, cc, ccl, cdd, vs, ccs, file, tf, cl, cld, csl, h1, h2, h3, h4, h5, h6, h7, h8⟩ := p.ex
  obtain ⟨cd, c1, _⟩ := e.cls
  exact ⟨e.oex, ⟨f, _, ["self"], h1, h2, super0 (st := s_NoTimetable_init) (qual := "NoTimetable.__init__") ⟨⟨_, _, _, _, _, rfl, fun env => ⟨_, rfl⟩⟩, ⟨_, rfl, rfl⟩, ⟨oc, od, kV, doc, pm, an, ct, osl, cda, cc, rfl, h3, h4, ⟨ccl, cdd, vs, ccs, file, tf, h5, h6, h7⟩, ⟨cl, cld, csl, h8⟩⟩, ⟨cd, c1⟩, by rw [e.mro]; simp [List.contains_cons], ns, na, p.meth, by rw [e.sub]; simp [List.contains_cons], p.ini, top, rfl, rfl, rfl, rfl, rfl, rfl, by decide⟩,
    .all fun us hl => match us, hl with | [_], _ => rfl⟩, m⟩
theorem x0_NotOnto (e : EC K E C) (p : PIn P K C s_NotOnto_init "NotOnto.__init__") (ns : PySem.W.nsIn K mainGlobals "super" = some none) (na : PySem.W.nsIn K cStatics "thirdparty.any" = some none) (top : (P.main.scope.names.lookup ("super" : Str)).isSome = false) (m : mg "NotOnto" = some (.ref C)) : Exn0 P w K mg base "NotOnto" C := by
  obtain ⟨f, oc, od, kV, doc, pm, an, ct, osl, cda, cc, ccl, cdd, vs, ccs, file, tf, cl, cld, csl, h1, h2, h3, h4, h5, h6, h7, h8⟩ := p.ex
  obtain ⟨cd, c1, _⟩ := e.cls
  exact ⟨e.oex, ⟨f, _, ["self"], h1, h2, super0 (st := s_NotOnto_init) (qual := "NotOnto.__init__") ⟨⟨_, _, _, _, _, rfl, fun env => ⟨_, rfl⟩⟩, ⟨_, rfl, rfl⟩, ⟨oc, od, kV, doc, pm, an, ct, osl, cda, cc, rfl, h3, h4, ⟨ccl, cdd, vs, ccs, file, tf, h5, h6, h7⟩, ⟨cl, cld, csl, h8⟩⟩, ⟨cd, c1⟩, by rw [e.mro]; simp [List.contains_cons], ns, na, p.meth, by rw [e.sub]; simp [List.contains_cons], p.ini, top, rfl, rfl, rfl, rfl, rfl, rfl, by decide⟩,
    .all fun us hl => match us, hl with | [_], _ => rfl⟩, m⟩
theorem x0_NotAlike (e : EC K E C) (p : PIn P K C s_NotAlike_init "NotAlike.__init__") (ns : PySem.W.nsIn K mainGlobals "super" = some none) (na : PySem.W.nsIn K cStatics "thirdparty.any" = some none) (top : (P.main.scope.names.lookup ("super" : Str)).isSome = false) (m : mg "NotAlike" = some (.ref C)) : Exn0 P w K mg base "NotAlike" C := by
  obtain ⟨f, oc, od, kV, doc, pm, an, ct, osl, cda, cc, ccl, cdd, vs, ccs, file, tf, cl, cld, csl, h1, h2, h3, h4, h5, h6, h7, h8⟩ := p.ex
  obtain ⟨cd, c1, _⟩ := e.cls
  exact ⟨e.oex, ⟨f, _, ["self"], h1, h2, super0 (st := s_NotAlike_init) (qual := "NotAlike.__init__") ⟨⟨_, _, _, _, _, rfl, fun env => ⟨_, rfl⟩⟩, ⟨_, rfl, rfl⟩, ⟨oc, od, kV, doc, pm, an, ct, osl, cda, cc, rfl, h3, h4, ⟨ccl, cdd, vs, ccs, file, tf, h5, h6, h7⟩, ⟨cl, cld, csl, h8⟩⟩, ⟨cd, c1⟩, by rw [e.mro]; simp [List.contains_cons], ns, na, p.meth, by rw [e.sub]; simp [List.contains_cons], p.ini, top, rfl, rfl, rfl, rfl, rfl, rfl, by decide⟩,
    .all fun us hl => match us, hl with | [_], _ => rfl⟩, m⟩
theorem x0_NotWhole (e : EC K E C) (p : PIn P K C s_NotWhole_init "NotWhole.__init__") (ns : PySem.W.nsIn K mainGlobals "super" = some none) (na : PySem.W.nsIn K cStatics "thirdparty.any" = some none) (top : (P.main.scope.names.lookup ("super" : Str)).isSome = false) (m : mg "NotWhole" = some (.ref C)) : Exn0 P w K mg base "NotWhole" C := by
  obtain ⟨f, oc, od, kV, doc, pm, an, ct, osl, cda, cc, ccl, cdd, vs, ccs, file, tf, cl, cld, csl, h1, h2, h3, h4, h5, h6, h7, h8⟩ := p.ex
  obtain ⟨cd, c1, _⟩ := e.cls
  exact ⟨e.oex, ⟨f, _, ["self"], h1, h2, super0 (st := s_NotWhole_init) (qual := "NotWhole.__init__") ⟨⟨_, _, _, _, _, rfl, fun env => ⟨_, rfl⟩⟩, ⟨_, rfl, rfl⟩, ⟨oc, od, kV, doc, pm, an, ct, osl, cda, cc, rfl, h3, h4, ⟨ccl, cdd, vs, ccs, file, tf, h5, h6, h7⟩, ⟨cl, cld, csl, h8⟩⟩, ⟨cd, c1⟩, by rw [e.mro]; simp [List.contains_cons], ns, na, p.meth, by rw [e.sub]; simp [List.contains_cons], p.ini, top, rfl, rfl, rfl, rfl, rfl, rfl, by decide⟩,
    .all fun us hl => match us, hl with | [_], _ => rfl⟩, m⟩
theorem x0_NoSources (e : EC K E C) (p : PIn P K C s_NoSources_init "NoSources.__init__") (ns : PySem.W.nsIn K mainGlobals "super" = some none) (na : PySem.W.nsIn K cStatics "thirdparty.any" = some none) (top : (P.main.scope.names.lookup ("super" : Str)).isSome = false) (m : mg "NoSources" = some (.ref C)) : Exn0 P w K mg base "NoSources" C := by
  obtain ⟨f, oc, od, kV, doc, pm, an, ct, osl, cda, cc, ccl, cdd, vs, ccs, file, tf, cl, cld, csl, h1, h2, h3, h4, h5, h6, h7, h8⟩ := p.ex
  obtain ⟨cd, c1, _⟩ := e.cls
  exact ⟨e.oex, ⟨f, _, ["self"], h1, h2, super0 (st := s_NoSources_init) (qual := "NoSources.__init__") ⟨⟨_, _, _, _, _, rfl, fun env => ⟨_, rfl⟩⟩, ⟨_, rfl, rfl⟩, ⟨oc, od, kV, doc, pm, an, ct, osl, cda, cc, rfl, h3, h4, ⟨ccl, cdd, vs, ccs, file, tf, h5, h6, h7⟩, ⟨cl, cld, csl, h8⟩⟩, ⟨cd, c1⟩, by rw [e.mro]; simp [List.contains_cons], ns, na, p.meth, by rw [e.sub]; simp [List.contains_cons], p.ini, top, rfl, rfl, rfl, rfl, rfl, rfl, by decide⟩,
    .all fun us hl => match us, hl with | [_], _ => rfl⟩, m⟩
theorem x0_NoRow (e : EC K E C) (p : PIn P K C s_NoRow_init "NoRow.__init__") (ns : PySem.W.nsIn K mainGlobals "super" = some none) (na : PySem.W.nsIn K cStatics "thirdparty.any" = some none) (top : (P.main.scope.names.lookup ("super" : Str)).isSome = false) (m : mg "NoRow" = some (.ref C)) : Exn0 P w K mg base "NoRow" C := by
  obtain ⟨f, oc, od, kV, doc, pm, an, ct, osl, cda, cc, ccl, cdd, vs, ccs, file, tf, cl, cld, csl, h1, h2, h3, h4, h5, h6, h7, h8⟩ := p.ex
  obtain ⟨cd, c1, _⟩ := e.cls
  exact ⟨e.oex, ⟨f, _, ["self"], h1, h2, super0 (st := s_NoRow_init) (qual := "NoRow.__init__") ⟨⟨_, _, _, _, _, rfl, fun env => ⟨_, rfl⟩⟩, ⟨_, rfl, rfl⟩, ⟨oc, od, kV, doc, pm, an, ct, osl, cda, cc, rfl, h3, h4, ⟨ccl, cdd, vs, ccs, file, tf, h5, h6, h7⟩, ⟨cl, cld, csl, h8⟩⟩, ⟨cd, c1⟩, by rw [e.mro]; simp [List.contains_cons], ns, na, p.meth, by rw [e.sub]; simp [List.contains_cons], p.ini, top, rfl, rfl, rfl, rfl, rfl, rfl, by decide⟩,
    .all fun us hl => match us, hl with | [_], _ => rfl⟩, m⟩
theorem x0_NoCompiled (e : EC K E C) (p : PIn P K C s_NoCompiled_init "NoCompiled.__init__") (ns : PySem.W.nsIn K mainGlobals "super" = some none) (na : PySem.W.nsIn K cStatics "thirdparty.any" = some none) (top : (P.main.scope.names.lookup ("super" : Str)).isSome = false) (m : mg "NoCompiled" = some (.ref C)) : Exn0 P w K mg base "NoCompiled" C := by
  obtain ⟨f, oc, od, kV, doc, pm, an, ct, osl, cda, cc, ccl, cdd, vs, ccs, file, tf, cl, cld, csl, h1, h2, h3, h4, h5, h6, h7, h8⟩ := p.ex
  obtain ⟨cd, c1, _⟩ := e.cls
  exact ⟨e.oex, ⟨f, _, ["self"], h1, h2, super0 (st := s_NoCompiled_init) (qual := "NoCompiled.__init__") ⟨⟨_, _, _, _, _, rfl, fun env => ⟨_, rfl⟩⟩, ⟨_, rfl, rfl⟩, ⟨oc, od, kV, doc, pm, an, ct, osl, cda, cc, rfl, h3, h4, ⟨ccl, cdd, vs, ccs, file, tf, h5, h6, h7⟩, ⟨cl, cld, csl, h8⟩⟩, ⟨cd, c1⟩, by rw [e.mro]; simp [List.contains_cons], ns, na, p.meth, by rw [e.sub]; simp [List.contains_cons], p.ini, top, rfl, rfl, rfl, rfl, rfl, rfl, by decide⟩,
    .all fun us hl => match us, hl with | [_], _ => rfl⟩, m⟩
theorem x0_NotRunning (e : EC K E C) (p : PIn P K C s_NotRunning_init "NotRunning.__init__") (ns : PySem.W.nsIn K mainGlobals "super" = some none) (na : PySem.W.nsIn K cStatics "thirdparty.any" = some none) (top : (P.main.scope.names.lookup ("super" : Str)).isSome = false) (m : mg "NotRunning" = some (.ref C)) : Exn0 P w K mg base "NotRunning" C := by
  obtain ⟨f, oc, od, kV, doc, pm, an, ct, osl, cda, cc, ccl, cdd, vs, ccs, file, tf, cl, cld, csl, h1, h2, h3, h4, h5, h6, h7, h8⟩ := p.ex
  obtain ⟨cd, c1, _⟩ := e.cls
  exact ⟨e.oex, ⟨f, _, ["self"], h1, h2, super0 (st := s_NotRunning_init) (qual := "NotRunning.__init__") ⟨⟨_, _, _, _, _, rfl, fun env => ⟨_, rfl⟩⟩, ⟨_, rfl, rfl⟩, ⟨oc, od, kV, doc, pm, an, ct, osl, cda, cc, rfl, h3, h4, ⟨ccl, cdd, vs, ccs, file, tf, h5, h6, h7⟩, ⟨cl, cld, csl, h8⟩⟩, ⟨cd, c1⟩, by rw [e.mro]; simp [List.contains_cons], ns, na, p.meth, by rw [e.sub]; simp [List.contains_cons], p.ini, top, rfl, rfl, rfl, rfl, rfl, rfl, by decide⟩,
    .all fun us hl => match us, hl with | [_], _ => rfl⟩, m⟩
theorem x0_NothingDone (e : EC K E C) (p : PIn P K C s_NothingDone_init "NothingDone.__init__") (ns : PySem.W.nsIn K mainGlobals "super" = some none) (na : PySem.W.nsIn K cStatics "thirdparty.any" = some none) (top : (P.main.scope.names.lookup ("super" : Str)).isSome = false) (m : mg "NothingDone" = some (.ref C)) : Exn0 P w K mg base "NothingDone" C := by
  obtain ⟨f, oc, od, kV, doc, pm, an, ct, osl, cda, cc, ccl, cdd, vs, ccs, file, tf, cl, cld, csl, h1, h2, h3, h4, h5, h6, h7, h8⟩ := p.ex
  obtain ⟨cd, c1, _⟩ := e.cls
  exact ⟨e.oex, ⟨f, _, ["self"], h1, h2, super0 (st := s_NothingDone_init) (qual := "NothingDone.__init__") ⟨⟨_, _, _, _, _, rfl, fun env => ⟨_, rfl⟩⟩, ⟨_, rfl, rfl⟩, ⟨oc, od, kV, doc, pm, an, ct, osl, cda, cc, rfl, h3, h4, ⟨ccl, cdd, vs, ccs, file, tf, h5, h6, h7⟩, ⟨cl, cld, csl, h8⟩⟩, ⟨cd, c1⟩, by rw [e.mro]; simp [List.contains_cons], ns, na, p.meth, by rw [e.sub]; simp [List.contains_cons], p.ini, top, rfl, rfl, rfl, rfl, rfl, rfl, by decide⟩,
    .all fun us hl => match us, hl with | [_], _ => rfl⟩, m⟩
theorem x0_NoCell (e : EC K E C) (p : PIn P K C s_NoCell_init "NoCell.__init__") (ns : PySem.W.nsIn K mainGlobals "super" = some none) (na : PySem.W.nsIn K cStatics "thirdparty.any" = some none) (top : (P.main.scope.names.lookup ("super" : Str)).isSome = false) (m : mg "NoCell" = some (.ref C)) : Exn0 P w K mg base "NoCell" C := by
  obtain ⟨f, oc, od, kV, doc, pm, an, ct, osl, cda, cc, ccl, cdd, vs, ccs, file, tf, cl, cld, csl, h1, h2, h3, h4, h5, h6, h7, h8⟩ := p.ex
  obtain ⟨cd, c1, _⟩ := e.cls
  exact ⟨e.oex, ⟨f, _, ["self"], h1, h2, super0 (st := s_NoCell_init) (qual := "NoCell.__init__") ⟨⟨_, _, _, _, _, rfl, fun env => ⟨_, rfl⟩⟩, ⟨_, rfl, rfl⟩, ⟨oc, od, kV, doc, pm, an, ct, osl, cda, cc, rfl, h3, h4, ⟨ccl, cdd, vs, ccs, file, tf, h5, h6, h7⟩, ⟨cl, cld, csl, h8⟩⟩, ⟨cd, c1⟩, by rw [e.mro]; simp [List.contains_cons], ns, na, p.meth, by rw [e.sub]; simp [List.contains_cons], p.ini, top, rfl, rfl, rfl, rfl, rfl, rfl, by decide⟩,
    .all fun us hl => match us, hl with | [_], _ => rfl⟩, m⟩
theorem x0_NoItem (e : EC K E C) (p : PIn P K C s_NoItem_init "NoItem.__init__") (ns : PySem.W.nsIn K mainGlobals "super" = some none) (na : PySem.W.nsIn K cStatics "thirdparty.any" = some none) (top : (P.main.scope.names.lookup ("super" : Str)).isSome = false) (m : mg "NoItem" = some (.ref C)) : Exn0 P w K mg base "NoItem" C := by
  obtain ⟨f, oc, od, kV, doc, pm, an, ct, osl, cda, cc, ccl, cdd, vs, ccs, file, tf, cl, cld, csl, h1, h2, h3, h4, h5, h6, h7, h8⟩ := p.ex
  obtain ⟨cd, c1, _⟩ := e.cls
  exact ⟨e.oex, ⟨f, _, ["self"], h1, h2, super0 (st := s_NoItem_init) (qual := "NoItem.__init__") ⟨⟨_, _, _, _, _, rfl, fun env => ⟨_, rfl⟩⟩, ⟨_, rfl, rfl⟩, ⟨oc, od, kV, doc, pm, an, ct, osl, cda, cc, rfl, h3, h4, ⟨ccl, cdd, vs, ccs, file, tf, h5, h6, h7⟩, ⟨cl, cld, csl, h8⟩⟩, ⟨cd, c1⟩, by rw [e.mro]; simp [List.contains_cons], ns, na, p.meth, by rw [e.sub]; simp [List.contains_cons], p.ini, top, rfl, rfl, rfl, rfl, rfl, rfl, by decide⟩,
    .all fun us hl => match us, hl with | [_], _ => rfl⟩, m⟩
theorem x0_IsLocked (e : EC K E C) (p : PIn P K C s_IsLocked_init "IsLocked.__init__") (ns : PySem.W.nsIn K mainGlobals "super" = some none) (na : PySem.W.nsIn K cStatics "thirdparty.any" = some none) (top : (P.main.scope.names.lookup ("super" : Str)).isSome = false) (m : mg "IsLocked" = some (.ref C)) : Exn0 P w K mg base "IsLocked" C := by
  obtain ⟨f, oc, od, kV, doc, pm, an, ct, osl, cda, cc, ccl, cdd, vs, ccs, file, tf, cl, cld, csl, h1, h2, h3, h4, h5, h6, h7, h8⟩ := p.ex
  obtain ⟨cd, c1, _⟩ := e.cls
  exact ⟨e.oex, ⟨f, _, ["self"], h1, h2, super0 (st := s_IsLocked_init) (qual := "IsLocked.__init__") ⟨⟨_, _, _, _, _, rfl, fun env => ⟨_, rfl⟩⟩, ⟨_, rfl, rfl⟩, ⟨oc, od, kV, doc, pm, an, ct, osl, cda, cc, rfl, h3, h4, ⟨ccl, cdd, vs, ccs, file, tf, h5, h6, h7⟩, ⟨cl, cld, csl, h8⟩⟩, ⟨cd, c1⟩, by rw [e.mro]; simp [List.contains_cons], ns, na, p.meth, by rw [e.sub]; simp [List.contains_cons], p.ini, top, rfl, rfl, rfl, rfl, rfl, rfl, by decide⟩,
    .all fun us hl => match us, hl with | [_], _ => rfl⟩, m⟩
theorem x0_NotLocked (e : EC K E C) (p : PIn P K C s_NotLocked_init "NotLocked.__init__") (ns : PySem.W.nsIn K mainGlobals "super" = some none) (na : PySem.W.nsIn K cStatics "thirdparty.any" = some none) (top : (P.main.scope.names.lookup ("super" : Str)).isSome = false) (m : mg "NotLocked" = some (.ref C)) : Exn0 P w K mg base "NotLocked" C := by
  obtain ⟨f, oc, od, kV, doc, pm, an, ct, osl, cda, cc, ccl, cdd, vs, ccs, file, tf, cl, cld, csl, h1, h2, h3, h4, h5, h6, h7, h8⟩ := p.ex
  obtain ⟨cd, c1, _⟩ := e.cls
  exact ⟨e.oex, ⟨f, _, ["self"], h1, h2, super0 (st := s_NotLocked_init) (qual := "NotLocked.__init__") ⟨⟨_, _, _, _, _, rfl, fun env => ⟨_, rfl⟩⟩, ⟨_, rfl, rfl⟩, ⟨oc, od, kV, doc, pm, an, ct, osl, cda, cc, rfl, h3, h4, ⟨ccl, cdd, vs, ccs, file, tf, h5, h6, h7⟩, ⟨cl, cld, csl, h8⟩⟩, ⟨cd, c1⟩, by rw [e.mro]; simp [List.contains_cons], ns, na, p.meth, by rw [e.sub]; simp [List.contains_cons], p.ini, top, rfl, rfl, rfl, rfl, rfl, rfl, by decide⟩,
    .all fun us hl => match us, hl with | [_], _ => rfl⟩, m⟩
theorem x0_NoWay (e : EC K E C) (p : PIn P K C s_NoWay_init "NoWay.__init__") (ns : PySem.W.nsIn K mainGlobals "super" = some none) (na : PySem.W.nsIn K cStatics "thirdparty.any" = some none) (top : (P.main.scope.names.lookup ("super" : Str)).isSome = false) (m : mg "NoWay" = some (.ref C)) : Exn0 P w K mg base "NoWay" C := by
  obtain ⟨f, oc, od, kV, doc, pm, an, ct, osl, cda, cc, ccl, cdd, vs, ccs, file, tf, cl, cld, csl, h1, h2, h3, h4, h5, h6, h7, h8⟩ := p.ex
  obtain ⟨cd, c1, _⟩ := e.cls
  exact ⟨e.oex, ⟨f, _, ["self"], h1, h2, super0 (st := s_NoWay_init) (qual := "NoWay.__init__") ⟨⟨_, _, _, _, _, rfl, fun env => ⟨_, rfl⟩⟩, ⟨_, rfl, rfl⟩, ⟨oc, od, kV, doc, pm, an, ct, osl, cda, cc, rfl, h3, h4, ⟨ccl, cdd, vs, ccs, file, tf, h5, h6, h7⟩, ⟨cl, cld, csl, h8⟩⟩, ⟨cd, c1⟩, by rw [e.mro]; simp [List.contains_cons], ns, na, p.meth, by rw [e.sub]; simp [List.contains_cons], p.ini, top, rfl, rfl, rfl, rfl, rfl, rfl, by decide⟩,
    .all fun us hl => match us, hl with | [_], _ => rfl⟩, m⟩
theorem x0_NoLine (e : EC K E C) (p : PIn P K C s_NoLine_init "NoLine.__init__") (ns : PySem.W.nsIn K mainGlobals "super" = some none) (na : PySem.W.nsIn K cStatics "thirdparty.any" = some none) (top : (P.main.scope.names.lookup ("super" : Str)).isSome = false) (m : mg "NoLine" = some (.ref C)) : Exn0 P w K mg base "NoLine" C := by
  obtain ⟨f, oc, od, kV, doc, pm, an, ct, osl, cda, cc, ccl, cdd, vs, ccs, file, tf, cl, cld, csl, h1, h2, h3, h4, h5, h6, h7, h8⟩ := p.ex
  obtain ⟨cd, c1, _⟩ := e.cls
  exact ⟨e.oex, ⟨f, _, ["self"], h1, h2, super0 (st := s_NoLine_init) (qual := "NoLine.__init__") ⟨⟨_, _, _, _, _, rfl, fun env => ⟨_, rfl⟩⟩, ⟨_, rfl, rfl⟩, ⟨oc, od, kV, doc, pm, an, ct, osl, cda, cc, rfl, h3, h4, ⟨ccl, cdd, vs, ccs, file, tf, h5, h6, h7⟩, ⟨cl, cld, csl, h8⟩⟩, ⟨cd, c1⟩, by rw [e.mro]; simp [List.contains_cons], ns, na, p.meth, by rw [e.sub]; simp [List.contains_cons], p.ini, top, rfl, rfl, rfl, rfl, rfl, rfl, by decide⟩,
    .all fun us hl => match us, hl with | [_], _ => rfl⟩, m⟩
theorem x0_NoRunner (e : EC K E C) (p : PIn P K C s_NoRunner_init "NoRunner.__init__") (ns : PySem.W.nsIn K mainGlobals "super" = some none) (na : PySem.W.nsIn K cStatics "thirdparty.any" = some none) (top : (P.main.scope.names.lookup ("super" : Str)).isSome = false) (m : mg "NoRunner" = some (.ref C)) : Exn0 P w K mg base "NoRunner" C := by
  obtain ⟨f, oc, od, kV, doc, pm, an, ct, osl, cda, cc, ccl, cdd, vs, ccs, file, tf, cl, cld, csl, h1, h2, h3, h4, h5, h6, h7, h8⟩ := p.ex
  obtain ⟨cd, c1, _⟩ := e.cls
  exact ⟨e.oex, ⟨f, _, ["self"], h1, h2, super0 (st := s_NoRunner_init) (qual := "NoRunner.__init__") ⟨⟨_, _, _, _, _, rfl, fun env => ⟨_, rfl⟩⟩, ⟨_, rfl, rfl⟩, ⟨oc, od, kV, doc, pm, an, ct, osl, cda, cc, rfl, h3, h4, ⟨ccl, cdd, vs, ccs, file, tf, h5, h6, h7⟩, ⟨cl, cld, csl, h8⟩⟩, ⟨cd, c1⟩, by rw [e.mro]; simp [List.contains_cons], ns, na, p.meth, by rw [e.sub]; simp [List.contains_cons], p.ini, top, rfl, rfl, rfl, rfl, rfl, rfl, by decide⟩,
    .all fun us hl => match us, hl with | [_], _ => rfl⟩, m⟩
theorem x1_BadWish (e : EC K E C) (p : EIn K C s_BadWish_init "BadWish.__init__") (hno : PySem.W.findIn K (.ref C) "part" = some none) (m : mg "BadWish" = some (.ref C)) : Exn1 P w K mg base "BadWish" C "part" := by
  obtain ⟨f, fd, h1, h2, F⟩ := p
  exact ⟨e.oex, ⟨f, fd, ["self", "part"], h1, h2, init_x F sc_BadWish_init e.oex hno (fun cdv A outer s H E => pss_one (ps_ost (pv 0) (pv 1))) (by decide), F.binds fun _ _ _ _ _ _ us hl => match us, hl with | [_, _], _ => rfl⟩, m⟩
theorem x1_BadTable (e : EC K E C) (p : EIn K C s_BadTable_init "BadTable.__init__") (hno : PySem.W.findIn K (.ref C) "part" = some none) (m : mg "BadTable" = some (.ref C)) : Exn1 P w K mg base "BadTable" C "part" := by
  obtain ⟨f, fd, h1, h2, F⟩ := p
  exact ⟨e.oex, ⟨f, fd, ["self", "part"], h1, h2, init_x F sc_BadTable_init e.oex hno (fun cdv A outer s H E => pss_one (ps_ost (pv 0) (pv 1))) (by decide), F.binds fun _ _ _ _ _ _ us hl => match us, hl with | [_, _], _ => rfl⟩, m⟩
theorem x1_BadCode (e : EC K E C) (p : EIn K C s_BadCode_init "BadCode.__init__") (hno : PySem.W.findIn K (.ref C) "part" = some none) (m : mg "BadCode" = some (.ref C)) : Exn1 P w K mg base "BadCode" C "part" := by
  obtain ⟨f, fd, h1, h2, F⟩ := p
  exact ⟨e.oex, ⟨f, fd, ["self", "part"], h1, h2, init_x F sc_BadCode_init e.oex hno (fun cdv A outer s H E => pss_one (ps_ost (pv 0) (pv 1))) (by decide), F.binds fun _ _ _ _ _ _ us hl => match us, hl with | [_, _], _ => rfl⟩, m⟩
theorem x1_TooMany (e : EC K E C) (p : EIn K C s_TooMany_init "TooMany.__init__") (hno : PySem.W.findIn K (.ref C) "most" = some none) (m : mg "TooMany" = some (.ref C)) : Exn1 P w K mg base "TooMany" C "most" := by
  obtain ⟨f, fd, h1, h2, F⟩ := p
  exact ⟨e.oex, ⟨f, fd, ["self", "most"], h1, h2, init_x F sc_TooMany_init e.oex hno (fun cdv A outer s H E => pss_one (ps_ost (pv 0) (pv 1))) (by decide), F.binds fun _ _ _ _ _ _ us hl => match us, hl with | [_, _], _ => rfl⟩, m⟩
theorem x1_BadText (e : EC K E C) (p : EIn K C s_BadText_init "BadText.__init__") (hno : PySem.W.findIn K (.ref C) "line" = some none) (m : mg "BadText" = some (.ref C)) : Exn1 P w K mg base "BadText" C "line" := by
  obtain ⟨f, fd, h1, h2, F⟩ := p
  exact ⟨e.oex, ⟨f, fd, ["self", "line"], h1, h2, init_x F sc_BadText_init e.oex hno (fun cdv A outer s H E => pss_one (ps_ost (pv 0) (pv 1))) (by decide), F.binds fun _ _ _ _ _ _ us hl => match us, hl with | [_, _], _ => rfl⟩, m⟩
theorem x1_NoName (e : EC K E C) (p : EIn K C s_NoName_init "NoName.__init__") (hno : PySem.W.findIn K (.ref C) "name" = some none) (m : mg "NoName" = some (.ref C)) : Exn1 P w K mg base "NoName" C "name" := by
  obtain ⟨f, fd, h1, h2, F⟩ := p
  exact ⟨e.oex, ⟨f, fd, ["self", "name"], h1, h2, init_x F sc_NoName_init e.oex hno (fun cdv A outer s H E => pss_one (ps_ost (pv 0) (pv 1))) (by decide), F.binds fun _ _ _ _ _ _ us hl => match us, hl with | [_, _], _ => rfl⟩, m⟩
end
theorem all_mk {l : PySem.W.OpenLaw} {w : World} {K : PySem.W.Frag} {h : Heap} {mg : Str → Option Value} {fa C_CellError C_BadWish C_NoProgram C_NoContents C_NoOrder C_NoMoment C_NoPrices C_NoNumber C_NoTimetable C_NotOnto C_NotAlike C_NotWhole C_TooMany C_NoSources C_BadTable C_BadCode C_NoRow C_NoCompiled C_NotRunning C_NothingDone C_NoCell C_NoItem C_IsLocked C_NotLocked C_NoWay C_BadText C_NoLine C_NoName C_NoRunner : Addr} (X : K.In h) (G : h.Ns mainGlobals mg) (hfa : mg "law" = some (.ref fa))
    {f0 : Addr} {od0 an0 : Option Addr} {sl0 : Array (Option Value)} {oc0 kV0 dc0 pm0 cd0 ct0 : Value}
    {f1 : Addr} {od1 an1 : Option Addr} {sl1 : Array (Option Value)} {oc1 kV1 dc1 pm1 cd1 ct1 : Value}
    {f2 : Addr} {od2 an2 : Option Addr} {sl2 : Array (Option Value)} {oc2 kV2 dc2 pm2 cd2 ct2 : Value}
    {f3 : Addr} {od3 an3 : Option Addr} {sl3 : Array (Option Value)} {oc3 kV3 dc3 pm3 cd3 ct3 : Value}
    {f4 : Addr} {od4 an4 : Option Addr} {sl4 : Array (Option Value)} {oc4 kV4 dc4 pm4 cd4 ct4 : Value}
    {f5 : Addr} {od5 an5 : Option Addr} {sl5 : Array (Option Value)} {oc5 kV5 dc5 pm5 cd5 ct5 : Value}
    {f6 : Addr} {od6 an6 : Option Addr} {sl6 : Array (Option Value)} {oc6 kV6 dc6 pm6 cd6 ct6 : Value}
    (A_CellError : PySem.W.nsIn K mainGlobals "CellError" = some (some (.ref C_CellError)))
    (A_BadWish : PySem.W.nsIn K mainGlobals "BadWish" = some (some (.ref C_BadWish)))
    (A_NoProgram : PySem.W.nsIn K mainGlobals "NoProgram" = some (some (.ref C_NoProgram)))
    (A_NoContents : PySem.W.nsIn K mainGlobals "NoContents" = some (some (.ref C_NoContents)))
    (A_NoOrder : PySem.W.nsIn K mainGlobals "NoOrder" = some (some (.ref C_NoOrder)))
    (A_NoMoment : PySem.W.nsIn K mainGlobals "NoMoment" = some (some (.ref C_NoMoment)))
    (A_NoPrices : PySem.W.nsIn K mainGlobals "NoPrices" = some (some (.ref C_NoPrices)))
    (A_NoNumber : PySem.W.nsIn K mainGlobals "NoNumber" = some (some (.ref C_NoNumber)))
    (A_NoTimetable : PySem.W.nsIn K mainGlobals "NoTimetable" = some (some (.ref C_NoTimetable)))
    (A_NotOnto : PySem.W.nsIn K mainGlobals "NotOnto" = some (some (.ref C_NotOnto)))
    (A_NotAlike : PySem.W.nsIn K mainGlobals "NotAlike" = some (some (.ref C_NotAlike)))
    (A_NotWhole : PySem.W.nsIn K mainGlobals "NotWhole" = some (some (.ref C_NotWhole)))
    (A_TooMany : PySem.W.nsIn K mainGlobals "TooMany" = some (some (.ref C_TooMany)))
    (A_NoSources : PySem.W.nsIn K mainGlobals "NoSources" = some (some (.ref C_NoSources)))
    (A_BadTable : PySem.W.nsIn K mainGlobals "BadTable" = some (some (.ref C_BadTable)))
    (A_BadCode : PySem.W.nsIn K mainGlobals "BadCode" = some (some (.ref C_BadCode)))
    (A_NoRow : PySem.W.nsIn K mainGlobals "NoRow" = some (some (.ref C_NoRow)))
    (A_NoCompiled : PySem.W.nsIn K mainGlobals "NoCompiled" = some (some (.ref C_NoCompiled)))
    (A_NotRunning : PySem.W.nsIn K mainGlobals "NotRunning" = some (some (.ref C_NotRunning)))
    (A_NothingDone : PySem.W.nsIn K mainGlobals "NothingDone" = some (some (.ref C_NothingDone)))
    (A_NoCell : PySem.W.nsIn K mainGlobals "NoCell" = some (some (.ref C_NoCell)))
    (A_NoItem : PySem.W.nsIn K mainGlobals "NoItem" = some (some (.ref C_NoItem)))
    (A_IsLocked : PySem.W.nsIn K mainGlobals "IsLocked" = some (some (.ref C_IsLocked)))
    (A_NotLocked : PySem.W.nsIn K mainGlobals "NotLocked" = some (some (.ref C_NotLocked)))
    (A_NoWay : PySem.W.nsIn K mainGlobals "NoWay" = some (some (.ref C_NoWay)))
    (A_BadText : PySem.W.nsIn K mainGlobals "BadText" = some (some (.ref C_BadText)))
    (A_NoLine : PySem.W.nsIn K mainGlobals "NoLine" = some (some (.ref C_NoLine)))
    (A_NoName : PySem.W.nsIn K mainGlobals "NoName" = some (some (.ref C_NoName)))
    (A_NoRunner : PySem.W.nsIn K mainGlobals "NoRunner" = some (some (.ref C_NoRunner)))
    (e_BadWish : EC K C_CellError C_BadWish)
    (e_BadTable : EC K C_CellError C_BadTable)
    (e_BadCode : EC K C_CellError C_BadCode)
    (e_TooMany : EC K C_CellError C_TooMany)
    (e_BadText : EC K C_CellError C_BadText)
    (e_NoName : EC K C_CellError C_NoName)
    (e_NoProgram : EC K C_CellError C_NoProgram)
    (e_NoContents : EC K C_CellError C_NoContents)
    (e_NoOrder : EC K C_CellError C_NoOrder)
    (e_NoMoment : EC K C_CellError C_NoMoment)
    (e_NoPrices : EC K C_CellError C_NoPrices)
    (e_NoNumber : EC K C_CellError C_NoNumber)
    (e_NoTimetable : EC K C_CellError C_NoTimetable)
    (e_NotOnto : EC K C_CellError C_NotOnto)
    (e_NotAlike : EC K C_CellError C_NotAlike)
    (e_NotWhole : EC K C_CellError C_NotWhole)
    (e_NoSources : EC K C_CellError C_NoSources)
    (e_NoRow : EC K C_CellError C_NoRow)
    (e_NoCompiled : EC K C_CellError C_NoCompiled)
    (e_NotRunning : EC K C_CellError C_NotRunning)
    (e_NothingDone : EC K C_CellError C_NothingDone)
    (e_NoCell : EC K C_CellError C_NoCell)
    (e_NoItem : EC K C_CellError C_NoItem)
    (e_IsLocked : EC K C_CellError C_IsLocked)
    (e_NotLocked : EC K C_CellError C_NotLocked)
    (e_NoWay : EC K C_CellError C_NoWay)
    (e_NoLine : EC K C_CellError C_NoLine)
    (e_NoRunner : EC K C_CellError C_NoRunner)
    (i_NoProgram : PIn l.prog K C_NoProgram s_NoProgram_init "NoProgram.__init__")
    (i_NoContents : PIn l.prog K C_NoContents s_NoContents_init "NoContents.__init__")
    (i_NoOrder : PIn l.prog K C_NoOrder s_NoOrder_init "NoOrder.__init__")
    (i_NoMoment : PIn l.prog K C_NoMoment s_NoMoment_init "NoMoment.__init__")
    (i_NoPrices : PIn l.prog K C_NoPrices s_NoPrices_init "NoPrices.__init__")
    (i_NoNumber : PIn l.prog K C_NoNumber s_NoNumber_init "NoNumber.__init__")
    (i_NoTimetable : PIn l.prog K C_NoTimetable s_NoTimetable_init "NoTimetable.__init__")
    (i_NotOnto : PIn l.prog K C_NotOnto s_NotOnto_init "NotOnto.__init__")
    (i_NotAlike : PIn l.prog K C_NotAlike s_NotAlike_init "NotAlike.__init__")
    (i_NotWhole : PIn l.prog K C_NotWhole s_NotWhole_init "NotWhole.__init__")
    (i_NoSources : PIn l.prog K C_NoSources s_NoSources_init "NoSources.__init__")
    (i_NoRow : PIn l.prog K C_NoRow s_NoRow_init "NoRow.__init__")
    (i_NoCompiled : PIn l.prog K C_NoCompiled s_NoCompiled_init "NoCompiled.__init__")
    (i_NotRunning : PIn l.prog K C_NotRunning s_NotRunning_init "NotRunning.__init__")
    (i_NothingDone : PIn l.prog K C_NothingDone s_NothingDone_init "NothingDone.__init__")
    (i_NoCell : PIn l.prog K C_NoCell s_NoCell_init "NoCell.__init__")
    (i_NoItem : PIn l.prog K C_NoItem s_NoItem_init "NoItem.__init__")
    (i_IsLocked : PIn l.prog K C_IsLocked s_IsLocked_init "IsLocked.__init__")
    (i_NotLocked : PIn l.prog K C_NotLocked s_NotLocked_init "NotLocked.__init__")
    (i_NoWay : PIn l.prog K C_NoWay s_NoWay_init "NoWay.__init__")
    (i_NoLine : PIn l.prog K C_NoLine s_NoLine_init "NoLine.__init__")
    (i_NoRunner : PIn l.prog K C_NoRunner s_NoRunner_init "NoRunner.__init__")
    (g_BadWish : EIn K C_BadWish s_BadWish_init "BadWish.__init__")
    (n_BadWish : PySem.W.findIn K (.ref C_BadWish) "part" = some none)
    (g_BadTable : EIn K C_BadTable s_BadTable_init "BadTable.__init__")
    (n_BadTable : PySem.W.findIn K (.ref C_BadTable) "part" = some none)
    (g_BadCode : EIn K C_BadCode s_BadCode_init "BadCode.__init__")
    (n_BadCode : PySem.W.findIn K (.ref C_BadCode) "part" = some none)
    (g_TooMany : EIn K C_TooMany s_TooMany_init "TooMany.__init__")
    (n_TooMany : PySem.W.findIn K (.ref C_TooMany) "most" = some none)
    (g_BadText : EIn K C_BadText s_BadText_init "BadText.__init__")
    (n_BadText : PySem.W.findIn K (.ref C_BadText) "line" = some none)
    (g_NoName : EIn K C_NoName s_NoName_init "NoName.__init__")
    (n_NoName : PySem.W.findIn K (.ref C_NoName) "name" = some none)
    (icE : PySem.W.isClsIn K C_CellError = true)
    (tyE : PySem.W.typeIn K (.ref C_CellError) = some (.type "type"))
    (hn : PySem.W.specialIn K (.builtin "object.__class__") "__get__" = some (some (.builtin "getset_descriptor.__get__")))
    (tk : PySem.W.takesIn K (.builtin "object.__class__") = some true)
    (nsup : PySem.W.nsIn K mainGlobals "super" = some none)
    (nany : PySem.W.nsIn K cStatics "thirdparty.any" = some none)
    (top : (l.prog.main.scope.names.lookup ("super" : Str)).isSome = false)
    (nd : [C_CellError, C_BadWish, C_BadTable, C_BadCode, C_TooMany, C_BadText, C_NoName, C_NoProgram, C_NoContents, C_NoOrder, C_NoMoment, C_NoPrices, C_NoNumber, C_NoTimetable, C_NotOnto, C_NotAlike, C_NotWhole, C_NoSources, C_NoRow, C_NoCompiled, C_NotRunning, C_NothingDone, C_NoCell, C_NoItem, C_IsLocked, C_NotLocked, C_NoWay, C_NoLine, C_NoRunner].Nodup)
    (a0 : PySem.W.nsIn K mainGlobals "_law_pool" = some (some (.ref f0)))
    (l0 : K.lookup f0 = some ⟨oc0, od0, .func (PySem.W.fnOf "_law_pool" "_law_pool" (defArgs s__law_pool) (defBody s__law_pool) (defScope s__law_pool) .none kV0 dc0 pm0 an0 cd0 ct0), sl0⟩)
    (c0 : PySem.W.codeIn K cd0 "_law_pool" = true)
    (k0 : PySem.W.keepIn K (.ref f0) = true)
    (a1 : PySem.W.nsIn K mainGlobals "_law_draw" = some (some (.ref f1)))
    (l1 : K.lookup f1 = some ⟨oc1, od1, .func (PySem.W.fnOf "_law_draw" "_law_draw" (defArgs s__law_draw) (defBody s__law_draw) (defScope s__law_draw) .none kV1 dc1 pm1 an1 cd1 ct1), sl1⟩)
    (c1 : PySem.W.codeIn K cd1 "_law_draw" = true)
    (k1 : PySem.W.keepIn K (.ref f1) = true)
    (a2 : PySem.W.nsIn K mainGlobals "_law_deep" = some (some (.ref f2)))
    (l2 : K.lookup f2 = some ⟨oc2, od2, .func (PySem.W.fnOf "_law_deep" "_law_deep" (defArgs s__law_deep) (defBody s__law_deep) (defScope s__law_deep) .none kV2 dc2 pm2 an2 cd2 ct2), sl2⟩)
    (c2 : PySem.W.codeIn K cd2 "_law_deep" = true)
    (k2 : PySem.W.keepIn K (.ref f2) = true)
    (a3 : PySem.W.nsIn K mainGlobals "_law_made" = some (some (.ref f3)))
    (l3 : K.lookup f3 = some ⟨oc3, od3, .func (PySem.W.fnOf "_law_made" "_law_made" (defArgs s__law_made) (defBody s__law_made) (defScope s__law_made) .none kV3 dc3 pm3 an3 cd3 ct3), sl3⟩)
    (c3 : PySem.W.codeIn K cd3 "_law_made" = true)
    (k3 : PySem.W.keepIn K (.ref f3) = true)
    (a4 : PySem.W.nsIn K mainGlobals "_law_plain_ones" = some (some (.ref f4)))
    (l4 : K.lookup f4 = some ⟨oc4, od4, .func (PySem.W.fnOf "_law_plain_ones" "_law_plain_ones" (defArgs s__law_plain_ones) (defBody s__law_plain_ones) (defScope s__law_plain_ones) .none kV4 dc4 pm4 an4 cd4 ct4), sl4⟩)
    (c4 : PySem.W.codeIn K cd4 "_law_plain_ones" = true)
    (k4 : PySem.W.keepIn K (.ref f4) = true)
    (a5 : PySem.W.nsIn K mainGlobals "_law_kinds" = some (some (.ref f5)))
    (l5 : K.lookup f5 = some ⟨oc5, od5, .func (PySem.W.fnOf "_law_kinds" "_law_kinds" (defArgs s__law_kinds) (defBody s__law_kinds) (defScope s__law_kinds) .none kV5 dc5 pm5 an5 cd5 ct5), sl5⟩)
    (c5 : PySem.W.codeIn K cd5 "_law_kinds" = true)
    (k5 : PySem.W.keepIn K (.ref f5) = true)
    (a6 : PySem.W.nsIn K mainGlobals "law" = some (some (.ref f6)))
    (l6 : K.lookup f6 = some ⟨oc6, od6, .func (PySem.W.fnOf "law" "law" (defArgs s_law) (defBody s_law) (defScope s_law) .none kV6 dc6 pm6 an6 cd6 ct6), sl6⟩)
    (c6 : PySem.W.codeIn K cd6 "law" = true)
    (k6 : PySem.W.keepIn K (.ref f6) = true)
    (z_ValueError : PySem.W.nsIn K mainGlobals "ValueError" = some none)
    (z_abs : PySem.W.nsIn K mainGlobals "abs" = some none)
    (z_int : PySem.W.nsIn K mainGlobals "int" = some none)
    (z_isinstance : PySem.W.nsIn K mainGlobals "isinstance" = some none)
    (z_len : PySem.W.nsIn K mainGlobals "len" = some none)
    (z_range : PySem.W.nsIn K mainGlobals "range" = some none)
    (z_repr : PySem.W.nsIn K mainGlobals "repr" = some none)
    (z_set : PySem.W.nsIn K mainGlobals "set" = some none)
    (z_sum : PySem.W.nsIn K mainGlobals "sum" = some none) :
    ∃ fd : FuncData, (∀ (s : Shared) (v : Value), BindsTo s fd ⟨[v], []⟩ [("script", v)]) ∧ ∀ base : Heap, K.In base → base.Ns mainGlobals mg → FnOkG l.prog w K mg base (L2.CX l.prog w) 4 fa fd ["script"] (sp_law K) := by
  have e := hfa.symm.trans (PySem.W.mg_of X G a6)
  cases e
  have T : Tx mg := {ValueError := PySem.W.mg_none_of X G z_ValueError, abs := PySem.W.mg_none_of X G z_abs, int := PySem.W.mg_none_of X G z_int, isinstance := PySem.W.mg_none_of X G z_isinstance, len := PySem.W.mg_none_of X G z_len, range := PySem.W.mg_none_of X G z_range, repr := PySem.W.mg_none_of X G z_repr, set := PySem.W.mg_none_of X G z_set, sum := PySem.W.mg_none_of X G z_sum}
  have F__law_pool := fun_mk (st := s__law_pool) l0 c0 k0
  have b__law_pool := F__law_pool.binds (ps := ["script"]) fun _ _ _ _ _ _ us hl => match us, hl with | [_], _ => rfl
  have F__law_draw := fun_mk (st := s__law_draw) l1 c1 k1
  have b__law_draw := F__law_draw.binds (ps := ["pool", "many"]) fun _ _ _ _ _ _ us hl => match us, hl with | [_, _], _ => rfl
  have F__law_deep := fun_mk (st := s__law_deep) l2 c2 k2
  have b__law_deep := F__law_deep.binds (ps := []) fun _ _ _ _ _ _ us hl => match us, hl with | [], _ => rfl
  have F__law_made := fun_mk (st := s__law_made) l3 c3 k3
  have b__law_made := F__law_made.binds (ps := ["which", "thing"]) fun _ _ _ _ _ _ us hl => match us, hl with | [_, _], _ => rfl
  have F__law_plain_ones := fun_mk (st := s__law_plain_ones) l4 c4 k4
  have b__law_plain_ones := F__law_plain_ones.binds (ps := []) fun _ _ _ _ _ _ us hl => match us, hl with | [], _ => rfl
  have F__law_kinds := fun_mk (st := s__law_kinds) l5 c5 k5
  have b__law_kinds := F__law_kinds.binds (ps := ["error"]) fun _ _ _ _ _ _ us hl => match us, hl with | [_], _ => rfl
  have F_law := fun_mk (st := s_law) l6 c6 k6
  refine ⟨PySem.W.fnOf "law" "law" (defArgs s_law) (defBody s_law) (defScope s_law) .none kV6 dc6 pm6 an6 cd6 ct6, fun s v => .of_eq rfl, fun base _ _ => ?_⟩
  obtain ⟨a, ea⟩ : ∃ a : Ad, a = ⟨C_CellError, C_BadWish, C_NoProgram, C_NoContents, C_NoOrder, C_NoMoment, C_NoPrices, C_NoNumber, C_NoTimetable, C_NotOnto, C_NotAlike, C_NotWhole, C_TooMany, C_NoSources, C_BadTable, C_BadCode, C_NoRow, C_NoCompiled, C_NotRunning, C_NothingDone, C_NoCell, C_NoItem, C_IsLocked, C_NotLocked, C_NoWay, C_BadText, C_NoLine, C_NoName, C_NoRunner⟩ := ⟨_, rfl⟩
  obtain rfl : a.C_CellError = C_CellError := by rw [ea]
  obtain rfl : a.C_BadWish = C_BadWish := by rw [ea]
  obtain rfl : a.C_NoProgram = C_NoProgram := by rw [ea]
  obtain rfl : a.C_NoContents = C_NoContents := by rw [ea]
  obtain rfl : a.C_NoOrder = C_NoOrder := by rw [ea]
  obtain rfl : a.C_NoMoment = C_NoMoment := by rw [ea]
  obtain rfl : a.C_NoPrices = C_NoPrices := by rw [ea]
  obtain rfl : a.C_NoNumber = C_NoNumber := by rw [ea]
  obtain rfl : a.C_NoTimetable = C_NoTimetable := by rw [ea]
  obtain rfl : a.C_NotOnto = C_NotOnto := by rw [ea]
  obtain rfl : a.C_NotAlike = C_NotAlike := by rw [ea]
  obtain rfl : a.C_NotWhole = C_NotWhole := by rw [ea]
  obtain rfl : a.C_TooMany = C_TooMany := by rw [ea]
  obtain rfl : a.C_NoSources = C_NoSources := by rw [ea]
  obtain rfl : a.C_BadTable = C_BadTable := by rw [ea]
  obtain rfl : a.C_BadCode = C_BadCode := by rw [ea]
  obtain rfl : a.C_NoRow = C_NoRow := by rw [ea]
  obtain rfl : a.C_NoCompiled = C_NoCompiled := by rw [ea]
  obtain rfl : a.C_NotRunning = C_NotRunning := by rw [ea]
  obtain rfl : a.C_NothingDone = C_NothingDone := by rw [ea]
  obtain rfl : a.C_NoCell = C_NoCell := by rw [ea]
  obtain rfl : a.C_NoItem = C_NoItem := by rw [ea]
  obtain rfl : a.C_IsLocked = C_IsLocked := by rw [ea]
  obtain rfl : a.C_NotLocked = C_NotLocked := by rw [ea]
  obtain rfl : a.C_NoWay = C_NoWay := by rw [ea]
  obtain rfl : a.C_BadText = C_BadText := by rw [ea]
  obtain rfl : a.C_NoLine = C_NoLine := by rw [ea]
  obtain rfl : a.C_NoName = C_NoName := by rw [ea]
  obtain rfl : a.C_NoRunner = C_NoRunner := by rw [ea]
  have x_NoProgram : Exn0 l.prog w K mg base "NoProgram" a.C_NoProgram := x0_NoProgram e_NoProgram i_NoProgram nsup nany top (PySem.W.mg_of X G A_NoProgram)
  have x_NoContents : Exn0 l.prog w K mg base "NoContents" a.C_NoContents := x0_NoContents e_NoContents i_NoContents nsup nany top (PySem.W.mg_of X G A_NoContents)
  have x_NoOrder : Exn0 l.prog w K mg base "NoOrder" a.C_NoOrder := x0_NoOrder e_NoOrder i_NoOrder nsup nany top (PySem.W.mg_of X G A_NoOrder)
  have x_NoMoment : Exn0 l.prog w K mg base "NoMoment" a.C_NoMoment := x0_NoMoment e_NoMoment i_NoMoment nsup nany top (PySem.W.mg_of X G A_NoMoment)
  have x_NoPrices : Exn0 l.prog w K mg base "NoPrices" a.C_NoPrices := x0_NoPrices e_NoPrices i_NoPrices nsup nany top (PySem.W.mg_of X G A_NoPrices)
  have x_NoNumber : Exn0 l.prog w K mg base "NoNumber" a.C_NoNumber := x0_NoNumber e_NoNumber i_NoNumber nsup nany top (PySem.W.mg_of X G A_NoNumber)
  have x_NoTimetable : Exn0 l.prog w K mg base "NoTimetable" a.C_NoTimetable := x0_NoTimetable e_NoTimetable i_NoTimetable nsup nany top (PySem.W.mg_of X G A_NoTimetable)
  have x_NotOnto : Exn0 l.prog w K mg base "NotOnto" a.C_NotOnto := x0_NotOnto e_NotOnto i_NotOnto nsup nany top (PySem.W.mg_of X G A_NotOnto)
  have x_NotAlike : Exn0 l.prog w K mg base "NotAlike" a.C_NotAlike := x0_NotAlike e_NotAlike i_NotAlike nsup nany top (PySem.W.mg_of X G A_NotAlike)
  have x_NotWhole : Exn0 l.prog w K mg base "NotWhole" a.C_NotWhole := x0_NotWhole e_NotWhole i_NotWhole nsup nany top (PySem.W.mg_of X G A_NotWhole)
  have x_NoSources : Exn0 l.prog w K mg base "NoSources" a.C_NoSources := x0_NoSources e_NoSources i_NoSources nsup nany top (PySem.W.mg_of X G A_NoSources)
  have x_NoRow : Exn0 l.prog w K mg base "NoRow" a.C_NoRow := x0_NoRow e_NoRow i_NoRow nsup nany top (PySem.W.mg_of X G A_NoRow)
  have x_NoCompiled : Exn0 l.prog w K mg base "NoCompiled" a.C_NoCompiled := x0_NoCompiled e_NoCompiled i_NoCompiled nsup nany top (PySem.W.mg_of X G A_NoCompiled)
  have x_NotRunning : Exn0 l.prog w K mg base "NotRunning" a.C_NotRunning := x0_NotRunning e_NotRunning i_NotRunning nsup nany top (PySem.W.mg_of X G A_NotRunning)
  have x_NothingDone : Exn0 l.prog w K mg base "NothingDone" a.C_NothingDone := x0_NothingDone e_NothingDone i_NothingDone nsup nany top (PySem.W.mg_of X G A_NothingDone)
  have x_NoCell : Exn0 l.prog w K mg base "NoCell" a.C_NoCell := x0_NoCell e_NoCell i_NoCell nsup nany top (PySem.W.mg_of X G A_NoCell)
  have x_NoItem : Exn0 l.prog w K mg base "NoItem" a.C_NoItem := x0_NoItem e_NoItem i_NoItem nsup nany top (PySem.W.mg_of X G A_NoItem)
  have x_IsLocked : Exn0 l.prog w K mg base "IsLocked" a.C_IsLocked := x0_IsLocked e_IsLocked i_IsLocked nsup nany top (PySem.W.mg_of X G A_IsLocked)
  have x_NotLocked : Exn0 l.prog w K mg base "NotLocked" a.C_NotLocked := x0_NotLocked e_NotLocked i_NotLocked nsup nany top (PySem.W.mg_of X G A_NotLocked)
  have x_NoWay : Exn0 l.prog w K mg base "NoWay" a.C_NoWay := x0_NoWay e_NoWay i_NoWay nsup nany top (PySem.W.mg_of X G A_NoWay)
  have x_NoLine : Exn0 l.prog w K mg base "NoLine" a.C_NoLine := x0_NoLine e_NoLine i_NoLine nsup nany top (PySem.W.mg_of X G A_NoLine)
  have x_NoRunner : Exn0 l.prog w K mg base "NoRunner" a.C_NoRunner := x0_NoRunner e_NoRunner i_NoRunner nsup nany top (PySem.W.mg_of X G A_NoRunner)
  have x_BadWish : Exn1 l.prog w K mg base "BadWish" a.C_BadWish "part" := x1_BadWish e_BadWish g_BadWish n_BadWish (PySem.W.mg_of X G A_BadWish)
  have x_BadTable : Exn1 l.prog w K mg base "BadTable" a.C_BadTable "part" := x1_BadTable e_BadTable g_BadTable n_BadTable (PySem.W.mg_of X G A_BadTable)
  have x_BadCode : Exn1 l.prog w K mg base "BadCode" a.C_BadCode "part" := x1_BadCode e_BadCode g_BadCode n_BadCode (PySem.W.mg_of X G A_BadCode)
  have x_TooMany : Exn1 l.prog w K mg base "TooMany" a.C_TooMany "most" := x1_TooMany e_TooMany g_TooMany n_TooMany (PySem.W.mg_of X G A_TooMany)
  have x_BadText : Exn1 l.prog w K mg base "BadText" a.C_BadText "line" := x1_BadText e_BadText g_BadText n_BadText (PySem.W.mg_of X G A_BadText)
  have x_NoName : Exn1 l.prog w K mg base "NoName" a.C_NoName "name" := x1_NoName e_NoName g_NoName n_NoName (PySem.W.mg_of X G A_NoName)
  have ecs : ∀ C ∈ er a, EC K a.C_CellError C := fun C hC => by
    simp only [er, List.mem_cons, List.not_mem_nil, or_false] at hC
    rcases hC with rfl | rfl | rfl | rfl | rfl | rfl | rfl | rfl | rfl | rfl | rfl | rfl | rfl | rfl | rfl | rfl | rfl | rfl | rfl | rfl | rfl | rfl | rfl | rfl | rfl | rfl | rfl | rfl
    · exact e_BadWish
    · exact e_BadTable
    · exact e_BadCode
    · exact e_TooMany
    · exact e_BadText
    · exact e_NoName
    · exact e_NoProgram
    · exact e_NoContents
    · exact e_NoOrder
    · exact e_NoMoment
    · exact e_NoPrices
    · exact e_NoNumber
    · exact e_NoTimetable
    · exact e_NotOnto
    · exact e_NotAlike
    · exact e_NotWhole
    · exact e_NoSources
    · exact e_NoRow
    · exact e_NoCompiled
    · exact e_NotRunning
    · exact e_NothingDone
    · exact e_NoCell
    · exact e_NoItem
    · exact e_IsLocked
    · exact e_NotLocked
    · exact e_NoWay
    · exact e_NoLine
    · exact e_NoRunner
  have nde : (a.C_CellError :: er a).Nodup := nd
  have ndc := List.nodup_cons.mp nde
  have kf : KF K a := ⟨fun C h => (ecs C h).kit hn tk, fun C h C' h' => (ecs C h).one (ecs C' h') (fun z => ndc.1 (z ▸ h')), fun C h => kitOne_yes (kitCls_ref icE tyE (by rw [(ecs C h).sub]; simp [List.contains_cons])), fun C h => kitOne_yes (kitCls_ty (T := "ValueError") (by decide +kernel) (by rw [(ecs C h).sub]; simp [List.contains_cons])), ndc.2, ⟨(e_BadWish.kit hn tk).xf, n_BadWish⟩, ⟨(e_BadTable.kit hn tk).xf, n_BadTable⟩, ⟨(e_BadCode.kit hn tk).xf, n_BadCode⟩, ⟨(e_TooMany.kit hn tk).xf, n_TooMany⟩, ⟨(e_BadText.kit hn tk).xf, n_BadText⟩, ⟨(e_NoName.kit hn tk).xf, n_NoName⟩⟩
  have c__law_pool : Dfn l.prog w K mg base "_law_pool" 1 1 S_pool := dfn_mk F__law_pool (PySem.W.mg_of X G a0) b__law_pool (ok_law_pool F__law_pool T)
  have c0_draw : Dfn l.prog w K mg base "_law_draw" 1 2 S_draw := dfn_mk F__law_draw (PySem.W.mg_of X G a1) b__law_draw (ok_law_draw F__law_draw T)
  have c__law_draw := DfnW.ofS c0_draw
  have c__law_deep : DfnW l.prog w K mg base "_law_deep" 1 0 (wp__law_deep K a) := dfnw_mk F__law_deep (PySem.W.mg_of X G a2) b__law_deep (ok__law_deep F__law_deep T )
  have c__law_made : DfnW l.prog w K mg base "_law_made" 3 2 (wp__law_made K a) := dfnw_mk F__law_made (PySem.W.mg_of X G a3) b__law_made (ok__law_made F__law_made T x_BadWish x_BadTable x_BadCode x_TooMany x_BadText x_NoName)
  have c__law_plain_ones : DfnW l.prog w K mg base "_law_plain_ones" 3 0 (wp__law_plain_ones K a) := dfnw_mk F__law_plain_ones (PySem.W.mg_of X G a4) b__law_plain_ones (ok__law_plain_ones F__law_plain_ones T x_NotAlike x_NotOnto x_NoTimetable x_NoNumber x_NoPrices x_NoMoment x_NoOrder x_NoContents x_NoProgram x_NoItem x_NoCell x_NothingDone x_NotRunning x_NoCompiled x_NoRow x_NoSources x_NotWhole x_NoRunner x_NoLine x_NoWay x_NotLocked x_IsLocked)
  have c__law_kinds : DfnW l.prog w K mg base "_law_kinds" 1 1 (wp__law_kinds K a) := dfnw_mk F__law_kinds (PySem.W.mg_of X G a5) b__law_kinds (ok__law_kinds F__law_kinds T (PySem.W.mg_of X G A_TooMany) (PySem.W.mg_of X G A_BadCode) (PySem.W.mg_of X G A_BadTable) (PySem.W.mg_of X G A_BadWish) (PySem.W.mg_of X G A_NoProgram) (PySem.W.mg_of X G A_NoName) (PySem.W.mg_of X G A_BadText) (PySem.W.mg_of X G A_NoMoment) (PySem.W.mg_of X G A_NoOrder) (PySem.W.mg_of X G A_NoContents) (PySem.W.mg_of X G A_NoTimetable) (PySem.W.mg_of X G A_NoNumber) (PySem.W.mg_of X G A_NoPrices) (PySem.W.mg_of X G A_NotWhole) (PySem.W.mg_of X G A_NotAlike) (PySem.W.mg_of X G A_NotOnto) (PySem.W.mg_of X G A_NoCompiled) (PySem.W.mg_of X G A_NoRow) (PySem.W.mg_of X G A_NoSources) (PySem.W.mg_of X G A_NoCell) (PySem.W.mg_of X G A_NothingDone) (PySem.W.mg_of X G A_NotRunning) (PySem.W.mg_of X G A_NotLocked) (PySem.W.mg_of X G A_IsLocked) (PySem.W.mg_of X G A_NoItem) (PySem.W.mg_of X G A_NoRunner) (PySem.W.mg_of X G A_NoLine) (PySem.W.mg_of X G A_NoWay))
  exact ok_law F_law T c__law_pool c__law_deep c__law_draw c__law_made c__law_plain_ones c__law_kinds (PySem.W.mg_of X G A_CellError) (w_rest kf)
theorem walk {l : PySem.W.OpenLaw} {q : Program} {loose : List Str} {XP : (Str → Option Value) → Heap → Prop} {YP : World → Heap → Prop} {d : DefRec} {K : Params → PySem.W.Frag} (hn : l.most = some 63) (hdf : d.params.defaults = [])
    (hY : ∀ (w : World) (h : Heap), YP w h → (K w.params).In h)
    (F : ∀ (w : World) (mg : Str → Option Value) (fa : Addr) (h : Heap), (K w.params).In h → h.Ns mainGlobals mg → mg d.name = some (.ref fa) →
      ∃ fd : FuncData, (∀ (s : Shared) (u : Value), BindsTo s fd ⟨[u], []⟩ [("script", u)]) ∧ ∀ base : Heap, (K w.params).In base → base.Ns mainGlobals mg → FnOkG l.prog w (K w.params) mg base (L2.CX l.prog w) 4 fa fd ["script"] (sp_law (K w.params))) :
    PySem.W.WalkO q loose XP YP l.row.toRowW d [] (fun f vs => PySem.call f vs) :=
  L2.endG (n := 63) (k := 4) (x := "script") (sp := fun w => sp_law (K w.params)) hn (by decide) hdf ⟨rfl, by decide, by decide⟩ hY F fun _ _ a ms hl hO hS => ⟨a, ms, rfl, hS, hl, hO, fun _ => rfl⟩
end My
open PySem PySem.W PyProof.Rows
set_option maxRecDepth 100000 in
set_option maxHeartbeats 0 in
theorem PySem.Challenge.cw_oncetwice_k00_errors_of_the_package_holds : PySem.Challenge.rw_oncetwice_k00_errors_of_the_package.Holds := by
  w_on; o_law; k_head; (case hw => w_witness2)
  k_fill
  refine My.walk (l := PySem.Challenge.rw_oncetwice_k00_errors_of_the_package) rfl rfl (fun w h Y => PySem.W.kIn_of Y) ?F
  case F =>
    intro w mg fa h KX G hmg
    refine' My.all_mk KX G hmg ?A_CellError ?A_BadWish ?A_NoProgram ?A_NoContents ?A_NoOrder ?A_NoMoment ?A_NoPrices ?A_NoNumber ?A_NoTimetable ?A_NotOnto ?A_NotAlike ?A_NotWhole ?A_TooMany ?A_NoSources ?A_BadTable ?A_BadCode ?A_NoRow ?A_NoCompiled ?A_NotRunning ?A_NothingDone ?A_NoCell ?A_NoItem ?A_IsLocked ?A_NotLocked ?A_NoWay ?A_BadText ?A_NoLine ?A_NoName ?A_NoRunner ?e_BadWish ?e_BadTable ?e_BadCode ?e_TooMany ?e_BadText ?e_NoName ?e_NoProgram ?e_NoContents ?e_NoOrder ?e_NoMoment ?e_NoPrices ?e_NoNumber ?e_NoTimetable ?e_NotOnto ?e_NotAlike ?e_NotWhole ?e_NoSources ?e_NoRow ?e_NoCompiled ?e_NotRunning ?e_NothingDone ?e_NoCell ?e_NoItem ?e_IsLocked ?e_NotLocked ?e_NoWay ?e_NoLine ?e_NoRunner ?i_NoProgram ?i_NoContents ?i_NoOrder ?i_NoMoment ?i_NoPrices ?i_NoNumber ?i_NoTimetable ?i_NotOnto ?i_NotAlike ?i_NotWhole ?i_NoSources ?i_NoRow ?i_NoCompiled ?i_NotRunning ?i_NothingDone ?i_NoCell ?i_NoItem ?i_IsLocked ?i_NotLocked ?i_NoWay ?i_NoLine ?i_NoRunner ?g_BadWish ?n_BadWish ?g_BadTable ?n_BadTable ?g_BadCode ?n_BadCode ?g_TooMany ?n_TooMany ?g_BadText ?n_BadText ?g_NoName ?n_NoName ?icE ?tyE ?hn ?tk ?nsup ?nany ?top ?nd ?a0 ?l0 ?c0 ?k0 ?a1 ?l1 ?c1 ?k1 ?a2 ?l2 ?c2 ?k2 ?a3 ?l3 ?c3 ?k3 ?a4 ?l4 ?c4 ?k4 ?a5 ?l5 ?c5 ?k5 ?a6 ?l6 ?c6 ?k6 ?z_ValueError ?z_abs ?z_int ?z_isinstance ?z_len ?z_range ?z_repr ?z_set ?z_sum
    (case A_CellError => k_is)
    (case A_BadWish => k_is)
    (case A_NoProgram => k_is)
    (case A_NoContents => k_is)
    (case A_NoOrder => k_is)
    (case A_NoMoment => k_is)
    (case A_NoPrices => k_is)
    (case A_NoNumber => k_is)
    (case A_NoTimetable => k_is)
    (case A_NotOnto => k_is)
    (case A_NotAlike => k_is)
    (case A_NotWhole => k_is)
    (case A_TooMany => k_is)
    (case A_NoSources => k_is)
    (case A_BadTable => k_is)
    (case A_BadCode => k_is)
    (case A_NoRow => k_is)
    (case A_NoCompiled => k_is)
    (case A_NotRunning => k_is)
    (case A_NothingDone => k_is)
    (case A_NoCell => k_is)
    (case A_NoItem => k_is)
    (case A_IsLocked => k_is)
    (case A_NotLocked => k_is)
    (case A_NoWay => k_is)
    (case A_BadText => k_is)
    (case A_NoLine => k_is)
    (case A_NoName => k_is)
    (case A_NoRunner => k_is)
    (case e_BadWish => refine' My.ec_mk ?x ?sa ?ty ?kp ?ga ?gg ?hd ?ha; (case x => k_is); (case sa => k_is); (case ty => k_is); (case kp => k_is); (case ga => k_is); (case gg => k_is); (case hd => k_is); (case ha => k_is))
    (case e_BadTable => refine' My.ec_mk ?x ?sa ?ty ?kp ?ga ?gg ?hd ?ha; (case x => k_is); (case sa => k_is); (case ty => k_is); (case kp => k_is); (case ga => k_is); (case gg => k_is); (case hd => k_is); (case ha => k_is))
    (case e_BadCode => refine' My.ec_mk ?x ?sa ?ty ?kp ?ga ?gg ?hd ?ha; (case x => k_is); (case sa => k_is); (case ty => k_is); (case kp => k_is); (case ga => k_is); (case gg => k_is); (case hd => k_is); (case ha => k_is))
    (case e_TooMany => refine' My.ec_mk ?x ?sa ?ty ?kp ?ga ?gg ?hd ?ha; (case x => k_is); (case sa => k_is); (case ty => k_is); (case kp => k_is); (case ga => k_is); (case gg => k_is); (case hd => k_is); (case ha => k_is))
    (case e_BadText => refine' My.ec_mk ?x ?sa ?ty ?kp ?ga ?gg ?hd ?ha; (case x => k_is); (case sa => k_is); (case ty => k_is); (case kp => k_is); (case ga => k_is); (case gg => k_is); (case hd => k_is); (case ha => k_is))
    (case e_NoName => refine' My.ec_mk ?x ?sa ?ty ?kp ?ga ?gg ?hd ?ha; (case x => k_is); (case sa => k_is); (case ty => k_is); (case kp => k_is); (case ga => k_is); (case gg => k_is); (case hd => k_is); (case ha => k_is))
    (case e_NoProgram => refine' My.ec_mk ?x ?sa ?ty ?kp ?ga ?gg ?hd ?ha; (case x => k_is); (case sa => k_is); (case ty => k_is); (case kp => k_is); (case ga => k_is); (case gg => k_is); (case hd => k_is); (case ha => k_is))
    (case e_NoContents => refine' My.ec_mk ?x ?sa ?ty ?kp ?ga ?gg ?hd ?ha; (case x => k_is); (case sa => k_is); (case ty => k_is); (case kp => k_is); (case ga => k_is); (case gg => k_is); (case hd => k_is); (case ha => k_is))
    (case e_NoOrder => refine' My.ec_mk ?x ?sa ?ty ?kp ?ga ?gg ?hd ?ha; (case x => k_is); (case sa => k_is); (case ty => k_is); (case kp => k_is); (case ga => k_is); (case gg => k_is); (case hd => k_is); (case ha => k_is))
    (case e_NoMoment => refine' My.ec_mk ?x ?sa ?ty ?kp ?ga ?gg ?hd ?ha; (case x => k_is); (case sa => k_is); (case ty => k_is); (case kp => k_is); (case ga => k_is); (case gg => k_is); (case hd => k_is); (case ha => k_is))
    (case e_NoPrices => refine' My.ec_mk ?x ?sa ?ty ?kp ?ga ?gg ?hd ?ha; (case x => k_is); (case sa => k_is); (case ty => k_is); (case kp => k_is); (case ga => k_is); (case gg => k_is); (case hd => k_is); (case ha => k_is))
    (case e_NoNumber => refine' My.ec_mk ?x ?sa ?ty ?kp ?ga ?gg ?hd ?ha; (case x => k_is); (case sa => k_is); (case ty => k_is); (case kp => k_is); (case ga => k_is); (case gg => k_is); (case hd => k_is); (case ha => k_is))
    (case e_NoTimetable => refine' My.ec_mk ?x ?sa ?ty ?kp ?ga ?gg ?hd ?ha; (case x => k_is); (case sa => k_is); (case ty => k_is); (case kp => k_is); (case ga => k_is); (case gg => k_is); (case hd => k_is); (case ha => k_is))
    (case e_NotOnto => refine' My.ec_mk ?x ?sa ?ty ?kp ?ga ?gg ?hd ?ha; (case x => k_is); (case sa => k_is); (case ty => k_is); (case kp => k_is); (case ga => k_is); (case gg => k_is); (case hd => k_is); (case ha => k_is))
    (case e_NotAlike => refine' My.ec_mk ?x ?sa ?ty ?kp ?ga ?gg ?hd ?ha; (case x => k_is); (case sa => k_is); (case ty => k_is); (case kp => k_is); (case ga => k_is); (case gg => k_is); (case hd => k_is); (case ha => k_is))
    (case e_NotWhole => refine' My.ec_mk ?x ?sa ?ty ?kp ?ga ?gg ?hd ?ha; (case x => k_is); (case sa => k_is); (case ty => k_is); (case kp => k_is); (case ga => k_is); (case gg => k_is); (case hd => k_is); (case ha => k_is))
    (case e_NoSources => refine' My.ec_mk ?x ?sa ?ty ?kp ?ga ?gg ?hd ?ha; (case x => k_is); (case sa => k_is); (case ty => k_is); (case kp => k_is); (case ga => k_is); (case gg => k_is); (case hd => k_is); (case ha => k_is))
    (case e_NoRow => refine' My.ec_mk ?x ?sa ?ty ?kp ?ga ?gg ?hd ?ha; (case x => k_is); (case sa => k_is); (case ty => k_is); (case kp => k_is); (case ga => k_is); (case gg => k_is); (case hd => k_is); (case ha => k_is))
    (case e_NoCompiled => refine' My.ec_mk ?x ?sa ?ty ?kp ?ga ?gg ?hd ?ha; (case x => k_is); (case sa => k_is); (case ty => k_is); (case kp => k_is); (case ga => k_is); (case gg => k_is); (case hd => k_is); (case ha => k_is))
    (case e_NotRunning => refine' My.ec_mk ?x ?sa ?ty ?kp ?ga ?gg ?hd ?ha; (case x => k_is); (case sa => k_is); (case ty => k_is); (case kp => k_is); (case ga => k_is); (case gg => k_is); (case hd => k_is); (case ha => k_is))
    (case e_NothingDone => refine' My.ec_mk ?x ?sa ?ty ?kp ?ga ?gg ?hd ?ha; (case x => k_is); (case sa => k_is); (case ty => k_is); (case kp => k_is); (case ga => k_is); (case gg => k_is); (case hd => k_is); (case ha => k_is))
    (case e_NoCell => refine' My.ec_mk ?x ?sa ?ty ?kp ?ga ?gg ?hd ?ha; (case x => k_is); (case sa => k_is); (case ty => k_is); (case kp => k_is); (case ga => k_is); (case gg => k_is); (case hd => k_is); (case ha => k_is))
    (case e_NoItem => refine' My.ec_mk ?x ?sa ?ty ?kp ?ga ?gg ?hd ?ha; (case x => k_is); (case sa => k_is); (case ty => k_is); (case kp => k_is); (case ga => k_is); (case gg => k_is); (case hd => k_is); (case ha => k_is))
    (case e_IsLocked => refine' My.ec_mk ?x ?sa ?ty ?kp ?ga ?gg ?hd ?ha; (case x => k_is); (case sa => k_is); (case ty => k_is); (case kp => k_is); (case ga => k_is); (case gg => k_is); (case hd => k_is); (case ha => k_is))
    (case e_NotLocked => refine' My.ec_mk ?x ?sa ?ty ?kp ?ga ?gg ?hd ?ha; (case x => k_is); (case sa => k_is); (case ty => k_is); (case kp => k_is); (case ga => k_is); (case gg => k_is); (case hd => k_is); (case ha => k_is))
    (case e_NoWay => refine' My.ec_mk ?x ?sa ?ty ?kp ?ga ?gg ?hd ?ha; (case x => k_is); (case sa => k_is); (case ty => k_is); (case kp => k_is); (case ga => k_is); (case gg => k_is); (case hd => k_is); (case ha => k_is))
    (case e_NoLine => refine' My.ec_mk ?x ?sa ?ty ?kp ?ga ?gg ?hd ?ha; (case x => k_is); (case sa => k_is); (case ty => k_is); (case kp => k_is); (case ga => k_is); (case gg => k_is); (case hd => k_is); (case ha => k_is))
    (case e_NoRunner => refine' My.ec_mk ?x ?sa ?ty ?kp ?ga ?gg ?hd ?ha; (case x => k_is); (case sa => k_is); (case ty => k_is); (case kp => k_is); (case ga => k_is); (case gg => k_is); (case hd => k_is); (case ha => k_is))
    (case i_NoProgram => refine' My.pin_mk ?h1 ?h2 ?h3 ?h4 ?h5 ?h6 ?h7 ?h8 ?me ?ini; (case h1 => k_is); (case h2 => k_is); (case h3 => k_is); (case h4 => k_is); (case h5 => k_is); (case h6 => rfl); (case h7 => decide); (case h8 => k_is); (case me => ks_is); (case ini => kx_is))
    (case i_NoContents => refine' My.pin_mk ?h1 ?h2 ?h3 ?h4 ?h5 ?h6 ?h7 ?h8 ?me ?ini; (case h1 => k_is); (case h2 => k_is); (case h3 => k_is); (case h4 => k_is); (case h5 => k_is); (case h6 => rfl); (case h7 => decide); (case h8 => k_is); (case me => ks_is); (case ini => kx_is))
    (case i_NoOrder => refine' My.pin_mk ?h1 ?h2 ?h3 ?h4 ?h5 ?h6 ?h7 ?h8 ?me ?ini; (case h1 => k_is); (case h2 => k_is); (case h3 => k_is); (case h4 => k_is); (case h5 => k_is); (case h6 => rfl); (case h7 => decide); (case h8 => k_is); (case me => ks_is); (case ini => kx_is))
    (case i_NoMoment => refine' My.pin_mk ?h1 ?h2 ?h3 ?h4 ?h5 ?h6 ?h7 ?h8 ?me ?ini; (case h1 => k_is); (case h2 => k_is); (case h3 => k_is); (case h4 => k_is); (case h5 => k_is); (case h6 => rfl); (case h7 => decide); (case h8 => k_is); (case me => ks_is); (case ini => kx_is))
    (case i_NoPrices => refine' My.pin_mk ?h1 ?h2 ?h3 ?h4 ?h5 ?h6 ?h7 ?h8 ?me ?ini; (case h1 => k_is); (case h2 => k_is); (case h3 => k_is); (case h4 => k_is); (case h5 => k_is); (case h6 => rfl); (case h7 => decide); (case h8 => k_is); (case me => ks_is); (case ini => kx_is))
    (case i_NoNumber => refine' My.pin_mk ?h1 ?h2 ?h3 ?h4 ?h5 ?h6 ?h7 ?h8 ?me ?ini; (case h1 => k_is); (case h2 => k_is); (case h3 => k_is); (case h4 => k_is); (case h5 => k_is); (case h6 => rfl); (case h7 => decide); (case h8 => k_is); (case me => ks_is); (case ini => kx_is))
    (case i_NoTimetable => refine' My.pin_mk ?h1 ?h2 ?h3 ?h4 ?h5 ?h6 ?h7 ?h8 ?me ?ini; (case h1 => k_is); (case h2 => k_is); (case h3 => k_is); (case h4 => k_is); (case h5 => k_is); (case h6 => rfl); (case h7 => decide); (case h8 => k_is); (case me => ks_is); (case ini => kx_is))
    (case i_NotOnto => refine' My.pin_mk ?h1 ?h2 ?h3 ?h4 ?h5 ?h6 ?h7 ?h8 ?me ?ini; (case h1 => k_is); (case h2 => k_is); (case h3 => k_is); (case h4 => k_is); (case h5 => k_is); (case h6 => rfl); (case h7 => decide); (case h8 => k_is); (case me => ks_is); (case ini => kx_is))
    (case i_NotAlike => refine' My.pin_mk ?h1 ?h2 ?h3 ?h4 ?h5 ?h6 ?h7 ?h8 ?me ?ini; (case h1 => k_is); (case h2 => k_is); (case h3 => k_is); (case h4 => k_is); (case h5 => k_is); (case h6 => rfl); (case h7 => decide); (case h8 => k_is); (case me => ks_is); (case ini => kx_is))
    (case i_NotWhole => refine' My.pin_mk ?h1 ?h2 ?h3 ?h4 ?h5 ?h6 ?h7 ?h8 ?me ?ini; (case h1 => k_is); (case h2 => k_is); (case h3 => k_is); (case h4 => k_is); (case h5 => k_is); (case h6 => rfl); (case h7 => decide); (case h8 => k_is); (case me => ks_is); (case ini => kx_is))
    (case i_NoSources => refine' My.pin_mk ?h1 ?h2 ?h3 ?h4 ?h5 ?h6 ?h7 ?h8 ?me ?ini; (case h1 => k_is); (case h2 => k_is); (case h3 => k_is); (case h4 => k_is); (case h5 => k_is); (case h6 => rfl); (case h7 => decide); (case h8 => k_is); (case me => ks_is); (case ini => kx_is))
    (case i_NoRow => refine' My.pin_mk ?h1 ?h2 ?h3 ?h4 ?h5 ?h6 ?h7 ?h8 ?me ?ini; (case h1 => k_is); (case h2 => k_is); (case h3 => k_is); (case h4 => k_is); (case h5 => k_is); (case h6 => rfl); (case h7 => decide); (case h8 => k_is); (case me => ks_is); (case ini => kx_is))
    (case i_NoCompiled => refine' My.pin_mk ?h1 ?h2 ?h3 ?h4 ?h5 ?h6 ?h7 ?h8 ?me ?ini; (case h1 => k_is); (case h2 => k_is); (case h3 => k_is); (case h4 => k_is); (case h5 => k_is); (case h6 => rfl); (case h7 => decide); (case h8 => k_is); (case me => ks_is); (case ini => kx_is))
    (case i_NotRunning => refine' My.pin_mk ?h1 ?h2 ?h3 ?h4 ?h5 ?h6 ?h7 ?h8 ?me ?ini; (case h1 => k_is); (case h2 => k_is); (case h3 => k_is); (case h4 => k_is); (case h5 => k_is); (case h6 => rfl); (case h7 => decide); (case h8 => k_is); (case me => ks_is); (case ini => kx_is))
    (case i_NothingDone => refine' My.pin_mk ?h1 ?h2 ?h3 ?h4 ?h5 ?h6 ?h7 ?h8 ?me ?ini; (case h1 => k_is); (case h2 => k_is); (case h3 => k_is); (case h4 => k_is); (case h5 => k_is); (case h6 => rfl); (case h7 => decide); (case h8 => k_is); (case me => ks_is); (case ini => kx_is))
    (case i_NoCell => refine' My.pin_mk ?h1 ?h2 ?h3 ?h4 ?h5 ?h6 ?h7 ?h8 ?me ?ini; (case h1 => k_is); (case h2 => k_is); (case h3 => k_is); (case h4 => k_is); (case h5 => k_is); (case h6 => rfl); (case h7 => decide); (case h8 => k_is); (case me => ks_is); (case ini => kx_is))
    (case i_NoItem => refine' My.pin_mk ?h1 ?h2 ?h3 ?h4 ?h5 ?h6 ?h7 ?h8 ?me ?ini; (case h1 => k_is); (case h2 => k_is); (case h3 => k_is); (case h4 => k_is); (case h5 => k_is); (case h6 => rfl); (case h7 => decide); (case h8 => k_is); (case me => ks_is); (case ini => kx_is))
    (case i_IsLocked => refine' My.pin_mk ?h1 ?h2 ?h3 ?h4 ?h5 ?h6 ?h7 ?h8 ?me ?ini; (case h1 => k_is); (case h2 => k_is); (case h3 => k_is); (case h4 => k_is); (case h5 => k_is); (case h6 => rfl); (case h7 => decide); (case h8 => k_is); (case me => ks_is); (case ini => kx_is))
    (case i_NotLocked => refine' My.pin_mk ?h1 ?h2 ?h3 ?h4 ?h5 ?h6 ?h7 ?h8 ?me ?ini; (case h1 => k_is); (case h2 => k_is); (case h3 => k_is); (case h4 => k_is); (case h5 => k_is); (case h6 => rfl); (case h7 => decide); (case h8 => k_is); (case me => ks_is); (case ini => kx_is))
    (case i_NoWay => refine' My.pin_mk ?h1 ?h2 ?h3 ?h4 ?h5 ?h6 ?h7 ?h8 ?me ?ini; (case h1 => k_is); (case h2 => k_is); (case h3 => k_is); (case h4 => k_is); (case h5 => k_is); (case h6 => rfl); (case h7 => decide); (case h8 => k_is); (case me => ks_is); (case ini => kx_is))
    (case i_NoLine => refine' My.pin_mk ?h1 ?h2 ?h3 ?h4 ?h5 ?h6 ?h7 ?h8 ?me ?ini; (case h1 => k_is); (case h2 => k_is); (case h3 => k_is); (case h4 => k_is); (case h5 => k_is); (case h6 => rfl); (case h7 => decide); (case h8 => k_is); (case me => ks_is); (case ini => kx_is))
    (case i_NoRunner => refine' My.pin_mk ?h1 ?h2 ?h3 ?h4 ?h5 ?h6 ?h7 ?h8 ?me ?ini; (case h1 => k_is); (case h2 => k_is); (case h3 => k_is); (case h4 => k_is); (case h5 => k_is); (case h6 => rfl); (case h7 => decide); (case h8 => k_is); (case me => ks_is); (case ini => kx_is))
    (case g_BadWish => refine' My.ein_mk ?h1 ?h2 ?h3 ?h4 ?h5; (case h1 => k_is); (case h2 => k_is); (case h3 => k_is); (case h4 => k_is); (case h5 => k_is))
    (case n_BadWish => k_is)
    (case g_BadTable => refine' My.ein_mk ?h1 ?h2 ?h3 ?h4 ?h5; (case h1 => k_is); (case h2 => k_is); (case h3 => k_is); (case h4 => k_is); (case h5 => k_is))
    (case n_BadTable => k_is)
    (case g_BadCode => refine' My.ein_mk ?h1 ?h2 ?h3 ?h4 ?h5; (case h1 => k_is); (case h2 => k_is); (case h3 => k_is); (case h4 => k_is); (case h5 => k_is))
    (case n_BadCode => k_is)
    (case g_TooMany => refine' My.ein_mk ?h1 ?h2 ?h3 ?h4 ?h5; (case h1 => k_is); (case h2 => k_is); (case h3 => k_is); (case h4 => k_is); (case h5 => k_is))
    (case n_TooMany => k_is)
    (case g_BadText => refine' My.ein_mk ?h1 ?h2 ?h3 ?h4 ?h5; (case h1 => k_is); (case h2 => k_is); (case h3 => k_is); (case h4 => k_is); (case h5 => k_is))
    (case n_BadText => k_is)
    (case g_NoName => refine' My.ein_mk ?h1 ?h2 ?h3 ?h4 ?h5; (case h1 => k_is); (case h2 => k_is); (case h3 => k_is); (case h4 => k_is); (case h5 => k_is))
    (case n_NoName => k_is)
    (case icE => k_is)
    (case tyE => k_is)
    (case hn => k_is)
    (case tk => k_is)
    (case nsup => k_is)
    (case nany => k_is)
    (case top => rfl)
    (case nd => decide)
    (case a0 => k_is)
    (case l0 => k_is)
    (case c0 => k_is)
    (case k0 => k_is)
    (case a1 => k_is)
    (case l1 => k_is)
    (case c1 => k_is)
    (case k1 => k_is)
    (case a2 => k_is)
    (case l2 => k_is)
    (case c2 => k_is)
    (case k2 => k_is)
    (case a3 => k_is)
    (case l3 => k_is)
    (case c3 => k_is)
    (case k3 => k_is)
    (case a4 => k_is)
    (case l4 => k_is)
    (case c4 => k_is)
    (case k4 => k_is)
    (case a5 => k_is)
    (case l5 => k_is)
    (case c5 => k_is)
    (case k5 => k_is)
    (case a6 => k_is)
    (case l6 => k_is)
    (case c6 => k_is)
    (case k6 => k_is)
    (case z_ValueError => k_is)
    (case z_abs => k_is)
    (case z_int => k_is)
    (case z_isinstance => k_is)
    (case z_len => k_is)
    (case z_range => k_is)
    (case z_repr => k_is)
    (case z_set => k_is)
    (case z_sum => k_is)
