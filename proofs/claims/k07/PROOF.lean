import PyProof.Rows.All
import Wide.All
import OpenK.AllK
import Wide.FinOn
import HandS.ForMost
import HandS.ForExc
import HandS.TupAny
import HandS.IsInst
import HandS.Wide
import HandS.Gcd
import HandS.ExcInit
import HandS.ExcField
import KE.KExcIs
import HandS.Iter
import HandS.Walk
import HandS.Zip
import KE.GoesEnum
import KE.GoesMore
import HandS.ExcOwn
import HandS.TupMul
import HandS.Conv
import HandS.Strs
import HandS.SetFor
import PyProof.ReprRoads
import HandS.Ends
import KE.KExcSuper
import HandS.Star
import KE.KRevSl
import KE.KMathGC
import HandS.TupSets
import HandS.ExcValue
import KE.KExcLine
import PySem.Challenge.RW_oncetwice_k07_whole_stages_and_lacks
set_option Elab.async false
set_option linter.all false
set_option maxRecDepth 100000
set_option maxHeartbeats 4000000
namespace Ab
open PySem L2
/-- what stands in the pool's two lists -/
def PoolSt (c : Addr) (u w : HO) : Prop := ∃ (seed k : Int) (ns : List Int), u = .lst [.int seed, .int k, .ref c] ∧ w = .lst (ns.map V.int) ∧ 0 ≤ seed ∧ seed < 2147483647 ∧ 0 ≤ k ∧ (∀ n ∈ ns, 0 ≤ n) ∧ ns.length ≤ 63
end Ab
namespace L2
open PySem PySem.Spec PyProof.Rows
/-- an error object of the class C at a, not raised, its dict at d -/
abbrev ExD (a C : Addr) (d : Option Addr) : HO := .ext fun h => ∃ (oe : Obj) (vs : Array Value), h.get? a = some oe ∧ Zc (.ref C) d oe ∧ oe.data = .fields vs
theorem exD_ok {P : Program} {w : World} {H : Hp} {h : Heap} {a C : Addr} {d : Option Addr} {oe : Obj} {vs : Array Value} (e : h.get? a = some oe) (z : Zc (.ref C) d oe) (f : oe.data = .fields vs) : ObjOk P w H h a (ExD a C d) :=
  ⟨⟨oe, vs, e, z, f⟩, ⟨oe, e⟩, fun _ _ ⟨o, v, q, r⟩ k => ⟨o, v, k o q, r⟩⟩
theorem exD_at {P : Program} {w : World} {H : Hp} {h : Heap} {a C : Addr} {d : Option Addr} (hok : HOk P w H h) (he : H a = some (ExD a C d)) : ∃ (oe : Obj) (vs : Array Value), h.get? a = some oe ∧ Zc (.ref C) d oe ∧ oe.data = .fields vs := by
  have x := hok a _ he
  exact x.1
end L2
namespace Ab
open PySem L2
inductive D where
  | non | bl (b : Bool) | int (i : Int) | str (x : Str)
  | tup (xs : List D) | lst (xs : List D) | dic
  /-- a tuple known to the object -/
  | xtup (xs : List D)
  /-- a dict of one int key -/
  | dct (n : Int) (x : D)
  /-- an error object, not raised -/
  | exo (C : Addr)
  | obj (C : Addr) (ns : List Str) (vs : List D)
  | pool
  | ty (n : String) | cls (C : Addr)
  /-- the script -/
  | scr (ns : List Int)
/-- an exception of one's own: its class, its fields -/
structure Er where
  cls : Addr
  ns : List Str
  vs : List D
/-- what a slot holds: anything, data, a list of one's own -/
inductive B where
  | un | d (x : D) | own (xs : List D)
  /-- an object that is being made -/
  | ob (p C : Addr) (ns : List Str) (vs : List D)
  /-- a caught exception -/
  | exc (a : Addr) (cls : Value) (d : Option Addr) (er : Er)
/-- the context of a body: the written part, the pool's two lists, the heap and its still part at the entry -/
structure Cz where
  K : PySem.W.Frag
  pl : Option (Addr × Addr)
  H0 : Hp
  G0 : Hp
  W : WX
  X : Er → List B → Prop
/-- a call's own context -/
def Cz.at (Z : Cz) (H G : Hp) : Cz := ⟨Z.K, Z.pl, H, G, fun _ _ _ _ => True, fun _ _ => False⟩
def Ex (H H' : Hp) : Prop := ∀ a o, H a = some o → H' a = some o
theorem Ex.refl (H : Hp) : Ex H H := fun _ _ h => h
theorem Ex.trans {H H1 H2 : Hp} (a : Ex H H1) (b : Ex H1 H2) : Ex H H2 := fun x o h => b x o (a x o h)
theorem Ex.new {H : Hp} {p : Addr} {o : HO} (h : H p = none) : Ex H (upd H p o) := fun a u e => by
  rw [upd_ne (ne_of_none e h)]
  exact e
theorem Ex.back {H H' : Hp} (e : Ex H H') {p : Addr} (h : H' p = none) : H p = none := by
  cases q : H p with
  | none => rfl
  | some o => rw [e p o q] at h; cases h
theorem Ex.rd {H H' : Hp} {a : Addr} {u : HO} (e : Ex H H') (h : Rd H a u) : Rd H' a u := by
  rcases h with h | ⟨o, h⟩
  · exact Or.inl (e a _ h)
  · exact Or.inr ⟨o, e a _ h⟩
theorem Ex.sql {K : PySem.W.Frag} {H H' : Hp} {a : Addr} {xs : List V} (e : Ex H H') (h : SqL K H a xs) : SqL K H' a xs := by
  rcases h with h | h
  · exact Or.inl (e.rd h)
  · exact Or.inr h
theorem Ex.sqt {K : PySem.W.Frag} {H H' : Hp} {a : Addr} {xs : List V} (e : Ex H H') (h : SqT K H a xs) : SqT K H' a xs := by
  rcases h with h | h
  · exact Or.inl (e.rd h)
  · exact Or.inr h
mutual
/-- the value v stands for the data d, all of whose objects are in the still part G -/
inductive Rp (K : PySem.W.Frag) (pl : Option (Addr × Addr)) (G : Hp) : V → D → Prop
  | non : Rp K pl G .non .non
  | bl (b : Bool) : Rp K pl G (.bl b) (.bl b)
  | int (i : Int) : Rp K pl G (.int i) (.int i)
  | str (x : Str) : Rp K pl G (.str x) (.str x)
  | tup {a : Addr} {xs : List V} {ds : List D} : SqT K G a xs → Rps K pl G xs ds → Rp K pl G (.ref a) (.tup ds)
  | lst {a : Addr} {xs : List V} {ds : List D} : G a = some (.lst xs) → Rps K pl G xs ds → Rp K pl G (.ref a) (.lst ds)
  | dic {a : Addr} : G a = some (.dK []) → Rp K pl G (.ref a) .dic
  | xtup {a : Addr} {o : Obj} {xs : List V} {ds : List D} : G a = some (.frz o (.tup xs)) → o.dict = none → Rps K pl G xs ds → Rp K pl G (.ref a) (.xtup ds)
  | dct {a : Addr} {n : Int} {v : V} {d : D} : G a = some (.dK [(.inl n, v)]) → Rp K pl G v d → Rp K pl G (.ref a) (.dct n d)
  | obj {a C dx : Addr} {ns : List Str} {xs : List V} {ds : List D} : G a = some (.ins C dx (ns.zip xs)) → ns.length = xs.length → Rps K pl G xs ds → Rp K pl G (.ref a) (.obj C ns ds)
  | pool {p c : Addr} : pl = some (p, c) → Rp K pl G (.ref p) .pool
  | ty (n : String) : Rp K pl G (.ty n) (.ty n)
  | cls (C : Addr) : Rp K pl G (.ref C) (.cls C)
  | scr {a : Addr} {ns : List Int} : SqL K G a (ns.map V.int) → Rp K pl G (.ref a) (.scr ns)
  | exo {a C : Addr} {d : Option Addr} : G a = some (ExD a C d) → (∀ dd, d = some dd → ∃ fs, G dd = some (.xd fs)) → Rp K pl G (.ref a) (.exo C)
inductive Rps (K : PySem.W.Frag) (pl : Option (Addr × Addr)) (G : Hp) : List V → List D → Prop
  | nil : Rps K pl G [] []
  | cons {v : V} {d : D} {vs : List V} {ds : List D} : Rp K pl G v d → Rps K pl G vs ds → Rps K pl G (v :: vs) (d :: ds)
end
section
variable {K : PySem.W.Frag} {pl : Option (Addr × Addr)} {G G' : Hp}
mutual
theorem Rp.mono (e : Ex G G') : ∀ {v : V} {d : D}, Rp K pl G v d → Rp K pl G' v d
  | _, _, .non => .non
  | _, _, .bl b => .bl b
  | _, _, .int i => .int i
  | _, _, .str x => .str x
  | _, _, .tup h r => .tup (e.sqt h) (Rps.mono e r)
  | _, _, .lst h r => .lst (e _ _ h) (Rps.mono e r)
  | _, _, .dic h => .dic (e _ _ h)
  | _, _, .dct h r => .dct (e _ _ h) (Rp.mono e r)
  | _, _, .xtup h n r => .xtup (e _ _ h) n (Rps.mono e r)
  | _, _, .obj h l r => .obj (e _ _ h) l (Rps.mono e r)
  | _, _, .pool h => .pool h
  | _, _, .ty n => .ty n
  | _, _, .cls C => .cls C
  | _, _, .scr h => .scr (e.sql h)
  | _, _, .exo h k => .exo (e _ _ h) fun dd z => (k dd z).imp fun _ q => e _ _ q
theorem Rps.mono (e : Ex G G') : ∀ {vs : List V} {ds : List D}, Rps K pl G vs ds → Rps K pl G' vs ds
  | _, _, .nil => .nil
  | _, _, .cons h r => .cons (Rp.mono e h) (Rps.mono e r)
end
theorem Rps.length : ∀ {vs : List V} {ds : List D}, Rps K pl G vs ds → vs.length = ds.length
  | _, _, .nil => rfl
  | _, _, .cons _ r => by simp [Rps.length r]
theorem Rps.get : ∀ {vs : List V} {ds : List D} {i : Nat} {d : D}, Rps K pl G vs ds → ds[i]? = some d → ∃ v, vs[i]? = some v ∧ Rp K pl G v d
  | _, _, _, _, .nil, e => by simp at e
  | _, _, 0, _, .cons h _, e => by simp at e; subst e; exact ⟨_, rfl, h⟩
  | _, _, i + 1, _, .cons _ r, e => by
    obtain ⟨v, q, z⟩ := Rps.get (i := i) r (by simpa using e)
    exact ⟨v, by simpa using q, z⟩
theorem Rps.getV : ∀ {vs : List V} {ds : List D} {i : Nat} {v : V}, Rps K pl G vs ds → vs[i]? = some v → ∃ d, ds[i]? = some d ∧ Rp K pl G v d
  | _, _, _, _, .nil, e => by simp at e
  | _, _, 0, _, .cons h _, e => by simp at e; subst e; exact ⟨_, rfl, h⟩
  | _, _, i + 1, _, .cons _ r, e => by
    obtain ⟨v, q, z⟩ := Rps.getV (i := i) r (by simpa using e)
    exact ⟨v, by simpa using q, z⟩
theorem Rps.append : ∀ {vs ws : List V} {ds es : List D}, Rps K pl G vs ds → Rps K pl G ws es → Rps K pl G (vs ++ ws) (ds ++ es)
  | _, _, _, _, .nil, s => s
  | _, _, _, _, .cons h r, s => .cons h (Rps.append r s)
theorem Rps.set {v : V} {d : D} (h : Rp K pl G v d) : ∀ {vs : List V} {ds : List D} (i : Nat), Rps K pl G vs ds → Rps K pl G (vs.set i v) (ds.set i d)
  | _, _, _, .nil => .nil
  | _, _, 0, .cons _ r => .cons h r
  | _, _, i + 1, .cons q r => .cons q (Rps.set h i r)
theorem Rps.take : ∀ {vs : List V} {ds : List D} (n : Nat), Rps K pl G vs ds → Rps K pl G (vs.take n) (ds.take n)
  | _, _, 0, _ => .nil
  | _, _, _ + 1, .nil => .nil
  | _, _, n + 1, .cons h r => .cons h (Rps.take n r)
theorem Rps.drop : ∀ {vs : List V} {ds : List D} (n : Nat), Rps K pl G vs ds → Rps K pl G (vs.drop n) (ds.drop n)
  | _, _, 0, r => r
  | _, _, _ + 1, .nil => .nil
  | _, _, n + 1, .cons _ r => Rps.drop n r
theorem Rps.eraseIdx : ∀ {vs : List V} {ds : List D} (i : Nat), Rps K pl G vs ds → Rps K pl G (vs.eraseIdx i) (ds.eraseIdx i)
  | _, _, _, .nil => .nil
  | _, _, 0, .cons _ r => r
  | _, _, i + 1, .cons q r => .cons q (Rps.eraseIdx i r)
theorem Rps.one {v : V} {d : D} (h : Rp K pl G v d) : Rps K pl G [v] [d] := .cons h .nil
theorem Rps.reverse : ∀ {vs : List V} {ds : List D}, Rps K pl G vs ds → Rps K pl G vs.reverse ds.reverse
  | _, _, .nil => .nil
  | _, _, .cons h r => by simp only [List.reverse_cons]; exact (Rps.reverse r).append (.one h)
theorem Rps.replicate {v : V} {d : D} (h : Rp K pl G v d) : ∀ n, Rps K pl G (List.replicate n v) (List.replicate n d)
  | 0 => .nil
  | n + 1 => .cons h (Rps.replicate h n)
theorem Rps.flat {vs : List V} {ds : List D} (h : Rps K pl G vs ds) : ∀ n, Rps K pl G (List.replicate n vs).flatten (List.replicate n ds).flatten
  | 0 => .nil
  | n + 1 => by simp only [List.replicate_succ, List.flatten_cons]; exact h.append (Rps.flat h n)
end
def PoolOk (H0 G H : Hp) (pl : Option (Addr × Addr)) : Prop := ∀ p c, pl = some (p, c) →
  p ≠ c ∧ G p = none ∧ G c = none ∧ (∃ o, H0 p = some o) ∧ (∃ o, H0 c = some o) ∧
  ∃ (uu ww : HO), H p = some uu ∧ H c = some ww ∧ PoolSt c uu ww
structure J0 (Z : Cz) (G H : Hp) : Prop where
  sub : Ex G H
  g0 : Ex Z.G0 G
  out : ∀ a o, Z.H0 a = some o → Z.G0 a = none → G a = none
  fr : ∀ a o, Z.H0 a = some o → (∀ p c, Z.pl = some (p, c) → a ≠ p ∧ a ≠ c) → H a = some o
  pool : PoolOk Z.H0 G H Z.pl
theorem J0.new {Z : Cz} {G H : Hp} {p : Addr} {o : HO} (j : J0 Z G H) (h : H p = none) : J0 Z (upd G p o) (upd H p o) where
  sub := fun a u e => by
    by_cases q : a = p
    · subst q; rw [upd_same] at e ⊢; exact e
    · rw [upd_ne q] at e ⊢; exact j.sub a u e
  g0 := j.g0.trans (Ex.new (j.sub.back h))
  out := fun a u e n => by
    by_cases q : a = p
    · subst q
      have z : Z.H0 a = none := by
        cases w : Z.H0 a with
        | none => rfl
        | some v =>
          by_cases x : ∃ p c, Z.pl = some (p, c) ∧ (a = p ∨ a = c)
          · obtain ⟨p, c, e1, e2⟩ := x
            obtain ⟨_, _, _, _, _, uu, ww, h1, h2, _⟩ := j.pool p c e1
            rcases e2 with rfl | rfl
            · rw [h] at h1; cases h1
            · rw [h] at h2; cases h2
          · rw [j.fr a v w (fun p c e1 => ⟨fun z => x ⟨p, c, e1, .inl z⟩, fun z => x ⟨p, c, e1, .inr z⟩⟩)] at h; cases h
      rw [z] at e; cases e
    · rw [upd_ne q]; exact j.out a u e n
  fr := fun a u e n => by
    have z := j.fr a u e n
    rw [upd_ne (ne_of_none z h)]; exact z
  pool := fun p' c' e => by
    obtain ⟨h0, h1, h2, h3, h4, uu, ww, h5, h6, h7⟩ := j.pool p' c' e
    refine ⟨h0, ?_, ?_, h3, h4, uu, ww, ?_, ?_, h7⟩
    · rw [upd_ne (ne_of_none h5 h)]; exact h1
    · rw [upd_ne (ne_of_none h6 h)]; exact h2
    · rw [upd_ne (ne_of_none h5 h)]; exact h5
    · rw [upd_ne (ne_of_none h6 h)]; exact h6
/-- what is not tracked now was not tracked at the entry -/
theorem J0.old {Z : Cz} {G H : Hp} {a : Addr} (j : J0 Z G H) (h : H a = none) : Z.H0 a = none := by
  cases w : Z.H0 a with
  | none => rfl
  | some v =>
    by_cases x : ∃ p c, Z.pl = some (p, c) ∧ (a = p ∨ a = c)
    · obtain ⟨p, c, e1, e2⟩ := x
      obtain ⟨_, _, _, _, _, uu, ww, h1, h2, _⟩ := j.pool p c e1
      rcases e2 with rfl | rfl
      · rw [h] at h1; cases h1
      · rw [h] at h2; cases h2
    · rw [j.fr a v w (fun p c e1 => ⟨fun z => x ⟨p, c, e1, .inl z⟩, fun z => x ⟨p, c, e1, .inr z⟩⟩)] at h; cases h
/-- an object that came behind the entry, out of the still part, may change -/
theorem J0.put {Z : Cz} {G H : Hp} {a : Addr} {o : HO} (j : J0 Z G H) (h0 : Z.H0 a = none) (hg : G a = none) : J0 Z G (upd H a o) where
  sub := fun b u e => by rw [upd_ne (ne_of_none e hg)]; exact j.sub b u e
  g0 := j.g0
  out := j.out
  fr := fun b u e n => by rw [upd_ne (ne_of_none e h0)]; exact j.fr b u e n
  pool := fun p' c' e => by
    obtain ⟨z0, z1, z2, ⟨o1, z3⟩, ⟨o2, z4⟩, uu, ww, z5, z6, z7⟩ := j.pool p' c' e
    refine ⟨z0, z1, z2, ⟨o1, z3⟩, ⟨o2, z4⟩, uu, ww, ?_, ?_, z7⟩
    · rw [upd_ne (ne_of_none z3 h0)]; exact z5
    · rw [upd_ne (ne_of_none z4 h0)]; exact z6
/-- what came behind the entry joins the still part -/
theorem J0.still {Z : Cz} {G H : Hp} {a : Addr} {o : HO} (j : J0 Z G H) (h0 : Z.H0 a = none) (ha : H a = some o) (hg : G a = none) : J0 Z (upd G a o) H where
  sub := fun b u e => by
    by_cases q : b = a
    · subst q; rw [upd_same] at e; cases e; exact ha
    · rw [upd_ne q] at e; exact j.sub b u e
  g0 := j.g0.trans (Ex.new hg)
  out := fun b u e n => by
    have q : b ≠ a := ne_of_none e h0
    rw [upd_ne q]; exact j.out b u e n
  fr := j.fr
  pool := fun p' c' e => by
    obtain ⟨z0, z1, z2, ⟨o1, z3⟩, ⟨o2, z4⟩, z⟩ := j.pool p' c' e
    refine ⟨z0, ?_, ?_, ⟨o1, z3⟩, ⟨o2, z4⟩, z⟩
    · rw [upd_ne (ne_of_none z3 h0)]; exact z1
    · rw [upd_ne (ne_of_none z4 h0)]; exact z2
/-- a call: its own entry is the state at hand -/
theorem J0.enter {Z : Cz} {G H : Hp} (j : J0 Z G H) : J0 (Z.at H G) G H where
  sub := j.sub
  g0 := Ex.refl G
  out := fun _ _ _ n => n
  fr := fun _ _ e _ => e
  pool := fun p c e => by
    obtain ⟨z0, z1, z2, _, _, uu, ww, z5, z6, z7⟩ := j.pool p c e
    exact ⟨z0, z1, z2, ⟨_, z5⟩, ⟨_, z6⟩, uu, ww, z5, z6, z7⟩
theorem J0.leave {Z : Cz} {G H G' H' : Hp} (j : J0 Z G H) (i : J0 (Z.at H G) G' H') : J0 Z G' H' where
  sub := i.sub
  g0 := j.g0.trans i.g0
  out := fun a o e n => by
    have z := j.out a o e n
    by_cases x : ∃ p c, Z.pl = some (p, c) ∧ (a = p ∨ a = c)
    · obtain ⟨p, c, e1, e2⟩ := x
      obtain ⟨_, h1, h2, _⟩ := i.pool p c e1
      rcases e2 with rfl | rfl
      · exact h1
      · exact h2
    · exact i.out a o (j.fr a o e fun p c e1 => ⟨fun z => x ⟨p, c, e1, .inl z⟩, fun z => x ⟨p, c, e1, .inr z⟩⟩) z
  fr := fun a o e n => i.fr a o (j.fr a o e n) n
  pool := fun p c e => by
    obtain ⟨z0, z1, z2, _, _, uu, ww, z5, z6, z7⟩ := i.pool p c e
    obtain ⟨_, _, _, z3, z4, _⟩ := j.pool p c e
    exact ⟨z0, z1, z2, z3, z4, uu, ww, z5, z6, z7⟩
def IsOwn : Option B → Prop
  | some (.own _) => True
  | some (.ob _ _ _ _) => True
  | _ => False
structure RpEr0 (K : PySem.W.Frag) (pl : Option (Addr × Addr)) (G : Hp) (cls : Value) (d : Option Addr) (er : Er) : Prop where
  c : cls = .ref er.cls
  f : (d = none ∧ er.ns = [] ∧ er.vs = []) ∨ ∃ dd xs, d = some dd ∧ G dd = some (.xd (er.ns.zip xs)) ∧ er.ns.length = xs.length ∧ Rps K pl G xs er.vs
theorem RpEr0.mono {K : PySem.W.Frag} {pl : Option (Addr × Addr)} {G G' : Hp} {cls : Value} {d : Option Addr} {er : Er} (h : RpEr0 K pl G cls d er) (e : Ex G G') : RpEr0 K pl G' cls d er :=
  ⟨h.c, h.f.imp id fun ⟨dd, xs, h1, h2, h3, h4⟩ => ⟨dd, xs, h1, e _ _ h2, h3, h4.mono e⟩⟩
def BOk (Z : Cz) (G H : Hp) (v : Option V) : B → Prop
  | .un => True
  | .d x => ∃ u, v = some u ∧ Rp Z.K Z.pl G u x
  | .own xs => ∃ l vs, v = some (.ref l) ∧ H l = some (.lst vs) ∧ Rps Z.K Z.pl G vs xs ∧ G l = none ∧ Z.H0 l = none
  | .ob p C ns vs => ∃ dx xs, v = some (.ref p) ∧ H p = some (.ins C dx (ns.zip xs)) ∧ ns.length = xs.length ∧ Rps Z.K Z.pl G xs vs ∧ G p = none ∧ Z.H0 p = none
  | .exc a cls d er => v = some (.ref a) ∧ RpEr0 Z.K Z.pl G cls d er
structure En (Z : Cz) (G H : Hp) (σ : L2.St) (Γ : List B) : Prop where
  len : σ.length = Γ.length
  at_ : ∀ (i : Nat) b, Γ[i]? = some b → ∃ v, σ[i]? = some v ∧ BOk Z G H v b
  dis : ∀ (i j : Nat) l, IsOwn Γ[i]? → IsOwn Γ[j]? → σ[i]? = some (some (.ref l)) → σ[j]? = some (some (.ref l)) → i = j
theorem BOk.mono {Z : Cz} {G H G' H' : Hp} {v : Option V} {b : B} (h : BOk Z G H v b) (e : Ex G G') (k : ∀ l o, H l = some o → G l = none → Z.H0 l = none → v = some (.ref l) → IsOwn (some b) → H' l = some o ∧ G' l = none) : BOk Z G' H' v b := by
  cases b with
  | un => trivial
  | d x => obtain ⟨u, h1, h2⟩ := h; exact ⟨u, h1, h2.mono e⟩
  | own xs =>
    obtain ⟨l, vs, h1, h2, h3, h4, h5⟩ := h
    obtain ⟨k1, k2⟩ := k l _ h2 h4 h5 h1 trivial
    exact ⟨l, vs, h1, k1, h3.mono e, k2, h5⟩
  | ob p C ns vs =>
    obtain ⟨dx, xs, h1, h2, h3, h4, h5, h6⟩ := h
    obtain ⟨k1, k2⟩ := k p _ h2 h5 h6 h1 trivial
    exact ⟨dx, xs, h1, k1, h3, h4.mono e, k2, h6⟩
  | exc a cls d er => exact ⟨h.1, h.2.mono e⟩
theorem En.mono {Z : Cz} {G H G' H' : Hp} {σ : L2.St} {Γ : List B} (h : En Z G H σ Γ) (e : Ex G G') (k : ∀ l o, H l = some o → G l = none → Z.H0 l = none → (∃ i : Nat, IsOwn Γ[i]? ∧ σ[i]? = some (some (.ref l))) → H' l = some o ∧ G' l = none) : En Z G' H' σ Γ where
  len := h.len
  at_ := fun i b q => by
    obtain ⟨v, h1, h2⟩ := h.at_ i b q
    exact ⟨v, h1, h2.mono e fun l o a1 a2 a3 a4 a5 => k l o a1 a2 a3 ⟨i, by rw [q]; exact a5, by rw [h1, a4]⟩⟩
  dis := h.dis
/-- a new object -/
theorem En.new {Z : Cz} {G H : Hp} {σ : L2.St} {Γ : List B} {p : Addr} {o : HO} (h : En Z G H σ Γ) (j : J0 Z G H) (n : H p = none) : En Z (upd G p o) (upd H p o) σ Γ :=
  h.mono (Ex.new (j.sub.back n)) fun l u a1 a2 _ _ => by
    have q : l ≠ p := ne_of_none a1 n
    rw [upd_ne q, upd_ne q]; exact ⟨a1, a2⟩
/-- a new object out of the still part -/
theorem En.newM {Z : Cz} {G H : Hp} {σ : L2.St} {Γ : List B} {p : Addr} {o : HO} (h : En Z G H σ Γ) (n : H p = none) : En Z G (upd H p o) σ Γ :=
  h.mono (Ex.refl _) fun l u a1 a2 _ _ => by
    have q : l ≠ p := ne_of_none a1 n
    rw [upd_ne q]; exact ⟨a1, a2⟩
/-- behind a call -/
theorem En.called {Z : Cz} {G H G' H' : Hp} {σ : L2.St} {Γ : List B} (h : En Z G H σ Γ) (j : J0 Z G H) (i : J0 (Z.at H G) G' H') : En Z G' H' σ Γ :=
  h.mono i.g0 fun l o a1 a2 a3 _ => by
    have np : ∀ p c, Z.pl = some (p, c) → l ≠ p ∧ l ≠ c := fun p c e => by
      obtain ⟨_, _, _, ⟨o1, z3⟩, ⟨o2, z4⟩, _⟩ := j.pool p c e
      exact ⟨fun z => (by rw [z, z3] at a3; cases a3), fun z => (by rw [z, z4] at a3; cases a3)⟩
    exact ⟨i.fr l o a1 np, i.out l o a1 a2⟩
/-- another variable's value -/
theorem En.set {Z : Cz} {G H : Hp} {σ : L2.St} {Γ : List B} {i : Nat} {v : V} {b : B} (h : En Z G H σ Γ) (hv : BOk Z G H (some v) b) (hd : ∀ l, IsOwn (some b) → v = .ref l → ∀ j, j ≠ i → IsOwn Γ[j]? → σ[j]? ≠ some (some (.ref l))) : En Z G H (σ.set i (some v)) (Γ.set i b) where
  len := by rw [List.length_set, List.length_set]; exact h.len
  at_ := fun k b' q => by
    by_cases e : i = k
    · subst e
      by_cases hi : i < Γ.length
      · rw [List.getElem?_set_self hi] at q; cases q
        exact ⟨_, List.getElem?_set_self (by rw [h.len]; exact hi), hv⟩
      · rw [List.getElem?_eq_none (by rw [List.length_set]; omega)] at q; cases q
    · rw [List.getElem?_set_ne e] at q ⊢
      exact h.at_ k b' q
  dis := fun k m l o1 o2 e1 e2 => by
    by_cases hk : i = k
    · by_cases hm : i = m
      · rw [← hk, ← hm]
      · subst hk
        rw [List.getElem?_set_ne hm] at o2 e2
        by_cases hi : i < Γ.length
        · rw [List.getElem?_set_self hi] at o1
          rw [List.getElem?_set_self (by rw [h.len]; exact hi)] at e1
          exact absurd e2 (hd l o1 (Option.some.inj (Option.some.inj e1)) m (fun z => hm z.symm) o2)
        · rw [List.getElem?_eq_none (by rw [List.length_set]; omega)] at o1; exact o1.elim
    · by_cases hm : i = m
      · subst hm
        rw [List.getElem?_set_ne hk] at o1 e1
        by_cases hi : i < Γ.length
        · rw [List.getElem?_set_self hi] at o2
          rw [List.getElem?_set_self (by rw [h.len]; exact hi)] at e2
          exact absurd e1 (hd l o2 (Option.some.inj (Option.some.inj e2)) k (fun z => hk z.symm) o1)
        · rw [List.getElem?_eq_none (by rw [List.length_set]; omega)] at o2; exact o2.elim
      · rw [List.getElem?_set_ne hk] at o1 e1
        rw [List.getElem?_set_ne hm] at o2 e2
        exact h.dis k m l o1 o2 e1 e2
theorem En.setD {Z : Cz} {G H : Hp} {σ : L2.St} {Γ : List B} {i : Nat} {v : V} {x : D} (h : En Z G H σ Γ) (hv : Rp Z.K Z.pl G v x) : En Z G H (σ.set i (some v)) (Γ.set i (.d x)) :=
  h.set ⟨v, rfl, hv⟩ fun _ o => o.elim
theorem En.un {Z : Cz} {G H : Hp} {σ σ' : L2.St} {Γ : List B} {i : Nat} (h : En Z G H σ Γ) (e : ∀ k, k ≠ i → σ'[k]? = σ[k]?) (hl : σ'.length = σ.length) : En Z G H σ' (Γ.set i .un) where
  len := by rw [List.length_set, hl]; exact h.len
  at_ := fun k b q => by
    by_cases hk : i = k
    · subst hk
      by_cases hi : i < Γ.length
      · rw [List.getElem?_set_self hi] at q; cases q
        exact ⟨σ'[i]'(by rw [hl, h.len]; exact hi), by simp, trivial⟩
      · rw [List.getElem?_eq_none (by rw [List.length_set]; omega)] at q; cases q
    · rw [List.getElem?_set_ne hk] at q
      rw [e k (Ne.symm hk)]
      exact h.at_ k b q
  dis := fun k m l o1 o2 e1 e2 => by
    have hk : i ≠ k := fun z => by
      subst z
      by_cases hi : i < Γ.length
      · rw [List.getElem?_set_self hi] at o1; exact o1.elim
      · rw [List.getElem?_eq_none (by rw [List.length_set]; omega)] at o1; exact o1.elim
    have hm : i ≠ m := fun z => by
      subst z
      by_cases hi : i < Γ.length
      · rw [List.getElem?_set_self hi] at o2; exact o2.elim
      · rw [List.getElem?_eq_none (by rw [List.length_set]; omega)] at o2; exact o2.elim
    rw [List.getElem?_set_ne hk] at o1
    rw [List.getElem?_set_ne hm] at o2
    rw [e k (Ne.symm hk)] at e1
    rw [e m (Ne.symm hm)] at e2
    exact h.dis k m l o1 o2 e1 e2
abbrev RpEr (Z : Cz) (G : Hp) (cls : Value) (d : Option Addr) (er : Er) : Prop := RpEr0 Z.K Z.pl G cls d er
def WAcc (Z : Cz) (G : Hp) : Prop := ∀ er cls d σ G' H' Γ, Z.X er Γ → Ex G G' → J0 Z G' H' → En Z G' H' σ Γ → RpEr Z G' cls d er → Z.W cls d σ H'
theorem WAcc.mono {Z : Cz} {G G' : Hp} (w : WAcc Z G) (x : Ex G G') : WAcc Z G' := fun er cls d σ G2 H2 Γ h y => w er cls d σ G2 H2 Γ h (x.trans y)
structure J (Z : Cz) (G H : Hp) : Prop extends J0 Z G H where
  acc : WAcc Z G
section
variable {Z : Cz} {G H : Hp}
theorem J.new {p : Addr} {o : HO} (j : J Z G H) (h : H p = none) : J Z (upd G p o) (upd H p o) := ⟨j.toJ0.new h, j.acc.mono (Ex.new (j.sub.back h))⟩
theorem J.old {a : Addr} (j : J Z G H) (h : H a = none) : Z.H0 a = none := j.toJ0.old h
theorem J.put {a : Addr} {o : HO} (j : J Z G H) (h0 : Z.H0 a = none) (hg : G a = none) : J Z G (upd H a o) := ⟨j.toJ0.put h0 hg, j.acc⟩
theorem J.still {a : Addr} {o : HO} (j : J Z G H) (h0 : Z.H0 a = none) (ha : H a = some o) (hg : G a = none) : J Z (upd G a o) H := ⟨j.toJ0.still h0 ha hg, j.acc.mono (Ex.new hg)⟩
theorem J.enter (j : J Z G H) : J (Z.at H G) G H := ⟨j.toJ0.enter, fun _ _ _ _ _ _ _ h => h.elim⟩
theorem J.leave {G' H' : Hp} (j : J Z G H) (i : J (Z.at H G) G' H') : J Z G' H' := ⟨j.toJ0.leave i.toJ0, j.acc.mono i.g0⟩
end
end Ab
namespace Ab
open PySem L2
def NotPl (Z : Cz) (a : Addr) : Prop := ∀ p c, Z.pl = some (p, c) → a ≠ p ∧ a ≠ c
/-- what an expression's evaluation leaves as it was -/
structure Sp1 (Z : Cz) (σ : L2.St) (Γ Γ' : List B) (G H G' H' : Hp) : Prop where
  ex : Ex G G'
  own : ∀ i : Nat, IsOwn Γ'[i]? → IsOwn Γ[i]?
  fr : ∀ a o, H a = some o → NotPl Z a → (∀ i : Nat, IsOwn Γ[i]? → σ[i]? ≠ some (some (.ref a))) → H' a = some o ∧ (G a = none → G' a = none)
  tr : ∀ a o, H a = some o → ∃ o', H' a = some o'
theorem Sp1.back {Z : Cz} {σ : L2.St} {Γ Γ' : List B} {G H G' H' : Hp} (s : Sp1 Z σ Γ Γ' G H G' H') {a : Addr} (h : H' a = none) : H a = none := by
  cases q : H a with
  | none => rfl
  | some o => obtain ⟨o', z⟩ := s.tr a o q; rw [h] at z; cases z
theorem Sp1.refl {Z : Cz} {σ : L2.St} {Γ : List B} {G H : Hp} : Sp1 Z σ Γ Γ G H G H := ⟨Ex.refl _, fun _ h => h, fun _ _ h _ _ => ⟨h, fun x => x⟩, fun _ o h => ⟨o, h⟩⟩
theorem Sp1.trans {Z : Cz} {σ : L2.St} {Γ Γ1 Γ2 : List B} {G H G1 H1 G2 H2 : Hp} (a : Sp1 Z σ Γ Γ1 G H G1 H1) (b : Sp1 Z σ Γ1 Γ2 G1 H1 G2 H2) : Sp1 Z σ Γ Γ2 G H G2 H2 :=
  ⟨a.ex.trans b.ex, fun i h => a.own i (b.own i h), fun x o h n w => by
    obtain ⟨h1, g1⟩ := a.fr x o h n w
    obtain ⟨h2, g2⟩ := b.fr x o h1 n fun i z => w i (a.own i z)
    exact ⟨h2, fun z => g2 (g1 z)⟩, fun x o h => (a.tr x o h).elim fun o' h' => b.tr x o' h'⟩
/-- of a call or an operator: all that was there is kept -/
theorem Sp1.of {Z : Cz} {σ : L2.St} {Γ : List B} {G H G' H' : Hp} (i : J (Z.at H G) G' H') : Sp1 Z σ Γ Γ G H G' H' :=
  ⟨i.g0, fun _ h => h, fun a o h n _ => ⟨i.fr a o h n, fun z => i.out a o h z⟩, fun a o h => by
    by_cases np : NotPl Z a
    · exact ⟨o, i.fr a o h np⟩
    · cases q : H' a with
      | some o' => exact ⟨o', rfl⟩
      | none =>
        exfalso; apply np; intro p c e1
        obtain ⟨_, _, _, _, _, uu, ww, h1, h2, _⟩ := i.pool p c e1
        exact ⟨fun z => by (rw [z, h1] at q; cases q), fun z => by (rw [z, h2] at q; cases q)⟩⟩
theorem En.noown {Z : Cz} {G H : Hp} {σ : L2.St} {Γ : List B} (e : En Z G H σ Γ) {l : Addr} (hn : H l = none) (i : Nat) (o : IsOwn Γ[i]?) : σ[i]? ≠ some (some (.ref l)) := fun z => by
  cases hb : Γ[i]? with
  | none => rw [hb] at o; exact o.elim
  | some b =>
    cases b with
    | own xs =>
      obtain ⟨v, a1, l', vs', a2, a3, _⟩ := e.at_ i _ hb
      rw [z] at a1; cases a1; cases a2
      rw [hn] at a3; cases a3
    | ob p C ns vs =>
      obtain ⟨v, a1, dx, xs, a2, a3, _⟩ := e.at_ i _ hb
      rw [z] at a1; cases a1; cases a2
      rw [hn] at a3; cases a3
    | un => rw [hb] at o; exact o.elim
    | d x => rw [hb] at o; exact o.elim
    | exc a cls d er => rw [hb] at o; exact o.elim
def Den (Z : Cz) (te : TE) (Γ : List B) (Q : D → List B → Prop) : Prop :=
  ∀ (σ : L2.St) (G H : Hp), J Z G H → En Z G H σ Γ → ∀ k : VK, (∀ d Γ' v G' H', Q d Γ' → Sp1 Z σ Γ Γ' G H G' H' → J Z G' H' → En Z G' H' σ Γ' → Rp Z.K Z.pl G' v d → k v H') → te σ H k
def DenT (Z : Cz) (te : TT) (Γ : List B) (Q : Bool → List B → Prop) : Prop :=
  ∀ (σ : L2.St) (G H : Hp), J Z G H → En Z G H σ Γ → ∀ k : Bool → Hp → Prop, (∀ b Γ' G' H', Q b Γ' → Sp1 Z σ Γ Γ' G H G' H' → J Z G' H' → En Z G' H' σ Γ' → k b H') → te σ H k
def DenA (Z : Cz) (ta : TA) (Γ : List B) (Q : List D → List B → Prop) : Prop :=
  ∀ (σ : L2.St) (G H : Hp), J Z G H → En Z G H σ Γ → ∀ k : List V → Hp → Prop, (∀ ds Γ' vs G' H', Q ds Γ' → Sp1 Z σ Γ Γ' G H G' H' → J Z G' H' → En Z G' H' σ Γ' → Rps Z.K Z.pl G' vs ds → k vs H') → ta σ H k
/-- l is a list of one's own that no slot holds -/
structure Fresh (Z : Cz) (G H : Hp) (σ : L2.St) (Γ : List B) (l : Addr) : Prop where
  g : G l = none
  h0 : Z.H0 l = none
  no : ∀ i : Nat, IsOwn Γ[i]? → σ[i]? ≠ some (some (.ref l))
/-- an expression whose value is a new list -/
def DenL (Z : Cz) (te : TE) (Γ : List B) (Q : List D → List B → Prop) : Prop :=
  ∀ (σ : L2.St) (G H : Hp), J Z G H → En Z G H σ Γ → ∀ k : VK, (∀ ds Γ' l vs G' H', Q ds Γ' → Sp1 Z σ Γ Γ' G H G' H' → J Z G' H' → En Z G' H' σ Γ' → H' l = some (.lst vs) → Rps Z.K Z.pl G' vs ds → Fresh Z G' H' σ Γ' l → H l = none → k (.ref l) H') → te σ H k
def DenG (Z : Cz) (g : TG) (x : D) (Γ : List B) (Q : List B → Prop) : Prop :=
  ∀ (σ : L2.St) (G H : Hp) (v : V), J Z G H → En Z G H σ Γ → Rp Z.K Z.pl G v x → ∀ k : L2.St → Hp → Prop, (∀ Γ' σ', Q Γ' → En Z G H σ' Γ' → k σ' H) → g v σ H k
def DenGs (Z : Cz) (g : TGs) (xs : List D) (Γ : List B) (Q : List B → Prop) : Prop :=
  ∀ (σ : L2.St) (G H : Hp) (vs : List V), J Z G H → En Z G H σ Γ → Rps Z.K Z.pl G vs xs → ∀ k : L2.St → Hp → Prop, (∀ Γ' σ', Q Γ' → En Z G H σ' Γ' → k σ' H) → g vs σ H k
/-- what is returned: data, or a new list of one's own -/
structure Rt where
  d : D → Prop
  l : List D → Prop
instance : CoeFun Rt (fun _ => D → Prop) := ⟨Rt.d⟩
abbrev Ret := D ⊕ List D
def Rt.at (R : Rt) : Ret → Prop
  | .inl x => R.d x
  | .inr xs => R.l xs
/-- l is a list that came behind the entry and is held by nobody else -/
structure FrL (K : PySem.W.Frag) (pl : Option (Addr × Addr)) (H0 G H : Hp) (l : Addr) (xs : List D) : Prop where
  ex : ∃ vs, H l = some (.lst vs) ∧ Rps K pl G vs xs
  g : G l = none
  h0 : H0 l = none
def RpQ (K : PySem.W.Frag) (pl : Option (Addr × Addr)) (H0 G H : Hp) (v : V) : Ret → Prop
  | .inl x => Rp K pl G v x
  | .inr xs => ∃ l, v = .ref l ∧ FrL K pl H0 G H l xs
theorem Rt.no_at {x : Ret} (h : (⟨fun _ => False, fun _ => False⟩ : Rt).at x) : False := by cases x <;> exact h
/-- data alone -/
def Rt.of (Q : D → Prop) : Rt := ⟨Q, fun xs => Q (.lst xs)⟩
def Rt.no : Rt := ⟨fun _ => False, fun _ => False⟩
structure Po where
  N : List B → Prop
  R : Rt
  Bk : List B → Prop := fun _ => False
  Ct : List B → Prop := fun _ => False
structure Ende (Z : Cz) (P : Po) (G0 : Hp) (De : Ends) : Prop where
  n : ∀ Γ σ G H, P.N Γ → Ex G0 G → J Z G H → En Z G H σ Γ → De.nx σ H
  r : ∀ (x : Ret) v G H, P.R.at x → Ex G0 G → J Z G H → RpQ Z.K Z.pl Z.H0 G H v x → De.rt v H
  b : ∀ Γ σ G H, P.Bk Γ → Ex G0 G → J Z G H → En Z G H σ Γ → De.bk σ H
  c : ∀ Γ σ G H, P.Ct Γ → Ex G0 G → J Z G H → En Z G H σ Γ → De.ct σ H
theorem Ende.up {Z : Cz} {P : Po} {G G' : Hp} {De : Ends} (d : Ende Z P G De) (x : Ex G G') : Ende Z P G' De :=
  ⟨fun Γ σ G H a y => d.n Γ σ G H a (x.trans y), fun z v G H a y => d.r z v G H a (x.trans y), fun Γ σ G H a y => d.b Γ σ G H a (x.trans y), fun Γ σ G H a y => d.c Γ σ G H a (x.trans y)⟩
def DenS (Z : Cz) (ts : TS) (Γ : List B) (P : Po) : Prop :=
  ∀ (σ : L2.St) (G H : Hp), J Z G H → En Z G H σ Γ → ∀ De : Ends, Ende Z P G De → ts De σ H
/-- what a walk goes over -/
structure Its (Z : Cz) (G : Hp) (Jt : It) (ds : List D) : Prop where
  go : ∀ G' H' i, Ex G G' → J Z G' H' → i < ds.length → Jt.go i H'
  stop : ∀ G' H', Ex G G' → J Z G' H' → Jt.stop ds.length H'
  yld : ∀ G' H' i x H'', Ex G G' → J Z G' H' → i < ds.length → Jt.yld i H' x H'' → ∃ G'' d, ds[i]? = some d ∧ J (Z.at H' G') G'' H'' ∧ Rp Z.K Z.pl G'' x d
def DenI (Z : Cz) (wi : TI) (Γ : List B) (Q : List D → List B → Prop) : Prop :=
  ∀ (σ : L2.St) (G H : Hp), J Z G H → En Z G H σ Γ → ∀ k : It → Hp → Prop, (∀ ds Γ' Jt G' H', Q ds Γ' → Sp1 Z σ Γ Γ' G H G' H' → J Z G' H' → En Z G' H' σ Γ' → Its Z G' Jt ds → k Jt H') → wi σ H k
/-- operators and calls by data -/
def OpD (Z : Cz) (r : R2) (x y : D) (Q : D → Prop) : Prop :=
  ∀ (G H : Hp) (vx vy : V), J Z G H → Rp Z.K Z.pl G vx x → Rp Z.K Z.pl G vy y → ∀ k : VK, (∀ d v G' H', Q d → J (Z.at H G) G' H' → Rp Z.K Z.pl G' v d → k v H') → r vx vy H k
def OpL (Z : Cz) (r : R2) (x y : D) (Q : List D → Prop) : Prop :=
  ∀ (G H : Hp) (vx vy : V), J Z G H → Rp Z.K Z.pl G vx x → Rp Z.K Z.pl G vy y → ∀ k : VK, (∀ ds l vs G' H', Q ds → J (Z.at H G) G' H' → H' l = some (.lst vs) → Rps Z.K Z.pl G' vs ds → H l = none → G' l = none → k (.ref l) H') → r vx vy H k
def UnD (Z : Cz) (r : V → Hp → VK → Prop) (x : D) (Q : D → Prop) : Prop :=
  ∀ (G H : Hp) (vx : V), J Z G H → Rp Z.K Z.pl G vx x → ∀ k : VK, (∀ d v G' H', Q d → J (Z.at H G) G' H' → Rp Z.K Z.pl G' v d → k v H') → r vx H k
def CaD (Z : Cz) (r : List V → Hp → VK → Prop) (xs : List D) (Q : D → Prop) : Prop :=
  ∀ (G H : Hp) (vs : List V), J Z G H → Rps Z.K Z.pl G vs xs → ∀ k : VK, (∀ d v G' H', Q d → J (Z.at H G) G' H' → Rp Z.K Z.pl G' v d → k v H') → r vs H k
def CaL (Z : Cz) (r : List V → Hp → VK → Prop) (xs : List D) (Q : List D → Prop) : Prop :=
  ∀ (G H : Hp) (vs : List V), J Z G H → Rps Z.K Z.pl G vs xs → ∀ k : VK, (∀ ds l ws G' H', Q ds → J (Z.at H G) G' H' → H' l = some (.lst ws) → Rps Z.K Z.pl G' ws ds → H l = none → G' l = none → k (.ref l) H') → r vs H k
section
variable {Z : Cz} {Γ : List B} {te ta tb : TE} {tt tu : TT} {P : Po}
theorem Den.mono {Q Q' : D → List B → Prop} (h : Den Z te Γ Q) (w : ∀ d Γ', Q d Γ' → Q' d Γ') : Den Z te Γ Q' := fun σ G H j e k q => h σ G H j e k fun d Γ' v G' H' a => q d Γ' v G' H' (w _ _ a)
theorem DenL.mono {Q Q' : List D → List B → Prop} (h : DenL Z te Γ Q) (w : ∀ d Γ', Q d Γ' → Q' d Γ') : DenL Z te Γ Q' := fun σ G H j e k q => h σ G H j e k fun d Γ' l v G' H' a => q d Γ' l v G' H' (w _ _ a)
theorem DenT.mono {Q Q' : Bool → List B → Prop} (h : DenT Z tt Γ Q) (w : ∀ d Γ', Q d Γ' → Q' d Γ') : DenT Z tt Γ Q' := fun σ G H j e k q => h σ G H j e k fun d Γ' G' H' a => q d Γ' G' H' (w _ _ a)
/-- a new list joins the still part -/
theorem den_l {Q : D → List B → Prop} (h : DenL Z te Γ fun ds Γ' => Q (.lst ds) Γ') : Den Z te Γ Q := fun σ G H j e k q => h σ G H j e k fun ds Γ' l vs G' H' a s j' e' hl r f hn => by
  refine q (.lst ds) Γ' (.ref l) (upd G' l (.lst vs)) H' a ⟨s.ex.trans (Ex.new f.g), s.own, fun b o hb n w => ?_, s.tr⟩ (j'.still f.h0 hl f.g) (e'.mono (Ex.new f.g) fun b o b1 b2 b3 ⟨i, b4, b5⟩ => ⟨b1, ?_⟩) (.lst upd_same (r.mono (Ex.new f.g)))
  · obtain ⟨h1, h2⟩ := s.fr b o hb n w
    refine ⟨h1, fun z => ?_⟩
    rw [upd_ne (ne_of_none hb hn)]; exact h2 z
  · have : b ≠ l := fun z => f.no i b4 (by rw [b5, z])
    rw [upd_ne this]; exact b2
theorem den_var {i : Nat} {x : D} {Q : D → List B → Prop} (h : Γ[i]? = some (.d x)) (q : Q x Γ) : Den Z (tVar i) Γ Q := fun σ G H j e k kk => by
  obtain ⟨v, h1, u, h2, h3⟩ := e.at_ i _ h
  subst h2
  exact ⟨u, h1, kk x Γ u G H q .refl j e h3⟩
/-- a list of one's own is handed on and not changed any more -/
theorem den_move {i : Nat} {xs : List D} {Q : D → List B → Prop} (h : Γ[i]? = some (.own xs)) (q : Q (.lst xs) (Γ.set i (.d (.lst xs)))) : Den Z (tVar i) Γ Q := fun σ G H j e k kk => by
  obtain ⟨v, h1, l, vs, h2, h3, h4, h5, h6⟩ := e.at_ i _ h
  subst h2
  have x : Ex G (upd G l (.lst vs)) := Ex.new h5
  have rp : Rp Z.K Z.pl (upd G l (.lst vs)) (.ref l) (.lst xs) := .lst upd_same (h4.mono x)
  have e2 : En Z (upd G l (.lst vs)) H σ (Γ.set i (.d (.lst xs))) := by
    refine ⟨by rw [List.length_set]; exact e.len, fun m b q => ?_, fun m n l' o1 o2 => ?_⟩
    · by_cases hm : i = m
      · subst hm
        rw [List.getElem?_set_self (List.getElem?_eq_some_iff.mp h).1] at q
        cases q
        exact ⟨_, h1, _, rfl, rp⟩
      · rw [List.getElem?_set_ne hm] at q
        obtain ⟨v', a1, a2⟩ := e.at_ m b q
        refine ⟨v', a1, a2.mono x fun l' o b1 b2 b3 b4 b5 => ⟨b1, ?_⟩⟩
        have : l' ≠ l := fun z => hm (e.dis i m l (by rw [h]; trivial) (by rw [q]; exact b5) h1 (by rw [a1, b4, z]))
        rw [upd_ne this]; exact b2
    · have hm : i ≠ m := fun z => by
        subst z
        rw [List.getElem?_set_self (List.getElem?_eq_some_iff.mp h).1] at o1; exact o1.elim
      have hn : i ≠ n := fun z => by
        subst z
        rw [List.getElem?_set_self (List.getElem?_eq_some_iff.mp h).1] at o2; exact o2.elim
      rw [List.getElem?_set_ne hm] at o1
      rw [List.getElem?_set_ne hn] at o2
      exact e.dis m n l' o1 o2
  refine ⟨.ref l, h1, kk _ _ _ (upd G l (.lst vs)) H q ⟨x, fun m o => ?_, fun a o ha n w => ⟨ha, fun z => ?_⟩, fun _ o h => ⟨o, h⟩⟩ (j.still h6 h3 h5) e2 rp⟩
  · by_cases hm : i = m
    · subst hm; rw [h]; trivial
    · rw [List.getElem?_set_ne hm] at o; exact o
  · have : a ≠ l := fun z => w i (by rw [h]; trivial) (by rw [h1, z])
    rw [upd_ne this]; exact z
theorem den_int {i : Int} {Q : D → List B → Prop} (q : Q (.int i) Γ) : Den Z (tC (.int i)) Γ Q := fun σ G H j e k kk => kk _ _ _ G H q .refl j e (.int i)
theorem den_bl {b : Bool} {Q : D → List B → Prop} (q : Q (.bl b) Γ) : Den Z (tC (.bl b)) Γ Q := fun σ G H j e k kk => kk _ _ _ G H q .refl j e (.bl b)
theorem den_non {Q : D → List B → Prop} (q : Q .non Γ) : Den Z (tC .non) Γ Q := fun σ G H j e k kk => kk _ _ _ G H q .refl j e .non
theorem den_str {x : Str} {Q : D → List B → Prop} (q : Q (.str x) Γ) : Den Z (tC (.str x)) Γ Q := fun σ G H j e k kk => kk _ _ _ G H q .refl j e (.str x)
theorem den_op {r : R2} {Q : D → List B → Prop} (h : Den Z ta Γ fun x Γ1 => Den Z tb Γ1 fun y Γ2 => OpD Z r x y fun d => Q d Γ2) : Den Z (tOp r ta tb) Γ Q := fun σ G H j e k kk =>
  h σ G H j e _ fun x Γ1 vx G1 H1 h1 s1 j1 e1 r1 => h1 σ G1 H1 j1 e1 _ fun y Γ2 vy G2 H2 h2 s2 j2 e2 r2 =>
    h2 G2 H2 vx vy j2 (r1.mono s2.ex) r2 k fun d v G3 H3 q i3 r3 => kk d Γ2 v G3 H3 q ((s1.trans s2).trans (.of i3)) (j2.leave i3) (e2.called j2.toJ0 i3.toJ0) r3
theorem denl_op {r : R2} {Q : List D → List B → Prop} (h : Den Z ta Γ fun x Γ1 => Den Z tb Γ1 fun y Γ2 => OpL Z r x y fun d => Q d Γ2) : DenL Z (tOp r ta tb) Γ Q := fun σ G H j e k kk =>
  h σ G H j e _ fun x Γ1 vx G1 H1 h1 s1 j1 e1 r1 => h1 σ G1 H1 j1 e1 _ fun y Γ2 vy G2 H2 h2 s2 j2 e2 r2 =>
    h2 G2 H2 vx vy j2 (r1.mono s2.ex) r2 k fun ds l vs G3 H3 q i3 hl r3 hn hg => by
      exact kk ds Γ2 l vs G3 H3 q ((s1.trans s2).trans (.of i3)) (j2.leave i3) (e2.called j2.toJ0 i3.toJ0) hl r3 ⟨hg, j2.old hn, fun i o => e2.noown hn i o⟩ ((s1.trans s2).back hn)
end
end Ab
namespace Ab
open PySem L2
section
variable {Z : Cz} {Γ : List B} {te ta tb tc : TE} {tt tu : TT} {tr : TA} {P : Po}
theorem dena_nil {Q : List D → List B → Prop} (q : Q [] Γ) : DenA Z tNil Γ Q := fun σ G H j e k kk => kk [] Γ [] G H q .refl j e .nil
theorem dena_cons {Q : List D → List B → Prop} (h : Den Z te Γ fun x Γ1 => DenA Z tr Γ1 fun xs Γ2 => Q (x :: xs) Γ2) : DenA Z (tCons te tr) Γ Q := fun σ G H j e k kk =>
  h σ G H j e _ fun x Γ1 v G1 H1 h1 s1 j1 e1 r1 => h1 σ G1 H1 j1 e1 _ fun xs Γ2 vs G2 H2 q s2 j2 e2 r2 => kk _ Γ2 _ G2 H2 q (s1.trans s2) j2 e2 (.cons (r1.mono s2.ex) r2)
theorem J.sp {G H : Hp} {p : Addr} {o : HO} (j : J Z G H) (hp : H p = none) : J (Z.at H G) (upd G p o) (upd H p o) := j.enter.new hp
theorem den_tup {Q : D → List B → Prop} (h : DenA Z tr Γ fun xs Γ1 => xs.length ≤ 100000 ∧ Q (.tup xs) Γ1) : Den Z (tTup tr) Γ Q := fun σ G H j e k kk =>
  h σ G H j e _ fun xs Γ1 vs G1 H1 h1 s1 j1 e1 r1 => ⟨Nat.le_trans (by rw [r1.length]; exact h1.1) (by decide), fun p hp =>
    kk _ Γ1 _ (upd G1 p (.tup vs)) (upd H1 p (.tup vs)) h1.2 (s1.trans (.of (j1.sp hp))) (j1.new hp) (e1.new j1.toJ0 hp) (.tup (SqT.of upd_same) (r1.mono (Ex.new (j1.sub.back hp))))⟩
theorem denl_lst {Q : List D → List B → Prop} (h : DenA Z tr Γ fun xs Γ1 => xs.length ≤ 100000 ∧ Q xs Γ1) : DenL Z (tLst tr) Γ Q := fun σ G H j e k kk =>
  h σ G H j e _ fun xs Γ1 vs G1 H1 h1 s1 j1 e1 r1 => ⟨Nat.le_trans (by rw [r1.length]; exact h1.1) (by decide), fun p hp => by
    have n : G1 p = none := j1.sub.back hp
    refine kk _ Γ1 p vs G1 (upd H1 p (.lst vs)) h1.2 (s1.trans ⟨Ex.refl _, fun _ h => h, fun a o ha _ _ => ⟨?_, fun z => z⟩, fun a o ha => ⟨o, ?_⟩⟩) (j1.put (j1.old hp) n) (e1.newM hp) upd_same r1 ⟨n, j1.old hp, fun i o => e1.noown hp i o⟩ (s1.back hp)
    · rw [upd_ne (ne_of_none ha hp)]; exact ha
    · rw [upd_ne (ne_of_none ha hp)]; exact ha⟩
theorem den_dic {Q : D → List B → Prop} (q : Q .dic Γ) : Den Z tDNewK Γ Q := fun σ G H j e k kk p hp =>
  kk _ Γ _ (upd G p (.dK [])) (upd H p (.dK [])) q (.of (j.sp hp)) (j.new hp) (e.new j.toJ0 hp) (.dic upd_same)
theorem dent_test {Q : Bool → List B → Prop} (h : Den Z te Γ fun x Γ1 => ∃ b, x = .bl b ∧ Q b Γ1) : DenT Z (tTest te) Γ Q := fun σ G H j e k kk =>
  h σ G H j e _ fun x Γ1 v G1 H1 h1 s1 j1 e1 r1 => by
    obtain ⟨b, rfl, q⟩ := h1
    cases r1
    exact ⟨b, rfl, kk b Γ1 G1 H1 q s1 j1 e1⟩
theorem dent_B {Q : Bool → List B → Prop} (h : Den Z te Γ fun x Γ1 => ∃ b, x = .bl b ∧ Q b Γ1) : DenT Z (tB te) Γ Q := fun σ G H j e k kk =>
  h σ G H j e _ fun x Γ1 v G1 H1 h1 s1 j1 e1 r1 => by
    obtain ⟨b, rfl, q⟩ := h1
    cases r1
    exact ⟨b, rfl, kk b Γ1 G1 H1 q s1 j1 e1⟩
theorem dent_and {Q : Bool → List B → Prop} (h : DenT Z tt Γ fun b Γ1 => if b = true then DenT Z tu Γ1 Q else Q false Γ1) : DenT Z (tAnd tt tu) Γ Q := fun σ G H j e k kk =>
  h σ G H j e _ fun b Γ1 G1 H1 h1 s1 j1 e1 => by
    cases b with
    | true => exact h1 σ G1 H1 j1 e1 k fun b Γ2 G2 H2 q s2 j2 e2 => kk b Γ2 G2 H2 q (s1.trans s2) j2 e2
    | false => exact kk false Γ1 G1 H1 h1 s1 j1 e1
theorem dent_or {Q : Bool → List B → Prop} (h : DenT Z tt Γ fun b Γ1 => if b = true then Q true Γ1 else DenT Z tu Γ1 Q) : DenT Z (tOr tt tu) Γ Q := fun σ G H j e k kk =>
  h σ G H j e _ fun b Γ1 G1 H1 h1 s1 j1 e1 => by
    cases b with
    | false => exact h1 σ G1 H1 j1 e1 k fun b Γ2 G2 H2 q s2 j2 e2 => kk b Γ2 G2 H2 q (s1.trans s2) j2 e2
    | true => exact kk true Γ1 G1 H1 h1 s1 j1 e1
theorem dent_not {Q : Bool → List B → Prop} (h : DenT Z tt Γ fun b Γ1 => Q (!b) Γ1) : DenT Z (tNot tt) Γ Q := fun σ G H j e k kk =>
  h σ G H j e _ fun b Γ1 G1 H1 h1 s1 j1 e1 => kk _ Γ1 G1 H1 h1 s1 j1 e1
theorem dent_yes {Q : Bool → List B → Prop} (q : Q true Γ) : DenT Z tYes Γ Q := fun σ G H j e k kk => kk true Γ G H q .refl j e
/-- and, or as values -/
theorem den_and {Q : D → List B → Prop} (h : Den Z ta Γ fun x Γ1 => ∃ b, x = .bl b ∧ if b = true then Den Z tb Γ1 Q else Q (.bl false) Γ1) : Den Z (tAndV ta tb) Γ Q := fun σ G H j e k kk =>
  h σ G H j e _ fun x Γ1 v G1 H1 h1 s1 j1 e1 r1 => by
    obtain ⟨b, rfl, q⟩ := h1
    cases r1
    refine ⟨b, rfl, ?_⟩
    cases b with
    | true => exact q σ G1 H1 j1 e1 k fun d Γ2 v G2 H2 a s2 j2 e2 r2 => kk d Γ2 v G2 H2 a (s1.trans s2) j2 e2 r2
    | false => exact kk _ Γ1 _ G1 H1 q s1 j1 e1 (.bl false)
theorem den_or {Q : D → List B → Prop} (h : Den Z ta Γ fun x Γ1 => ∃ b, x = .bl b ∧ if b = true then Q (.bl true) Γ1 else Den Z tb Γ1 Q) : Den Z (tOrV ta tb) Γ Q := fun σ G H j e k kk =>
  h σ G H j e _ fun x Γ1 v G1 H1 h1 s1 j1 e1 r1 => by
    obtain ⟨b, rfl, q⟩ := h1
    cases r1
    refine ⟨b, rfl, ?_⟩
    cases b with
    | false => exact q σ G1 H1 j1 e1 k fun d Γ2 v G2 H2 a s2 j2 e2 r2 => kk d Γ2 v G2 H2 a (s1.trans s2) j2 e2 r2
    | true => exact kk _ Γ1 _ G1 H1 q s1 j1 e1 (.bl true)
theorem den_not {Q : D → List B → Prop} (h : Den Z ta Γ fun x Γ1 => ∃ b, x = .bl b ∧ Q (.bl (!b)) Γ1) : Den Z (tNotV ta) Γ Q := fun σ G H j e k kk =>
  h σ G H j e _ fun x Γ1 v G1 H1 h1 s1 j1 e1 r1 => by
    obtain ⟨b, rfl, q⟩ := h1
    cases r1
    exact ⟨b, rfl, kk _ Γ1 _ G1 H1 q s1 j1 e1 (.bl _)⟩
theorem den_if {Q : D → List B → Prop} (h : DenT Z tt Γ fun b Γ1 => if b = true then Den Z ta Γ1 Q else Den Z tb Γ1 Q) : Den Z (tIf tt ta tb) Γ Q := fun σ G H j e k kk =>
  h σ G H j e _ fun b Γ1 G1 H1 h1 s1 j1 e1 => by
    cases b with
    | true => exact h1 σ G1 H1 j1 e1 k fun d Γ2 v G2 H2 a s2 j2 e2 r2 => kk d Γ2 v G2 H2 a (s1.trans s2) j2 e2 r2
    | false => exact h1 σ G1 H1 j1 e1 k fun d Γ2 v G2 H2 a s2 j2 e2 r2 => kk d Γ2 v G2 H2 a (s1.trans s2) j2 e2 r2
theorem den_chain {r r' : R2} {Q : D → List B → Prop} (h : Den Z ta Γ fun x Γ1 => Den Z tb Γ1 fun y Γ2 => OpD Z r x y fun d => ∃ b, d = .bl b ∧ if b = true then Den Z tc Γ2 fun w Γ3 => OpD Z r' y w fun d => Q d Γ3 else Q (.bl false) Γ2) :
    Den Z (tChain r r' ta tb tc) Γ Q := fun σ G H j e k kk =>
  h σ G H j e _ fun x Γ1 vx G1 H1 h1 s1 j1 e1 r1 => h1 σ G1 H1 j1 e1 _ fun y Γ2 vy G2 H2 h2 s2 j2 e2 r2 =>
    h2 G2 H2 vx vy j2 (r1.mono s2.ex) r2 _ fun d v G3 H3 q i3 r3 => by
      obtain ⟨b, rfl, q⟩ := q
      cases r3
      refine ⟨b, rfl, ?_⟩
      have j3 := j2.leave i3
      have e3 := e2.called j2.toJ0 i3.toJ0
      have s3 : Sp1 Z σ Γ Γ2 G H G3 H3 := (s1.trans s2).trans (.of i3)
      cases b with
      | true =>
        refine q σ G3 H3 j3 e3 _ fun w Γ3 vw G4 H4 h4 s4 j4 e4 r4 => ?_
        exact h4 G4 H4 vy vw j4 ((r2.mono i3.g0).mono s4.ex) r4 k fun d v G5 H5 q5 i5 r5 => kk d Γ3 v G5 H5 q5 ((s3.trans s4).trans (.of i5)) (j4.leave i5) (e4.called j4.toJ0 i5.toJ0) r5
      | false => exact kk _ Γ2 _ G3 H3 q s3 j3 e3 (.bl false)
theorem den_un {r : V → Hp → VK → Prop} {Q : D → List B → Prop} (h : Den Z ta Γ fun x Γ1 => UnD Z r x fun d => Q d Γ1) : Den Z (tUn r ta) Γ Q := fun σ G H j e k kk =>
  h σ G H j e _ fun x Γ1 vx G1 H1 h1 s1 j1 e1 r1 => h1 G1 H1 vx j1 r1 k fun d v G3 H3 q i3 r3 => kk d Γ1 v G3 H3 q (s1.trans (.of i3)) (j1.leave i3) (e1.called j1.toJ0 i3.toJ0) r3
theorem den_isN {Q : D → List B → Prop} (h : Den Z ta Γ fun x Γ1 => Q (.bl (match x with | .non => true | _ => false)) Γ1) : Den Z (tIsN ta) Γ Q := fun σ G H j e k kk =>
  h σ G H j e _ fun x Γ1 v G1 H1 h1 s1 j1 e1 r1 => by
    refine kk _ Γ1 _ G1 H1 h1 s1 j1 e1 ?_
    cases r1 <;> exact .bl _
theorem den_notN {Q : D → List B → Prop} (h : Den Z ta Γ fun x Γ1 => Q (.bl (match x with | .non => false | _ => true)) Γ1) : Den Z (tNotN ta) Γ Q := fun σ G H j e k kk =>
  h σ G H j e _ fun x Γ1 v G1 H1 h1 s1 j1 e1 r1 => by
    refine kk _ Γ1 _ G1 H1 h1 s1 j1 e1 ?_
    cases r1 <;> exact .bl _
theorem den_cb {r : List V → Hp → VK → Prop} {Q : D → List B → Prop} (h : DenA Z tr Γ fun xs Γ1 => CaD Z r xs fun d => Q d Γ1) : Den Z (tCB r tr) Γ Q := fun σ G H j e k kk =>
  h σ G H j e _ fun xs Γ1 vs G1 H1 h1 s1 j1 e1 r1 => h1 G1 H1 vs j1 r1 k fun d v G3 H3 q i3 r3 => kk d Γ1 v G3 H3 q (s1.trans (.of i3)) (j1.leave i3) (e1.called j1.toJ0 i3.toJ0) r3
theorem denl_cb {r : List V → Hp → VK → Prop} {Q : List D → List B → Prop} (h : DenA Z tr Γ fun xs Γ1 => CaL Z r xs fun d => Q d Γ1) : DenL Z (tCB r tr) Γ Q := fun σ G H j e k kk =>
  h σ G H j e _ fun xs Γ1 vs G1 H1 h1 s1 j1 e1 r1 => h1 G1 H1 vs j1 r1 k fun ds l ws G3 H3 q i3 hl r3 hn hg =>
    kk ds Γ1 l ws G3 H3 q (s1.trans (.of i3)) (j1.leave i3) (e1.called j1.toJ0 i3.toJ0) hl r3 ⟨hg, j1.old hn, fun i o => e1.noown hn i o⟩ (s1.back hn)
theorem deng_name {i : Nat} {x : D} {Q : List B → Prop} (q : Q (Γ.set i (.d x))) : DenG Z (gName i) x Γ Q := fun σ G H v j e r k kk => kk _ _ q (e.setD r)
theorem deng_tup {n : Nat} {t : TGs} {xs : List D} {Q : List B → Prop} (hn : xs.length = n) (h : DenGs Z t xs Γ Q) : DenG Z (gTup Z.K n t) (.tup xs) Γ Q := fun σ G H v j e r k kk => by
  cases r with
  | tup h1 r1 =>
    refine ⟨_, _, rfl, (j.sub.sqt h1), by rw [r1.length]; exact hn, ?_⟩
    exact h σ G H _ j e r1 k kk
theorem dengs_nil {Q : List B → Prop} (q : Q Γ) : DenGs Z gNil [] Γ Q := fun σ G H vs j e r k kk => by
  cases r
  exact ⟨rfl, kk Γ σ q e⟩
theorem dengs_cons {t : TG} {u : TGs} {x : D} {xs : List D} {Q : List B → Prop} (h : DenG Z t x Γ fun Γ1 => DenGs Z u xs Γ1 Q) : DenGs Z (gCons t u) (x :: xs) Γ Q := fun σ G H vs j e r k kk => by
  cases r with
  | cons r1 r2 => exact ⟨_, _, rfl, h σ G H _ j e r1 _ fun Γ1 σ1 h1 e1 => h1 σ1 G H _ j e1 r2 k kk⟩
theorem dens_nil (q : P.N Γ) : DenS Z tNext Γ P := fun σ G H j e De d => d.n Γ σ G H q (Ex.refl _) j e
theorem dens_seq {t u : TS} (h : DenS Z t Γ { P with N := fun Γ1 => DenS Z u Γ1 P }) : DenS Z (tSeq t u) Γ P := fun σ G H j e De d =>
  h σ G H j e { De with nx := u De } ⟨fun Γ1 σ1 G1 H1 q x j1 e1 => q σ1 G1 H1 j1 e1 De (d.up x), d.r, d.b, d.c⟩
theorem dens_break (q : P.Bk Γ) : DenS Z tBreak Γ P := fun σ G H j e De d => d.b Γ σ G H q (Ex.refl _) j e
theorem dens_cont (q : P.Ct Γ) : DenS Z tCont Γ P := fun σ G H j e De d => d.c Γ σ G H q (Ex.refl _) j e
theorem dens_drop (h : Den Z te Γ fun _ Γ1 => P.N Γ1) : DenS Z (tDrop te) Γ P := fun σ G H j e De d =>
  h σ G H j e _ fun x Γ1 v G1 H1 q s1 j1 e1 r1 => d.n Γ1 σ G1 H1 q s1.ex j1 e1
theorem dens_ret (h : Den Z te Γ fun x _ => P.R x) : DenS Z (tRet te) Γ P := fun σ G H j e De d =>
  h σ G H j e _ fun x Γ1 v G1 H1 q s1 j1 e1 r1 => d.r (.inl x) v G1 H1 q s1.ex j1 r1
theorem dens_retN (q : P.R .non) : DenS Z tRetN Γ P := fun σ G H j e De d => d.r (.inl .non) .non G H q (Ex.refl _) j Rp.non
/-- a list of one's own is returned -/
theorem dens_retO {i : Nat} {xs : List D} (h : Γ[i]? = some (.own xs)) (q : P.R.l xs) : DenS Z (tRet (tVar i)) Γ P := fun σ G H j e De d => by
  obtain ⟨v, h1, l, vs, h2, h3, h4, h5, h6⟩ := e.at_ i _ h
  subst h2
  exact ⟨.ref l, h1, d.r (.inr xs) (.ref l) G H q (Ex.refl _) j ⟨l, rfl, ⟨vs, h3, h4⟩, h5, h6⟩⟩
theorem dens_if {t u : TS} (h : DenT Z tt Γ fun b Γ1 => if b = true then DenS Z t Γ1 P else DenS Z u Γ1 P) : DenS Z (tIfS tt t u) Γ P := fun σ G H j e De d =>
  h σ G H j e _ fun b Γ1 G1 H1 q s1 j1 e1 => by
    cases b with
    | true => exact q σ G1 H1 j1 e1 De (d.up s1.ex)
    | false => exact q σ G1 H1 j1 e1 De (d.up s1.ex)
theorem dens_asg {g : TG} (h : Den Z te Γ fun x Γ1 => DenG Z g x Γ1 P.N) : DenS Z (tAsg te g) Γ P := fun σ G H j e De d =>
  h σ G H j e _ fun x Γ1 v G1 H1 q s1 j1 e1 r1 => q σ G1 H1 v j1 e1 r1 _ fun Γ2 σ2 q2 e2 => d.n Γ2 σ2 G1 H1 q2 s1.ex j1 e2
/-- a name gets a new list of its own -/
theorem dens_own {i : Nat} (h : DenL Z te Γ fun xs Γ1 => P.N (Γ1.set i (.own xs))) : DenS Z (tAsg te (gName i)) Γ P := fun σ G H j e De d =>
  h σ G H j e _ fun xs Γ1 l vs G1 H1 q s1 j1 e1 hl r1 f hn => d.n _ _ G1 H1 q s1.ex j1 (e1.set ⟨l, vs, rfl, hl, r1, f.g, f.h0⟩ fun l' _ z m hm o => by cases z; exact f.no m o)
theorem dens_par {i m : Nat} (h : DenA Z tr Γ fun xs Γ1 => ∃ x y, xs = [x, y] ∧ P.N ((Γ1.set i (.d x)).set m (.d y))) : DenS Z (tPar i m tr) Γ P := fun σ G H j e De d =>
  h σ G H j e _ fun xs Γ1 vs G1 H1 q s1 j1 e1 r1 => by
    obtain ⟨x, y, rfl, q⟩ := q
    cases r1 with
    | cons a b => cases b with
      | cons b c =>
        cases c
        exact ⟨_, _, rfl, d.n _ _ G1 H1 q s1.ex j1 ((e1.setD a).setD b)⟩
theorem deni_list {Q : List D → List B → Prop} (h : Den Z te Γ fun x Γ1 => ∃ xs, x = .lst xs ∧ Q xs Γ1) : DenI Z (iList Z.K te) Γ Q := fun σ G H j e k kk =>
  h σ G H j e _ fun x Γ1 v G1 H1 q s1 j1 e1 r1 => by
    obtain ⟨xs, rfl, q⟩ := q
    cases r1 with
    | @lst a vs _ h1 r1 =>
      have sq : ∀ G' H', Ex G1 G' → J Z G' H' → SqL Z.K H' a vs := fun G' H' x j' => .inl (.inl (j'.sub _ _ (x _ _ h1)))
      refine ⟨a, rfl, ⟨vs, sq G1 H1 (Ex.refl _) j1⟩, kk xs Γ1 _ G1 H1 q s1 j1 e1 ⟨fun G' H' i x j' hi => ?_, fun G' H' x j' => ?_, fun G' H' i x H'' ex j' hi y => ?_⟩⟩
      · rw [← r1.length] at hi
        exact ⟨vs, vs[i], sq G' H' x j', by simp [hi]⟩
      · exact ⟨vs, sq G' H' x j', by rw [r1.length]; exact Nat.le_refl _⟩
      · obtain ⟨rfl, y⟩ := y
        have q1 := y vs (sq G' H'' ex j')
        obtain ⟨d, hd, hr⟩ := r1.getV q1
        exact ⟨G', d, hd, j'.enter, hr.mono ex⟩
theorem deni_tup {Q : List D → List B → Prop} (h : Den Z te Γ fun x Γ1 => ∃ xs, x = .tup xs ∧ Q xs Γ1) : DenI Z (iTup Z.K te) Γ Q := fun σ G H j e k kk =>
  h σ G H j e _ fun x Γ1 v G1 H1 q s1 j1 e1 r1 => by
    obtain ⟨xs, rfl, q⟩ := q
    cases r1 with
    | @tup a vs _ h1 r1 =>
      have sq : ∀ G' H', Ex G1 G' → J Z G' H' → SqT Z.K H' a vs := fun G' H' x j' => j'.sub.sqt (x.sqt h1)
      refine ⟨a, rfl, ⟨vs, sq G1 H1 (Ex.refl _) j1⟩, kk xs Γ1 _ G1 H1 q s1 j1 e1 ⟨fun G' H' i x j' hi => ?_, fun G' H' x j' => ?_, fun G' H' i x H'' ex j' hi y => ?_⟩⟩
      · rw [← r1.length] at hi
        exact ⟨vs, vs[i], sq G' H' x j', by simp [hi]⟩
      · exact ⟨vs, sq G' H' x j', by rw [r1.length]; exact Nat.le_refl _⟩
      · obtain ⟨rfl, y⟩ := y
        have q1 := y vs (sq G' H'' ex j')
        obtain ⟨d, hd, hr⟩ := r1.getV q1
        exact ⟨G', d, hd, j'.enter, hr.mono ex⟩
/-- range(n) -/
def rg (n : Nat) : List D := (List.range n).map fun i => D.int (i : Nat)
def rgAt (lo : Int) (n : Nat) : List D := (List.range n).map fun i => D.int (lo + (i : Nat))
theorem its_range {G : Hp} {lo : Int} {n : Nat} : Its Z G (Itr lo n) (rgAt lo n) where
  go := fun G' H' i x j' hi => by show i < n; simpa [rgAt] using hi
  stop := fun G' H' x j' => by show n ≤ _; simp [rgAt]
  yld := fun G' H' i x H'' ex j' hi y => by
    obtain ⟨rfl, rfl⟩ := y
    refine ⟨G', .int (lo + i), ?_, j'.enter, .int _⟩
    have : i < n := by simpa [rgAt] using hi
    simp [rgAt, this]
theorem deni_rng1 {Q : List D → List B → Prop} (h : DenA Z tr Γ fun xs Γ1 => ∃ n : Int, xs = [.int n] ∧ n < 2 ^ 62 ∧ -(2 ^ 62) ≤ n ∧ Q (rgAt 0 n.toNat) Γ1) : DenI Z (iRng1 tr) Γ Q := fun σ G H j e k kk =>
  h σ G H j e _ fun xs Γ1 vs G1 H1 q s1 j1 e1 r1 => by
    obtain ⟨n, rfl, h1, h2, q⟩ := q
    cases r1 with
    | cons a b => cases b; cases a; exact ⟨n, rfl, h2, h1, kk _ Γ1 _ G1 H1 q s1 j1 e1 its_range⟩
theorem deni_rng2 {Q : List D → List B → Prop} (h : DenA Z tr Γ fun xs Γ1 => ∃ n m : Int, xs = [.int n, .int m] ∧ (-(2 ^ 62) ≤ n ∧ n < 2 ^ 62 ∧ -(2 ^ 62) ≤ m ∧ m < 2 ^ 62) ∧ Q (rgAt n (m - n).toNat) Γ1) : DenI Z (iRng2 tr) Γ Q := fun σ G H j e k kk =>
  h σ G H j e _ fun xs Γ1 vs G1 H1 q s1 j1 e1 r1 => by
    obtain ⟨n, m, rfl, h1, q⟩ := q
    cases r1 with
    | cons a b => cases b with
      | cons b c => cases a; cases b; cases c; exact ⟨n, m, rfl, h1, kk _ Γ1 _ G1 H1 q s1 j1 e1 its_range⟩
theorem dens_for {wi : TI} {g : TG} {tb : TS} (h : DenI Z wi Γ fun ds Γ1 => ∃ Iv : Nat → List B → Prop, Iv 0 Γ1 ∧
    (∀ (i : Nat) d Γ2, ds[i]? = some d → Iv i Γ2 → DenG Z g d Γ2 fun Γ3 => DenS Z tb Γ3 ⟨Iv (i + 1), P.R, P.N, Iv (i + 1)⟩) ∧ ∀ Γ2, Iv ds.length Γ2 → P.N Γ2) : DenS Z (tFor wi g tb) Γ P := fun σ G H j e De d =>
  h σ G H j e _ fun ds Γ1 Jt G1 H1 q s1 j1 e1 it => by
    obtain ⟨Iv, h0, hs, hd⟩ := q
    refine ⟨fun i m σ H => m = ds.length - i ∧ i ≤ ds.length ∧ ∃ Γ2 G2, Iv i Γ2 ∧ Ex G1 G2 ∧ J Z G2 H ∧ En Z G2 H σ Γ2, ⟨ds.length, by simp, Nat.zero_le _, Γ1, G1, h0, Ex.refl _, j1, e1⟩, ?_⟩
    rintro i m σ2 H2 ⟨rfl, hi, Γ2, G2, iv, x2, j2, e2⟩
    by_cases hlt : i < ds.length
    · refine .inr ⟨it.go G2 H2 i x2 j2 hlt, fun σ H => ∃ Γ2 G2, Iv (i + 1) Γ2 ∧ Ex G1 G2 ∧ J Z G2 H ∧ En Z G2 H σ Γ2, fun σ' H' z => ⟨ds.length - (i + 1), by omega, rfl, hlt, z⟩, fun x H' y => ?_⟩
      obtain ⟨G3, dd, hdd, i3, r3⟩ := it.yld G2 H2 i x H' x2 j2 hlt y
      have j3 := j2.leave i3
      exact hs i dd Γ2 hdd iv σ2 G3 H' x j3 (e2.called j2.toJ0 i3.toJ0) r3 _ fun Γ3 σ3 q3 e3 => q3 σ3 G3 H' j3 e3 _
        ⟨fun Γ4 σ4 G4 H4 a x4 j4 e4 => ⟨Γ4, G4, a, (x2.trans i3.g0).trans x4, j4, e4⟩,
         fun z v G4 H4 a x4 j4 r4 => d.r z v G4 H4 a (((s1.ex.trans x2).trans i3.g0).trans x4) j4 r4,
         fun Γ4 σ4 G4 H4 a x4 j4 e4 => d.n Γ4 σ4 G4 H4 a (((s1.ex.trans x2).trans i3.g0).trans x4) j4 e4,
         fun Γ4 σ4 G4 H4 a x4 j4 e4 => ⟨Γ4, G4, a, (x2.trans i3.g0).trans x4, j4, e4⟩⟩
    · have ei : i = ds.length := by omega
      subst ei
      exact .inl ⟨it.stop G2 H2 x2 j2, d.n Γ2 σ2 G2 H2 (hd Γ2 iv) (s1.ex.trans x2) j2 e2⟩
end
end Ab
namespace Ab
open PySem L2
def Off (ws : List Nat) (σ σ' : L2.St) : Prop := σ'.length = σ.length ∧ ∀ k : Nat, k ∉ ws → σ'[k]? = σ[k]?
theorem Off.refl {ws : List Nat} {σ : L2.St} : Off ws σ σ := ⟨rfl, fun _ _ => rfl⟩
theorem Off.trans {ws : List Nat} {σ σ1 σ2 : L2.St} (a : Off ws σ σ1) (b : Off ws σ1 σ2) : Off ws σ σ2 := ⟨b.1.trans a.1, fun k h => (b.2 k h).trans (a.2 k h)⟩
def GOff (g : TG) (ws : List Nat) : Prop := ∀ v σ H k, g v σ H k → g v σ H (fun σ' H' => k σ' H' ∧ Off ws σ σ')
def GsOff (g : TGs) (ws : List Nat) : Prop := ∀ v σ H k, g v σ H k → g v σ H (fun σ' H' => k σ' H' ∧ Off ws σ σ')
theorem goff_name {i : Nat} {ws : List Nat} (h : i ∈ ws) : GOff (gName i) ws := fun v σ H k q => ⟨q, by
  refine ⟨List.length_set, fun m hm => ?_⟩
  have : i ≠ m := fun z => hm (z ▸ h)
  exact List.getElem?_set_ne this⟩
theorem goff_tup {K n} {t : TGs} {ws : List Nat} (h : GsOff t ws) : GOff (gTup K n t) ws := fun v σ H k q => by
  obtain ⟨a, xs, h1, h2, h3, h4⟩ := q
  exact ⟨a, xs, h1, h2, h3, h _ _ _ _ h4⟩
theorem gsoff_nil {ws : List Nat} : GsOff gNil ws := fun v σ H k q => ⟨q.1, q.2, .refl⟩
theorem GOff.imp {t : TG} {ws : List Nat} (h : GOff t ws) (mono : ∀ v σ H (k k' : L2.St → Hp → Prop), (∀ σ' H', k σ' H' → k' σ' H') → t v σ H k → t v σ H k') {v σ H} {k k' : L2.St → Hp → Prop} (q : t v σ H k) (w : ∀ σ' H', Off ws σ σ' → k σ' H' → k' σ' H') : t v σ H k' :=
  mono v σ H _ k' (fun σ' H' z => w σ' H' z.2 z.1) (h v σ H k q)
def GMono (t : TG) : Prop := ∀ v σ H (k k' : L2.St → Hp → Prop), (∀ σ' H', k σ' H' → k' σ' H') → t v σ H k → t v σ H k'
def GsMono (t : TGs) : Prop := ∀ v σ H (k k' : L2.St → Hp → Prop), (∀ σ' H', k σ' H' → k' σ' H') → t v σ H k → t v σ H k'
theorem gmono_name {i : Nat} : GMono (gName i) := fun _ _ _ _ _ w q => w _ _ q
theorem gmono_tup {K n} {t : TGs} (h : GsMono t) : GMono (gTup K n t) := fun v σ H k k' w q => by
  obtain ⟨a, xs, h1, h2, h3, h4⟩ := q
  exact ⟨a, xs, h1, h2, h3, h _ _ _ _ _ w h4⟩
theorem gsmono_nil : GsMono gNil := fun v σ H k k' w q => ⟨q.1, w _ _ q.2⟩
theorem gsmono_cons {t : TG} {u : TGs} (h1 : GMono t) (h2 : GsMono u) : GsMono (gCons t u) := fun v σ H k k' w q => by
  obtain ⟨x, r, e, q⟩ := q
  exact ⟨x, r, e, h1 _ _ _ _ _ (fun _ _ z => h2 _ _ _ _ _ w z) q⟩
theorem gsoff_cons {t : TG} {u : TGs} {ws : List Nat} (h1 : GOff t ws) (m1 : GMono t) (h2 : GsOff u ws) (m2 : GsMono u) : GsOff (gCons t u) ws := fun v σ H k q => by
  obtain ⟨x, r, e, q⟩ := q
  refine ⟨x, r, e, h1.imp m1 q fun σ1 H1 o1 z => ?_⟩
  exact m2 _ _ _ _ _ (fun σ2 H2 y => ⟨y.1, o1.trans y.2⟩) (h2 _ _ _ _ z)
def wipeB (Γ : List B) : List Nat → List B
  | [] => Γ
  | v :: vs => (wipeB Γ vs).set v .un
theorem wipeB_len (Γ : List B) : ∀ vs, (wipeB Γ vs).length = Γ.length
  | [] => rfl
  | v :: vs => by unfold wipeB; rw [List.length_set, wipeB_len Γ vs]
theorem wipeB_out (Γ : List B) : ∀ {vs : List Nat} {k : Nat}, k ∉ vs → (wipeB Γ vs)[k]? = Γ[k]?
  | [], _, _ => rfl
  | v :: vs, k, h => by
    unfold wipeB
    have hne : v ≠ k := fun z => h (by rw [z]; exact List.mem_cons_self)
    rw [List.getElem?_set_ne hne, wipeB_out Γ fun z => h (List.mem_cons_of_mem _ z)]
theorem wipeB_in (Γ : List B) : ∀ {vs : List Nat} {k : Nat}, k ∈ vs → ¬ IsOwn (wipeB Γ vs)[k]?
  | v :: vs, k, h => by
    unfold wipeB
    by_cases e : v = k
    · subst e
      by_cases hk : v < (wipeB Γ vs).length
      · rw [List.getElem?_set_self hk]; exact fun z => z
      · rw [List.getElem?_eq_none (by rw [List.length_set]; omega)]; exact fun z => z
    · rw [List.getElem?_set_ne e]
      exact wipeB_in Γ ((List.mem_cons.mp h).resolve_left fun z => e z.symm)
theorem wipe_out' (σ : L2.St) : ∀ {vs : List Nat} {k : Nat}, k ∉ vs → (wipe σ vs)[k]? = σ[k]?
  | [], _, _ => rfl
  | v :: vs, k, h => by
    show ((wipe σ vs).set v none)[k]? = _
    have hne : v ≠ k := fun z => h (by rw [z]; exact List.mem_cons_self)
    rw [List.getElem?_set_ne hne, wipe_out' σ fun z => h (List.mem_cons_of_mem _ z)]
theorem wipe_in' (σ : L2.St) : ∀ {vs : List Nat} {k : Nat}, k ∈ vs → k < σ.length → (wipe σ vs)[k]? = some none
  | v :: vs, k, h, hk => by
    show ((wipe σ vs).set v none)[k]? = _
    by_cases e : v = k
    · subst e; exact List.getElem?_set_self (by rw [wipe_length]; exact hk)
    · rw [List.getElem?_set_ne e]
      exact wipe_in' σ ((List.mem_cons.mp h).resolve_left fun z => e z.symm) hk
theorem wipe_off {vs : List Nat} {σ σ2 : L2.St} (o : Off vs (wipe σ vs) σ2) : wipe σ2 vs = wipe σ vs := by
  have hl : σ2.length = σ.length := by rw [o.1, wipe_length]
  refine List.ext_getElem? fun k => ?_
  by_cases h : k ∈ vs
  · by_cases hk : k < σ.length
    · rw [wipe_in' σ h hk, wipe_in' σ2 h (by omega)]
    · rw [List.getElem?_eq_none (by rw [wipe_length]; omega), List.getElem?_eq_none (by rw [wipe_length]; omega)]
  · rw [wipe_out' σ2 h, o.2 k h]
theorem En.wipe {Z : Cz} {G H : Hp} {σ : L2.St} {Γ : List B} (e : En Z G H σ Γ) : ∀ vs : List Nat, En Z G H (L2.wipe σ vs) (wipeB Γ vs)
  | [] => e
  | v :: vs => (e.wipe vs).un (fun k hk => List.getElem?_set_ne hk.symm) List.length_set
theorem En.restore {Z : Cz} {G H G' H' : Hp} {σ : L2.St} {Γ : List B} {vs : List Nat} (e : En Z G H σ Γ) (x : Ex G G') (e2 : En Z G' H' (L2.wipe σ vs) (wipeB Γ vs)) (no : ∀ i ∈ vs, ¬ IsOwn Γ[i]?) : En Z G' H' σ Γ where
  len := e.len
  at_ := fun i b q => by
    by_cases h : i ∈ vs
    · obtain ⟨v, h1, h2⟩ := e.at_ i b q
      refine ⟨v, h1, h2.mono x fun l o _ _ _ _ o5 => ?_⟩
      exact absurd (by rw [q]; exact o5) (no i h)
    · obtain ⟨v, h1, h2⟩ := e2.at_ i b (by rw [wipeB_out Γ h]; exact q)
      rw [wipe_out' σ h] at h1
      exact ⟨v, h1, h2⟩
  dis := e.dis
theorem Sp1.conv {Z : Cz} {σ σ2 : L2.St} {Γ1 Γ2 : List B} {G H G' H' : Hp} (s : Sp1 Z σ2 Γ2 Γ2 G H G' H') (w : ∀ i : Nat, IsOwn Γ2[i]? → IsOwn Γ1[i]? ∧ σ2[i]? = σ[i]?) : Sp1 Z σ Γ1 Γ1 G H G' H' :=
  ⟨s.ex, fun _ h => h, fun a o ha n z => s.fr a o ha n fun i o => by rw [(w i o).2]; exact z i (w i o).1, s.tr⟩
section
variable {Z : Cz} {Γ : List B} {te ta tb tc : TE} {tt tu : TT} {tr : TA} {P : Po}
theorem denl_lc {wi : TI} {g : TG} {vs : List Nat} {Q : List D → List B → Prop} (hg : GOff g vs) (hm : GMono g)
    (h : DenI Z wi Γ fun ds Γ1 => (∀ i ∈ vs, ¬ IsOwn Γ1[i]?) ∧ ds.length < 100000 ∧ ∃ Iv : Nat → List D → Prop, Iv 0 [] ∧
      (∀ (i : Nat) d acc, ds[i]? = some d → acc.length ≤ i → Iv i acc → DenG Z g d (wipeB Γ1 vs) fun Γ2 => wipeB Γ2 vs = wipeB Γ1 vs ∧ (∀ i ∈ vs, ¬ IsOwn Γ2[i]?) ∧
        DenT Z tt Γ2 fun b Γ3 => Γ3 = Γ2 ∧ if b = true then Den Z te Γ2 fun y Γ4 => Γ4 = Γ2 ∧ Iv (i + 1) (acc ++ [y]) else Iv (i + 1) acc) ∧
      ∀ acc, acc.length ≤ ds.length → Iv ds.length acc → Q acc Γ1) : DenL Z (tLc wi g tt te vs) Γ Q := fun σ G H j e k kk =>
  h σ G H j e _ fun ds Γ1 Jt G1 H1 q s1 j1 e1 it C hC => by
    obtain ⟨no, hlen, Iv, h0, hs, hd⟩ := q
    have eg := e1.wipe vs
    have hg1 : G1 C = none := j1.sub.back hC
    have hz : Z.H0 C = none := j1.old hC
    have nd1 : ∀ i : Nat, IsOwn Γ1[i]? → σ[i]? ≠ some (some (.ref C)) := fun i o => e1.noown hC i o
    have fresh0 : ∀ {a : Addr} {o : HO}, H1 a = some o → a ≠ C := fun ha => ne_of_none ha hC
    refine ⟨fun i m H => m = ds.length - i ∧ i ≤ ds.length ∧ ∃ acc ds' G2, Iv i ds' ∧ ds'.length ≤ i ∧ H C = some (.lst acc) ∧ Rps Z.K Z.pl G2 acc ds' ∧ G2 C = none ∧ J Z G2 H ∧ En Z G2 H (wipe σ vs) (wipeB Γ1 vs) ∧
      Ex G1 G2 ∧ (∀ a o, H1 a = some o → NotPl Z a → (∀ i : Nat, IsOwn Γ1[i]? → σ[i]? ≠ some (some (.ref a))) → H a = some o ∧ (G1 a = none → G2 a = none)) ∧ (∀ a o, H1 a = some o → ∃ o', H a = some o'),
      ⟨ds.length, by simp, Nat.zero_le _, [], [], G1, h0, Nat.le_refl _, upd_same, .nil, hg1, j1.put hz hg1, eg.newM hC, Ex.refl _, fun a o ha _ _ => ⟨by rw [upd_ne (fresh0 ha)]; exact ha, fun z => z⟩, fun a o ha => ⟨o, by rw [upd_ne (fresh0 ha)]; exact ha⟩⟩, ?_⟩
    rintro i m H2 ⟨rfl, hi, acc, ds', G2, iv, hl', hCl, r2, hg2, j2, e2, x2, f2, t2⟩
    by_cases hlt : i < ds.length
    · refine .inr ⟨it.go G2 H2 i x2 j2 hlt, fun H => ∃ acc ds' G2, Iv (i + 1) ds' ∧ ds'.length ≤ i + 1 ∧ H C = some (.lst acc) ∧ Rps Z.K Z.pl G2 acc ds' ∧ G2 C = none ∧ J Z G2 H ∧ En Z G2 H (wipe σ vs) (wipeB Γ1 vs) ∧
        Ex G1 G2 ∧ (∀ a o, H1 a = some o → NotPl Z a → (∀ i : Nat, IsOwn Γ1[i]? → σ[i]? ≠ some (some (.ref a))) → H a = some o ∧ (G1 a = none → G2 a = none)) ∧ (∀ a o, H1 a = some o → ∃ o', H a = some o'),
        fun H' z => ⟨ds.length - (i + 1), by omega, rfl, hlt, z⟩, fun x H' y => ?_⟩
      obtain ⟨G3, dd, hdd, i3, r3⟩ := it.yld G2 H2 i x H' x2 j2 hlt y
      have j3 := j2.leave i3
      have e3 := e2.called j2.toJ0 i3.toJ0
      have npC : NotPl Z C := fun p c e => by
        obtain ⟨_, _, _, ⟨o1, z3⟩, ⟨o2, z4⟩, _⟩ := j1.pool p c e
        exact ⟨fun z => (by rw [← z] at z3; rw [hz] at z3; cases z3), fun z => (by rw [← z] at z4; rw [hz] at z4; cases z4)⟩
      have hC3 : H' C = some (.lst acc) := i3.fr C _ hCl npC
      have hg3 : G3 C = none := i3.out C _ hCl hg2
      have f3 : Sp1 Z σ Γ1 Γ1 G2 H2 G3 H' := .of i3
      refine hg.imp hm (hs i dd ds' hdd hl' iv (wipe σ vs) G3 H' x j3 e3 r3 (fun σ2 Hx => Hx = H' ∧ ∃ Γ2, (wipeB Γ2 vs = wipeB Γ1 vs ∧ (∀ i ∈ vs, ¬ IsOwn Γ2[i]?) ∧ DenT Z tt Γ2 fun b Γ3 => Γ3 = Γ2 ∧ if b = true then Den Z te Γ2 fun y Γ4 => Γ4 = Γ2 ∧ Iv (i + 1) (ds' ++ [y]) else Iv (i + 1) ds') ∧ En Z G3 H' σ2 Γ2) fun Γ2 σ2 q3 e4 => ⟨rfl, Γ2, q3, e4⟩) fun σ2 Hx off ⟨ex, Γ2, ⟨w1, w2, q3⟩, e4⟩ => ?_
      subst ex
      refine ⟨wipe_off off, ?_⟩
      have same : ∀ k : Nat, k ∉ vs → σ2[k]? = σ[k]? := fun k hk => by rw [off.2 k hk, wipe_out' σ hk]
      have own2 : ∀ k : Nat, IsOwn Γ2[k]? → k ∉ vs ∧ IsOwn Γ1[k]? := fun k o => by
        have hk : k ∉ vs := fun z => w2 k z o
        refine ⟨hk, ?_⟩
        have : Γ2[k]? = Γ1[k]? := by rw [← wipeB_out Γ2 hk, w1, wipeB_out Γ1 hk]
        rw [← this]; exact o
      have cv : ∀ {G H G' H'}, Sp1 Z σ2 Γ2 Γ2 G H G' H' → Sp1 Z σ Γ1 Γ1 G H G' H' := fun s => s.conv fun k o => ⟨(own2 k o).2, same k (own2 k o).1⟩
      have nd2 : ∀ k : Nat, IsOwn Γ2[k]? → σ2[k]? ≠ some (some (.ref C)) := fun k o => by
        rw [same k (own2 k o).1]; exact nd1 k (own2 k o).2
      have back : ∀ {G H}, En Z G H σ2 Γ2 → En Z G H (wipe σ vs) (wipeB Γ1 vs) := fun e => by
        have z := e.wipe vs
        rw [w1, wipe_off off] at z; exact z
      refine q3 σ2 G3 _ j3 e4 _ fun b Γ3 G4 H4 q4 s4 j4 e5 => ?_
      obtain ⟨rfl, q4⟩ := q4
      obtain ⟨hC4, hg4⟩ := s4.fr C _ hC3 npC nd2
      have f4 : Sp1 Z σ Γ1 Γ1 G2 H2 G4 H4 := f3.trans (cv s4)
      cases b with
      | false =>
        refine ⟨acc, ds', G4, q4, by omega, hC4, r2.mono f4.ex, hg4 hg3, j4, back e5, x2.trans f4.ex, fun a o ha n w => ?_, fun a o ha => ?_⟩
        · obtain ⟨z1, z2⟩ := f2 a o ha n w
          obtain ⟨z3, z4⟩ := f4.fr a o z1 n w
          exact ⟨z3, fun z => z4 (z2 z)⟩
        · obtain ⟨o', z⟩ := t2 a o ha
          exact f4.tr a o' z
      | true =>
        refine q4 σ2 G4 H4 j4 e5 _ fun yd Γ5 vy G5 H5 q5 s5 j5 e6 r5 => ?_
        obtain ⟨rfl, q5⟩ := q5
        obtain ⟨hC5, hg5⟩ := s5.fr C _ hC4 npC nd2
        have f5 : Sp1 Z σ Γ1 Γ1 G2 H2 G5 H5 := f4.trans (cv s5)
        have hg5' := hg5 (hg4 hg3)
        refine ⟨acc, hC5, ?_, acc ++ [vy], ds' ++ [yd], G5, q5, by simp; omega, upd_same, (r2.mono f5.ex).append (.one r5), hg5', j5.put hz hg5', ?_, x2.trans f5.ex, fun a o ha n w => ?_, fun a o ha => ?_⟩
        · rw [r2.length]; exact Nat.lt_of_lt_of_le (by omega : ds'.length < 100000) (by decide)
        · refine (back e6).mono (Ex.refl _) fun l o b1 b2 b3 ⟨n, o1, o2⟩ => ?_
          have hn : n ∉ vs := fun z => wipeB_in Γ1 z o1
          rw [wipeB_out Γ1 hn] at o1
          rw [wipe_out' σ hn] at o2
          have : l ≠ C := fun z => nd1 n o1 (by rw [o2, z])
          rw [upd_ne this]; exact ⟨b1, b2⟩
        · obtain ⟨z1, z2⟩ := f2 a o ha n w
          obtain ⟨z3, z4⟩ := f5.fr a o z1 n w
          exact ⟨by rw [upd_ne (fresh0 ha)]; exact z3, fun z => z4 (z2 z)⟩
        · obtain ⟨o', z⟩ := t2 a o ha
          obtain ⟨o'', z'⟩ := f5.tr a o' z
          exact ⟨o'', by rw [upd_ne (fresh0 ha)]; exact z'⟩
    · have ei : i = ds.length := by omega
      subst ei
      have e9 := e1.restore x2 e2 no
      exact .inl ⟨it.stop G2 H2 x2 j2, kk ds' Γ1 C acc G2 H2 (hd ds' hl' iv) (s1.trans ⟨x2, fun _ h => h, f2, t2⟩) j2 e9 hCl r2 ⟨hg2, hz, nd1⟩ (s1.back hC)⟩
end
end Ab
namespace Ab
open PySem L2
section
variable {Z : Cz} {Γ : List B} {te ta tb tc : TE} {tt tu : TT} {tr : TA} {P : Po}
theorem opd_i0 {f : Int → Int → Int} {i j : Int} {Q : D → Prop} (q : Q (.int (f i j))) : OpD Z (rI0 fun i j => .int (f i j)) (.int i) (.int j) Q := fun G H vx vy jj rx ry k kk => by
  cases rx; cases ry; exact ⟨i, j, rfl, rfl, kk _ _ G H q jj.enter (.int _)⟩
theorem opd_b0 {f : Int → Int → Bool} {i j : Int} {Q : D → Prop} (q : Q (.bl (f i j))) : OpD Z (rI0 fun i j => .bl (f i j)) (.int i) (.int j) Q := fun G H vx vy jj rx ry k kk => by
  cases rx; cases ry; exact ⟨i, j, rfl, rfl, kk _ _ G H q jj.enter (.bl _)⟩
theorem opd_ic {C : Int → Int → Prop} {f : Int → Int → Int} {i j : Int} {Q : D → Prop} (c : C i j) (q : Q (.int (f i j))) : OpD Z (rI C fun i j => .int (f i j)) (.int i) (.int j) Q := fun G H vx vy jj rx ry k kk => by
  cases rx; cases ry; exact ⟨i, j, rfl, rfl, c, kk _ _ G H q jj.enter (.int _)⟩
theorem und_i {f : Int → Int} {i : Int} {Q : D → Prop} (q : Q (.int (f i))) : UnD Z (rU fun i => .int (f i)) (.int i) Q := fun G H vx jj rx k kk => by
  cases rx; exact ⟨i, rfl, kk _ _ G H q jj.enter (.int _)⟩
/-- == of two scalars: ints, flags, texts, None (no flag beside an int) -/
theorem opd_eqI {i j : Int} {Q : D → Prop} (q : Q (.bl (decide (i = j)))) : OpD Z rEq (.int i) (.int j) Q := fun G H vx vy jj rx ry k kk => by
  cases rx; cases ry
  exact ⟨rfl, by rw [show decide (V.int i = V.int j) = decide (i = j) by simp]; exact kk _ _ G H q jj.enter (.bl _)⟩
theorem opd_neI {i j : Int} {Q : D → Prop} (q : Q (.bl (!decide (i = j)))) : OpD Z rNe (.int i) (.int j) Q := fun G H vx vy jj rx ry k kk => by
  cases rx; cases ry
  exact ⟨rfl, by rw [show decide (V.int i = V.int j) = decide (i = j) by simp]; exact kk _ _ G H q jj.enter (.bl _)⟩
theorem opd_eqS {i j : Str} {Q : D → Prop} (q : Q (.bl (decide (i = j)))) : OpD Z rEq (.str i) (.str j) Q := fun G H vx vy jj rx ry k kk => by
  cases rx; cases ry
  exact ⟨rfl, by rw [show decide (V.str i = V.str j) = decide (i = j) by simp]; exact kk _ _ G H q jj.enter (.bl _)⟩
theorem opd_neS {i j : Str} {Q : D → Prop} (q : Q (.bl (!decide (i = j)))) : OpD Z rNe (.str i) (.str j) Q := fun G H vx vy jj rx ry k kk => by
  cases rx; cases ry
  exact ⟨rfl, by rw [show decide (V.str i = V.str j) = decide (i = j) by simp]; exact kk _ _ G H q jj.enter (.bl _)⟩
theorem opd_eqB {i j : Bool} {Q : D → Prop} (q : Q (.bl (decide (i = j)))) : OpD Z rEq (.bl i) (.bl j) Q := fun G H vx vy jj rx ry k kk => by
  cases rx; cases ry
  exact ⟨rfl, by rw [show decide (V.bl i = V.bl j) = decide (i = j) by simp]; exact kk _ _ G H q jj.enter (.bl _)⟩
theorem opd_neB {i j : Bool} {Q : D → Prop} (q : Q (.bl (!decide (i = j)))) : OpD Z rNe (.bl i) (.bl j) Q := fun G H vx vy jj rx ry k kk => by
  cases rx; cases ry
  exact ⟨rfl, by rw [show decide (V.bl i = V.bl j) = decide (i = j) by simp]; exact kk _ _ G H q jj.enter (.bl _)⟩
mutual
def pyD : D → PyData
  | .non => .none | .bl b => .bool b | .int i => .int i | .str x => .str x
  | .tup xs => .tuple (pysD xs) | .lst xs => .list (pysD xs) | _ => .none
def pysD : List D → List PyData
  | [] => []
  | x :: xs => pyD x :: pysD xs
end
mutual
def plainD : D → Bool
  | .non => true | .bl _ => true | .int _ => true | .str _ => true
  | .tup xs => plainsD xs | .lst xs => plainsD xs | _ => false
def plainsD : List D → Bool
  | [] => true
  | x :: xs => plainD x && plainsD xs
end
mutual
theorem Rp.dp {K pl} {G H : Hp} (e : Ex G H) : ∀ {v : V} {d : D}, plainD d = true → Rp K pl G v d → Dp K H v (pyD d)
  | _, _, _, .non => by unfold pyD; exact .non
  | _, _, _, .bl b => by unfold pyD; exact .bl b
  | _, _, _, .int i => by unfold pyD; exact .int i
  | _, _, _, .str x => by unfold pyD; exact .str x
  | _, _, p, .tup h r => by unfold pyD; exact .tup ((e.sqt h)) (Rps.dp e (by unfold plainD at p; exact p) r)
  | _, _, p, .lst h r => by
    unfold pyD
    exact .lst (.inl (.inl (e _ _ h))) (Rps.dp e (by unfold plainD at p; exact p) r)
  | _, _, p, .dic _ => by unfold plainD at p; cases p
  | _, _, p, .dct _ _ => by unfold plainD at p; cases p
  | _, _, p, .xtup _ _ _ => by unfold plainD at p; cases p
  | _, _, p, .exo _ _ => by unfold plainD at p; cases p
  | _, _, p, .obj _ _ _ => by unfold plainD at p; cases p
  | _, _, p, .pool _ => by unfold plainD at p; cases p
  | _, _, p, .ty _ => by unfold plainD at p; cases p
  | _, _, p, .cls _ => by unfold plainD at p; cases p
  | _, _, p, .scr _ => by unfold plainD at p; cases p
theorem Rps.dp {K pl} {G H : Hp} (e : Ex G H) : ∀ {vs : List V} {ds : List D}, plainsD ds = true → Rps K pl G vs ds → DpAll K H vs (pysD ds)
  | _, _, _, .nil => by unfold pysD; exact .nil
  | _, _, p, .cons h r => by
    unfold plainsD at p
    have p := Bool.and_eq_true_iff.mp p
    unfold pysD; exact .cons (Rp.dp e p.1 h) (Rps.dp e p.2 r)
end
theorem opd_eqD {x y : D} {Q : D → Prop} (px : plainD x = true) (py : plainD y = true) (sx : SeqAt.shaped (pyD x) = true) (sy : SeqAt.shaped (pyD y) = true) (q : Q (.bl (PyData.eqv (pyD x) (pyD y)))) : OpD Z (rEqD Z.K) x y Q := fun G H vx vy jj rx ry k kk =>
  ⟨_, _, rx.dp jj.sub px, ry.dp jj.sub py, sx, sy, kk _ _ G H q jj.enter (.bl _)⟩
theorem opd_neD {x y : D} {Q : D → Prop} (px : plainD x = true) (py : plainD y = true) (sx : SeqAt.shaped (pyD x) = true) (sy : SeqAt.shaped (pyD y) = true) (q : Q (.bl (!PyData.eqv (pyD x) (pyD y)))) : OpD Z (rNeD Z.K) x y Q := fun G H vx vy jj rx ry k kk =>
  ⟨_, _, rx.dp jj.sub px, ry.dp jj.sub py, sx, sy, kk _ _ G H q jj.enter (.bl _)⟩
theorem Rps.nil_iff {K pl} {G : Hp} {vs : List V} {ds : List D} (r : Rps K pl G vs ds) : vs = [] ↔ ds = [] := by
  cases r <;> simp
theorem opd_cat {xs ys : List D} {Q : D → Prop} (hz : xs.length + ys.length ≤ 100000) (q : Q (.tup (xs ++ ys))) : OpD Z (rCatA Z.K) (.tup xs) (.tup ys) Q := fun G H vx vy jj rx ry k kk => by
  cases rx with
  | @tup a vs _ h1 r1 => cases ry with
    | @tup b ws _ h2 r2 =>
      refine ⟨a, b, vs, ws, rfl, rfl, (jj.sub.sqt h1), (jj.sub.sqt h2), Nat.le_trans (by rw [r1.length, r2.length]; exact hz) (by decide), fun e => ?_, fun _ e => ?_, fun _ _ p hp => ?_⟩
      · have : xs = [] := r1.nil_iff.mp e
        subst this
        exact kk _ _ G H q jj.enter (.tup h2 r2)
      · have : ys = [] := r2.nil_iff.mp e
        subst this
        rw [List.append_nil] at q
        exact kk _ _ G H q jj.enter (.tup h1 r1)
      · have x := Ex.new (o := .tup (vs ++ ws)) (jj.sub.back hp)
        exact kk _ _ _ _ q (jj.sp hp) (.tup (SqT.of upd_same) ((r1.mono x).append (r2.mono x)))
theorem opl_cat {xs ys : List D} {Q : List D → Prop} (hz : xs.length + ys.length ≤ 100000) (q : Q (xs ++ ys)) : OpL Z rCat (.lst xs) (.lst ys) Q := fun G H vx vy jj rx ry k kk => by
  cases rx with
  | @lst a vs _ h1 r1 => cases ry with
    | @lst b ws _ h2 r2 =>
      refine ⟨a, b, vs, ws, rfl, rfl, jj.sub _ _ h1, jj.sub _ _ h2, Nat.le_trans (by rw [r1.length, r2.length]; exact hz) (by decide), fun p hp => ?_⟩
      have n := jj.sub.back hp
      exact kk _ p _ G (upd H p (.lst (vs ++ ws))) q (jj.enter.put hp n) upd_same (r1.append r2) hp n
theorem opl_rep {xs : List D} {n : Int} {Q : List D → Prop} (h1 : -(2 ^ 63) ≤ n) (h2 : n < 2 ^ 63) (hz : xs.length * n.toNat ≤ 100000) (q : Q (List.replicate n.toNat xs).flatten) : OpL Z rRep (.lst xs) (.int n) Q := fun G H vx vy jj rx ry k kk => by
  cases rx with
  | @lst a vs _ g1 r1 =>
    cases ry
    refine ⟨a, n, vs, rfl, rfl, jj.sub _ _ g1, h1, h2, Nat.le_trans (by rw [r1.length]; exact hz) (by decide), fun p hp => ?_⟩
    have m := jj.sub.back hp
    exact kk _ p _ G (upd H p (.lst (List.replicate n.toNat vs).flatten)) q (jj.enter.put hp m) upd_same (r1.flat _) hp m
theorem atI_map {ds : List D} {vs : List V} {i : Int} {d : D} {K pl} {G : Hp} (r : Rps K pl G vs ds) (h : atI ds i = some d) : ∃ v, atI vs i = some v ∧ Rp K pl G v d := by
  unfold atI at h ⊢
  rw [r.length]
  cases e : ixN ds.length i with
  | none => rw [e] at h; cases h
  | some j =>
    rw [e] at h
    exact r.get h
theorem opd_ixT {xs : List D} {i : Int} {d : D} {Q : D → Prop} (h : atI xs i = some d) (q : Q d) : OpD Z (rIx Z.K) (.tup xs) (.int i) Q := fun G H vx vy jj rx ry k kk => by
  cases rx with
  | @tup a vs _ h1 r1 =>
    cases ry
    obtain ⟨v, hv, hr⟩ := atI_map r1 h
    exact .inr (.inl ⟨a, vs, i, v, rfl, rfl, (jj.sub.sqt h1), hv, kk _ _ G H q jj.enter hr⟩)
theorem opd_ixL {xs : List D} {i : Int} {d : D} {Q : D → Prop} (h : atI xs i = some d) (q : Q d) : OpD Z (rIx Z.K) (.lst xs) (.int i) Q := fun G H vx vy jj rx ry k kk => by
  cases rx with
  | @lst a vs _ h1 r1 =>
    cases ry
    obtain ⟨v, hv, hr⟩ := atI_map r1 h
    have s : SqL Z.K H a vs := .inl (.inl (jj.sub _ _ h1))
    exact .inl ⟨a, vs, i, v, rfl, rfl, s, hv, kk _ _ G H q jj.enter hr⟩
/-- a list of one's own, read by its place -/
theorem den_ixO {m : Nat} {xs : List D} {Q : D → List B → Prop} (hm : Γ[m]? = some (.own xs)) (h : Den Z tb Γ fun y Γ1 => ∃ xs', Γ1[m]? = some (.own xs') ∧ ∃ i d, y = .int i ∧ atI xs' i = some d ∧ Q d Γ1) : Den Z (tOp (rIx Z.K) (tVar m) tb) Γ Q := fun σ G H j e k kk => by
  obtain ⟨v, h1, l, vs, h2, h3, h4, h5, h6⟩ := e.at_ m _ hm
  subst h2
  refine ⟨.ref l, h1, h σ G H j e _ fun y Γ1 vy G1 H1 q s1 j1 e1 r1 => ?_⟩
  obtain ⟨xs', hm1, i, d, rfl, hd, q⟩ := q
  obtain ⟨v', h1', l', vs', h2', h3', h4', h5', h6'⟩ := e1.at_ m _ hm1
  subst h2'
  rw [h1] at h1'
  cases h1'
  cases r1
  obtain ⟨v, hv, hr⟩ := atI_map h4' hd
  exact .inl ⟨l, vs', i, v, rfl, rfl, SqL.of h3', hv, kk d Γ1 v G1 H1 q s1 j1 e1 hr⟩
def DenO (Z : Cz) (to : TO) (Γ : List B) (Q : Option Int → List B → Prop) : Prop :=
  ∀ (σ : L2.St) (G H : Hp), J Z G H → En Z G H σ Γ → ∀ k : Option Int → Hp → Prop, (∀ o Γ' G' H', Q o Γ' → Sp1 Z σ Γ Γ' G H G' H' → J Z G' H' → En Z G' H' σ Γ' → k o H') → to σ H k
theorem deno_none {Q : Option Int → List B → Prop} (q : Q none Γ) : DenO Z tNoPart Γ Q := fun σ G H j e k kk => kk none Γ G H q .refl j e
theorem deno_some {Q : Option Int → List B → Prop} (h : Den Z te Γ fun x Γ1 => ∃ i, x = .int i ∧ Q (some i) Γ1) : DenO Z (tPart te) Γ Q := fun σ G H j e k kk =>
  h σ G H j e _ fun x Γ1 v G1 H1 q s1 j1 e1 r1 => by
    obtain ⟨i, rfl, q⟩ := q
    cases r1
    exact ⟨i, rfl, kk _ Γ1 G1 H1 q s1 j1 e1⟩
def cutD (xs : List D) (lo hi : Option Int) : List D := (xs.drop (HT.sIx xs.length 0 lo)).take (HT.sIx xs.length xs.length hi - HT.sIx xs.length 0 lo)
theorem cut_rps {K pl} {G : Hp} {vs : List V} {ds : List D} (r : Rps K pl G vs ds) (lo hi : Option Int) : Rps K pl G (cutV vs lo hi) (cutD ds lo hi) := by
  unfold cutV cutD
  rw [r.length]
  exact (r.drop _).take _
theorem cut_whole {xs : List D} {lo hi : Option Int} (h : HT.sIx xs.length 0 lo = 0 ∧ HT.sIx xs.length xs.length hi = xs.length) : cutD xs lo hi = xs := by
  unfold cutD
  rw [h.1, h.2]
  simp
theorem den_slT {to1 to2 : TO} {Q : D → List B → Prop} (h : Den Z te Γ fun x Γ1 => ∃ xs, x = .tup xs ∧ DenO Z to1 Γ1 fun lo Γ2 => DenO Z to2 Γ2 fun hi Γ3 => Q (.tup (cutD xs lo hi)) Γ3) : Den Z (tSl (rSlA Z.K) te to1 to2) Γ Q := fun σ G H j e k kk =>
  h σ G H j e _ fun x Γ1 v G1 H1 q s1 j1 e1 r1 => by
    obtain ⟨xs, rfl, q⟩ := q
    refine q σ G1 H1 j1 e1 _ fun lo Γ2 G2 H2 q2 s2 j2 e2 => q2 σ G2 H2 j2 e2 _ fun hi Γ3 G3 H3 q3 s3 j3 e3 => ?_
    have r3 := (r1.mono s2.ex).mono s3.ex
    have s := (s1.trans s2).trans s3
    cases r3 with
    | @tup a vs _ h1 r3 =>
      refine ⟨a, vs, rfl, (j3.sub.sqt h1), fun w => ?_, fun w p hp => ?_⟩
      · rw [r3.length] at w
        have q3 : Q (.tup (cutD xs lo hi)) Γ3 := q3
        rw [cut_whole w] at q3
        exact kk _ Γ3 _ G3 H3 q3 s j3 e3 (.tup h1 r3)
      · exact kk _ Γ3 _ _ _ q3 (s.trans (.of (j3.sp hp))) (j3.new hp) (e3.new j3.toJ0 hp) (.tup (SqT.of upd_same) (cut_rps (r3.mono (Ex.new (j3.sub.back hp))) lo hi))
theorem denl_slL {to1 to2 : TO} {Q : List D → List B → Prop} (h : Den Z te Γ fun x Γ1 => ∃ xs, x = .lst xs ∧ DenO Z to1 Γ1 fun lo Γ2 => DenO Z to2 Γ2 fun hi Γ3 => Q (cutD xs lo hi) Γ3) : DenL Z (tSl (rSlL Z.K) te to1 to2) Γ Q := fun σ G H j e k kk =>
  h σ G H j e _ fun x Γ1 v G1 H1 q s1 j1 e1 r1 => by
    obtain ⟨xs, rfl, q⟩ := q
    refine q σ G1 H1 j1 e1 _ fun lo Γ2 G2 H2 q2 s2 j2 e2 => q2 σ G2 H2 j2 e2 _ fun hi Γ3 G3 H3 q3 s3 j3 e3 => ?_
    have r3 := (r1.mono s2.ex).mono s3.ex
    have s := (s1.trans s2).trans s3
    cases r3 with
    | @lst a vs _ h1 r3 =>
      have sq : SqL Z.K H3 a vs := .inl (.inl (j3.sub _ _ h1))
      refine ⟨a, vs, rfl, sq, fun p hp => ?_⟩
      have n := j3.sub.back hp
      refine kk _ Γ3 p _ G3 (upd H3 p (.lst (cutV vs lo hi))) q3 (s.trans ⟨Ex.refl _, fun _ h => h, fun a o ha _ _ => ⟨?_, fun z => z⟩, fun a o ha => ⟨o, ?_⟩⟩) (j3.put (j3.old hp) n) (e3.newM hp) upd_same (cut_rps r3 lo hi) ⟨n, j3.old hp, fun i o => e3.noown hp i o⟩ (s.back hp)
      · rw [upd_ne (ne_of_none ha hp)]; exact ha
      · rw [upd_ne (ne_of_none ha hp)]; exact ha
abbrev rLen (K : PySem.W.Frag) : List V → Hp → VK → Prop := fun xs H Q => ∃ x n, xs = [x] ∧ LenV K x H n ∧ Q (.int n) H
theorem cad_lenT {xs : List D} {Q : D → Prop} (q : Q (.int xs.length)) : CaD Z (rLen Z.K) [.tup xs] Q := fun G H vs jj r k kk => by
  cases r with
  | cons a b =>
    cases b
    cases a with
    | @tup a ws _ h1 r1 => exact ⟨.ref a, xs.length, rfl, .inr ⟨ws, (jj.sub.sqt h1), r1.length.symm⟩, kk _ _ G H q jj.enter (.int _)⟩
theorem cad_lenL {xs : List D} {Q : D → Prop} (q : Q (.int xs.length)) : CaD Z (rLen Z.K) [.lst xs] Q := fun G H vs jj r k kk => by
  cases r with
  | cons a b =>
    cases b
    cases a with
    | @lst a ws _ h1 r1 =>
      exact ⟨.ref a, xs.length, rfl, .inl ⟨ws, .inl (.inl (jj.sub _ _ h1)), r1.length.symm⟩, kk _ _ G H q jj.enter (.int _)⟩
theorem den_lenO {m : Nat} {xs : List D} {Q : D → List B → Prop} (hm : Γ[m]? = some (.own xs)) (q : Q (.int xs.length) Γ) : Den Z (tCB (rLen Z.K) (tCons (tVar m) tNil)) Γ Q := fun σ G H j e k kk => by
  obtain ⟨v, h1, l, vs, h2, h3, h4, h5, h6⟩ := e.at_ m _ hm
  subst h2
  exact ⟨.ref l, h1, .ref l, xs.length, rfl, .inl ⟨vs, SqL.of h3, h4.length.symm⟩, kk _ Γ _ G H q .refl j e (.int _)⟩
abbrev rAbs : List V → Hp → VK → Prop := fun xs H Q => ∃ i, xs = [.int i] ∧ Q (.int (if i < 0 then -i else i)) H
theorem cad_abs {i : Int} {Q : D → Prop} (q : Q (.int (if i < 0 then -i else i))) : CaD Z rAbs [.int i] Q := fun G H vs jj r k kk => by
  cases r with
  | cons a b => cases b; cases a; exact ⟨i, rfl, kk _ _ G H q jj.enter (.int _)⟩
abbrev rInt1 : List V → Hp → VK → Prop := fun xs H Q => (∃ i, xs = [.int i] ∧ Q (.int i) H) ∨ ∃ k, xs = [.bl k] ∧ Q (.int (if k then 1 else 0)) H
theorem cad_intI {i : Int} {Q : D → Prop} (q : Q (.int i)) : CaD Z rInt1 [.int i] Q := fun G H vs jj r k kk => by
  cases r with
  | cons a b => cases b; cases a; exact .inl ⟨i, rfl, kk _ _ G H q jj.enter (.int _)⟩
theorem cad_intB {b : Bool} {Q : D → Prop} (q : Q (.int (if b then 1 else 0))) : CaD Z rInt1 [.bl b] Q := fun G H vs jj r k kk => by
  cases r with
  | cons a b => cases b; cases a; exact .inr ⟨_, rfl, kk _ _ G H q jj.enter (.int _)⟩
theorem cad_gcd {i j : Int} {Q : D → Prop} (q : Q (.int (Nat.gcd i.natAbs j.natAbs : Nat))) : CaD Z rGcd [.int i, .int j] Q := fun G H vs jj r k kk => by
  cases r with
  | cons a b => cases b with
    | cons b c => cases c; cases a; cases b; exact ⟨i, j, rfl, kk _ _ G H q jj.enter (.int _)⟩
def bools : List D → Option (List Bool)
  | [] => some []
  | .bl b :: r => (bools r).map (b :: ·)
  | _ :: _ => none
theorem bools_vs {K pl} {G : Hp} : ∀ {vs : List V} {bs : List Bool}, Rps K pl G vs (bs.map D.bl) → vs = bs.map V.bl
  | _, [], .nil => rfl
  | _, b :: bs, .cons h r => by
    cases h
    rw [List.map_cons, bools_vs r]
theorem ints_vs {K pl} {G : Hp} : ∀ {vs : List V} {bs : List Int}, Rps K pl G vs (bs.map D.int) → vs = bs.map V.int
  | _, [], .nil => rfl
  | _, b :: bs, .cons h r => by
    cases h
    rw [List.map_cons, ints_vs r]
theorem Rp.sql {K pl} {G H : Hp} {v : V} {xs : List D} (e : Ex G H) (r : Rp K pl G v (.lst xs)) : ∃ a vs, v = .ref a ∧ SqL K H a vs ∧ Rps K pl G vs xs := by
  cases r with
  | @lst a ws _ h1 r1 =>
    exact ⟨a, ws, rfl, .inl (.inl (e _ _ h1)), r1⟩
theorem cad_all {bs : List Bool} {Q : D → Prop} (q : Q (.bl (bs.all id))) : CaD Z (rAll Z.K) [.lst (bs.map D.bl)] Q := fun G H vs jj r k kk => by
  cases r with
  | cons a b =>
    cases b
    obtain ⟨p, ws, rfl, s, r1⟩ := a.sql jj.sub
    have := bools_vs r1
    subst this
    exact ⟨p, bs, rfl, s, kk _ _ G H q jj.enter (.bl _)⟩
theorem cad_any {bs : List Bool} {Q : D → Prop} (q : Q (.bl (bs.any id))) : CaD Z (rAny Z.K) [.lst (bs.map D.bl)] Q := fun G H vs jj r k kk => by
  cases r with
  | cons a b =>
    cases b
    obtain ⟨p, ws, rfl, s, r1⟩ := a.sql jj.sub
    have := bools_vs r1
    subst this
    exact ⟨p, bs, rfl, s, kk _ _ G H q jj.enter (.bl _)⟩
theorem cad_sum {ns : List Int} {Q : D → Prop} (q : Q (.int ns.sum)) : CaD Z (rSum Z.K) [.lst (ns.map D.int)] Q := fun G H vs jj r k kk => by
  cases r with
  | cons a b =>
    cases b
    obtain ⟨p, ws, rfl, s, r1⟩ := a.sql jj.sub
    have := ints_vs r1
    subst this
    exact ⟨p, ns, rfl, s, kk _ _ G H q jj.enter (.int _)⟩
/-- tuple(list), list(..) -/
abbrev rTupleOf (K : PySem.W.Frag) : List V → Hp → VK → Prop := fun xs H Q => ∃ p ys, xs = [.ref p] ∧ ((SqL K H p ys ∧ ∀ l, H l = none → Q (.ref l) (upd H l (.tup ys))) ∨ (SqT K H p ys ∧ Q (.ref p) H))
theorem cad_tupleL {xs : List D} {Q : D → Prop} (q : Q (.tup xs)) : CaD Z (rTupleOf Z.K) [.lst xs] Q := fun G H vs jj r k kk => by
  cases r with
  | cons a b =>
    cases b
    obtain ⟨p, ws, rfl, s, r1⟩ := a.sql jj.sub
    exact ⟨p, ws, rfl, .inl ⟨s, fun p hp => kk _ _ _ _ q (jj.sp hp) (.tup (SqT.of upd_same) (r1.mono (Ex.new (jj.sub.back hp))))⟩⟩
theorem cad_tupleT {xs : List D} {Q : D → Prop} (q : Q (.tup xs)) : CaD Z (rTupleOf Z.K) [.tup xs] Q := fun G H vs jj r k kk => by
  cases r with
  | cons a b =>
    cases b
    cases a with
    | @tup a ws _ h1 r1 => exact ⟨a, ws, rfl, .inr ⟨(jj.sub.sqt h1), kk _ _ G H q jj.enter (.tup h1 r1)⟩⟩
theorem den_tupleO {m : Nat} {xs : List D} {Q : D → List B → Prop} (hm : Γ[m]? = some (.own xs)) (q : Q (.tup xs) Γ) : Den Z (tCB (rTupleOf Z.K) (tCons (tVar m) tNil)) Γ Q := fun σ G H j e k kk => by
  obtain ⟨v, h1, l, vs, h2, h3, h4, h5, h6⟩ := e.at_ m _ hm
  subst h2
  exact ⟨.ref l, h1, l, vs, rfl, .inl ⟨SqL.of h3, fun p hp => kk _ Γ _ (upd G p (.tup vs)) (upd H p (.tup vs)) q (.of (j.sp hp)) (j.new hp) (e.new j.toJ0 hp) (.tup (SqT.of upd_same) (h4.mono (Ex.new (j.sub.back hp))))⟩⟩
abbrev rListOf (K : PySem.W.Frag) : List V → Hp → VK → Prop := fun xs H Q => ∃ p ys, xs = [.ref p] ∧ (SqL K H p ys ∨ SqT K H p ys) ∧ ∀ l, H l = none → Q (.ref l) (upd H l (.lst ys))
theorem cal_listL {xs : List D} {Q : List D → Prop} (q : Q xs) : CaL Z (rListOf Z.K) [.lst xs] Q := fun G H vs jj r k kk => by
  cases r with
  | cons a b =>
    cases b
    obtain ⟨p, ws, rfl, s, r1⟩ := a.sql jj.sub
    exact ⟨p, ws, rfl, .inl s, fun p hp => kk _ p _ G _ q (jj.enter.put hp (jj.sub.back hp)) upd_same r1 hp (jj.sub.back hp)⟩
theorem cal_listT {xs : List D} {Q : List D → Prop} (q : Q xs) : CaL Z (rListOf Z.K) [.tup xs] Q := fun G H vs jj r k kk => by
  cases r with
  | cons a b =>
    cases b
    cases a with
    | @tup a ws _ h1 r1 => exact ⟨a, ws, rfl, .inr ((jj.sub.sqt h1)), fun p hp => kk _ p _ G _ q (jj.enter.put hp (jj.sub.back hp)) upd_same r1 hp (jj.sub.back hp)⟩
def tagD : D → Option String
  | .non => some "NoneType" | .bl _ => some "bool" | .int _ => some "int" | .str _ => some "str" | .tup _ => some "tuple" | .lst _ => some "list" | .dic => some "dict" | .dct _ _ => some "dict"
  | _ => none
theorem ty_sqt {K : PySem.W.Frag} {H : Hp} {a : Addr} {xs : List V} (h : SqT K H a xs) : TyX K H (.ref a) (.type "tuple") := by
  rcases h with (h | ⟨o, h⟩) | ⟨o, its, n, h1, h2, _⟩
  · exact .base (.tup h)
  · exact .fTuple h
  · exact .kTuple h1 h2
theorem tag_ty {K pl} {G H : Hp} {v : V} {x : D} {t : String} (e : Ex G H) (h : tagD x = some t) (r : Rp K pl G v x) : TyX K H v (.type t) := by
  cases r with
  | non => cases h; exact .base .non
  | bl b => cases h; exact .base (.bl b)
  | int b => cases h; exact .base (.int b)
  | str b => cases h; exact .base (.str b)
  | tup h1 _ => cases h; exact ty_sqt (e.sqt h1)
  | lst h1 _ =>
    cases h
    exact .base (.lst (e _ _ h1))
  | dic h1 => cases h; exact .base (.dK (e _ _ h1))
  | dct h1 _ => cases h; exact .base (.dK (e _ _ h1))
  | xtup _ _ _ => cases h
  | exo _ _ => cases h
  | obj _ _ _ => cases h
  | pool _ => cases h
  | ty _ => cases h
  | cls _ => cases h
  | scr _ => cases h
theorem cad_isi {x : D} {t T : String} {b : Bool} {Q : D → Prop} (h : tagD x = some t) (hk : kitB t T = some b) (q : Q (.bl b)) : CaD Z (rIsi Z.K) [x, .ty T] Q := fun G H vs jj r k kk => by
  cases r with
  | cons a c => cases c with
    | cons c d =>
      cases d; cases c
      exact ⟨_, _, _, _, b, rfl, .ty T, tag_ty jj.sub h a, kit_ty hk, kk _ _ G H q jj.enter (.bl _)⟩
theorem den_append {m : Nat} {xs : List D} {T : String} {Q : D → List B → Prop} (hm : Γ[m]? = some (.own xs)) (hT : T = "list") (h : Den Z te Γ fun x Γ1 => ∃ xs', Γ1[m]? = some (.own xs') ∧ xs'.length < 100000 ∧ Q .non (Γ1.set m (.own (xs' ++ [x])))) :
    Den Z (tBM Z.K T rAppend (tVar m) (tCons te tNil)) Γ Q := fun σ G H j e k kk => by
  obtain ⟨v, h1, l, vs, h2, h3, h4, h5, h6⟩ := e.at_ m _ hm
  subst h2; subst hT
  refine ⟨.ref l, h1, .inl ⟨rfl, vs, SqL.of h3⟩, h σ G H j e _ fun x Γ1 vx G1 H1 q s1 j1 e1 r1 => ?_⟩
  obtain ⟨xs', hm1, hl, q⟩ := q
  obtain ⟨v', h1', l', vs', h2', h3', h4', h5', h6'⟩ := e1.at_ m _ hm1
  subst h2'
  rw [h1] at h1'
  cases h1'
  refine ⟨l, vs', vx, rfl, rfl, h3', Nat.lt_of_lt_of_le (by rw [h4'.length]; exact hl) (by decide), ?_⟩
  have om : IsOwn Γ1[m]? := by rw [hm1]; trivial
  have hmlt : m < Γ1.length := (List.getElem?_eq_some_iff.mp hm1).1
  refine kk .non _ .non G1 (upd H1 l (.lst (vs' ++ [vx]))) q (s1.trans ⟨Ex.refl _, fun i o => ?_, fun a o ha n w => ?_, fun a o ha => ?_⟩) (j1.put h6' h5') ?_ .non
  · by_cases hi : m = i
    · subst hi; exact om
    · rw [List.getElem?_set_ne hi] at o; exact o
  · have : a ≠ l := fun z => w m om (by rw [h1, z])
    rw [upd_ne this]; exact ⟨ha, fun z => z⟩
  · by_cases z : a = l
    · subst z; exact ⟨_, upd_same⟩
    · exact ⟨o, by rw [upd_ne z]; exact ha⟩
  · refine ⟨by rw [List.length_set]; exact e1.len, fun i b hb => ?_, fun i n l2 o1 o2 => ?_⟩
    · by_cases hi : m = i
      · subst hi
        rw [List.getElem?_set_self hmlt] at hb
        cases hb
        exact ⟨_, h1, l, _, rfl, upd_same, h4'.append (.one r1), h5', h6'⟩
      · rw [List.getElem?_set_ne hi] at hb
        obtain ⟨v, a1, a2⟩ := e1.at_ i b hb
        refine ⟨v, a1, a2.mono (Ex.refl _) fun l2 o b1 b2 b3 b4 b5 => ⟨?_, b2⟩⟩
        have : l2 ≠ l := fun z => hi (e1.dis m i l om (by rw [hb]; exact b5) h1 (by rw [a1, b4, z]))
        rw [upd_ne this]; exact b1
    · have ow : ∀ i : Nat, IsOwn (Γ1.set m (.own (xs' ++ [x])))[i]? → IsOwn Γ1[i]? := fun i o => by
        by_cases hi : m = i
        · subst hi; exact om
        · rw [List.getElem?_set_ne hi] at o; exact o
      exact e1.dis i n l2 (ow i o1) (ow n o2)
/-- what a list of one's own becomes when its items change -/
theorem own_put {σ : L2.St} {G1 H1 : Hp} {Γ1 : List B} {m : Nat} {xs' ys : List D} {l : Addr} {ws : List V} (e1 : En Z G1 H1 σ Γ1) (hm1 : Γ1[m]? = some (.own xs')) (h1 : σ[m]? = some (some (.ref l))) (r : Rps Z.K Z.pl G1 ws ys) :
    Sp1 Z σ Γ1 (Γ1.set m (.own ys)) G1 H1 G1 (upd H1 l (.lst ws)) ∧ En Z G1 (upd H1 l (.lst ws)) σ (Γ1.set m (.own ys)) ∧ G1 l = none ∧ Z.H0 l = none := by
  obtain ⟨v', h1', l', vs', h2', h3', h4', h5', h6'⟩ := e1.at_ m _ hm1
  subst h2'
  rw [h1] at h1'
  cases h1'
  have om : IsOwn Γ1[m]? := by rw [hm1]; trivial
  have hmlt : m < Γ1.length := (List.getElem?_eq_some_iff.mp hm1).1
  refine ⟨⟨Ex.refl _, fun i o => ?_, fun a o ha n w => ?_, fun a o ha => ?_⟩, ?_, h5', h6'⟩
  · by_cases hi : m = i
    · subst hi; exact om
    · rw [List.getElem?_set_ne hi] at o; exact o
  · have : a ≠ l := fun z => w m om (by rw [h1, z])
    rw [upd_ne this]; exact ⟨ha, fun z => z⟩
  · by_cases z : a = l
    · subst z; exact ⟨_, upd_same⟩
    · exact ⟨o, by rw [upd_ne z]; exact ha⟩
  · refine ⟨by rw [List.length_set]; exact e1.len, fun i b hb => ?_, fun i n l2 o1 o2 => ?_⟩
    · by_cases hi : m = i
      · subst hi
        rw [List.getElem?_set_self hmlt] at hb
        cases hb
        exact ⟨_, h1, l, _, rfl, upd_same, r, h5', h6'⟩
      · rw [List.getElem?_set_ne hi] at hb
        obtain ⟨v, a1, a2⟩ := e1.at_ i b hb
        refine ⟨v, a1, a2.mono (Ex.refl _) fun l2 o b1 b2 b3 b4 b5 => ⟨?_, b2⟩⟩
        have : l2 ≠ l := fun z => hi (e1.dis m i l om (by rw [hb]; exact b5) h1 (by rw [a1, b4, z]))
        rw [upd_ne this]; exact b1
    · have ow : ∀ i : Nat, IsOwn (Γ1.set m (.own ys))[i]? → IsOwn Γ1[i]? := fun i o => by
        by_cases hi : m = i
        · subst hi; exact om
        · rw [List.getElem?_set_ne hi] at o; exact o
      exact e1.dis i n l2 (ow i o1) (ow n o2)
theorem den_popAt {m : Nat} {xs : List D} {T : String} {Q : D → List B → Prop} (hm : Γ[m]? = some (.own xs)) (hT : T = "list") (h : Den Z te Γ fun x Γ1 => ∃ xs', Γ1[m]? = some (.own xs') ∧ ∃ i d, x = .int (i : Nat) ∧ xs'[i]? = some d ∧ xs'.length ≤ 100000 ∧ Q d (Γ1.set m (.own (xs'.eraseIdx i)))) :
    Den Z (tBM Z.K T rPopAt (tVar m) (tCons te tNil)) Γ Q := fun σ G H j e k kk => by
  obtain ⟨v, h1, l, vs, h2, h3, h4, h5, h6⟩ := e.at_ m _ hm
  subst h2; subst hT
  refine ⟨.ref l, h1, .inl ⟨rfl, vs, SqL.of h3⟩, h σ G H j e _ fun x Γ1 vx G1 H1 q s1 j1 e1 r1 => ?_⟩
  obtain ⟨xs', hm1, i, d, rfl, hd, hl, q⟩ := q
  obtain ⟨v', h1', l', vs', h2', h3', h4', h5', h6'⟩ := e1.at_ m _ hm1
  subst h2'
  rw [h1] at h1'
  cases h1'
  cases r1
  obtain ⟨w, hw, hr⟩ := h4'.get hd
  have hi : i < xs'.length := (List.getElem?_eq_some_iff.mp hd).1
  have hlen := h4'.length
  obtain ⟨s2, e2, g2, z2⟩ := own_put (ys := xs'.eraseIdx i) e1 hm1 h1 (h4'.eraseIdx i)
  refine ⟨l, vs', _, i, w, rfl, rfl, h3', by omega, by omega, ?_, hw, ?_⟩
  · have := (ixN_seq (n := vs'.length) (i := (i : Int)) (j := i) (by unfold ixN; rw [if_pos (by omega), if_pos (by omega)]; simp)).1
    exact this
  · exact kk d _ w G1 _ q (s1.trans s2) (j1.put z2 g2) e2 hr
theorem dens_setO {m : Nat} {xs : List D} (hm : Γ[m]? = some (.own xs)) (h : Den Z te Γ fun x Γ1 => (∃ xs', Γ1[m]? = some (.own xs')) ∧ Den Z tb Γ1 fun y Γ2 => ∃ xs', Γ2[m]? = some (.own xs') ∧ ∃ (i : Int) (n : Nat), y = .int i ∧ ixN xs'.length i = some n ∧ P.N (Γ2.set m (.own (xs'.set n x)))) :
    DenS Z (tAsg te (gSub (tVar m) tb rSetL)) Γ P := fun σ G H j e De d =>
  h σ G H j e _ fun x Γ1 vx G1 H1 q s1 j1 e1 r1 => by
    obtain ⟨⟨xs1, hm1⟩, q⟩ := q
    obtain ⟨v, h1, l, vs, h2, h3, h4, h5, h6⟩ := e1.at_ m _ hm1
    subst h2
    refine ⟨.ref l, h1, q σ G1 H1 j1 e1 _ fun y Γ2 vy G2 H2 q2 s2 j2 e2 r2 => ?_⟩
    obtain ⟨xs', hm2, i, n, rfl, hn, q2⟩ := q2
    obtain ⟨v', h1', l', vs', h2', h3', h4', h5', h6'⟩ := e2.at_ m _ hm2
    subst h2'
    rw [h1] at h1'
    cases h1'
    cases r2
    obtain ⟨s3, e3, g3, z3⟩ := own_put (ys := xs'.set n x) e2 hm2 h1 (Rps.set (r1.mono s2.ex) n h4')
    refine ⟨l, vs', i, n, rfl, rfl, h3', by rw [h4'.length]; exact hn, ?_⟩
    exact d.n _ σ G2 _ q2 (s1.ex.trans s2.ex) (j2.put z3 g3) e3
end
end Ab
namespace Ab
open PySem L2
structure FSpec where
  P : List D → Prop
  R : List D → D → Prop
  X : List D → Er → Prop := fun _ _ => False
abbrev Cz.call (K : PySem.W.Frag) (pl : Option (Addr × Addr)) (H G : Hp) : Cz := ⟨K, pl, H, G, fun _ _ _ _ => True, fun _ _ => False⟩
def spS (K : PySem.W.Frag) (n : Nat) (S : FSpec) : Sp := fun vs H Q E => ∃ pl G ds, J (Cz.call K pl H G) G H ∧ Rps K pl G vs ds ∧ ds.length = n ∧ S.P ds ∧
  (∀ d v G' H', S.R ds d → J (Cz.call K pl H G) G' H' → Rp K pl G' v d → Q v H') ∧
  (∀ er cls d G' H', S.X ds er → J (Cz.call K pl H G) G' H' → RpEr0 K pl G' cls d er → E cls d H')
theorem J0.re {Z Z' : Cz} {G H : Hp} (j : J0 Z G H) (h0 : Z'.H0 = Z.H0) (g0 : Z'.G0 = Z.G0) (p : Z'.pl = Z.pl) : J0 Z' G H := by
  obtain ⟨K, pl, H0, G0, W, X⟩ := Z
  obtain ⟨K', pl', H0', G0', W', X'⟩ := Z'
  cases h0; cases g0; cases p
  exact ⟨j.sub, j.g0, j.out, j.fr, j.pool⟩
theorem en_start {Z : Cz} {G H : Hp} {N : List Str} {vs : List V} {ds : List D} (r : Rps Z.K Z.pl G vs ds) (hl : ds.length ≤ N.length) : En Z G H (L2.start N vs) (ds.map B.d ++ List.replicate (N.length - ds.length) .un) := by
  have e := r.length
  refine ⟨by simp [L2.start, e], fun i b h => ?_, fun i j l o => ?_⟩
  · by_cases hi : i < ds.length
    · rw [List.getElem?_append_left (by simpa using hi), List.getElem?_map] at h
      cases q : ds[i]? with
      | none => rw [q] at h; cases h
      | some d =>
        rw [q] at h; cases h
        obtain ⟨v, hv, hr⟩ := r.get q
        refine ⟨some v, ?_, v, rfl, hr⟩
        unfold L2.start
        rw [List.getElem?_append_left (by simpa [e] using hi), List.getElem?_map, hv]
        rfl
    · have hi' : ds.length ≤ i := by omega
      rw [List.getElem?_append_right (by simpa using hi')] at h
      have : b = .un := by
        rw [List.getElem?_replicate] at h
        split at h
        · exact (Option.some.inj h).symm
        · cases h
      subst this
      refine ⟨none, ?_, trivial⟩
      unfold L2.start
      rw [List.getElem?_append_right (by simpa [e] using hi'), List.getElem?_replicate]
      rw [List.getElem?_replicate] at h
      split at h
      · rename_i z
        rw [if_pos (by simp [e] at z ⊢; exact z)]
      · cases h
  · exfalso
    by_cases hi : i < ds.length
    · rw [List.getElem?_append_left (by simpa using hi), List.getElem?_map] at o
      cases q : ds[i]? with
      | none => rw [q] at o; exact o.elim
      | some d => rw [q] at o; exact o.elim
    · rw [List.getElem?_append_right (by simpa using (show ds.length ≤ i by omega)), List.getElem?_replicate] at o
      split at o
      · exact o.elim
      · exact o.elim
section
variable {P : Program} {w : World} {K : PySem.W.Frag} {mg : Str → Option Value} {base : Heap}
/-- THE RULE for a def -/
theorem fn_ab {x qual : Str} {st : Stmt} {f : Addr} {fd : FuncData} {N ps : List Str} {k : Nat} (F : Fun K x qual st f fd) (Sc : FnScope N ps (defScope st)) (S : FSpec) (hl : ps.length ≤ N.length)
    (hbody : ∀ (cdv : Value) (A : Around) (outer : List PySem.Env) (s : Shared) (H : Hp) (E : XK) (ds : List D) (W : WX), Room k (A.deeper (PyProof.Rows.envOfC qual (defScope st) s.heap.objs.size f cdv)) → Takes (cxOf (L2.CX P w) P w K mg base N qual (defScope st) f cdv A outer s H E) W →
      ds.length = ps.length → S.P ds →
      ∃ t, PSs (cxOf (L2.CX P w) P w K mg base N qual (defScope st) f cdv A outer s H E) (defBody st) t ∧
        ∀ Z : Cz, Z.K = K → Z.W = W → (∀ er Γ, S.X ds er → Z.X er Γ) → DenS Z t (ds.map B.d ++ List.replicate (N.length - ds.length) .un) ⟨fun _ => S.R ds .non, ⟨S.R ds, fun _ => False⟩, fun _ => False, fun _ => False⟩) : FnOk P w K mg base (L2.CX P w) (k + 1) f fd ps (spS K ps.length S) := by
  refine F.okX Sc (fun vs H Q E h => ?_) (fun cdv A outer s H vs Q E hr h => ?_)
  · obtain ⟨pl, G, ds, _, r, hn, _⟩ := h
    rw [r.length, hn]
  · obtain ⟨pl, G, ds, j, r, hn, hp, hq, he⟩ := h
    obtain ⟨t, h1, h2⟩ := hbody cdv A outer s H E ds (fun cls d _ H => E cls d H) hr (takes_of rfl rfl rfl rfl) hn hp
    refine ⟨t, h1, h2 ⟨K, pl, H, G, fun cls d _ H => E cls d H, fun er _ => S.X ds er⟩ rfl rfl (fun er Γ h => h) _ G H ⟨j.toJ0.re rfl rfl rfl, fun er cls d σ G' H' Γ hx _ j' _ re => he er cls d G' H' hx ⟨j'.re rfl rfl rfl, fun _ _ _ _ _ _ _ z => z.elim⟩ re⟩ (en_start r (by omega)) _ ⟨fun Γ σ G' H' hN _ j' _ => hq .non .non G' H' hN ⟨j'.toJ0.re rfl rfl rfl, fun _ _ _ _ _ _ _ z => z.elim⟩ .non,
      fun x v G' H' hR _ j' rx => (match x, hR, rx with | .inl x, hR, rx => hq x v G' H' hR ⟨j'.toJ0.re rfl rfl rfl, fun _ _ _ _ _ _ _ z => z.elim⟩ rx | .inr _, hR, _ => hR.elim), fun _ _ _ _ z => z.elim, fun _ _ _ _ z => z.elim⟩⟩
/-- a def, as its callers know it -/
structure Dfn (P : Program) (w : World) (K : PySem.W.Frag) (mg : Str → Option Value) (base : Heap) (x : Str) (k n : Nat) (S : FSpec) : Prop where
  ex : ∃ f fd ps, FnOk P w K mg base (L2.CX P w) k f fd ps (spS K n S) ∧ mg x = some (.ref f) ∧ PySem.W.keepIn K (.ref f) = true ∧ Binds K fd ps []
theorem Dfn.imp {x : Str} {k n : Nat} {S S' : FSpec} (c : Dfn P w K mg base x k n S) (hP : ∀ ds, S'.P ds → S.P ds) (hR : ∀ ds d, S'.P ds → S.R ds d → S'.R ds d) (hX : ∀ ds d, S'.P ds → S.X ds d → S'.X ds d) : Dfn P w K mg base x k n S' := by
  obtain ⟨f, fd, ps, h1, h2⟩ := c.ex
  refine ⟨f, fd, ps, h1.imp fun vs H Q E h => ?_, h2⟩
  obtain ⟨pl, G, ds, j, r, hn, hp, hq, he⟩ := h
  exact ⟨pl, G, ds, j, r, hn, hP ds hp, fun d v G' H' a => hq d v G' H' (hR ds d hp a), fun er cls d G' H' a => he er cls d G' H' (hX ds er hp a)⟩
end
section
variable {X : Cx} {x : Str} {e : Expr} {es : List Expr} {t : TA} {k n j : Nat} {S : FSpec} {p pos : Pos}
theorem pe_fn (c : Dfn X.prog X.w X.K X.mg X.base x k n S) (hr : Room j X.A) (hk : k ≤ j) (hg : Gl X x) (ha : PA X (e :: es) t) (hdb : (x == ("__debug__" : Str)) = false := by decide)
    (he : starEach (e :: es) X.env = (false, eval e X.env) :: starEach es X.env := by rfl) (hpl : (backTo pos (starEach es X.env)).any (·.1) = false := by rfl) : PE X (.Call (.Name x p) (e :: es) [] pos) (tCall (spS X.K n S) [] E0 t) := by
  obtain ⟨f, fd, ps, h1, h2, h3, h4⟩ := c.ex
  exact pe_call h1 (hr.mono hk) hg h2 h3 h4 .nil passL ha hdb he hpl
theorem pe_fn0 (c : Dfn X.prog X.w X.K X.mg X.base x k n S) (hr : Room j X.A) (hk : k ≤ j) (hg : Gl X x) (hdb : (x == ("__debug__" : Str)) = false := by decide)
    (hpl : (backTo pos (starEach [] X.env)).any (·.1) = false := by rfl) : PE X (.Call (.Name x p) [] [] pos) (tCall (spS X.K n S) [] E0 tNil) := by
  obtain ⟨f, fd, ps, h1, h2, h3, h4⟩ := c.ex
  exact pe_call0 h1 (hr.mono hk) hg h2 h3 h4 .nil passL hdb
theorem pe_fnX {W : WX} (tk : Takes X W) (c : Dfn X.prog X.w X.K X.mg X.base x k n S) (hr : Room j X.A) (hk : k ≤ j) (hg : Gl X x) (ha : PA X (e :: es) t) (hdb : (x == ("__debug__" : Str)) = false := by decide)
    (he : starEach (e :: es) X.env = (false, eval e X.env) :: starEach es X.env := by rfl) (hpl : (backTo pos (starEach es X.env)).any (·.1) = false := by rfl) : PE X (.Call (.Name x p) (e :: es) [] pos) (tCallS (spS X.K n S) (WE W) t) := by
  obtain ⟨f, fd, ps, h1, h2, h3, h4⟩ := c.ex
  exact pe_callS h1 (hr.mono hk) hg h2 h3 h4 (fun σ => passAt tk σ) ha hdb he hpl
end
section
variable {Z : Cz} {Γ : List B} {te ta tb tc : TE} {tt tu : TT} {tr : TA} {P : Po}
theorem call_at {G H : Hp} : Cz.call Z.K Z.pl H G = Z.at H G := rfl
theorem den_call {n : Nat} {S : FSpec} {E : XK} {Q : D → List B → Prop} (h : DenA Z tr Γ fun ds Γ1 => ds.length = n ∧ S.P ds ∧ (∀ d, S.R ds d → Q d Γ1) ∧ ∀ er, ¬ S.X ds er) : Den Z (tCall (spS Z.K n S) [] E tr) Γ Q := fun σ G H j e k kk =>
  h σ G H j e _ fun ds Γ1 vs G1 H1 q s1 j1 e1 r1 => by
    obtain ⟨hn, hp, hr, hx⟩ := q
    refine ⟨Z.pl, G1, ds, j1.enter, by rw [List.append_nil]; exact r1, hn, hp, fun d v G' H' a i r => ?_, fun er _ _ _ _ a => absurd a (hx er)⟩
    exact kk d Γ1 v G' H' (hr d a) (s1.trans (.of i)) (j1.leave i) (e1.called j1.toJ0 i.toJ0) r
/-- a call that may raise -/
theorem den_callX {n : Nat} {S : FSpec} {Q : D → List B → Prop} (h : DenA Z tr Γ fun ds Γ1 => ds.length = n ∧ S.P ds ∧ (∀ d, S.R ds d → Q d Γ1) ∧ ∀ er, S.X ds er → Z.X er Γ1) : Den Z (tCallS (spS Z.K n S) (WE Z.W) tr) Γ Q := fun σ G H j e k kk =>
  h σ G H j e _ fun ds Γ1 vs G1 H1 q s1 j1 e1 r1 => by
    obtain ⟨hn, hp, hr, hx⟩ := q
    refine ⟨Z.pl, G1, ds, j1.enter, r1, hn, hp, fun d v G' H' a i r => ?_, fun er cls d G' H' a i re => ?_⟩
    · exact kk d Γ1 v G' H' (hr d a) (s1.trans (.of i)) (j1.leave i) (e1.called j1.toJ0 i.toJ0) r
    · exact j1.acc er cls d σ G' H' Γ1 (hx er a) i.g0 (j1.leave i).toJ0 (e1.called j1.toJ0 i.toJ0) re
/-- __init__(self, f): self.f = f -/
def spXI (C : Addr) (f : Str) : Sp := fun vs H Q _ => ∃ (a : Addr) (y : V), vs = [.ref a, y] ∧ H a = some (exo a C none) ∧ ∀ dx, H dx = none → dx ≠ a → Q .non (upd (upd H dx (exd dx [(f, y)])) a (exo a C (some dx)))
/-- raise C(e) -/
theorem dens_raise {C : Addr} {f : Str} (h : Den Z te Γ fun x Γ1 => Z.X ⟨C, [f], [x]⟩ Γ1) : DenS Z (fun _ σ H => tMkO C (spXI C f) [] (tCons te tNil) σ H fun cls d H' => Z.W cls d σ H') Γ P := fun σ G H j e De d =>
  h σ G H j e _ fun x Γ1 v G1 H1 q s1 j1 e1 r1 => ⟨(by show 1 ≤ 1000; decide), fun a ha => ⟨a, v, rfl, upd_same, fun dx hd ne => by
    have hd1 : H1 dx = none := by rw [upd_ne ne] at hd; exact hd
    refine ⟨rfl, dx, [(f, v)], upd_same, by rw [upd_ne ne, upd_same], hd1, ?_⟩
    have eH : upd (del (upd (upd (upd H1 a (exo a C none)) dx (exd dx [(f, v)])) a (exo a C (some dx))) a) dx (.xd [(f, v)]) = upd H1 dx (.xd [(f, v)]) := by
      funext b
      by_cases h1 : b = dx
      · rw [h1, upd_same, upd_same]
      · rw [upd_ne h1, upd_ne h1]
        by_cases h2 : b = a
        · rw [h2, del_same, ha]
        · rw [del_ne h2, upd_ne h2, upd_ne h1, upd_ne h2]
    rw [eH]
    have j2 := j1.new (o := .xd [(f, v)]) hd1
    exact j2.acc ⟨C, [f], [x]⟩ _ _ σ _ _ Γ1 q (Ex.refl _) j2.toJ0 (e1.new j1.toJ0 hd1) ⟨rfl, .inr ⟨dx, [v], rfl, upd_same, rfl, .one (r1.mono (Ex.new (j1.sub.back hd1)))⟩⟩⟩⟩
end
end Ab
namespace Ab
open PySem L2
section
variable {Z : Cz} {Γ : List B} {te ta tb tc : TE} {tt tu : TT} {tr : TA} {P : Po}
/-- a name's slot emptied -/
def unset (Γ : List B) (i : Nat) : List B := Γ.set i .un
/-- the same state seen with other wishes of exceptions -/
abbrev Cz.wx (Z : Cz) (W : WX) (X : Er → List B → Prop) : Cz := { Z with W := W, X := X }
theorem En.wx {G H : Hp} {σ : L2.St} {W X} (e : En Z G H σ Γ) : En (Z.wx W X) G H σ Γ := ⟨e.len, fun i b h => by
  obtain ⟨v, h1, h2⟩ := e.at_ i b h
  refine ⟨v, h1, ?_⟩
  cases b <;> exact h2, e.dis⟩
theorem En.ofwx {G H : Hp} {σ : L2.St} {W X} (e : En (Z.wx W X) G H σ Γ) : En Z G H σ Γ := ⟨e.len, fun i b h => by
  obtain ⟨v, h1, h2⟩ := e.at_ i b h
  refine ⟨v, h1, ?_⟩
  cases b <;> exact h2, e.dis⟩
theorem J0.wx {G H : Hp} {W X} (j : J0 Z G H) : J0 (Z.wx W X) G H := j.re rfl rfl rfl
theorem J0.ofwx {G H : Hp} {W X} (j : J0 (Z.wx W X) G H) : J0 Z G H := j.re rfl rfl rfl
theorem En.exc {G H : Hp} {σ : L2.St} {i : Nat} {a : Addr} {cls : Value} {d : Option Addr} {er : Er} (e : En Z G H σ Γ) (r : RpEr0 Z.K Z.pl G cls d er) : En Z G H (σ.set i (some (.ref a))) (Γ.set i (.exc a cls d er)) :=
  e.set ⟨rfl, r⟩ fun _ o => o.elim
theorem En.unset {G H : Hp} {σ : L2.St} {i : Nat} (e : En Z G H σ Γ) : En Z G H (σ.set i none) (unset Γ i) :=
  e.un (fun k hk => List.getElem?_set_ne hk.symm) List.length_set
/-- try: body except C as n: suite -/
theorem dens_try {c : Value} {i : Nat} {tb : WX → TS} {ts : Addr → Value → Option Addr → TS} {Y : Er → List B → Prop}
    (hb : ∀ W, DenS (Z.wx W Y) (tb W) Γ P)
    (hs : ∀ er Γ', Y er Γ' → ∃ b, PySem.W.exmOne Z.K (.ref er.cls) c = some b ∧ (b = true → ∀ a d, DenS Z (ts a (.ref er.cls) d) (Γ'.set i (.exc a (.ref er.cls) d er)) ⟨fun Γ2 => P.N (unset Γ2 i), P.R, fun Γ2 => P.Bk (unset Γ2 i), fun Γ2 => P.Ct (unset Γ2 i)⟩) ∧ (b = false → Z.X er Γ')) :
    DenS Z (fun De σ H => tb (wAs Z.K c i ts Z.W De) De σ H) Γ P := fun σ G H j e De d => by
  refine hb (wAs Z.K c i ts Z.W De) σ G H ⟨j.toJ0.wx, fun er cls dd σ' G' H' Γ' hy x j' e' re => ?_⟩ e.wx De ⟨fun Γ2 σ2 G2 H2 a x j2 e2 => d.n Γ2 σ2 G2 H2 a x ⟨j2.toJ0.ofwx, j.acc.mono x⟩ e2.ofwx, fun x v G2 H2 a y j2 r2 => d.r x v G2 H2 a y ⟨j2.toJ0.ofwx, j.acc.mono y⟩ r2,
    fun Γ2 σ2 G2 H2 a x j2 e2 => d.b Γ2 σ2 G2 H2 a x ⟨j2.toJ0.ofwx, j.acc.mono x⟩ e2.ofwx, fun Γ2 σ2 G2 H2 a x j2 e2 => d.c Γ2 σ2 G2 H2 a x ⟨j2.toJ0.ofwx, j.acc.mono x⟩ e2.ofwx⟩
  obtain ⟨b, h1, h2, h3⟩ := hs er Γ' hy
  obtain rfl := re.c
  refine ⟨b, h1, fun hb a _ => ?_, fun hb => j.acc er _ dd σ' G' H' Γ' (h3 hb) x j'.ofwx e'.ofwx re⟩
  refine h2 hb a dd (σ'.set i (some (.ref a))) G' H' ⟨j'.ofwx, j.acc.mono x⟩ (e'.ofwx.exc re) _ ⟨fun Γ2 σ2 G2 H2 q y j2 e2 => ?_, fun z v G2 H2 q y j2 r2 => d.r z v G2 H2 q (x.trans y) j2 r2, fun Γ2 σ2 G2 H2 q y j2 e2 => ?_, fun Γ2 σ2 G2 H2 q y j2 e2 => ?_⟩
  · exact d.n _ _ G2 H2 q (x.trans y) j2 e2.unset
  · exact d.b _ _ G2 H2 q (x.trans y) j2 e2.unset
  · exact d.c _ _ G2 H2 q (x.trans y) j2 e2.unset
/-- try: body except C: suite -/
theorem dens_tryO {c : Value} {tb : WX → TS} {ts : Addr → Value → Option Addr → TS} {Y : Er → List B → Prop}
    (hb : ∀ W, DenS (Z.wx W Y) (tb W) Γ P)
    (hs : ∀ er Γ', Y er Γ' → ∃ b, PySem.W.exmOne Z.K (.ref er.cls) c = some b ∧ (b = true → ∀ a d, DenS Z (ts a (.ref er.cls) d) Γ' P) ∧ (b = false → Z.X er Γ')) :
    DenS Z (fun De σ H => tb (wOnly Z.K c ts Z.W De) De σ H) Γ P := fun σ G H j e De d => by
  refine hb (wOnly Z.K c ts Z.W De) σ G H ⟨j.toJ0.wx, fun er cls dd σ' G' H' Γ' hy x j' e' re => ?_⟩ e.wx De ⟨fun Γ2 σ2 G2 H2 a x j2 e2 => d.n Γ2 σ2 G2 H2 a x ⟨j2.toJ0.ofwx, j.acc.mono x⟩ e2.ofwx, fun x v G2 H2 a y j2 r2 => d.r x v G2 H2 a y ⟨j2.toJ0.ofwx, j.acc.mono y⟩ r2,
    fun Γ2 σ2 G2 H2 a x j2 e2 => d.b Γ2 σ2 G2 H2 a x ⟨j2.toJ0.ofwx, j.acc.mono x⟩ e2.ofwx, fun Γ2 σ2 G2 H2 a x j2 e2 => d.c Γ2 σ2 G2 H2 a x ⟨j2.toJ0.ofwx, j.acc.mono x⟩ e2.ofwx⟩
  obtain ⟨b, h1, h2, h3⟩ := hs er Γ' hy
  obtain rfl := re.c
  exact ⟨b, h1, fun hb a _ => h2 hb a dd σ' G' H' ⟨j'.ofwx, j.acc.mono x⟩ e'.ofwx De (d.up x), fun hb => j.acc er _ dd σ' G' H' Γ' (h3 hb) x j'.ofwx e'.ofwx re⟩
/-- e.f of the caught exception -/
theorem den_xf {i : Nat} {a : Addr} {cls : Value} {d : Option Addr} {er : Er} {C : Addr} {f : Str} {y : D} {Q : D → List B → Prop} (h : Γ[i]? = some (.exc a cls d er)) (hc : er.cls = C) (hn : er.ns = [f]) (hv : er.vs = [y]) (q : Q y Γ) : Den Z (tXf a cls d C f (tVar i)) Γ Q := fun σ G H j e k kk => by
  obtain ⟨v, h1, h2, re⟩ := e.at_ i _ h
  subst h2
  refine ⟨.ref a, h1, rfl, by rw [re.c, hc], ?_⟩
  rcases re.f with ⟨_, z, _⟩ | ⟨dd, xs, h3, h4, h5, h6⟩
  · rw [hn] at z; cases z
  · rw [hn] at h4 h5
    rw [hv] at h6
    cases h6 with
    | @cons v0 _ _ _ r1 r2 =>
      cases r2
      exact ⟨dd, [(f, v0)], v0, h3, j.sub _ _ h4, by simp [List.lookup], kk y Γ v0 G H q .refl j e r1⟩
theorem den_fld {f : Str} {Q : D → List B → Prop} (h : Den Z te Γ fun x Γ1 => ∃ C ns vs d, x = .obj C ns vs ∧ Cls Z.K C ∧ NoAttr Z.K C f ∧ (ns.zip vs).lookup f = some d ∧ Q d Γ1) : Den Z (tFld Z.K te f) Γ Q := fun σ G H j e k kk =>
  h σ G H j e _ fun x Γ1 v G1 H1 q s1 j1 e1 r1 => by
    obtain ⟨C, ns, vs, d, rfl, c, n, l, q⟩ := q
    cases r1 with
    | @obj a _ dx _ xs _ h1 h2 r1 =>
      have key : ∀ {ns : List Str} {xs : List V} {vs : List D}, Rps Z.K Z.pl G1 xs vs → (ns.zip vs).lookup f = some d → ∃ v, (ns.zip xs).lookup f = some v ∧ Rp Z.K Z.pl G1 v d := by
        intro ns
        induction ns with
        | nil => intro xs vs _ l; simp at l
        | cons n ns ih =>
          intro xs vs r l
          cases r with
          | nil => simp at l
          | @cons v0 d0 _ _ ra rb =>
            simp only [List.zip_cons_cons, List.lookup] at l ⊢
            split at l
            · cases l; exact ⟨v0, rfl, ra⟩
            · rename_i q; first | exact ih rb l | (rw [q]; exact ih rb l)
      obtain ⟨v, hv, hr⟩ := key r1 l
      exact ⟨a, C, dx, _, v, rfl, j1.sub _ _ h1, c, n, hv, kk d Γ1 v G1 H1 q s1 j1 e1 hr⟩
theorem zip_snoc {α β : Type} : ∀ {ns : List α} {xs : List β} {f : α} {y : β}, ns.length = xs.length → (ns ++ [f]).zip (xs ++ [y]) = ns.zip xs ++ [(f, y)]
  | [], [], _, _, _ => rfl
  | [], _ :: _, _, _, h => by simp at h
  | _ :: _, [], _, _, h => by simp at h
  | a :: ns, b :: xs, f, y, h => by
    simp only [List.cons_append, List.zip_cons_cons]
    rw [zip_snoc (by simpa using h)]
theorem putF_new {f : Str} {y : V} : ∀ {l : List (Str × V)}, (∀ p ∈ l, p.1 ≠ f) → putF f y l = l ++ [(f, y)]
  | [], _ => rfl
  | (g, v) :: r, h => by
    show (if g = f then (g, y) :: r else (g, v) :: putF f y r) = _
    rw [if_neg (h (g, v) List.mem_cons_self), putF_new fun p hp => h p (List.mem_cons_of_mem _ hp)]
    rfl
/-- self.f = e in an __init__, a new field -/
theorem dens_fld {m : Nat} {p C : Addr} {ns : List Str} {vs : List D} {f : Str} (hm : Γ[m]? = some (.ob p C ns vs)) (c : Cls Z.K C) (n : NoAttr Z.K C f) (hf : f ∉ ns) (hl : ns.length < 1000)
    (h : Den Z te Γ fun x Γ1 => Γ1 = Γ ∧ P.N (Γ1.set m (.ob p C (ns ++ [f]) (vs ++ [x])))) : DenS Z (sFld Z.K (tVar m) te f) Γ P := fun σ G H j e De d =>
  h σ G H j e _ fun x Γ1 vx G1 H1 q s1 j1 e1 r1 => by
    obtain ⟨rfl, q⟩ := q
    obtain ⟨v, h1, dx, xs, h2, h3, h4, h5, h6, h7⟩ := e1.at_ m _ hm
    subst h2
    have om : IsOwn Γ1[m]? := by rw [hm]; trivial
    have hmlt : m < Γ1.length := (List.getElem?_eq_some_iff.mp hm).1
    refine ⟨.ref p, h1, p, C, dx, _, rfl, h3, c, n, by rw [List.length_zip]; omega, ?_⟩
    have ez : putF f vx (ns.zip xs) = (ns ++ [f]).zip (xs ++ [vx]) := by
      rw [putF_new fun q hq z => hf (by rw [← z]; exact (List.of_mem_zip hq).1), zip_snoc h4]
    rw [ez]
    refine d.n _ σ G1 _ q s1.ex (j1.put h7 h6) ⟨by rw [List.length_set]; exact e1.len, fun i b hb => ?_, fun i n l2 o1 o2 => ?_⟩
    · by_cases hi : m = i
      · subst hi
        rw [List.getElem?_set_self hmlt] at hb
        cases hb
        exact ⟨_, h1, dx, _, rfl, upd_same, by simp [h4], h5.append (.one r1), h6, h7⟩
      · rw [List.getElem?_set_ne hi] at hb
        obtain ⟨v, a1, a2⟩ := e1.at_ i b hb
        refine ⟨v, a1, a2.mono (Ex.refl _) fun l2 o b1 b2 b3 b4 b5 => ⟨?_, b2⟩⟩
        have : l2 ≠ p := fun z => hi (e1.dis m i p om (by rw [hb]; exact b5) h1 (by rw [a1, b4, z]))
        rw [upd_ne this]; exact b1
    · have ow : ∀ i : Nat, IsOwn (Γ1.set m (.ob p C (ns ++ [f]) (vs ++ [x])))[i]? → IsOwn Γ1[i]? := fun i o => by
        by_cases hi : m = i
        · subst hi; exact om
        · rw [List.getElem?_set_ne hi] at o; exact o
      exact e1.dis i n l2 (ow i o1) (ow n o2)
end
/-- an __init__'s promise: from the arguments the fields -/
structure ISpec where
  ns : List Str
  P : List D → Prop
  R : List D → List D → Prop
  X : List D → Er → Prop := fun _ _ => False
def spI (K : PySem.W.Frag) (C : Addr) (n : Nat) (S : ISpec) : Sp := fun vs H Q E => ∃ pl G ds H1 x dx ws, vs = .ref x :: ws ∧ H = upd (upd H1 dx (.own x)) x (.ins C dx []) ∧ H1 x = none ∧ H1 dx = none ∧ dx ≠ x ∧
  J (Cz.call K pl H1 G) G H1 ∧ Rps K pl G ws ds ∧ ds.length = n ∧ S.P ds ∧
  (∀ fs G' H' dx' xs, S.R ds fs → J (Cz.call K pl H1 G) G' H' → H' x = some (.ins C dx' (S.ns.zip xs)) → S.ns.length = xs.length → Rps K pl G' xs fs → G' x = none → Q .non H') ∧
  (∀ er cls d G' H', S.X ds er → J (Cz.call K pl H1 G) G' H' → RpEr0 K pl G' cls d er → E cls d H')
section
variable {P : Program} {w : World} {K : PySem.W.Frag} {mg : Str → Option Value} {base : Heap}
theorem init_ab {qual : Str} {st : Stmt} {f C : Addr} {fd : FuncData} {N ps : List Str} {k : Nat} (F : Fun K "__init__" qual st f fd) (Sc : FnScope N ps (defScope st)) (S : ISpec) (hl : ps.length ≤ N.length) {n : Nat} (hn : ps.length = n + 1)
    (hbody : ∀ (cdv : Value) (A : Around) (outer : List PySem.Env) (s : Shared) (H : Hp) (E : XK) (x : Addr) (ds : List D) (W : WX), Room k (A.deeper (PyProof.Rows.envOfC qual (defScope st) s.heap.objs.size f cdv)) → Takes (cxOf (L2.CX P w) P w K mg base N qual (defScope st) f cdv A outer s H E) W → ds.length = n → S.P ds →
      ∃ t, PSs (cxOf (L2.CX P w) P w K mg base N qual (defScope st) f cdv A outer s H E) (defBody st) t ∧
        ∀ Z : Cz, Z.K = K → Z.W = W → (∀ er Γ, S.X ds er → Z.X er Γ) → DenS Z t (B.ob x C [] [] :: (ds.map B.d ++ List.replicate (N.length - (ds.length + 1)) .un)) ⟨fun Γ => ∃ fs, S.R ds fs ∧ Γ[0]? = some (.ob x C S.ns fs), Rt.no, fun _ => False, fun _ => False⟩) : FnOk P w K mg base (L2.CX P w) (k + 1) f fd ps (spI K C n S) := by
  refine F.okX Sc (fun vs H Q E h => ?_) (fun cdv A outer s H vs Q E hr h => ?_)
  · obtain ⟨pl, G, ds, H1, x, dx, ws, rfl, _, _, _, _, _, r, hn', _⟩ := h
    rw [List.length_cons, r.length, hn', hn]
  · obtain ⟨pl, G, ds, H1, x, dx, ws, rfl, eH, nx, ndx, ne, j, r, hn', hp, hq, he⟩ := h
    obtain ⟨t, h1, h2⟩ := hbody cdv A outer s H E x ds (fun cls d _ H => E cls d H) hr (takes_of rfl rfl rfl rfl) hn' hp
    have gx : G x = none := j.sub.back nx
    have gdx : G dx = none := j.sub.back ndx
    let Z : Cz := ⟨K, pl, H1, G, fun cls d _ H => E cls d H, fun er _ => S.X ds er⟩
    have jj : J Z G H1 := ⟨j.toJ0.re rfl rfl rfl, fun er cls d σ G' H' Γ hx _ j' _ re => he er cls d G' H' hx ⟨j'.re rfl rfl rfl, fun _ _ _ _ _ _ _ z => z.elim⟩ re⟩
    have jH : J Z G H := by
      rw [eH]
      exact (jj.put ndx gdx).put nx gx
    have e0 : En Z G H1 (L2.start (ps.tail ++ N.drop ps.length) ws) (ds.map B.d ++ List.replicate ((ps.tail ++ N.drop ps.length).length - ds.length) .un) := en_start r (by simp; omega)
    have hHx : H x = some (.ins C dx []) := by rw [eH]; exact upd_same
    have lenr : (ps.tail ++ N.drop ps.length).length - ds.length = N.length - (ds.length + 1) := by simp; omega
    have st0 : L2.start N (.ref x :: ws) = some (.ref x) :: L2.start (ps.tail ++ N.drop ps.length) ws := by
      unfold L2.start
      have : N.length - (ws.length + 1) = (ps.tail ++ N.drop ps.length).length - ws.length := by
        rw [r.length]; omega
      simp only [List.map_cons, List.cons_append, List.length_cons, this]
    have en : En Z G H (L2.start N (.ref x :: ws)) (B.ob x C [] [] :: (ds.map B.d ++ List.replicate (N.length - (ds.length + 1)) .un)) := by
      rw [st0, ← lenr]
      have e1 : En Z G H (L2.start (ps.tail ++ N.drop ps.length) ws) (ds.map B.d ++ List.replicate ((ps.tail ++ N.drop ps.length).length - ds.length) .un) := by
        rw [eH]
        refine e0.mono (Ex.refl _) fun l o b1 b2 _ _ => ⟨?_, b2⟩
        rw [upd_ne (ne_of_none b1 nx), upd_ne (ne_of_none b1 ndx)]; exact b1
      have noown : ∀ i : Nat, ¬ IsOwn (ds.map B.d ++ List.replicate ((ps.tail ++ N.drop ps.length).length - ds.length) B.un)[i]? := fun i o => by
        by_cases hi : i < ds.length
        · rw [List.getElem?_append_left (by simpa using hi), List.getElem?_map] at o
          cases q : ds[i]? with
          | none => rw [q] at o; exact o.elim
          | some d => rw [q] at o; exact o.elim
        · rw [List.getElem?_append_right (by simpa using (show ds.length ≤ i by omega)), List.getElem?_replicate] at o
          split at o
          · exact o.elim
          · exact o.elim
      refine ⟨by simp [e1.len], fun i b hb => ?_, fun i m l o1 o2 => ?_⟩
      · cases i with
        | zero =>
          simp at hb; subst hb
          exact ⟨_, rfl, dx, [], rfl, hHx, rfl, .nil, gx, nx⟩
        | succ i =>
          obtain ⟨v, a1, a2⟩ := e1.at_ i b (by simpa using hb)
          exact ⟨v, by simpa using a1, a2⟩
      · cases i with
        | zero => cases m with
          | zero => intro _ _; rfl
          | succ m => exact absurd (by simpa using o2) (noown m)
        | succ i => exact absurd (by simpa using o1) (noown i)
    refine ⟨t, h1, h2 Z rfl rfl (fun er Γ h => h) _ G H jH en _ ⟨fun Γ σ G' H' hN _ j' e' => ?_, fun _ _ _ _ z => (Rt.no_at z).elim, fun _ _ _ _ z => z.elim, fun _ _ _ _ z => z.elim⟩⟩
    obtain ⟨fs, hR, hg⟩ := hN
    obtain ⟨v, a1, dx', xs, a2, a3, a4, a5, a6, a7⟩ := e'.at_ 0 _ hg
    exact hq fs G' H' dx' xs hR ⟨j'.toJ0.re rfl rfl rfl, fun _ _ _ _ _ _ _ z => z.elim⟩ a3 a4 a5 a6
/-- C(..), as its callers know it -/
structure Mak (P : Program) (w : World) (K : PySem.W.Frag) (mg : Str → Option Value) (base : Heap) (x : Str) (C : Addr) (k n : Nat) (S : ISpec) : Prop where
  ex : ∃ f fd ps, Mk K C f ∧ FnOk P w K mg base (L2.CX P w) k f fd ps (spI K C n S) ∧ mg x = some (.ref C) ∧ Binds K fd ps []
end
section
variable {X : Cx} {x : Str} {C f : Addr} {e : Expr} {es : List Expr} {t : TA} {k n j : Nat} {S : ISpec} {p pos : Pos} {fd : FuncData} {ps : List Str} {sp : Sp} {E : L2.St → XK} {CX : CXT}
/-- C(..) that may raise -/
def tMakeS (C : Addr) (sp : Sp) (E : L2.St → XK) (t : TA) : TE := fun σ H Q => t σ H fun vs H1 => ∀ x dx, H1 x = none → H1 dx = none → dx ≠ x →
  sp (.ref x :: vs) (upd (upd H1 dx (.own x)) x (.ins C dx [])) (fun v H2 => v = .non ∧ Q (.ref x) H2) (E σ)
end
end Ab
namespace PySem
open Sem (wp)
open AutoSeq1 (wpAny_loadPart')
set_option maxHeartbeats 1000000 in
theorem ab_enumerate_newB {v : Value} {o : Obj} {H : Heap → Prop} (B : Begins v o H) :
    Meets (Builtin.«enumerate.__new__» ⟨[.type "enumerate", v], []⟩) (fun _ R s => H s.heap ∧
      R (.ok (.ret (.ref (s.heap.push o).objs.size))) { s with heap := (s.heap.push o).push { cls := .type "enumerate", data := .fields #[.none, .bool false, .ref s.heap.objs.size, rawInt 0, .none, .none] } }) :=
  .of_wp fun prog w A R s h => by
    obtain ⟨hp, g, d, tk, os⟩ := s; obtain ⟨h1, h⟩ := h
    have hsub := sub_enumerate
    have q1 : ∀ {A' : Around} {E : Value → Shared → Prop} {Q : Value → Shared → Prop}, Q (.ref hp.objs.size) ⟨hp.push o, g, d, tk, os⟩ → wpAny (model prog w) A' (pyIter v) Q E ⟨hp, g, d, tk, os⟩ :=
      fun q => B.iter prog w _ _ ⟨hp, g, d, tk, os⟩ _ h1 q
    wp_walk using q1
    refine wpAny_stack_any fun st => wpAny_pure ?_
    split
    · rename_i c _ _ _ _ _
      cases (c == Value.type "enumerate")
      · wp_walk using q1
        exact ⟨_, rfl, h⟩
      · wp_walk using q1
        exact ⟨_, rfl, h⟩
    · wp_walk using q1
      exact ⟨_, rfl, h⟩
section
variable {prog : Program} {w : World} {A : Around} {E : Value → Shared → Prop} {s : Shared}
theorem ab_enum_begins {v : Value} {o : Obj} {H : Heap → Prop} {Q : Value → Shared → Prop} (B : Begins v o H) (h1 : H s.heap)
    (h : ∀ h', IsEnum h' (s.heap.objs.size + 1) s.heap.objs.size 0 .none → h'.get? s.heap.objs.size = some o → h'.objs.size = s.heap.objs.size + 2 →
      (∀ b o, s.heap.get? b = some o → h'.get? b = some o) → Q (.ref (s.heap.objs.size + 1)) { s with heap := h' }) :
    wpAny (model prog w) A (call (.type "enumerate") [v]) Q E s := by
  refine callType_new F.called_enumerate (by decide) (F.typeCall_enumerate_1 _) (F.newCall_enumerate_1 _) (fun obj => F.args_object_init_2 obj _) F.entry_enumerate_new
    (ab_enumerate_newB B) ⟨h1, ?_⟩
  have hz : (s.heap.push o).objs.size = s.heap.objs.size + 1 := Heap.size_push ..
  show _ ∧ _
  rw [hz]
  have he : IsEnum ((s.heap.push o).push { cls := .type "enumerate", data := .fields #[.none, .bool false, .ref s.heap.objs.size, rawInt 0, .none, .none] }) (s.heap.objs.size + 1) s.heap.objs.size 0 .none := by
    have := Heap.get?_push_size (s.heap.push o) (o := { cls := .type "enumerate", data := .fields #[.none, .bool false, .ref s.heap.objs.size, rawInt 0, .none, .none] }) rfl
    rw [hz] at this; exact this
  refine ⟨⟨_, he, rfl⟩, h _ he (Heap.get?_push_of_some _ (Heap.get?_push_size _ B.free)) (by rw [Heap.size_push, hz]) fun b o x => Heap.get?_push_of_some _ (Heap.get?_push_of_some _ x)⟩
theorem ab_enum_endT {e it a : Addr} {items : Array Value} {i : Nat} {k : Int} {old : Value} {Q : Option Value → Shared → Prop} (hh : A.handled = none)
    (he : IsEnum s.heap e it k old) (hit : s.heap.IsTupleIter it a i) (ht : s.heap.IsTuple a items) (hx : items[i]? = none)
    (hQ : ∀ h', Heap.ExtBut it s.heap h' → Q none { s with heap := h' }) : wpAny (model prog w) A (pyNext (.ref e)) Q E s := by
  have hT : s.TypeIs (.ref e) "enumerate" := ⟨_, he, rfl⟩
  unfold pyNext
  refine wpAny_bind (wpAny_attempt (wpAny_callSpecial?_slot (name := Str.ofString "__next__") hT F.slot_enumerate_next
    (wpAny_call_entry F.slot_enumerate_next hT F.entry_enumerate_next ?_ (F.args_enumerate_next_1 _))))
  show wpAny _ _ (field (.ref e) 2 >>= _) _ _ _
  refine wpAny_bind (wpAny_field he rfl (x := .ref it) rfl ?_)
  refine wpAny_bind (wpAny_nextOf_tuple_end (A := A.in1) (show A.in1.handled = none from hh) hit ht hx fun h' x he' hx' => ?_)
  obtain ⟨o, ho, hc⟩ := hx'
  refine wpAny_bind (wpAny_isInstance (T := "StopIteration") (b := true) ⟨o, ho, hc⟩ isSubtype_stop ?_)
  exact wpAny_pure (hQ _ he')
end
end PySem
namespace L2
open PySem PySem.Spec PyProof.Rows
def IteT (K : PySem.W.Frag) (a : Addr) : It :=
  ⟨fun i H => ∃ (xs : List V) (x : V), SqT K H a xs ∧ xs[i]? = some x, fun i H v H' => ∃ T x, v = .ref T ∧ H T = none ∧ H' = upd H T (.tup [.int (i : Nat), x]) ∧ ∀ xs, SqT K H a xs → xs[i]? = some x, fun i H => ∃ xs : List V, SqT K H a xs ∧ xs.length ≤ i⟩
theorem turn_enumT {P : Program} {w : World} {K : PySem.W.Frag} {elts : List Expr} {kk : Nat} {tpos : Pos} (a e it : Addr) :
    Turn P w K (.Tuple elts kk tpos) (IteT K a) [e, it] e (fun i h => (∃ old, IsEnum h e it ((i : Nat) : Int) old) ∧ h.IsTupleIter it a i ∧ e ≠ it ∧ a ≠ it ∧ a ≠ e) where
  mem := by simp
  obj := fun i h st b hb => by
    obtain ⟨⟨old, he⟩, ⟨o, ho, hc, hd⟩, _⟩ := st
    have e' : b = e ∨ b = it := by simpa using hb
    rcases e' with z | z
    · rw [z]; exact ⟨_, he, fun v q => nomatch q⟩
    · rw [z]; exact ⟨o, ho, fun v q => by rw [hd] at q; cases q⟩
  keep := fun i h h' st k => let ⟨⟨old, he⟩, hi, hne⟩ := st; ⟨⟨old, k e (by simp) _ he⟩, hi.at fun o q => k it (by simp) o q, hne⟩
  item := by
    intro X hP hw hK hc i pins s σ H E I hf st hg
    subst hP hw hK
    obtain ⟨⟨old, he⟩, hit, hne, hai, hae⟩ := st
    obtain ⟨xs, x, hq, hx⟩ := hg
    obtain ⟨its, rv, p, hz⟩ := I.tuple hq
    obtain ⟨u, hu, ru⟩ := rv.get hx
    have hel : e < s.heap.objs.size := Heap.lt_size he
    have hil : it < s.heap.objs.size := by obtain ⟨_, q, _⟩ := hit; exact Heap.lt_size q
    have hh : X.A.handled = none := I.ok.hd hc
    have D : Draws X.prog X.w X.A.in1 it [it, a] its.toArray.size (fun i v => its.toArray[i]? = some v) (fun i h => h.IsTupleIter it a i ∧ h.IsTuple a its.toArray) := Draws.tuple (A := X.A.in1) (show X.A.in1.handled = none from hh) it a hai its.toArray
    have hlt : i < its.toArray.size := by
      have := (List.getElem?_eq_some_iff.mp hu).1
      simpa using this
    refine wpAny_pyNext_enum_itemD D he ⟨hit, show s.heap.IsTuple a its.toArray from p⟩ hlt hne (by simp [hne, Ne.symm hae]) fun x' h' tk hP ho hst' hT hsz hk => ?_
    have ex : x' = u := by
      have z : its.toArray[i]? = some u := by simpa using hu
      rw [z] at hP; exact (Option.some.inj hP).symm
    subst ex
    refine ⟨_, rfl, wpAny_letOwnedTupleGo_enum (s := { s with heap := h', toks := tk + 1 }) ho fun h'' he' sb => ?_⟩
    have hT2 : h''.get? s.heap.objs.size = some { cls := .type "tuple", data := .seq #[.int i tk, x'] } := (sb.2 _ (Nat.ne_of_gt hel)).trans hT
    have new : ObjOk X.prog X.w (upd H s.heap.objs.size (.tup [.int (i : Nat), x])) h'' s.heap.objs.size (.tup [.int (i : Nat), x]) :=
      ⟨by show 2 ≤ sizeLine; decide, [.int i tk, x'], .cons ⟨_, rfl⟩ (.cons ru .nil), ⟨_, hT2, rfl, _, rfl⟩⟩
    have I1 : Inv X pins σ (upd H s.heap.objs.size (.tup [.int (i : Nat), x])) { s with heap := h'', toks := tk + 1 } :=
      I.turnedNew (ch := [e, it]) (fun b ob hb q => (sb.2 b (fun z => hb (by simp [z]))).trans (hk b ob (fun z => hb (by simp [z])) (fun z => hb (by simp [z])) q)) hf (Nat.le_refl _) new
    refine ⟨.ref s.heap.objs.size, _, I1, rfl, ⟨_, x, rfl, I.hok.fresh (Nat.le_refl _), rfl, fun ys hy => by rw [I.tuple_inj hy hq]; exact hx⟩, ⟨⟨x', ?_⟩, hst'.1.at fun o q => (sb.2 it (Ne.symm hne)).trans q, hne, hai, hae⟩, fun b hb => ?_⟩
    · have e1 : ((i + 1 : Nat) : Int) = (i : Int) + 1 := by omega
      rw [e1]; exact he'
    · have hb' : b < s.heap.objs.size := by
        have e' : b = e ∨ b = it := by simpa using hb
        rcases e' with z | z
        · rw [z]; exact hel
        · rw [z]; exact hil
      rw [upd_ne (Nat.ne_of_lt hb')]
      exact (hf b hb).1
  done := by
    intro X hP hw hK hc i pins s σ H E I hf st hg
    subst hP hw hK
    obtain ⟨⟨old, he⟩, hit, hne, hai, hae⟩ := st
    obtain ⟨xs, hq, hx⟩ := hg
    obtain ⟨its, rv, p, hz⟩ := I.tuple hq
    obtain ⟨f0, f1, f2, f3, f4, f5⟩ := hf it (by simp)
    have hl := rv.length
    have hh : X.A.handled = none := I.ok.hd hc
    exact ab_enum_endT hh he hit (show s.heap.IsTuple a its.toArray from p) (by simp; omega) fun h' eb => ⟨rfl, I.turned (t' := s.toks) (fun b o hb q => eb b o hb q) f0 f1 f3 f4 f5⟩
  self := fun A i s Q E st h => let ⟨⟨_, he⟩, _⟩ := st; wpAny_pyIter_enum he h
def iEnumA (K : PySem.W.Frag) (ta : TA) : TI := fun σ H R => ta σ H fun vs H1 => ∃ a xs, vs = [.ref a] ∧ ((SqL K H1 a xs ∧ R (Ite K a) H1) ∨ (SqT K H1 a xs ∧ R (IteT K a) H1))
theorem pi_enumA {X : Cx} {e : Expr} {ta : TA} {p pos tpos : Pos} {elts : List Expr} {kk : Nat} (hg : Gl X "enumerate") (hm : X.mg "enumerate" = none) (ha : PA X [e] ta) (hs : starEach [e] X.env = [(false, eval e X.env)] := by rfl) :
    PI X (.Tuple elts kk tpos) (.Call (.Name "enumerate" p) [e] [] pos) (iEnumA X.K ta) := by
  refine ⟨fun pins s σ H R I h => ?_⟩
  refine Call_ (ld_blt I hg hm boot_enumerate (PyProof.Rows.callWith_type1 (thn (ha.run pos pins s σ H _ I h) fun us s1 ⟨vs, H1, I1, r1, q1⟩ => ?_) hs rfl))
  obtain ⟨a, xs, ex, q⟩ := q1
  subst ex
  cases r1 with
  | cons r rr =>
    cases rr
    cases r
    have fresh2 : ∀ b, b ∈ [s1.heap.objs.size + 1, s1.heap.objs.size] → FpOk X pins H1 b := fun b hb => by
      have e' : b = s1.heap.objs.size + 1 ∨ b = s1.heap.objs.size := by simpa using hb
      have hle : s1.heap.objs.size ≤ b := by
        rcases e' with z | z
        · rw [z]; exact Nat.le_add_right _ _
        · rw [z]; exact Nat.le_refl _
      exact I1.fpOk hle (I1.hok.fresh hle)
    rcases q with ⟨hq, q⟩ | ⟨hq, q⟩
    · obtain ⟨its, rv, p', hz⟩ := I1.list hq
      refine call_enumerate_list p'.isList fun h' he hit hsz hk => wpAny_pyIter_enum he ?_
      have I2 : Inv X pins σ H1 { s1 with heap := h' } := I1.kept (t' := s1.toks) hk
      exact ⟨s1.heap.objs.size + 1, [s1.heap.objs.size + 1, s1.heap.objs.size], _, _, H1, rfl, I2, turn_enum a (s1.heap.objs.size + 1) s1.heap.objs.size, ⟨⟨.none, he⟩, hit, Nat.succ_ne_self _⟩, fresh2, q⟩
    · obtain ⟨its, rv, p', hz⟩ := I1.tuple hq
      obtain ⟨o1, ho1, _⟩ := id p'
      have hlt := Heap.lt_size ho1
      refine ab_enum_begins (begins_tuple a its.toArray) (show s1.heap.IsTuple a its.toArray from p') fun h' he hit hsz hk => wpAny_pyIter_enum he ?_
      have I2 : Inv X pins σ H1 { s1 with heap := h' } := I1.kept (t' := s1.toks) hk
      exact ⟨s1.heap.objs.size + 1, [s1.heap.objs.size + 1, s1.heap.objs.size], _, _, H1, rfl, I2, turn_enumT a (s1.heap.objs.size + 1) s1.heap.objs.size, ⟨⟨.none, he⟩, ⟨_, hit, rfl, rfl⟩, Nat.succ_ne_self _, Nat.ne_of_lt hlt, Nat.ne_of_lt (Nat.lt_succ_of_lt hlt)⟩, fresh2, q⟩
end L2
namespace Ab
open PySem L2
section
variable {Z : Cz} {Γ : List B} {tr : TA}
theorem sqt_of {G G' H' : Hp} {a : Addr} {vs : List V} (h : SqT Z.K G a vs) (x : Ex G G') (j : J Z G' H') : SqT Z.K H' a vs := j.sub.sqt (x.sqt h)
theorem sql_of {G G' H' : Hp} {a : Addr} {vs : List V} (h : G a = some (.lst vs)) (x : Ex G G') (j : J Z G' H') : SqL Z.K H' a vs := .inl (.inl (j.sub _ _ (x _ _ h)))
def enumD (xs : List D) : List D := (List.range xs.length).zipWith (fun i x => .tup [.int (i : Nat), x]) xs
theorem enumD_len (xs : List D) : (enumD xs).length = xs.length := by simp [enumD]
theorem enumD_get {xs : List D} {i : Nat} {d : D} (h : xs[i]? = some d) : (enumD xs)[i]? = some (.tup [.int (i : Nat), d]) := by
  have hi := (List.getElem?_eq_some_iff.mp h).1
  unfold enumD
  rw [List.getElem?_zipWith, h]
  simp [hi]
theorem enumD_inv {xs : List D} {i : Nat} {d : D} (h : (enumD xs)[i]? = some d) : ∃ x, xs[i]? = some x ∧ d = .tup [.int (i : Nat), x] := by
  have hi : i < xs.length := by rw [← enumD_len]; exact (List.getElem?_eq_some_iff.mp h).1
  have hx : xs[i]? = some xs[i] := by simp [hi]
  rw [enumD_get hx] at h
  exact ⟨_, hx, (Option.some.inj h).symm⟩
/-- a new pair joins the still part -/
theorem pair_new {G H : Hp} {p : Addr} {x y : V} {a b : D} (j : J Z G H) (hp : H p = none) (ra : Rp Z.K Z.pl G x a) (rb : Rp Z.K Z.pl G y b) : ∃ G'', J (Z.at H G) G'' (upd H p (.tup [x, y])) ∧ Rp Z.K Z.pl G'' (.ref p) (.tup [a, b]) := by
  have x := Ex.new (o := .tup [x, y]) (j.sub.back hp)
  exact ⟨_, j.enter.new hp, .tup (SqT.of upd_same) (.cons (ra.mono x) (.cons (rb.mono x) .nil))⟩
theorem deni_enumT {Q : List D → List B → Prop} (h : DenA Z tr Γ fun xs Γ1 => ∃ ys, (xs = [.tup ys] ∨ xs = [.lst ys]) ∧ Q (enumD ys) Γ1) : DenI Z (iEnumA Z.K tr) Γ Q := fun σ G H j e k kk =>
  h σ G H j e _ fun xs Γ1 vs G1 H1 q s1 j1 e1 r1 => by
    obtain ⟨ys, hx, q⟩ := q
    rcases hx with rfl | rfl
    · cases r1 with
      | cons a b =>
        cases b
        cases a with
        | @tup a ws _ h1 r =>
          refine ⟨a, ws, rfl, .inr ⟨sqt_of h1 (Ex.refl _) j1, kk _ Γ1 _ G1 H1 q s1 j1 e1 ⟨fun G' H' i x j' hi => ?_, fun G' H' x j' => ?_, fun G' H' i v H'' x j' hi y => ?_⟩⟩⟩
          · rw [enumD_len, ← r.length] at hi
            exact ⟨ws, ws[i], sqt_of h1 x j', by simp [hi]⟩
          · exact ⟨ws, sqt_of h1 x j', by rw [enumD_len, r.length]; exact Nat.le_refl _⟩
          · obtain ⟨T, v0, rfl, hT, rfl, hv⟩ := y
            obtain ⟨d, hd, hr⟩ := r.getV (hv ws (sqt_of h1 x j'))
            obtain ⟨G2, j2, r2⟩ := pair_new j' hT (.int (i : Nat)) (hr.mono x)
            exact ⟨G2, _, enumD_get hd, j2, r2⟩
    · cases r1 with
      | cons a b =>
        cases b
        cases a with
        | @lst a ws _ h1 r =>
          refine ⟨a, ws, rfl, .inl ⟨sql_of h1 (Ex.refl _) j1, kk _ Γ1 _ G1 H1 q s1 j1 e1 ⟨fun G' H' i x j' hi => ?_, fun G' H' x j' => ?_, fun G' H' i v H'' x j' hi y => ?_⟩⟩⟩
          · rw [enumD_len, ← r.length] at hi
            exact ⟨ws, ws[i], sql_of h1 x j', by simp [hi]⟩
          · exact ⟨ws, sql_of h1 x j', by rw [enumD_len, r.length]; exact Nat.le_refl _⟩
          · obtain ⟨T, v0, rfl, hT, rfl, hv⟩ := y
            obtain ⟨d, hd, hr⟩ := r.getV (hv ws (sql_of h1 x j'))
            obtain ⟨G2, j2, r2⟩ := pair_new j' hT (.int (i : Nat)) (hr.mono x)
            exact ⟨G2, _, enumD_get hd, j2, r2⟩
/-- zip of two tuples or two lists -/
def zipD (xs ys : List D) : List D := List.zipWith (fun x y => .tup [x, y]) xs ys
theorem zipD_len (xs ys : List D) : (zipD xs ys).length = min xs.length ys.length := by simp [zipD]
theorem zipD_get {xs ys : List D} {i : Nat} {a b : D} (h : xs[i]? = some a) (g : ys[i]? = some b) : (zipD xs ys)[i]? = some (.tup [a, b]) := by
  unfold zipD
  rw [List.getElem?_zipWith, h, g]
theorem zipD_inv {xs ys : List D} {i : Nat} {d : D} (h : (zipD xs ys)[i]? = some d) : ∃ a b, xs[i]? = some a ∧ ys[i]? = some b ∧ d = .tup [a, b] := by
  have hi : i < min xs.length ys.length := by rw [← zipD_len]; exact (List.getElem?_eq_some_iff.mp h).1
  have hx : xs[i]? = some xs[i] := by simp [show i < xs.length by omega]
  have hy : ys[i]? = some ys[i] := by simp [show i < ys.length by omega]
  rw [zipD_get hx hy] at h
  exact ⟨_, _, hx, hy, (Option.some.inj h).symm⟩
theorem deni_zip {Q : List D → List B → Prop} (h : DenA Z tr Γ fun xs Γ1 => ∃ us ys, (xs = [.tup us, .tup ys] ∨ xs = [.lst us, .lst ys]) ∧ Q (zipD us ys) Γ1) : DenI Z (RZ.iZipA Z.K tr) Γ Q := fun σ G H j e k kk =>
  h σ G H j e _ fun xs Γ1 vs G1 H1 q s1 j1 e1 r1 => by
    obtain ⟨us, ys, hx, q⟩ := q
    rcases hx with rfl | rfl
    · cases r1 with
      | cons a b => cases b with
        | cons b c =>
          cases c
          cases a with
          | @tup a ws _ h1 r => cases b with
            | @tup b zs _ h2 r' =>
              refine ⟨a, b, ws, zs, rfl, .inr ⟨sqt_of h1 (Ex.refl _) j1, sqt_of h2 (Ex.refl _) j1, kk _ Γ1 _ G1 H1 q s1 j1 e1 ⟨fun G' H' i x j' hi => ?_, fun G' H' x j' => ?_, fun G' H' i v H'' x j' hi y => ?_⟩⟩⟩
              · rw [zipD_len, ← r.length, ← r'.length] at hi
                exact ⟨ws, zs, ws[i], zs[i], sqt_of h1 x j', sqt_of h2 x j', by simp [show i < ws.length by omega], by simp [show i < zs.length by omega]⟩
              · exact ⟨ws, zs, sqt_of h1 x j', sqt_of h2 x j', by rw [zipD_len, r.length, r'.length]; omega⟩
              · obtain ⟨T, v0, v1, rfl, hT, rfl, hv, hw⟩ := y
                obtain ⟨d, hd, hr⟩ := r.getV (hv ws (sqt_of h1 x j'))
                obtain ⟨d', hd', hr'⟩ := r'.getV (hw zs (sqt_of h2 x j'))
                obtain ⟨G2, j2, r2⟩ := pair_new j' hT (hr.mono x) (hr'.mono x)
                exact ⟨G2, _, zipD_get hd hd', j2, r2⟩
    · cases r1 with
      | cons a b => cases b with
        | cons b c =>
          cases c
          cases a with
          | @lst a ws _ h1 r => cases b with
            | @lst b zs _ h2 r' =>
              refine ⟨a, b, ws, zs, rfl, .inl ⟨sql_of h1 (Ex.refl _) j1, sql_of h2 (Ex.refl _) j1, kk _ Γ1 _ G1 H1 q s1 j1 e1 ⟨fun G' H' i x j' hi => ?_, fun G' H' x j' => ?_, fun G' H' i v H'' x j' hi y => ?_⟩⟩⟩
              · rw [zipD_len, ← r.length, ← r'.length] at hi
                exact ⟨ws, zs, ws[i], zs[i], sql_of h1 x j', sql_of h2 x j', by simp [show i < ws.length by omega], by simp [show i < zs.length by omega]⟩
              · exact ⟨ws, zs, sql_of h1 x j', sql_of h2 x j', by rw [zipD_len, r.length, r'.length]; omega⟩
              · obtain ⟨T, v0, v1, rfl, hT, rfl, hv, hw⟩ := y
                obtain ⟨d, hd, hr⟩ := r.getV (hv ws (sql_of h1 x j'))
                obtain ⟨d', hd', hr'⟩ := r'.getV (hw zs (sql_of h2 x j'))
                obtain ⟨G2, j2, r2⟩ := pair_new j' hT (hr.mono x) (hr'.mono x)
                exact ⟨G2, _, zipD_get hd hd', j2, r2⟩
end
end Ab
namespace Ab
open PySem L2
section
variable {X : Cx} {x : Str} {C f : Addr} {e : Expr} {es : List Expr} {t : TA} {k n j : Nat} {S : ISpec} {p pos : Pos} {fd : FuncData} {ps : List Str} {sp : Sp} {E : L2.St → XK} {CX : CXT}
theorem run_makeS {pins : List (Addr × Obj)} {σ : L2.St} {H : Hp} {s : Shared} {Q : VK} {us : List Value} {vs : List V} (M : Mk X.K C f) (F : FnOk X.prog X.w X.K X.mg X.base CX k f fd ps sp) (hr : Room (k + 1) X.A) (hb : Binds X.K fd ps [])
    (hx : PassesAt CX X σ (E σ)) (I : Inv X pins σ H s) (r : Vals vs us)
    (h : ∀ x dx, H x = none → H dx = none → dx ≠ x → sp (.ref x :: vs) (upd (upd H dx (.own x)) x (.ins C dx [])) (fun v H2 => v = .non ∧ Q (.ref x) H2) (E σ)) :
    PySem.wpAny (model X.prog X.w) X.A (call (.ref C) us) (EP X pins σ Q) X.xe s := by
  have hq := h (s.heap.objs.size + 1) s.heap.objs.size (I.hok.fresh (Nat.le_succ _)) (I.hok.fresh (Nat.le_refl _)) (Nat.ne_of_lt (Nat.lt_succ_self _))
  have I2 := Inv.made (C := C) I
  have r2 : Vals (V.ref (s.heap.objs.size + 1) :: vs) (Value.ref (s.heap.objs.size + 1) :: us) := .cons rfl r
  have hl : (Value.ref (s.heap.objs.size + 1) :: us).length = ps.length := by
    have e := r2.length
    rw [F.len _ _ _ _ hq] at e
    exact e.symm
  have b := hb _ (Value.ref (s.heap.objs.size + 1) :: us) I2.kIn (by rw [List.append_nil]; exact hl)
  rw [List.append_nil] at b
  refine PySem.wpAny_call (make_map (f := f) I.kIn M.makes M.init (beq_iff_eq.mp M.fn) (codeAny_mono (F.run _ X.stack _ _ ⟨Value.ref (s.heap.objs.size + 1) :: us, []⟩ (Value.ref (s.heap.objs.size + 1) :: us) _ _ (E σ) (hr.make C us [])
    (I2.env0.make C us []) b r2 hq) fun r s' hq' => ?_))
  cases r with
  | error e => exact hx pins _ _ e s' I2 hq'
  | ok fl =>
    cases fl with
    | ret u =>
      obtain ⟨v, H', I3, rv, ev, q3⟩ := I2.after hq'
      subst ev
      exact ⟨rv, ⟨V.ref (s.heap.objs.size + 1), H', I3, rfl, q3⟩⟩
    | next => exact False.elim hq'
    | brk => exact False.elim hq'
    | cont => exact False.elim hq'
theorem pe_makeS (M : Mk X.K C f) (F : FnOk X.prog X.w X.K X.mg X.base CX k f fd ps sp) (hr : Room (k + 1) X.A) (hg : Gl X x) (hm : X.mg x = some (.ref C)) (hb : Binds X.K fd ps []) (hx : ∀ σ, PassesAt CX X σ (E σ))
    (ha : PA X (e :: es) t) (hdb : (x == ("__debug__" : Str)) = false := by decide) (he : starEach (e :: es) X.env = (false, eval e X.env) :: starEach es X.env := by rfl) (hpl : (backTo pos (starEach es X.env)).any (·.1) = false := by rfl) :
    PE X (.Call (.Name x p) (e :: es) [] pos) (tMakeS C sp E t) := by
  refine ⟨fun pins s σ H Q I h => ?_⟩
  refine PySem.wpAny_Call_Name_kw (ld_glob I hg hm ?_ hdb)
  refine PySem.W.callWith_K (h₀ := X.base) I.ok.mod.kin M.kp (thn (ha.run pos pins s σ H _ I h) fun us s1 ⟨vs, H1, I1, r, q⟩ => ⟨I1.kIn, ?_⟩) he hpl
  exact run_makeS M F hr hb (hx σ) I1 r q
theorem pe_mkX {W : WX} (tk : Takes X W) (c : Mak X.prog X.w X.K X.mg X.base x C k n S) (hr : Room j X.A) (hk : k + 1 ≤ j) (hg : Gl X x) (ha : PA X (e :: es) t) (hdb : (x == ("__debug__" : Str)) = false := by decide)
    (he : starEach (e :: es) X.env = (false, eval e X.env) :: starEach es X.env := by rfl) (hpl : (backTo pos (starEach es X.env)).any (·.1) = false := by rfl) : PE X (.Call (.Name x p) (e :: es) [] pos) (tMakeS C (spI X.K C n S) (WE W) t) := by
  obtain ⟨f, fd, ps, M, h1, h2, h4⟩ := c.ex
  exact pe_makeS M h1 (hr.mono hk) hg h2 h4 (fun σ => passAt tk σ) ha hdb he hpl
theorem pe_mk0 (c : Mak X.prog X.w X.K X.mg X.base x C k n S) (hr : Room j X.A) (hk : k + 1 ≤ j) (hg : Gl X x) (ha : PA X (e :: es) t) (hdb : (x == ("__debug__" : Str)) = false := by decide)
    (he : starEach (e :: es) X.env = (false, eval e X.env) :: starEach es X.env := by rfl) (hpl : (backTo pos (starEach es X.env)).any (·.1) = false := by rfl) : PE X (.Call (.Name x p) (e :: es) [] pos) (tMakeS C (spI X.K C n S) (fun _ => E0) t) := by
  obtain ⟨f, fd, ps, M, h1, h2, h4⟩ := c.ex
  exact pe_makeS M h1 (hr.mono hk) hg h2 h4 (fun σ pins H s e s' I c => passL pins σ H s e s' I c) ha hdb he hpl
end
section
variable {Z : Cz} {Γ : List B} {te ta tb tc : TE} {tt tu : TT} {tr : TA} {P : Po}
theorem made_state {G H G' H' : Hp} {σ : L2.St} {x dx' C : Addr} {ns : List Str} {xs : List V} {fs : List D} (j : J Z G H) (e : En Z G H σ Γ) (nx : H x = none) (i : J (Z.at H G) G' H') (hx : H' x = some (.ins C dx' (ns.zip xs))) (hl : ns.length = xs.length) (r : Rps Z.K Z.pl G' xs fs) (gx : G' x = none) :
    ∃ G'', Sp1 Z σ Γ Γ G H G'' H' ∧ J Z G'' H' ∧ En Z G'' H' σ Γ ∧ Rp Z.K Z.pl G'' (.ref x) (.obj C ns fs) := by
  have j' := j.leave i
  have e' := e.called j.toJ0 i.toJ0
  have s := Sp1.of (σ := σ) (Γ := Γ) i
  refine ⟨upd G' x (.ins C dx' (ns.zip xs)), ⟨s.ex.trans (Ex.new gx), fun _ h => h, fun a o ha n w => ?_, s.tr⟩, j'.still (j.old nx) hx gx, e'.mono (Ex.new gx) fun l o b1 b2 b3 ⟨m, o1, o2⟩ => ⟨b1, ?_⟩, .obj upd_same hl (r.mono (Ex.new gx))⟩
  · obtain ⟨h1, h2⟩ := s.fr a o ha n w
    exact ⟨h1, fun z => by rw [upd_ne (ne_of_none ha nx)]; exact h2 z⟩
  · have : l ≠ x := fun z => e.noown nx m o1 (by rw [o2, z])
    rw [upd_ne this]; exact b2
theorem den_makeX {n : Nat} {C : Addr} {S : ISpec} {Q : D → List B → Prop} (h : DenA Z tr Γ fun ds Γ1 => ds.length = n ∧ S.P ds ∧ (∀ fs, S.R ds fs → Q (.obj C S.ns fs) Γ1) ∧ ∀ er, S.X ds er → Z.X er Γ1) : Den Z (tMakeS C (spI Z.K C n S) (WE Z.W) tr) Γ Q := fun σ G H j e k kk =>
  h σ G H j e _ fun ds Γ1 vs G1 H1 q s1 j1 e1 r1 x dx nx ndx ne => by
    obtain ⟨hn, hp, hr, hx⟩ := q
    refine ⟨Z.pl, G1, ds, H1, x, dx, vs, rfl, rfl, nx, ndx, ne, j1.enter, r1, hn, hp, fun fs G' H' dx' xs a i h1 h2 r gx => ⟨rfl, ?_⟩, fun er cls d G' H' a i re => ?_⟩
    · obtain ⟨G2, s2, j2, e2, r2⟩ := made_state j1 e1 nx i h1 h2 r gx
      exact kk _ Γ1 _ G2 H' (hr fs a) (s1.trans s2) j2 e2 r2
    · exact j1.acc er cls d σ G' H' Γ1 (hx er a) i.g0 (j1.leave i).toJ0 (e1.called j1.toJ0 i.toJ0) re
theorem den_make0 {n : Nat} {C : Addr} {S : ISpec} {E : L2.St → XK} {Q : D → List B → Prop} (h : DenA Z tr Γ fun ds Γ1 => ds.length = n ∧ S.P ds ∧ (∀ fs, S.R ds fs → Q (.obj C S.ns fs) Γ1) ∧ ∀ er, ¬ S.X ds er) : Den Z (tMakeS C (spI Z.K C n S) E tr) Γ Q := fun σ G H j e k kk =>
  h σ G H j e _ fun ds Γ1 vs G1 H1 q s1 j1 e1 r1 x dx nx ndx ne => by
    obtain ⟨hn, hp, hr, hx⟩ := q
    refine ⟨Z.pl, G1, ds, H1, x, dx, vs, rfl, rfl, nx, ndx, ne, j1.enter, r1, hn, hp, fun fs G' H' dx' xs a i h1 h2 r gx => ⟨rfl, ?_⟩, fun er cls d G' H' a i re => absurd a (hx er)⟩
    obtain ⟨G2, s2, j2, e2, r2⟩ := made_state j1 e1 nx i h1 h2 r gx
    exact kk _ Γ1 _ G2 H' (hr fs a) (s1.trans s2) j2 e2 r2
theorem den_ty {T : String} {Q : D → List B → Prop} (q : Q (.ty T) Γ) : Den Z (tC (.ty T)) Γ Q := fun σ G H j e k kk => kk _ _ _ G H q .refl j e (.ty T)
theorem den_cls {C : Addr} {Q : D → List B → Prop} (q : Q (.cls C) Γ) : Den Z (tC (.ref C)) Γ Q := fun σ G H j e k kk => kk _ _ _ G H q .refl j e (.cls C)
theorem dent_chain {r r' : R2} {Q : Bool → List B → Prop} (h : Den Z (tChain r r' ta tb tc) Γ fun x Γ1 => ∃ b, x = .bl b ∧ Q b Γ1) : DenT Z (tTest (tChain r r' ta tb tc)) Γ Q := dent_test h
end
end Ab
namespace L2
open PySem PySem.Spec PyProof.Rows
section
variable {X : Cx} {tg : Expr}
/-- a walk over a list or a tuple -/
def iSeq (K : PySem.W.Frag) (tl : TE) : TI := fun σ H R => tl σ H fun x H1 => ∃ a, x = .ref a ∧ (((∃ xs, SqL K H1 a xs) ∧ R (Itl K a) H1) ∨ ((∃ xs, SqT K H1 a xs) ∧ R (Itt K a) H1))
theorem pi_seq {l : Expr} {tl : TE} (hl : PE X l tl) : PI X tg l (iSeq X.K tl) := by
  refine ⟨fun pins s σ H R I h => ?_⟩
  refine thn (hl.run pins s σ H _ I h) fun v s1 ⟨x, H1, I1, r1, q1⟩ => ?_
  obtain ⟨a, e, q1⟩ := q1
  subst e
  cases r1
  have fr : ∀ b ∈ [s1.heap.objs.size], FpOk X pins H1 b := fun b hb => by
    have e : b = s1.heap.objs.size := by simpa using hb
    subst e
    exact I1.fpOk (Nat.le_refl _) (I1.hok.fresh (Nat.le_refl _))
  rcases q1 with ⟨⟨xs, hq⟩, q⟩ | ⟨⟨xs, hq⟩, q⟩
  · obtain ⟨its, rv, p, hz⟩ := I1.list hq
    refine wpAny_pyIter_list p.isList ?_
    exact ⟨s1.heap.objs.size, [s1.heap.objs.size], _, _, H1, rfl, I1.kept (t' := s1.toks) fun b o e => Heap.get?_push_of_some _ e, turn_list a _, ⟨_, Heap.get?_push_size _ rfl, rfl, rfl⟩, fr, q⟩
  · obtain ⟨its, rv, p, hz⟩ := I1.tuple hq
    refine wpAny_pyIter_tuple (show s1.heap.IsTuple a its.toArray from p) ?_
    exact ⟨s1.heap.objs.size, [s1.heap.objs.size], _, _, H1, rfl, I1.kept (t' := s1.toks) fun b o e => Heap.get?_push_of_some _ e, turn_tuple a _, ⟨_, Heap.get?_push_size _ rfl, rfl, rfl⟩, fr, q⟩
def rAddI : R2 := rI0 fun i j => .int (i + j)
def rAddS : R2 := fun x y H Q => ∃ i j, x = .str i ∧ y = .str j ∧ i.length + j.length ≤ sizeLine ∧ Q (.str (i ++ j)) H
def rPlus (K : PySem.W.Frag) : R2 := fun x y H Q => rAddI x y H Q ∨ (rCatA K x y H Q ∨ (rCat x y H Q ∨ rAddS x y H Q))
theorem op_plus : OpR X (binaryOp .Add) (rPlus X.K) := op_add.or (op_catA.or (op_cat.or op_add_str))
def rMulI : R2 := rI CMul fun i j => .int (i * j)
def rMulW : R2 := rI CMulW fun i j => .int (i * j)
def rTimes (K : PySem.W.Frag) : R2 := fun x y H Q => rMulI x y H Q ∨ (rRepT K x y H Q ∨ (rRep x y H Q ∨ rMulW x y H Q))
theorem op_times : OpR X (binaryOp .Mult) (rTimes X.K) := op_mul.or (op_repT.or (op_rep.or op_mulW))
def rEqq (K : PySem.W.Frag) : R2 := fun x y H Q => rEq x y H Q ∨ rEqD K x y H Q
theorem op_eqq (hu : X.A.units + 64 < cLine) : OpR X (compareOp .Eq) (rEqq X.K) := op_eq.or (op_eqD hu)
def rNeq (K : PySem.W.Frag) : R2 := fun x y H Q => rNe x y H Q ∨ rNeD K x y H Q
theorem op_neqq (hu : X.A.units + 64 < cLine) : OpR X (compareOp .NotEq) (rNeq X.K) := op_ne.or (op_neD hu)
def rSlG (K : PySem.W.Frag) : V → Option Int → Option Int → Hp → VK → Prop := fun x lo hi H Q => rSlA K x lo hi H Q ∨ rSlL K x lo hi H Q
theorem sl_any : SlR X (rSlG X.K) := sl_tupA.or sl_list
end
end L2
namespace Ab
open PySem L2
section
variable {Z : Cz} {Γ : List B} {te ta tb tc : TE} {tt tu : TT} {tr : TA} {P : Po}
theorem OpD.inl {r r' : R2} {x y : D} {Q : D → Prop} (h : OpD Z r x y Q) : OpD Z (fun x y H Q => r x y H Q ∨ r' x y H Q) x y Q := fun G H vx vy j rx ry k kk => .inl (h G H vx vy j rx ry k kk)
theorem OpD.inr {r r' : R2} {x y : D} {Q : D → Prop} (h : OpD Z r' x y Q) : OpD Z (fun x y H Q => r x y H Q ∨ r' x y H Q) x y Q := fun G H vx vy j rx ry k kk => .inr (h G H vx vy j rx ry k kk)
theorem OpL.inl {r r' : R2} {x y : D} {Q : List D → Prop} (h : OpL Z r x y Q) : OpL Z (fun x y H Q => r x y H Q ∨ r' x y H Q) x y Q := fun G H vx vy j rx ry k kk => .inl (h G H vx vy j rx ry k kk)
theorem OpL.inr {r r' : R2} {x y : D} {Q : List D → Prop} (h : OpL Z r' x y Q) : OpL Z (fun x y H Q => r x y H Q ∨ r' x y H Q) x y Q := fun G H vx vy j rx ry k kk => .inr (h G H vx vy j rx ry k kk)
theorem plus_int {i j : Int} {Q : D → Prop} (q : Q (.int (i + j))) : OpD Z (rPlus Z.K) (.int i) (.int j) Q := (opd_i0 (f := fun i j => i + j) q).inl
theorem plus_tup {xs ys : List D} {Q : D → Prop} (hz : xs.length + ys.length ≤ 100000) (q : Q (.tup (xs ++ ys))) : OpD Z (rPlus Z.K) (.tup xs) (.tup ys) Q := ((opd_cat hz q).inl).inr
theorem times_int {i j : Int} {Q : D → Prop} (c : CMul i j) (q : Q (.int (i * j))) : OpD Z (rTimes Z.K) (.int i) (.int j) Q := (opd_ic (f := fun i j => i * j) c q).inl
theorem times_wide {i j : Int} {Q : D → Prop} (c : CMulW i j) (q : Q (.int (i * j))) : OpD Z (rTimes Z.K) (.int i) (.int j) Q := ((((opd_ic (f := fun i j => i * j) c q).inr).inr).inr)
theorem opd_repT {xs : List D} {n : Int} {Q : D → Prop} (h0 : xs ≠ []) (h1 : 2 ≤ n) (h2 : n ≤ 1000) (h3 : xs.length ≤ 1000) (q : Q (.tup (List.replicate n.toNat xs).flatten)) : OpD Z (rRepT Z.K) (.tup xs) (.int n) Q := fun G H vx vy jj rx ry k kk => by
  cases rx with
  | @tup a vs _ g1 r1 =>
    cases ry
    exact ⟨a, n, vs, rfl, rfl, (jj.sub.sqt g1), fun e => h0 (r1.nil_iff.mp e), h1, h2, by rw [r1.length]; exact h3, fun p hp => kk _ _ _ _ q (jj.sp hp) (.tup (SqT.of upd_same) ((r1.mono (Ex.new (jj.sub.back hp))).flat _))⟩
theorem times_tup {xs : List D} {n : Int} {Q : D → Prop} (h0 : xs ≠ []) (h1 : 2 ≤ n) (h2 : n ≤ 1000) (h3 : xs.length ≤ 1000) (q : Q (.tup (List.replicate n.toNat xs).flatten)) : OpD Z (rTimes Z.K) (.tup xs) (.int n) Q := ((opd_repT h0 h1 h2 h3 q).inl).inr
theorem plus_lst {xs ys : List D} {Q : List D → Prop} (hz : xs.length + ys.length ≤ 100000) (q : Q (xs ++ ys)) : OpL Z (rPlus Z.K) (.lst xs) (.lst ys) Q := (((opl_cat hz q).inl).inr).inr
theorem times_lst {xs : List D} {n : Int} {Q : List D → Prop} (h1 : -(2 ^ 63) ≤ n) (h2 : n < 2 ^ 63) (hz : xs.length * n.toNat ≤ 100000) (q : Q (List.replicate n.toNat xs).flatten) : OpL Z (rTimes Z.K) (.lst xs) (.int n) Q := (((opl_rep h1 h2 hz q).inl).inr).inr
theorem eqg_int {i j : Int} {Q : D → Prop} (q : Q (.bl (decide (i = j)))) : OpD Z (rEqq Z.K) (.int i) (.int j) Q := (opd_eqI q).inl
theorem neg_int {i j : Int} {Q : D → Prop} (q : Q (.bl (!decide (i = j)))) : OpD Z (rNeq Z.K) (.int i) (.int j) Q := (opd_neI q).inl
theorem eqg_str {i j : Str} {Q : D → Prop} (q : Q (.bl (decide (i = j)))) : OpD Z (rEqq Z.K) (.str i) (.str j) Q := (opd_eqS q).inl
theorem neg_str {i j : Str} {Q : D → Prop} (q : Q (.bl (!decide (i = j)))) : OpD Z (rNeq Z.K) (.str i) (.str j) Q := (opd_neS q).inl
theorem eqg_bl {i j : Bool} {Q : D → Prop} (q : Q (.bl (decide (i = j)))) : OpD Z (rEqq Z.K) (.bl i) (.bl j) Q := (opd_eqB q).inl
theorem neg_bl {i j : Bool} {Q : D → Prop} (q : Q (.bl (!decide (i = j)))) : OpD Z (rNeq Z.K) (.bl i) (.bl j) Q := (opd_neB q).inl
theorem eqg_data {x y : D} {Q : D → Prop} (px : plainD x = true) (py : plainD y = true) (sx : SeqAt.shaped (pyD x) = true) (sy : SeqAt.shaped (pyD y) = true) (q : Q (.bl (PyData.eqv (pyD x) (pyD y)))) : OpD Z (rEqq Z.K) x y Q := (opd_eqD px py sx sy q).inr
theorem neg_data {x y : D} {Q : D → Prop} (px : plainD x = true) (py : plainD y = true) (sx : SeqAt.shaped (pyD x) = true) (sy : SeqAt.shaped (pyD y) = true) (q : Q (.bl (!PyData.eqv (pyD x) (pyD y)))) : OpD Z (rNeq Z.K) x y Q := (opd_neD px py sx sy q).inr
/-- slices -/
theorem den_slA {to1 to2 : TO} {Q : D → List B → Prop} (h : Den Z te Γ fun x Γ1 => ∃ xs, x = .tup xs ∧ DenO Z to1 Γ1 fun lo Γ2 => DenO Z to2 Γ2 fun hi Γ3 => Q (.tup (cutD xs lo hi)) Γ3) : Den Z (tSl (rSlG Z.K) te to1 to2) Γ Q := fun σ G H j e k kk =>
  h σ G H j e _ fun x Γ1 v G1 H1 q s1 j1 e1 r1 => by
    obtain ⟨xs, rfl, q⟩ := q
    refine q σ G1 H1 j1 e1 _ fun lo Γ2 G2 H2 q2 s2 j2 e2 => q2 σ G2 H2 j2 e2 _ fun hi Γ3 G3 H3 q3 s3 j3 e3 => .inl ?_
    have r3 := (r1.mono s2.ex).mono s3.ex
    have s := (s1.trans s2).trans s3
    cases r3 with
    | @tup a vs _ h1 r3 =>
      refine ⟨a, vs, rfl, (j3.sub.sqt h1), fun w => ?_, fun w p hp => ?_⟩
      · rw [r3.length] at w
        have q3 : Q (.tup (cutD xs lo hi)) Γ3 := q3
        rw [cut_whole w] at q3
        exact kk _ Γ3 _ G3 H3 q3 s j3 e3 (.tup h1 r3)
      · exact kk _ Γ3 _ _ _ q3 (s.trans (.of (j3.sp hp))) (j3.new hp) (e3.new j3.toJ0 hp) (.tup (SqT.of upd_same) (cut_rps (r3.mono (Ex.new (j3.sub.back hp))) lo hi))
theorem denl_slA {to1 to2 : TO} {Q : List D → List B → Prop} (h : Den Z te Γ fun x Γ1 => ∃ xs, x = .lst xs ∧ DenO Z to1 Γ1 fun lo Γ2 => DenO Z to2 Γ2 fun hi Γ3 => Q (cutD xs lo hi) Γ3) : DenL Z (tSl (rSlG Z.K) te to1 to2) Γ Q := fun σ G H j e k kk =>
  h σ G H j e _ fun x Γ1 v G1 H1 q s1 j1 e1 r1 => by
    obtain ⟨xs, rfl, q⟩ := q
    refine q σ G1 H1 j1 e1 _ fun lo Γ2 G2 H2 q2 s2 j2 e2 => q2 σ G2 H2 j2 e2 _ fun hi Γ3 G3 H3 q3 s3 j3 e3 => .inr ?_
    have r3 := (r1.mono s2.ex).mono s3.ex
    have s := (s1.trans s2).trans s3
    cases r3 with
    | @lst a vs _ h1 r3 =>
      have sq : SqL Z.K H3 a vs := .inl (.inl (j3.sub _ _ h1))
      refine ⟨a, vs, rfl, sq, fun p hp => ?_⟩
      have n := j3.sub.back hp
      refine kk _ Γ3 p _ G3 (upd H3 p (.lst (cutV vs lo hi))) q3 (s.trans ⟨Ex.refl _, fun _ h => h, fun a o ha _ _ => ⟨?_, fun z => z⟩, fun a o ha => ⟨o, ?_⟩⟩) (j3.put (j3.old hp) n) (e3.newM hp) upd_same (cut_rps r3 lo hi) ⟨n, j3.old hp, fun i o => e3.noown hp i o⟩ (s.back hp)
      · rw [upd_ne (ne_of_none ha hp)]; exact ha
      · rw [upd_ne (ne_of_none ha hp)]; exact ha
theorem deni_seq {Q : List D → List B → Prop} (h : Den Z te Γ fun x Γ1 => ∃ xs, (x = .lst xs ∨ x = .tup xs) ∧ Q xs Γ1) : DenI Z (iSeq Z.K te) Γ Q := fun σ G H j e k kk =>
  h σ G H j e _ fun x Γ1 v G1 H1 q s1 j1 e1 r1 => by
    obtain ⟨xs, hx, q⟩ := q
    rcases hx with rfl | rfl
    · cases r1 with
      | @lst a vs _ h1 r1 =>
        refine ⟨a, rfl, .inl ⟨⟨vs, sql_of h1 (Ex.refl _) j1⟩, kk xs Γ1 _ G1 H1 q s1 j1 e1 ⟨fun G' H' i x j' hi => ?_, fun G' H' x j' => ?_, fun G' H' i x H'' ex j' hi y => ?_⟩⟩⟩
        · rw [← r1.length] at hi
          exact ⟨vs, vs[i], sql_of h1 x j', by simp [hi]⟩
        · exact ⟨vs, sql_of h1 x j', by rw [r1.length]; exact Nat.le_refl _⟩
        · obtain ⟨rfl, y⟩ := y
          obtain ⟨d, hd, hr⟩ := r1.getV (y vs (sql_of h1 ex j'))
          exact ⟨G', d, hd, j'.enter, hr.mono ex⟩
    · cases r1 with
      | @tup a vs _ h1 r1 =>
        refine ⟨a, rfl, .inr ⟨⟨vs, sqt_of h1 (Ex.refl _) j1⟩, kk xs Γ1 _ G1 H1 q s1 j1 e1 ⟨fun G' H' i x j' hi => ?_, fun G' H' x j' => ?_, fun G' H' i x H'' ex j' hi y => ?_⟩⟩⟩
        · rw [← r1.length] at hi
          exact ⟨vs, vs[i], sqt_of h1 x j', by simp [hi]⟩
        · exact ⟨vs, sqt_of h1 x j', by rw [r1.length]; exact Nat.le_refl _⟩
        · obtain ⟨rfl, y⟩ := y
          obtain ⟨d, hd, hr⟩ := r1.getV (y vs (sqt_of h1 ex j'))
          exact ⟨G', d, hd, j'.enter, hr.mono ex⟩
end
end Ab
namespace Ab
open PySem L2
section
variable {X : Cx} (K : PySem.W.Frag)
theorem k_plus (h : X.K = K := by rfl) : OpR X (binaryOp .Add) (rPlus K) := by subst h; exact op_plus
theorem k_times (h : X.K = K := by rfl) : OpR X (binaryOp .Mult) (rTimes K) := by subst h; exact op_times
theorem k_eq (hu : X.A.units + 64 < cLine) (h : X.K = K := by rfl) : OpR X (compareOp .Eq) (rEqq K) := by subst h; exact op_eqq hu
theorem k_ne (hu : X.A.units + 64 < cLine) (h : X.K = K := by rfl) : OpR X (compareOp .NotEq) (rNeq K) := by subst h; exact op_neqq hu
theorem k_in (h : X.K = K := by rfl) : OpR X (compareOp .In) (rIn K false) := by subst h; exact op_in_seq
theorem k_nin (h : X.K = K := by rfl) : OpR X (compareOp .NotIn) (rIn K true) := by subst h; exact op_notIn_seq
theorem k_ix (h : X.K = K := by rfl) : IxR X (rIx K) := by subst h; exact ix_seq
theorem k_sl (h : X.K = K := by rfl) : SlR X (rSlG K) := by subst h; exact sl_any
theorem k_len (h : X.K = K := by rfl) : CallR X (.builtin "len") (rLen K) := by subst h; exact call_len
theorem k_tuple (h : X.K = K := by rfl) : CallR X (.type "tuple") (rTupleOf K) := by subst h; exact call_tuple_of
theorem k_list (h : X.K = K := by rfl) : CallR X (.type "list") (rListOf K) := by subst h; exact call_list_of
theorem k_all (hc : X.calm = true) (h : X.K = K := by rfl) : CallR X (.builtin "all") (rAll K) := by subst h; exact cr_all hc
theorem k_any (hc : X.calm = true) (h : X.K = K := by rfl) : CallR X (.builtin "any") (rAny K) := by subst h; exact cr_any hc
theorem k_sum (hc : X.calm = true) (h : X.K = K := by rfl) : CallR X (.builtin "sum") (rSum K) := by subst h; exact cr_sum hc
theorem k_isi (h : X.K = K := by rfl) : CallR X (.builtin "isinstance") (rIsi K) := by subst h; exact call_isi
theorem k_sorted (h : X.K = K := by rfl) : CallR X (.builtin "sorted") (rSorted K) := by subst h; exact cr_sorted
section
variable {tg e o : Expr} {te to : TE} {ta : TA} {p pos tpos apos cpos : Pos} {elts es : List Expr} {kk : Nat}
theorem ki_seq (he : PE X e te) (h : X.K = K := by rfl) : PI X tg e (iSeq K te) := by subst h; exact pi_seq he
theorem ki_enum (hg : Gl X "enumerate") (hm : X.mg "enumerate" = none) (ha : PA X [e] ta) (h : X.K = K := by rfl) (hs : starEach [e] X.env = [(false, eval e X.env)] := by rfl) :
    PI X (.Tuple elts kk tpos) (.Call (.Name "enumerate" p) [e] [] pos) (iEnumA K ta) := by subst h; exact pi_enumA hg hm ha hs
theorem ki_zip {e2 : Expr} (hg : Gl X "zip") (hm : X.mg "zip" = none) (ha : PA X [e, e2] ta) (h : X.K = K := by rfl)
    (hs : starEach [e, e2] X.env = (false, eval e X.env) :: starEach [e2] X.env := by rfl) (hpl : (backTo pos (starEach [e2] X.env)).any (·.1) = false := by rfl) :
    PI X (.Tuple elts kk tpos) (.Call (.Name "zip" p) [e, e2] [] pos) (RZ.iZipA K ta) := by subst h; exact RZ.pi_zipA hg hm ha hs hpl
theorem kg_tup {t : TGs} {n : Nat} (hc : X.calm = true) (h : PGs X elts t) (hk : X.K = K := by rfl) (hn : (assignEach elts X.env).length = n := by rfl) (hst : List.findIdx? (fun x => x.fst) (assignEach elts X.env) = none := by rfl) : PG X (.Tuple elts kk pos) (gTup K n t) := by
  subst hk
  exact pg_tup hc h hn hst
theorem k_fld {f : Str} (he : PE X e te) (h : X.K = K := by rfl) (hb : attributeBase e f X.env (eval e X.env) = eval e X.env := by rfl) : PE X (.Attribute e f pos) (tFld K te f) := by subst h; exact pe_fld he hb
theorem ks_fld {f : Str} {value : Expr} {tv : TE} {pos' : Pos} (ha : PE X o to) (hv : PE X value tv) (h : X.K = K := by rfl) (hs : swapsWith value (some (.Attribute o f pos')) pos.line X.env = pure false := by rfl) : PS X (.Assign [.Attribute o f pos'] value pos) (sFld K to tv f) := by subst h; exact ps_fld ha hv hs
end
variable {K}
section
variable {P : Program} {w : World} {mg : Str → Option Value} {base : Heap} {x : Str} {e : Expr} {es : List Expr} {t : TA} {k n j : Nat} {S : FSpec} {p pos : Pos}
theorem kc_fn (c : Dfn P w K mg base x k n S) (hr : Room j X.A) (hk : k ≤ j) (hX : X.prog = P ∧ X.w = w ∧ X.K = K ∧ X.mg = mg ∧ X.base = base) (hg : Gl X x) (ha : PA X (e :: es) t) (hdb : (x == ("__debug__" : Str)) = false := by decide)
    (he : starEach (e :: es) X.env = (false, eval e X.env) :: starEach es X.env := by rfl) (hpl : (backTo pos (starEach es X.env)).any (·.1) = false := by rfl) : PE X (.Call (.Name x p) (e :: es) [] pos) (tCall (spS K n S) [] E0 t) := by
  obtain ⟨rfl, rfl, rfl, rfl, rfl⟩ := hX
  exact pe_fn c hr hk hg ha hdb he hpl
theorem kc_fn0 (c : Dfn P w K mg base x k n S) (hr : Room j X.A) (hk : k ≤ j) (hX : X.prog = P ∧ X.w = w ∧ X.K = K ∧ X.mg = mg ∧ X.base = base) (hg : Gl X x) (hdb : (x == ("__debug__" : Str)) = false := by decide)
    (hpl : (backTo pos (starEach [] X.env)).any (·.1) = false := by rfl) : PE X (.Call (.Name x p) [] [] pos) (tCall (spS K n S) [] E0 tNil) := by
  obtain ⟨rfl, rfl, rfl, rfl, rfl⟩ := hX
  exact pe_fn0 c hr hk hg hdb hpl
theorem kc_fnX {W : WX} (tk : Takes X W) (c : Dfn P w K mg base x k n S) (hr : Room j X.A) (hk : k ≤ j) (hX : X.prog = P ∧ X.w = w ∧ X.K = K ∧ X.mg = mg ∧ X.base = base) (hg : Gl X x) (ha : PA X (e :: es) t) (hdb : (x == ("__debug__" : Str)) = false := by decide)
    (he : starEach (e :: es) X.env = (false, eval e X.env) :: starEach es X.env := by rfl) (hpl : (backTo pos (starEach es X.env)).any (·.1) = false := by rfl) : PE X (.Call (.Name x p) (e :: es) [] pos) (tCallS (spS K n S) (WE W) t) := by
  obtain ⟨rfl, rfl, rfl, rfl, rfl⟩ := hX
  exact pe_fnX tk c hr hk hg ha hdb he hpl
theorem kc_mkX {C : Addr} {S : ISpec} {W : WX} (tk : Takes X W) (c : Mak P w K mg base x C k n S) (hr : Room j X.A) (hk : k + 1 ≤ j) (hX : X.prog = P ∧ X.w = w ∧ X.K = K ∧ X.mg = mg ∧ X.base = base) (hg : Gl X x) (ha : PA X (e :: es) t) (hdb : (x == ("__debug__" : Str)) = false := by decide)
    (he : starEach (e :: es) X.env = (false, eval e X.env) :: starEach es X.env := by rfl) (hpl : (backTo pos (starEach es X.env)).any (·.1) = false := by rfl) : PE X (.Call (.Name x p) (e :: es) [] pos) (tMakeS C (spI K C n S) (WE W) t) := by
  obtain ⟨rfl, rfl, rfl, rfl, rfl⟩ := hX
  exact pe_mkX tk c hr hk hg ha hdb he hpl
theorem kc_mk0 {C : Addr} {S : ISpec} (c : Mak P w K mg base x C k n S) (hr : Room j X.A) (hk : k + 1 ≤ j) (hX : X.prog = P ∧ X.w = w ∧ X.K = K ∧ X.mg = mg ∧ X.base = base) (hg : Gl X x) (ha : PA X (e :: es) t) (hdb : (x == ("__debug__" : Str)) = false := by decide)
    (he : starEach (e :: es) X.env = (false, eval e X.env) :: starEach es X.env := by rfl) (hpl : (backTo pos (starEach es X.env)).any (·.1) = false := by rfl) : PE X (.Call (.Name x p) (e :: es) [] pos) (tMakeS C (spI K C n S) (fun _ => E0) t) := by
  obtain ⟨rfl, rfl, rfl, rfl, rfl⟩ := hX
  exact pe_mk0 c hr hk hg ha hdb he hpl
end
/-- a def of the text, found and walked, as its callers know it -/
theorem dfn_mk {P : Program} {w : World} {mg : Str → Option Value} {base : Heap} {x qual : Str} {st : Stmt} {f : Addr} {fd : FuncData} {ps : List Str} {k : Nat} {S : FSpec} (F : Fun K x qual st f fd) (m : mg x = some (.ref f)) (b : Binds K fd ps [])
    (h : FnOk P w K mg base (L2.CX P w) k f fd ps (spS K ps.length S)) : Dfn P w K mg base x k ps.length S := ⟨⟨f, fd, ps, h, m, F.kp, b⟩⟩
end
end Ab
namespace Ab
open PySem L2
/-- two lists of one length, place by place -/
inductive Each {α β : Type} (R : α → β → Prop) : List α → List β → Prop
  | nil : Each R [] []
  | cons {a : α} {b : β} {as : List α} {bs : List β} : R a b → Each R as bs → Each R (a :: as) (b :: bs)
theorem Each.length {α β : Type} {R : α → β → Prop} : ∀ {as : List α} {bs : List β}, Each R as bs → as.length = bs.length
  | _, _, .nil => rfl
  | _, _, .cons _ t => by simp [Each.length t]
theorem Each.snoc {α β : Type} {R : α → β → Prop} : ∀ {as : List α} {bs : List β} {a : α} {b : β}, Each R as bs → R a b → Each R (as ++ [a]) (bs ++ [b])
  | _, _, _, _, .nil, r => .cons r .nil
  | _, _, _, _, .cons q t, r => .cons q (Each.snoc t r)
theorem Each.get {α β : Type} {R : α → β → Prop} : ∀ {as : List α} {bs : List β} {i : Nat} {a : α}, Each R as bs → as[i]? = some a → ∃ b, bs[i]? = some b ∧ R a b
  | _, _, _, _, .nil, h => by simp at h
  | _, _, 0, _, .cons r _, h => by simp at h; subst h; exact ⟨_, rfl, r⟩
  | _, _, i + 1, _, .cons _ t, h => by
    obtain ⟨b, h1, h2⟩ := Each.get (i := i) t (by simpa using h)
    exact ⟨b, by simpa using h1, h2⟩
theorem Each.getR {α β : Type} {R : α → β → Prop} : ∀ {as : List α} {bs : List β} {i : Nat} {b : β}, Each R as bs → bs[i]? = some b → ∃ a, as[i]? = some a ∧ R a b
  | _, _, _, _, .nil, h => by simp at h
  | _, _, 0, _, .cons r _, h => by simp at h; subst h; exact ⟨_, rfl, r⟩
  | _, _, i + 1, _, .cons _ t, h => by
    obtain ⟨b, h1, h2⟩ := Each.getR (i := i) t (by simpa using h)
    exact ⟨b, by simpa using h1, h2⟩
theorem Each.map_eq {α β : Type} {f : α → β} : ∀ {as : List α} {bs : List β}, Each (fun a b => b = f a) as bs → bs = as.map f
  | _, _, .nil => rfl
  | _, _, .cons r t => by rw [r, Each.map_eq t]; rfl
theorem Each.imp {α β : Type} {R R' : α → β → Prop} (h : ∀ a b, R a b → R' a b) : ∀ {as : List α} {bs : List β}, Each R as bs → Each R' as bs
  | _, _, .nil => .nil
  | _, _, .cons r t => .cons (h _ _ r) (t.imp h)
theorem Each.all {α β : Type} {R : α → β → Prop} {p : β → Prop} (h : ∀ a b, R a b → p b) : ∀ {as : List α} {bs : List β}, Each R as bs → ∀ b ∈ bs, p b
  | _, _, .nil, _, m => by cases m
  | _, _, .cons r t, b, m => by
    rcases List.mem_cons.mp m with e | m
    · subst e; exact h _ _ r
    · exact Each.all h t b m
theorem take_snoc {α : Type} : ∀ {l : List α} {i : Nat} {x : α}, l[i]? = some x → l.take (i + 1) = l.take i ++ [x]
  | [], i, x, h => by simp at h
  | a :: l, 0, x, h => by simp at h; subst h; simp
  | a :: l, i + 1, x, h => by
    have ih := take_snoc (l := l) (i := i) (x := x) (by simpa using h)
    simp only [List.take_succ_cons, ih, List.cons_append]
section
variable {Z : Cz} {Γ : List B} {te ta tb tc : TE} {tt tu : TT} {tr : TA} {P : Po}
/-- [e for x in xs] -/
theorem denl_rel {wi : TI} {g : TG} {vs : List Nat} {Q : List D → List B → Prop} (hg : GOff g vs) (hm : GMono g)
    (h : DenI Z wi Γ fun ds Γ1 => (∀ i ∈ vs, ¬ IsOwn Γ1[i]?) ∧ ds.length < 100000 ∧ ∃ R : D → D → Prop,
      (∀ (i : Nat) d, ds[i]? = some d → DenG Z g d (wipeB Γ1 vs) fun Γ2 => wipeB Γ2 vs = wipeB Γ1 vs ∧ (∀ i ∈ vs, ¬ IsOwn Γ2[i]?) ∧ Den Z te Γ2 fun y Γ4 => Γ4 = Γ2 ∧ R d y) ∧
      ∀ ys, Each R ds ys → Q ys Γ1) : DenL Z (tLc wi g tYes te vs) Γ Q := by
  refine denl_lc hg hm fun σ G H j e k kk => h σ G H j e k fun ds Γ1 Jt G1 H1 q s1 j1 e1 it => kk ds Γ1 Jt G1 H1 ?_ s1 j1 e1 it
  obtain ⟨h1, h2, R, h3, h4⟩ := q
  refine ⟨h1, h2, fun i acc => Each R (ds.take i) acc, .nil, fun i d acc hd ha iv => ?_, fun acc _ iv => h4 acc (by have iv : Each R (ds.take ds.length) acc := iv; rw [List.take_length] at iv; exact iv)⟩
  intro σ2 G2 H2 v j2 e2 r2 k2 kk2
  refine h3 i d hd σ2 G2 H2 v j2 e2 r2 k2 fun Γ2 σ3 ⟨q1, q2, q3⟩ e3 => kk2 Γ2 σ3 ⟨q1, q2, dent_yes ⟨rfl, ?_⟩⟩ e3
  rw [if_pos rfl]
  refine q3.mono fun y Γ4 ⟨z1, z2⟩ => ⟨z1, ?_⟩
  show Each R (ds.take (i + 1)) _
  rw [take_snoc hd]; exact Each.snoc iv z2
/-- [e for x in xs], e a function of x -/
theorem denl_map {wi : TI} {g : TG} {vs : List Nat} {Q : List D → List B → Prop} (hg : GOff g vs) (hm : GMono g)
    (h : DenI Z wi Γ fun ds Γ1 => (∀ i ∈ vs, ¬ IsOwn Γ1[i]?) ∧ ds.length < 100000 ∧ ∃ f : D → D,
      (∀ (i : Nat) d, ds[i]? = some d → DenG Z g d (wipeB Γ1 vs) fun Γ2 => wipeB Γ2 vs = wipeB Γ1 vs ∧ (∀ i ∈ vs, ¬ IsOwn Γ2[i]?) ∧ Den Z te Γ2 fun y Γ4 => Γ4 = Γ2 ∧ y = f d) ∧
      Q (ds.map f) Γ1) : DenL Z (tLc wi g tYes te vs) Γ Q :=
  denl_rel hg hm fun σ G H j e k kk => h σ G H j e k fun ds Γ1 Jt G1 H1 ⟨a, b, f, c, d⟩ => kk ds Γ1 Jt G1 H1 ⟨a, b, fun x y => y = f x, c, fun ys z => by rw [z.map_eq]; exact d⟩
/-- [e for x in xs if t]: t and e functions of x -/
theorem denl_filter {wi : TI} {g : TG} {vs : List Nat} {Q : List D → List B → Prop} (hg : GOff g vs) (hm : GMono g)
    (h : DenI Z wi Γ fun ds Γ1 => (∀ i ∈ vs, ¬ IsOwn Γ1[i]?) ∧ ds.length < 100000 ∧ ∃ (p : D → Bool → Prop) (R : D → D → Prop),
      (∀ (i : Nat) d, ds[i]? = some d → DenG Z g d (wipeB Γ1 vs) fun Γ2 => wipeB Γ2 vs = wipeB Γ1 vs ∧ (∀ i ∈ vs, ¬ IsOwn Γ2[i]?) ∧ DenT Z tt Γ2 fun b Γ3 => Γ3 = Γ2 ∧ p d b ∧ (b = true → Den Z te Γ2 fun y Γ4 => Γ4 = Γ2 ∧ R d y)) ∧
      ∀ bs ys, Each p ds bs → Each R ((ds.zip bs).filterMap fun z => if z.2 then some z.1 else none) ys → Q ys Γ1) : DenL Z (tLc wi g tt te vs) Γ Q := by
  refine denl_lc hg hm fun σ G H j e k kk => h σ G H j e k fun ds Γ1 Jt G1 H1 q s1 j1 e1 it => kk ds Γ1 Jt G1 H1 ?_ s1 j1 e1 it
  obtain ⟨h1, h2, p, R, h3, h4⟩ := q
  have zs : ∀ {l : List D} {bs : List Bool} {d : D} {b : Bool}, l.length = bs.length → ((l ++ [d]).zip (bs ++ [b])).filterMap (fun z => if z.2 then some z.1 else none) = (l.zip bs).filterMap (fun z => if z.2 then some z.1 else none) ++ (if b then [d] else []) := by
    intro l bs d b hl
    rw [zip_snoc hl, List.filterMap_append]
    cases b <;> simp
  refine ⟨h1, h2, fun i acc => ∃ bs, Each p (ds.take i) bs ∧ Each R (((ds.take i).zip bs).filterMap fun z => if z.2 then some z.1 else none) acc, ⟨[], .nil, .nil⟩, fun i d acc hd ha ⟨bs, iv1, iv2⟩ => ?_, fun acc _ ⟨bs, iv1, iv2⟩ => h4 bs acc (by rw [List.take_length] at iv1; exact iv1) (by rw [List.take_length] at iv2; exact iv2)⟩
  intro σ2 G2 H2 v j2 e2 r2 k2 kk2
  refine h3 i d hd σ2 G2 H2 v j2 e2 r2 k2 fun Γ2 σ3 ⟨q1, q2, q3⟩ e3 => kk2 Γ2 σ3 ⟨q1, q2, q3.mono fun b Γ3 ⟨y1, y2, y3⟩ => ⟨y1, ?_⟩⟩ e3
  have hz := zs (d := d) (b := b) iv1.length
  cases b with
  | true =>
    rw [if_pos rfl]
    refine (y3 rfl).mono fun y Γ4 ⟨w1, w2⟩ => ⟨w1, bs ++ [true], ?_, ?_⟩
    · rw [take_snoc hd]; exact iv1.snoc y2
    · rw [take_snoc hd, hz]; exact iv2.snoc w2
  | false =>
    rw [if_neg (by simp)]
    refine ⟨bs ++ [false], ?_, ?_⟩
    · rw [take_snoc hd]; exact iv1.snoc y2
    · rw [take_snoc hd, hz]; simpa using iv2
end
end Ab
namespace Ab
open PySem L2
/-- an exception class of one's own with one field -/
structure Exn1 (P : Program) (w : World) (K : PySem.W.Frag) (mg : Str → Option Value) (base : Heap) (x : Str) (C : Addr) (f : Str) : Prop where
  o : OexC K C
  ex : ∃ fI fd ps, PySem.W.findIn K (.ref C) "__init__" = some (some (.ref fI)) ∧ PySem.W.typeIn K (.ref fI) = some (.type "function") ∧ FnOk P w K mg base (L2.CX P w) 1 fI fd ps (spXI C f) ∧ Binds K fd ps []
  m : mg x = some (.ref C)
section
variable {P : Program} {w : World} {K : PySem.W.Frag} {mg : Str → Option Value} {base : Heap}
theorem init_x {qual : Str} {st : Stmt} {fI C : Addr} {fd : FuncData} {N : List Str} {fn : Str} (F : Fun K "__init__" qual st fI fd) (Sc : FnScope N ["self", fn] (defScope st)) (T : OexC K C) (hno : PySem.W.findIn K (.ref C) fn = some none)
    (hb : ∀ (cdv : Value) (A : Around) (outer : List PySem.Env) (s : Shared) (H : Hp) (E : XK), PSs (cxOf (L2.CX P w) P w K mg base N qual (defScope st) fI cdv A outer s H E) (defBody st) (tOst K fn (tVar 0) (tVar 1))) (hN : 2 ≤ N.length) :
    FnOk P w K mg base (L2.CX P w) 1 fI fd ["self", fn] (spXI C fn) := by
  refine F.okX Sc (fun vs H Q E h => ?_) (fun cdv A outer s H vs Q E hr h => ?_)
  · obtain ⟨a, y, rfl, _⟩ := h; rfl
  · obtain ⟨a, y, rfl, ha, k⟩ := h
    refine ⟨_, hb cdv A outer s H E, ?_⟩
    have s0 : (L2.start N [.ref a, y])[0]? = some (some (.ref a)) := by simp [L2.start]
    have s1 : (L2.start N [.ref a, y])[1]? = some (some y) := by simp [L2.start]
    exact ⟨y, s1, .ref a, s0, a, C, rfl, T, hno, .inl ⟨ha, fun dx hd ne => k dx hd ne⟩⟩
end
section
variable {X : Cx} {P : Program} {w : World} {K : PySem.W.Frag} {mg : Str → Option Value} {base : Heap} {x fn : Str} {C : Addr} {e : Expr} {es : List Expr} {ta : TA} {j : Nat} {p pos pos2 : Pos}
theorem ks_raise {W : WX} (hc : X.calm = true) (tk : Takes X W) (c : Exn1 P w K mg base x C fn) (hr : Room j X.A) (hk : 2 ≤ j) (hX : X.prog = P ∧ X.w = w ∧ X.K = K ∧ X.mg = mg ∧ X.base = base) (hg : Gl X x) (ha : PA X (e :: es) ta) (hdb : (x == ("__debug__" : Str)) = false := by decide)
    (he : starEach (e :: es) X.env = (false, eval e X.env) :: starEach es X.env := by rfl) (hpl : (backTo pos (starEach es X.env)).any (·.1) = false := by rfl) :
    PS X (.Raise (some (.Call (.Name x p) (e :: es) [] pos)) none pos2) (fun _ σ H => tMkO C (spXI C fn) [] ta σ H fun cls d H' => W cls d σ H') := by
  obtain ⟨rfl, rfl, rfl, rfl, rfl⟩ := hX
  obtain ⟨fI, fd, ps, h1, h2, h3, h4⟩ := c.ex
  exact ps_raise hc tk (pmk_oex c.o h1 h2 h3 (hr.mono hk) h4 .nil passL hg c.m ha hdb he hpl)
end
mutual
def kD : D → Bool
  | .non => true | .bl _ => true | .int i => decide (i.natAbs < 2 ^ 1000) | .str x => decide (x.length < 1000) | .dic => true | .dct n x => decide (n.natAbs < 2 ^ 1000) && kD x
  | .tup xs => decide (xs.length < 1000) && ksD xs | .lst xs => decide (xs.length < 1000) && ksD xs | _ => false
def ksD : List D → Bool
  | [] => true
  | x :: xs => kD x && ksD xs
end
theorem ksD_all : ∀ {xs : List D}, ksD xs = true ↔ ∀ x ∈ xs, kD x = true
  | [] => by simp [ksD]
  | x :: xs => by simp [ksD, ksD_all (xs := xs)]
theorem kD_tup {xs : List D} (h : kD (.tup xs) = true) : ∀ x ∈ xs, kD x = true := by
  unfold kD at h; exact ksD_all.mp (Bool.and_eq_true_iff.mp h).2
theorem kD_len {xs : List D} (h : kD (.tup xs) = true) : xs.length < 1000 := by
  unfold kD at h; exact of_decide_eq_true (Bool.and_eq_true_iff.mp h).1
theorem kD_lst {xs : List D} (h : kD (.lst xs) = true) : ∀ x ∈ xs, kD x = true := by
  unfold kD at h; exact ksD_all.mp (Bool.and_eq_true_iff.mp h).2
theorem kD_lenL {xs : List D} (h : kD (.lst xs) = true) : xs.length < 1000 := by
  unfold kD at h; exact of_decide_eq_true (Bool.and_eq_true_iff.mp h).1
theorem kD_mk {xs : List D} (h : ∀ x ∈ xs, kD x = true) (hl : xs.length < 1000) : kD (.tup xs) = true := by
  unfold kD; exact Bool.and_eq_true_iff.mpr ⟨decide_eq_true hl, ksD_all.mpr h⟩
theorem kD_mkL {xs : List D} (h : ∀ x ∈ xs, kD x = true) (hl : xs.length < 1000) : kD (.lst xs) = true := by
  unfold kD; exact Bool.and_eq_true_iff.mpr ⟨decide_eq_true hl, ksD_all.mpr h⟩
theorem kD_tag {x : D} (h : kD x = true) : ∃ t, tagD x = some t := by
  cases x <;> first | exact ⟨_, rfl⟩ | (unfold kD at h; cases h)
def isTy (T : String) : D → Bool
  | .bl _ => T == "bool" || T == "int"
  | .int _ => T == "int"
  | .str _ => T == "str"
  | .tup _ => T == "tuple"
  | .lst _ => T == "list"
  | .dic => T == "dict"
  | .dct _ _ => T == "dict"
  | _ => false
theorem kit_all : ∀ t ∈ ["NoneType", "bool", "int", "str", "tuple", "list", "dict"], ∀ T ∈ ["bool", "int", "str", "tuple", "list", "dict"], kitB t T = some ((t == T) || (t == "bool" && T == "int")) := by decide +kernel
section
variable {Z : Cz} {Γ : List B} {te ta tb tc : TE} {tt tu : TT} {tr : TA} {P : Po}
theorem cad_is {x : D} {T : String} {Q : D → Prop} (h : kD x = true) (hT : T ∈ ["bool", "int", "str", "tuple", "list", "dict"]) (q : Q (.bl (isTy T x))) : CaD Z (rIsi Z.K) [x, .ty T] Q := by
  obtain ⟨t, ht⟩ := kD_tag h
  have ht' : t ∈ ["NoneType", "bool", "int", "str", "tuple", "list", "dict"] := by
    cases x <;> simp only [tagD, Option.some.injEq, reduceCtorEq] at ht <;> subst ht <;> simp
  refine cad_isi ht (kit_all t ht' T hT) ?_
  have e : ((t == T) || (t == "bool" && T == "int")) = isTy T x := by
    have f : ∀ T ∈ ["bool", "int", "str", "tuple", "list", "dict"], (("NoneType" == T) || ("NoneType" == "bool" && T == "int")) = false ∧ (("int" == T) || ("int" == "bool" && T == "int")) = (T == "int") ∧ (("str" == T) || ("str" == "bool" && T == "int")) = (T == "str") ∧
        (("tuple" == T) || ("tuple" == "bool" && T == "int")) = (T == "tuple") ∧ (("list" == T) || ("list" == "bool" && T == "int")) = (T == "list") ∧ (("dict" == T) || ("dict" == "bool" && T == "int")) = (T == "dict") ∧ (("bool" == T) || ("bool" == "bool" && T == "int")) = (T == "bool" || T == "int") := by decide +kernel
    obtain ⟨f1, f2, f3, f4, f5, f6, f7⟩ := f T hT
    cases x <;> simp only [tagD, Option.some.injEq, reduceCtorEq] at ht <;> subst ht <;> simp only [isTy] <;> first | exact f1 | exact f2 | exact f3 | exact f4 | exact f5 | exact f6 | exact f7
  rw [e]; exact q
theorem ite_b {b : Bool} {A B : Prop} (h : b = true → A) (h' : b = false → B) : if b = true then A else B := by
  cases b with
  | true => exact h rfl
  | false => exact h' rfl
end
end Ab
namespace Ab
open PySem L2
/-- a def that is a function of its arguments -/
def fun_spec (P : List D → Prop) (f : List D → D) : FSpec := { P := P, R := fun ds r => r = f ds }
section
variable {Z : Cz} {Γ : List B} {te ta tb tc : TE} {tt tu : TT} {tr : TA} {P : Po}
theorem den_fun {n : Nat} {P : List D → Prop} {f : List D → D} {E : XK} {Q : D → List B → Prop} (h : DenA Z tr Γ fun ds Γ1 => ds.length = n ∧ P ds ∧ Q (f ds) Γ1) : Den Z (tCall (spS Z.K n (fun_spec P f)) [] E tr) Γ Q :=
  den_call fun σ G H j e k kk => h σ G H j e k fun ds Γ1 vs G1 H1 ⟨a, b, c⟩ => kk ds Γ1 vs G1 H1 ⟨a, b, fun d hd => by rw [show d = f ds from hd]; exact c, fun _ x => x⟩
theorem den_fun0 {P : List D → Prop} {f : List D → D} {E : XK} {Q : D → List B → Prop} (hp : P []) (q : Q (f []) Γ) : Den Z (tCall (spS Z.K 0 (fun_spec P f)) [] E tNil) Γ Q := den_fun (dena_nil ⟨rfl, hp, q⟩)
theorem DenA.mono {Q Q' : List D → List B → Prop} (h : DenA Z tr Γ Q) (w : ∀ d Γ', Q d Γ' → Q' d Γ') : DenA Z tr Γ Q' := fun σ G H j e k q => h σ G H j e k fun d Γ' v G' H' a => q d Γ' v G' H' (w _ _ a)
theorem DenS.mono {ts : TS} {P P' : Po} (h : DenS Z ts Γ P) (n : ∀ x, P.N x → P'.N x) (r : P.R = P'.R) (b : ∀ x, P.Bk x → P'.Bk x) (c : ∀ x, P.Ct x → P'.Ct x) : DenS Z ts Γ P' := fun σ G H j e De d =>
  h σ G H j e De ⟨fun Γ σ G H a => d.n Γ σ G H (n _ a), fun x v G H a => d.r x v G H (r ▸ a), fun Γ σ G H a => d.b Γ σ G H (b _ a), fun Γ σ G H a => d.c Γ σ G H (c _ a)⟩
end
end Ab
namespace Ab
open PySem L2
section
variable {Z : Cz} {Γ : List B} {te ta tb tc : TE} {tt tu : TT} {tr : TA} {P : Po}
/-- while, by an invariant and a measure -/
theorem dens_while {t : TS} (Iv : Nat → List B → Prop) (h0 : ∃ m, Iv m Γ) (hs : ∀ m Γ1, Iv m Γ1 → DenT Z tt Γ1 fun b Γ2 => if b = true then DenS Z t Γ2 ⟨fun Γ3 => ∃ m', m' < m ∧ Iv m' Γ3, P.R, P.N, fun Γ3 => ∃ m', m' < m ∧ Iv m' Γ3⟩ else P.N Γ2) : DenS Z (tWhile tt t) Γ P := fun σ G H j e De d => by
  obtain ⟨m0, i0⟩ := h0
  refine ⟨fun m σ H => ∃ Γ2 G2, Iv m Γ2 ∧ Ex G G2 ∧ J Z G2 H ∧ En Z G2 H σ Γ2, ⟨m0, Γ, G, i0, Ex.refl _, j, e⟩, ?_⟩
  rintro m σ2 H2 ⟨Γ2, G2, iv, x2, j2, e2⟩
  refine hs m Γ2 iv σ2 G2 H2 j2 e2 _ fun b Γ3 G3 H3 q s3 j3 e3 => ?_
  cases b with
  | true =>
    refine ⟨fun σ H => ∃ m', m' < m ∧ ∃ Γ2 G2, Iv m' Γ2 ∧ Ex G G2 ∧ J Z G2 H ∧ En Z G2 H σ Γ2, fun σ' H' ⟨m', h1, h2⟩ => ⟨m', h1, h2⟩, ?_⟩
    refine q σ2 G3 H3 j3 e3 _ ⟨fun Γ4 σ4 G4 H4 ⟨m', a, b⟩ x4 j4 e4 => ⟨m', a, Γ4, G4, b, (x2.trans s3.ex).trans x4, j4, e4⟩, fun z v G4 H4 a x4 j4 r4 => d.r z v G4 H4 a ((x2.trans s3.ex).trans x4) j4 r4,
      fun Γ4 σ4 G4 H4 a x4 j4 e4 => d.n Γ4 σ4 G4 H4 a ((x2.trans s3.ex).trans x4) j4 e4, fun Γ4 σ4 G4 H4 ⟨m', a, b⟩ x4 j4 e4 => ⟨m', a, Γ4, G4, b, (x2.trans s3.ex).trans x4, j4, e4⟩⟩
  | false => exact d.n Γ3 σ2 G3 H3 q (x2.trans s3.ex) j3 e3
theorem cut_from (xs : List D) (k : Nat) : cutD xs (some (k : Int)) none = xs.drop k := by
  unfold cutD
  rw [HT.sIx_nat, HT.sIx_none]
  by_cases h : k ≤ xs.length
  · rw [Nat.min_eq_left h, List.take_of_length_le (by simp)]
  · rw [Nat.min_eq_right (by omega), List.drop_eq_nil_of_le (Nat.le_refl _), List.drop_eq_nil_of_le (by omega)]; simp
theorem cut_to (xs : List D) (k : Nat) : cutD xs none (some (k : Int)) = xs.take k := by
  unfold cutD
  rw [HT.sIx_nat, HT.sIx_none]
  simp only [List.drop_zero, Nat.sub_zero]
  rcases Nat.le_total k xs.length with h | h
  · rw [Nat.min_eq_left h]
  · rw [Nat.min_eq_right h, List.take_of_length_le (Nat.le_refl _), List.take_of_length_le h]
theorem cut_last (xs : List D) : cutD xs none (some (-1)) = xs.dropLast := by
  unfold cutD
  rw [HT.sIx_none]
  have : HT.sIx xs.length xs.length (some (-1)) = xs.length - 1 := by
    have := HT.clip_eq (-1) xs.length xs.length
    rw [if_pos (by decide)] at this
    omega
  rw [this, List.drop_zero, Nat.sub_zero, List.dropLast_eq_take]
end
end Ab
namespace Ab
open PySem L2
theorem kg_c {X : Cx} {x : Str} {v : V} {pos : Pos} (hg : Gl X x) (h : ∃ u, X.mg x = some u ∧ RelV v u) (hd : (x == ("__debug__" : Str)) = false := by decide) : PE X (.Name x pos) (tC v) := by
  obtain ⟨u, h1, h2⟩ := h
  exact pe_glob hg h1 h2 hd
theorem ifT {A B : Prop} (h : A) : if true = true then A else B := h
theorem ifF {A B : Prop} (h : B) : if false = true then A else B := by simpa using h
end Ab
namespace Ab
open PySem L2
/-- te is v, and the heap stays -/
def Pu (te : TE) (σ : L2.St) (H : Hp) (v : V) : Prop := ∀ Q : VK, Q v H → te σ H Q
section
variable {σ : L2.St} {H : Hp} {v x y z : V} {ta tb te : TE} {r : R2} {K : PySem.W.Frag} {D : Ends}
theorem pu_var {i : Nat} (h : σ[i]? = some (some v)) : Pu (tVar i) σ H v := fun Q q => ⟨v, h, q⟩
theorem pu_c : Pu (tC v) σ H v := fun Q q => q
theorem pu_op (ha : Pu ta σ H x) (hb : Pu tb σ H y) (hr : ∀ Q : VK, Q z H → r x y H Q) : Pu (tOp r ta tb) σ H z := fun Q q => ha _ (hb _ (hr Q q))
theorem pu_add {i j : Int} (ha : Pu ta σ H (.int i)) (hb : Pu tb σ H (.int j)) : Pu (tOp (rPlus K) ta tb) σ H (.int (i + j)) := pu_op ha hb fun Q q => .inl ⟨i, j, rfl, rfl, q⟩
theorem pu_mul {i j : Int} (ha : Pu ta σ H (.int i)) (hb : Pu tb σ H (.int j)) (c : CMul i j) : Pu (tOp (rTimes K) ta tb) σ H (.int (i * j)) := pu_op ha hb fun Q q => .inl ⟨i, j, rfl, rfl, c, q⟩
theorem pu_I {C : Int → Int → Prop} {f : Int → Int → Int} {i j : Int} (ha : Pu ta σ H (.int i)) (hb : Pu tb σ H (.int j)) (c : C i j) : Pu (tOp (rI C fun i j => .int (f i j)) ta tb) σ H (.int (f i j)) := pu_op ha hb fun Q q => ⟨i, j, rfl, rfl, c, q⟩
theorem pu_ix {l : Addr} {xs : List V} {i : Int} (ha : Pu ta σ H (.ref l)) (hb : Pu tb σ H (.int i)) (hl : H l = some (.lst xs)) (h : atI xs i = some z) : Pu (tOp (rIx K) ta tb) σ H z := pu_op ha hb fun Q q => .inl ⟨l, xs, i, z, rfl, rfl, SqL.of hl, h, q⟩
theorem pu_int {i : Int} (ha : Pu ta σ H (.int i)) : Pu (tCB rInt1 (tCons ta tNil)) σ H (.int i) := fun Q q => ha _ (.inl ⟨i, rfl, q⟩)
theorem pu_len {l : Addr} {xs : List V} (ha : Pu ta σ H (.ref l)) (hl : H l = some (.lst xs)) : Pu (tCB (rLen K) (tCons ta tNil)) σ H (.int xs.length) := fun Q q => ha _ ⟨.ref l, xs.length, rfl, .inl ⟨xs, SqL.of hl, rfl⟩, q⟩
theorem ps_name {i : Nat} (h : Pu te σ H v) (k : D.nx (σ.set i (some v)) H) : tAsg te (gName i) D σ H := h _ k
theorem ps_item {l : Addr} {xs : List V} {i : Int} {n : Nat} (h : Pu te σ H v) (ha : Pu ta σ H (.ref l)) (hb : Pu tb σ H (.int i)) (hl : H l = some (.lst xs)) (hi : ixN xs.length i = some n) (k : D.nx σ (upd H l (.lst (xs.set n v)))) : tAsg te (gSub ta tb rSetL) D σ H :=
  h _ (ha _ (hb _ ⟨l, xs, i, n, rfl, rfl, hl, hi, k⟩))
theorem ps_when {b : Bool} {t u : TS} (h : Pu te σ H (.bl b)) (k1 : b = true → t D σ H) (k2 : b = false → u D σ H) : tIfS (tTest te) t u D σ H := h _ ⟨b, rfl, by
  cases b with
  | true => exact k1 rfl
  | false => exact k2 rfl⟩
theorem pu_B {f : Int → Int → Bool} {i j : Int} (ha : Pu ta σ H (.int i)) (hb : Pu tb σ H (.int j)) : Pu (tOp (rI0 fun i j => .bl (f i j)) ta tb) σ H (.bl (f i j)) := pu_op ha hb fun Q q => ⟨i, j, rfl, rfl, q⟩
theorem pu_eqI {i j : Int} (ha : Pu ta σ H (.int i)) (hb : Pu tb σ H (.int j)) : Pu (tOp (rEqq K) ta tb) σ H (.bl (decide (i = j))) := pu_op ha hb fun Q q => .inl ⟨rfl, by rw [show decide (V.int i = V.int j) = decide (i = j) by simp]; exact q⟩
theorem ps_give (h : Pu te σ H v) (k : D.rt v H) : tRet te D σ H := h _ k
end
section
variable {Z : Cz} {G H H' : Hp}
theorem J0.pl {p c : Addr} {u w : HO} (j : J0 Z G H) (e : Z.pl = some (p, c)) (hp : H' p = some u) (hc : H' c = some w)
    (b : PoolSt c u w) (h : ∀ a, a ≠ p → a ≠ c → H' a = H a) : J0 Z G H' := by
  obtain ⟨z0, z1, z2, z3, z4, _⟩ := j.pool p c e
  refine ⟨fun a o ha => ?_, j.g0, j.out, fun a o ha n => ?_, fun p' c' e' => ?_⟩
  · rw [h a (fun z => by rw [z, z1] at ha; cases ha) (fun z => by rw [z, z2] at ha; cases ha)]; exact j.sub a o ha
  · obtain ⟨n1, n2⟩ := n p c e
    rw [h a n1 n2]; exact j.fr a o ha n
  · rw [e] at e'; cases e'
    exact ⟨z0, z1, z2, z3, z4, u, w, hp, hc, b⟩
theorem J.pl {p c : Addr} {u w : HO} (j : J Z G H) (e : Z.pl = some (p, c)) (hp : H' p = some u) (hc : H' c = some w)
    (b : PoolSt c u w) (h : ∀ a, a ≠ p → a ≠ c → H' a = H a) : J Z G H' := ⟨j.toJ0.pl e hp hc b h, j.acc⟩
end
theorem rps_ints {K : PySem.W.Frag} {pl : Option (Addr × Addr)} {G : Hp} : ∀ ns : List Int, Rps K pl G (ns.map V.int) (ns.map D.int)
  | [] => .nil
  | x :: xs => .cons (.int x) (rps_ints xs)
section
variable {Z : Cz} {Γ : List B} {te : TE} {tr : TA}
/-- a slice of the script -/
theorem denl_slS {to1 to2 : TO} {Q : List D → List B → Prop} (h : Den Z te Γ fun x Γ1 => ∃ ns, x = .scr ns ∧ DenO Z to1 Γ1 fun lo Γ2 => DenO Z to2 Γ2 fun hi Γ3 => Q (cutD (ns.map D.int) lo hi) Γ3) : DenL Z (tSl (rSlG Z.K) te to1 to2) Γ Q := fun σ G H j e k kk =>
  h σ G H j e _ fun x Γ1 v G1 H1 q s1 j1 e1 r1 => by
    obtain ⟨ns, rfl, q⟩ := q
    refine q σ G1 H1 j1 e1 _ fun lo Γ2 G2 H2 q2 s2 j2 e2 => q2 σ G2 H2 j2 e2 _ fun hi Γ3 G3 H3 q3 s3 j3 e3 => .inr ?_
    have r3 := (r1.mono s2.ex).mono s3.ex
    have s := (s1.trans s2).trans s3
    cases r3 with
    | @scr a _ h1 =>
      refine ⟨a, _, rfl, j3.sub.sql h1, fun p hp => ?_⟩
      have n := j3.sub.back hp
      have rr : Rps Z.K Z.pl G3 (ns.map V.int) (ns.map D.int) := rps_ints ns
      refine kk _ Γ3 p _ G3 (upd H3 p (.lst (cutV (ns.map V.int) lo hi))) q3 (s.trans ⟨Ex.refl _, fun _ h => h, fun a o ha _ _ => ⟨?_, fun z => z⟩, fun a o ha => ⟨o, ?_⟩⟩) (j3.put (j3.old hp) n) (e3.newM hp) upd_same (cut_rps rr lo hi) ⟨n, j3.old hp, fun i o => e3.noown hp i o⟩ (s.back hp)
      · rw [upd_ne (ne_of_none ha hp)]; exact ha
      · rw [upd_ne (ne_of_none ha hp)]; exact ha
theorem cad_lenS {ns : List Int} {Q : D → Prop} (q : Q (.int ns.length)) : CaD Z (rLen Z.K) [.scr ns] Q := fun G H vs jj r k kk => by
  cases r with
  | cons a b =>
    cases b
    cases a with
    | @scr a _ h1 => exact ⟨.ref a, ns.length, rfl, .inl ⟨_, jj.sub.sql h1, by simp⟩, kk _ _ G H q jj.enter (.int _)⟩
end
/-- a slice of a tuple, a list, the script -/
def slR (lo hi : Option Int) : D → Option D
  | .tup xs => some (.tup (cutD xs lo hi))
  | .lst xs => some (.lst (cutD xs lo hi))
  | .scr ns => some (.lst (cutD (ns.map D.int) lo hi))
  | _ => none
section
variable {Z : Cz} {Γ : List B} {te : TE}
theorem slR_cases {lo hi : Option Int} {x d : D} (h : slR lo hi x = some d) : (∃ xs, x = .tup xs) ∨ (∃ xs, x = .lst xs) ∨ ∃ ns, x = .scr ns := by
  cases x with
  | tup xs => exact .inl ⟨xs, rfl⟩
  | lst xs => exact .inr (.inl ⟨xs, rfl⟩)
  | scr xs => exact .inr (.inr ⟨xs, rfl⟩)
  | _ => cases h
theorem den_sl {to1 to2 : TO} {Q : D → List B → Prop} (h : Den Z te Γ fun x Γ1 => DenO Z to1 Γ1 fun lo Γ2 => DenO Z to2 Γ2 fun hi Γ3 => ∃ d, slR lo hi x = some d ∧ Q d Γ3) : Den Z (tSl (rSlG Z.K) te to1 to2) Γ Q := fun σ G H j e k kk =>
  h σ G H j e _ fun x Γ1 v G1 H1 q s1 j1 e1 r1 => by
    refine q σ G1 H1 j1 e1 _ fun lo Γ2 G2 H2 q2 s2 j2 e2 => q2 σ G2 H2 j2 e2 _ fun hi Γ3 G3 H3 q3 s3 j3 e3 => ?_
    obtain ⟨d, hd, q3⟩ := q3
    have r3 := (r1.mono s2.ex).mono s3.ex
    have s := (s1.trans s2).trans s3
    have new : ∀ {vs : List V} {ds : List D}, Rps Z.K Z.pl G3 vs ds → d = .lst (cutD ds lo hi) → ∀ p, H3 p = none → k (.ref p) (upd H3 p (.lst (cutV vs lo hi))) := fun {vs ds} rr hd p hp => by
      subst hd
      have x := Ex.new (o := .lst (cutV vs lo hi)) (j3.sub.back hp)
      exact kk _ Γ3 _ (upd G3 p (.lst (cutV vs lo hi))) _ q3 (s.trans (.of (j3.sp hp))) (j3.new hp) (e3.new j3.toJ0 hp) (.lst upd_same (cut_rps (rr.mono x) lo hi))
    cases r3 with
    | @tup a vs xs h1 r3 =>
      cases hd
      refine .inl ⟨a, vs, rfl, (j3.sub.sqt h1), fun w => ?_, fun w p hp => ?_⟩
      · rw [r3.length] at w
        rw [cut_whole w] at q3
        exact kk _ Γ3 _ G3 H3 q3 s j3 e3 (.tup h1 r3)
      · exact kk _ Γ3 _ _ _ q3 (s.trans (.of (j3.sp hp))) (j3.new hp) (e3.new j3.toJ0 hp) (.tup (SqT.of upd_same) (cut_rps (r3.mono (Ex.new (j3.sub.back hp))) lo hi))
    | @lst a vs xs h1 r3 =>
      cases hd
      exact .inr ⟨a, vs, rfl, .inl (.inl (j3.sub _ _ h1)), new r3 rfl⟩
    | @scr a ns h1 =>
      cases hd
      exact .inr ⟨a, _, rfl, j3.sub.sql h1, new (rps_ints ns) rfl⟩
    | _ => cases hd
end
theorem cut_map {α : Type} (f : α → D) (xs : List α) (k : Nat) : cutD (xs.map f) none (some (k : Int)) = (xs.take k).map f := by rw [cut_to, List.map_take]
/-- a draw: some number from 0 on, below many -/
abbrev S_draw : FSpec := ⟨fun ds => ∃ m : Int, ds = [.pool, .int m] ∧ 1 ≤ m ∧ m < 2 ^ 30, fun ds d => ∃ m i : Int, ds = [.pool, .int m] ∧ d = .int i ∧ 0 ≤ i ∧ i < m, fun _ _ => False⟩
section
variable {Z : Cz} {Γ : List B} {tr : TA}
theorem den_draw {E : XK} {Q : D → List B → Prop} (h : DenA Z tr Γ fun ds Γ1 => ∃ m : Int, ds = [.pool, .int m] ∧ 1 ≤ m ∧ m < 2 ^ 30 ∧ ∀ i : Int, 0 ≤ i → i < m → Q (.int i) Γ1) : Den Z (tCall (spS Z.K 2 S_draw) [] E tr) Γ Q :=
  den_call fun σ G H j e k kk => h σ G H j e k fun ds Γ1 vs G1 H1 ⟨m, a, b, c, d⟩ => kk ds Γ1 vs G1 H1 ⟨by rw [a]; rfl, ⟨m, a, b, c⟩, fun x ⟨m', i, e1, e2, h1, h2⟩ => by rw [a] at e1; cases e1; rw [e2]; exact d i h1 h2, fun _ z => z⟩
end
end Ab
namespace Ab
open PySem L2
section
variable {Z : Cz} {Γ : List B} {te ta tb tc : TE} {tt tu : TT} {tr : TA} {P : Po}
theorem und_neg {i : Int} {Q : D → Prop} (q : Q (.int (-i))) : UnD Z (rU fun i => .int (-i)) (.int i) Q := und_i (f := fun i => -i) q
theorem mod_pos {i j : Int} {Q : D → Prop} (c : 0 < j) (q : Q (.int (i % j))) : OpD Z (rI (fun _ j => 0 < j) fun i j => .int (i % j)) (.int i) (.int j) Q := opd_ic (f := fun i j => i % j) c q
theorem div_pos {i j : Int} {Q : D → Prop} (c : 0 < j ∧ j.natAbs.log2 < 9000) (q : Q (.int (i / j))) : OpD Z (rI CDivW fun i j => .int (i / j)) (.int i) (.int j) Q := opd_ic (C := CDivW) (f := fun i j => i / j) c q
theorem not_own_ite {b : B} (h : ¬ IsOwn (some b)) : ¬ IsOwn (some b) := h
end
/-- a list n deep -/
def deepD : Nat → D
  | 0 => .lst [.non]
  | n + 1 => .lst [deepD n]
theorem kD_deep : ∀ n, kD (deepD n) = true
  | 0 => by decide
  | n + 1 => by
    unfold deepD
    exact kD_mkL (fun x hx => by rw [List.mem_singleton.mp hx]; exact kD_deep n) (by simp)
end Ab
namespace Ab
open PySem L2
mutual
def intD : D → Bool
  | .non => true | .bl _ => true | .int _ => true | .str x => PySem.PyData.strOk x
  | .tup xs => intsD xs | .lst xs => intsD xs | _ => false
def intsD : List D → Bool
  | [] => true
  | x :: xs => intD x && intsD xs
end
mutual
def depD : D → Nat
  | .tup xs => depsD xs + 1 | .lst xs => depsD xs + 1 | _ => 0
def depsD : List D → Nat
  | [] => 0
  | x :: xs => max (depD x) (depsD xs)
end
mutual
theorem intD_plain : ∀ {d : D}, intD d = true → plainD d = true ∧ (pyD d).canLay0 = true
  | .non, _ => ⟨rfl, rfl⟩ | .bl _, _ => ⟨rfl, rfl⟩ | .int _, _ => ⟨rfl, rfl⟩
  | .tup xs, h => by
    have := intsD_plain (xs := xs) (by unfold intD at h; exact h)
    exact ⟨by unfold plainD; exact this.1, by unfold pyD PyData.canLay0; exact this.2⟩
  | .lst xs, h => by
    have := intsD_plain (xs := xs) (by unfold intD at h; exact h)
    exact ⟨by unfold plainD; exact this.1, by unfold pyD PyData.canLay0; exact this.2⟩
  | .str x, h => ⟨rfl, by unfold intD at h; simpa [pyD, PyData.canLay0] using h⟩
  | .dic, h => by unfold intD at h; cases h
  | .dct _ _, h => by unfold intD at h; cases h
  | .xtup _, h => by unfold intD at h; cases h
  | .exo _, h => by unfold intD at h; cases h
  | .obj _ _ _, h => by unfold intD at h; cases h
  | .pool, h => by unfold intD at h; cases h
  | .ty _, h => by unfold intD at h; cases h
  | .cls _, h => by unfold intD at h; cases h
  | .scr _, h => by unfold intD at h; cases h
theorem intsD_plain : ∀ {xs : List D}, intsD xs = true → plainsD xs = true ∧ PyData.canLayAll0 (pysD xs) = true
  | [], _ => ⟨rfl, rfl⟩
  | x :: xs, h => by
    unfold intsD at h
    obtain ⟨h1, h2⟩ := Bool.and_eq_true_iff.mp h
    have a := intD_plain h1
    have b := intsD_plain h2
    exact ⟨by unfold plainsD; rw [a.1, b.1]; rfl, by unfold pysD PyData.canLayAll0; rw [a.2, b.2]; rfl⟩
end
mutual
theorem depD_py : ∀ {d : D}, intD d = true → (pyD d).depth = depD d
  | .non, _ => rfl | .bl _, _ => rfl | .int _, _ => rfl
  | .tup xs, h => by
    have := depsD_py (xs := xs) (by unfold intD at h; exact h)
    unfold pyD depD PyData.depth; rw [this]
  | .lst xs, h => by
    have := depsD_py (xs := xs) (by unfold intD at h; exact h)
    unfold pyD depD PyData.depth; rw [this]
  | .str _, _ => rfl
  | .dic, h => by unfold intD at h; cases h
  | .dct _ _, h => by unfold intD at h; cases h
  | .xtup _, h => by unfold intD at h; cases h
  | .exo _, h => by unfold intD at h; cases h
  | .obj _ _ _, h => by unfold intD at h; cases h
  | .pool, h => by unfold intD at h; cases h
  | .ty _, h => by unfold intD at h; cases h
  | .cls _, h => by unfold intD at h; cases h
  | .scr _, h => by unfold intD at h; cases h
theorem depsD_py : ∀ {xs : List D}, intsD xs = true → PyData.depthAll (pysD xs) = depsD xs
  | [], _ => rfl
  | x :: xs, h => by
    unfold intsD at h
    obtain ⟨h1, h2⟩ := Bool.and_eq_true_iff.mp h
    unfold pysD depsD PyData.depthAll
    rw [depD_py h1, depsD_py h2]
end
theorem intsD_all : ∀ {xs : List D}, intsD xs = true ↔ ∀ x ∈ xs, intD x = true
  | [] => by simp [intsD]
  | x :: xs => by simp [intsD, intsD_all (xs := xs)]
theorem depsD_le : ∀ {xs : List D} {n : Nat}, depsD xs ≤ n ↔ ∀ x ∈ xs, depD x ≤ n
  | [], n => by simp [depsD]
  | x :: xs, n => by simp [depsD, Nat.max_le, depsD_le (xs := xs)]
/-- numbers nested at most n deep -/
def eqD (n : Nat) (d : D) : Prop := intD d = true ∧ depD d ≤ n
theorem eqD.mono {n m : Nat} {d : D} (h : eqD n d) (k : n ≤ m) : eqD m d := ⟨h.1, Nat.le_trans h.2 k⟩
theorem eqD_int (i : Int) : eqD 0 (.int i) := ⟨rfl, Nat.le_refl _⟩
theorem eqD_str {x : Str} (h : PySem.PyData.strOk x = true) : eqD 0 (.str x) := ⟨h, Nat.le_refl _⟩
theorem eqD_non : eqD 0 .non := ⟨rfl, Nat.le_refl _⟩
theorem eqD_tup {n : Nat} {xs : List D} (h : ∀ x ∈ xs, eqD n x) : eqD (n + 1) (.tup xs) := ⟨by unfold intD; exact intsD_all.mpr fun x hx => (h x hx).1, by unfold depD; exact Nat.succ_le_succ (depsD_le.mpr fun x hx => (h x hx).2)⟩
theorem eqD_lst {n : Nat} {xs : List D} (h : ∀ x ∈ xs, eqD n x) : eqD (n + 1) (.lst xs) := ⟨by unfold intD; exact intsD_all.mpr fun x hx => (h x hx).1, by unfold depD; exact Nat.succ_le_succ (depsD_le.mpr fun x hx => (h x hx).2)⟩
theorem eqD.shaped {n : Nat} {d : D} (h : eqD n d) (k : n ≤ 64) : SeqAt.shaped (pyD d) = true := by
  unfold SeqAt.shaped
  rw [(intD_plain h.1).2, depD_py h.1]
  simp; have := h.2; omega
def eqvD (x y : D) : Bool := PyData.eqv (pyD x) (pyD y)
theorem eqvD_refl {n : Nat} {d : D} (h : eqD n d) : eqvD d d = true := SeqAt.eqv_refl _ (intD_plain h.1).2
theorem eqvD_tup3 (a b c a' b' c' : D) : eqvD (.tup [a, b, c]) (.tup [a', b', c']) = (eqvD a a' && (eqvD b b' && eqvD c c')) := by
  unfold eqvD; simp [pyD, pysD, PyData.eqv, PyData.eqvAll]
section
variable {Z : Cz} {x y : D} {n m : Nat}
theorem eqg_eqv {Q : D → Prop} (hx : eqD n x) (hy : eqD m y) (hn : n ≤ 64) (hm : m ≤ 64) (q : Q (.bl (eqvD x y))) : OpD Z (rEqq Z.K) x y Q := eqg_data (intD_plain hx.1).1 (intD_plain hy.1).1 (hx.shaped hn) (hy.shaped hm) q
theorem neg_eqv {Q : D → Prop} (hx : eqD n x) (hy : eqD m y) (hn : n ≤ 64) (hm : m ≤ 64) (q : Q (.bl (!eqvD x y))) : OpD Z (rNeq Z.K) x y Q := neg_data (intD_plain hx.1).1 (intD_plain hy.1).1 (hx.shaped hn) (hy.shaped hm) q
end
end Ab
namespace L2
open PySem PySem.Spec PyProof.Rows
/-- set(t), t a tuple of ints -/
def rSetT (K : PySem.W.Frag) (w : World) : List V → Hp → VK → Prop := fun vs H Q => ∃ (a : Addr) (ns : List Int), vs = [.ref a] ∧ SqT K H a (ns.map V.int) ∧ ns.length ≤ 1000 ∧ ∀ p c, H p = none → c ≤ ns.length → Q (.ref p) (upd H p (SetO w p (fun j => decide (j ∈ ns)) c))
theorem cr_setT {X : Cx} (hc : X.calm = true) : CallR X (.type "set") (rSetT X.K X.w) := by
  intro pins s σ H vs us Q I r h
  obtain ⟨a, ns, rfl, ht, hl, q⟩ := h
  rw [Vals.ref1 r]
  obtain ⟨its, rv, pl, hz⟩ := I.tuple ht
  have hi : IntsAre its.toArray.toList ns := by
    have := intsAre_of rv
    simpa using this
  refine call_set_tupI ns (I.ok.hd hc) pl hi (Nat.lt_of_le_of_lt (Nat.succ_le_succ hl) (by decide)) fun h' tk c R hcn k => ?_
  have hn : H s.heap.objs.size = none := I.hok.fresh (Nat.le_refl _)
  exact ⟨.ref _, _, I.laid k (Nat.le_refl _) (setO_new R), rfl, q _ c hn hcn⟩
end L2
namespace Ab
open PySem L2
section
variable {Z : Cz} {Γ : List B} {te ta tb tc : TE} {tt tu : TT} {tr : TA} {P : Po} {w : World}
theorem rps_ints_inv {K : PySem.W.Frag} {pl : Option (Addr × Addr)} {G : Hp} {vs : List V} {ns : List Int} (h : Rps K pl G vs (ns.map D.int)) : vs = ns.map V.int := ints_vs h
/-- sorted(set(t)) of a tuple of ints -/
theorem den_sortedSet {Q : D → List B → Prop} (h : Den Z te Γ fun x Γ1 => ∃ ns : List Int, x = .tup (ns.map D.int) ∧ ns.length < 64 ∧ ∀ js : List Int, js.Pairwise (· < ·) → (∀ k, k ∈ js ↔ k ∈ ns) → Q (.lst (js.map D.int)) Γ1) :
    Den Z (tCB (rSortedSet w) (tCons (tCB (rSetT Z.K w) (tCons te tNil)) tNil)) Γ Q := fun σ G H j e k kk =>
  h σ G H j e _ fun x Γ1 v G1 H1 q s1 j1 e1 r1 => by
    obtain ⟨ns, rfl, hl, q⟩ := q
    cases r1 with
    | @tup a vs _ h1 r1 =>
      have := rps_ints_inv r1
      subst this
      refine ⟨a, ns, rfl, (j1.sub.sqt h1), by omega, fun p c hp hc => ⟨p, _, c, rfl, upd_same, by omega, fun js p2 hs hm _ hp2 => ?_⟩⟩
      have j2 := j1.new (o := SetO w p (fun j => decide (j ∈ ns)) c) hp
      have e2 := e1.new (o := SetO w p (fun j => decide (j ∈ ns)) c) j1.toJ0 hp
      have s2 : Sp1 Z σ Γ1 Γ1 G1 H1 (upd G1 p (SetO w p (fun j => decide (j ∈ ns)) c)) (upd H1 p (SetO w p (fun j => decide (j ∈ ns)) c)) := .of (j1.sp hp)
      refine kk (.lst (js.map D.int)) Γ1 (.ref p2) _ _ (q js hs fun k => by rw [hm k]; simp) ((s1.trans s2).trans (.of (j2.sp hp2))) (j2.new hp2) (e2.new j2.toJ0 hp2) (.lst upd_same (rps_ints js))
/-- list(range(n)) -/
theorem den_listRg {Q : D → List B → Prop} (h : Den Z te Γ fun x Γ1 => ∃ n : Int, x = .int n ∧ 0 ≤ n ∧ n ≤ 100000 ∧ Q (.lst (((List.range n.toNat).map fun i => ((i : Nat) : Int)).map D.int)) Γ1) : Den Z (tLstRg (tRg1 te)) Γ Q := fun σ G H j e k kk =>
  h σ G H j e _ fun x Γ1 v G1 H1 q s1 j1 e1 r1 => by
    obtain ⟨n, rfl, h1, h2, q⟩ := q
    cases r1
    refine ⟨n, rfl, .of_le (by omega) (by omega) (by omega) h1, fun p hp => ?_⟩
    refine kk _ Γ1 (.ref p) _ _ q (s1.trans (.of (j1.sp hp))) (j1.new hp) (e1.new j1.toJ0 hp) (.lst upd_same ?_)
    have : rgV 0 n = ((List.range n.toNat).map fun i => ((i : Nat) : Int)).map V.int := by
      unfold rgV; rw [List.map_map]; simp [Function.comp_def]
    rw [this]; exact rps_ints _
/-- i in a list or a tuple of ints -/
theorem opd_inI {i : Int} {js : List Int} {x : D} {Q : D → Prop} (hx : x = .lst (js.map D.int) ∨ x = .tup (js.map D.int)) (q : Q (.bl (decide (i ∈ js)))) : OpD Z (rIn Z.K false) (.int i) x Q := fun G H vx vy jj rx ry k kk => by
  cases rx
  have fl : (js.map V.int).all flatV = true := by simp [List.all_eq_true, flatV]
  have iv : inV (.int i) (js.map V.int) = decide (i ∈ js) := by
    unfold inV
    rw [Bool.eq_iff_iff]
    simp only [List.any_eq_true, List.mem_map, decide_eq_true_eq, eqV]
    constructor
    · rintro ⟨y, ⟨z, hz, rfl⟩, e⟩
      have : z = i := by simpa [eqV] using e
      rw [← this]; exact hz
    · intro h; exact ⟨.int i, ⟨i, h, rfl⟩, by simp [eqV]⟩
  rcases hx with rfl | rfl
  · cases ry with
    | @lst a vs _ h1 r1 =>
      have := rps_ints_inv r1
      subst this
      exact ⟨a, _, rfl, .inl (.inl (.inl (jj.sub _ _ h1))), rfl, fl, by rw [iv]; exact kk _ _ G H q jj.enter (.bl _)⟩
  · cases ry with
    | @tup a vs _ h1 r1 =>
      have := rps_ints_inv r1
      subst this
      exact ⟨a, _, rfl, .inr ((jj.sub.sqt h1)), rfl, fl, by rw [iv]; exact kk _ _ G H q jj.enter (.bl _)⟩
/-- a cut between two statements -/
theorem dens_cut {t u : TS} (M : List B → Prop) (h : DenS Z t Γ ⟨M, P.R, P.Bk, P.Ct⟩) (k : ∀ Γ1, M Γ1 → DenS Z u Γ1 P) : DenS Z (tSeq t u) Γ P := dens_seq (h.mono (fun x m => k x m) rfl (fun _ x => x) fun _ x => x)
theorem atI_lt {α : Type} {xs : List α} {i : Int} (h0 : 0 ≤ i) (h1 : i < xs.length) : ∃ d, atI xs i = some d ∧ d ∈ xs := by
  unfold atI ixN
  rw [if_pos h0, if_pos h1]
  have : i.toNat < xs.length := by omega
  exact ⟨xs[i.toNat], by simp [this], by simp⟩
theorem atI_len {α : Type} {xs : List α} {i : Int} {n : Nat} (h0 : 0 ≤ i) (h1 : i < n) (hl : xs.length = n) : ∃ d, atI xs i = some d ∧ d ∈ xs := atI_lt h0 (by omega)
end
end Ab
namespace Ab
open PySem L2
section
variable {Z : Cz} {Γ : List B} {te ta tb tc : TE} {tt tu : TT} {tr : TA} {P : Po} {w : World}
/-- a new list of an operator joins the still part -/
theorem opd_of_l {r : R2} {x y : D} {Q : D → Prop} (h : OpL Z r x y fun ds => Q (.lst ds)) : OpD Z r x y Q := fun G H vx vy jj rx ry k kk => h G H vx vy jj rx ry k fun ds l vs G' H' q i hl rs hn hg =>
  kk (.lst ds) (.ref l) (upd G' l (.lst vs)) H' q (i.still hn hl hg) (.lst upd_same (rs.mono (Ex.new hg)))
theorem cad_of_l {r : List V → Hp → VK → Prop} {xs : List D} {Q : D → Prop} (h : CaL Z r xs fun ds => Q (.lst ds)) : CaD Z r xs Q := fun G H vs jj rx k kk => h G H vs jj rx k fun ds l ws G' H' q i hl rs hn hg =>
  kk (.lst ds) (.ref l) (upd G' l (.lst ws)) H' q (i.still hn hl hg) (.lst upd_same (rs.mono (Ex.new hg)))
theorem plusD_lst {xs ys : List D} {Q : D → Prop} (hz : xs.length + ys.length ≤ 100000) (q : Q (.lst (xs ++ ys))) : OpD Z (rPlus Z.K) (.lst xs) (.lst ys) Q := opd_of_l (plus_lst hz q)
theorem timesD_lst {xs : List D} {n : Int} {Q : D → Prop} (h1 : -(2 ^ 63) ≤ n) (h2 : n < 2 ^ 63) (hz : xs.length * n.toNat ≤ 100000) (q : Q (.lst (List.replicate n.toNat xs).flatten)) : OpD Z (rTimes Z.K) (.lst xs) (.int n) Q := opd_of_l (times_lst h1 h2 hz q)
theorem cad_listT {xs : List D} {Q : D → Prop} (q : Q (.lst xs)) : CaD Z (rListOf Z.K) [.tup xs] Q := cad_of_l (cal_listT q)
theorem cad_listL {xs : List D} {Q : D → Prop} (q : Q (.lst xs)) : CaD Z (rListOf Z.K) [.lst xs] Q := cad_of_l (cal_listL q)
end
theorem opd_ixL_mem {Z : Cz} {xs : List D} {i : Int} {n : Nat} {Q : D → Prop} (h0 : 0 ≤ i) (h1 : i < n) (hl : xs.length = n) (q : ∀ d ∈ xs, Q d) : OpD Z (rIx Z.K) (.lst xs) (.int i) Q := by
  obtain ⟨d, hd, hm⟩ := atI_len h0 h1 hl
  exact opd_ixL hd (q d hm)
theorem cutD_mem {xs : List D} {lo hi : Option Int} {x : D} (h : x ∈ cutD xs lo hi) : x ∈ xs := List.mem_of_mem_drop (List.mem_of_mem_take h)
theorem cutD_len {xs : List D} {lo hi : Option Int} : (cutD xs lo hi).length ≤ xs.length := by
  unfold cutD
  rw [List.length_take, List.length_drop]; omega
theorem kD_cut {xs : List D} {lo hi : Option Int} (h : kD (.tup xs) = true) : kD (.tup (cutD xs lo hi)) = true := kD_mk (fun x m => kD_tup h x (cutD_mem m)) (Nat.lt_of_le_of_lt cutD_len (kD_len h))
theorem kD_app {xs ys : List D} (h : kD (.tup xs) = true) (g : kD (.tup ys) = true) (hl : xs.length + ys.length < 1000) : kD (.tup (xs ++ ys)) = true := kD_mk (fun x m => (List.mem_append.mp m).elim (kD_tup h x) (kD_tup g x)) (by simpa using hl)
theorem kD_one {x : D} (h : kD x = true) : kD (.tup [x]) = true := kD_mk (fun y m => by rw [List.mem_singleton.mp m]; exact h) (by simp)
end Ab
namespace L2
open PySem PySem.Spec PyProof.Rows
/-- what an own exception class must have for isinstance -/
structure KitE (K : PySem.W.Frag) (C : Addr) : Prop where
  cl : (PySem.W.clsIn K C).isSome = true
  xf : XfC K C
  ha : PySem.W.findIn K (.ref C) "__class__" = some (some (.builtin "object.__class__"))
  hn : PySem.W.specialIn K (.builtin "object.__class__") "__get__" = some (some (.builtin "getset_descriptor.__get__"))
  tk : PySem.W.takesIn K (.builtin "object.__class__") = some true
  hm : PySem.W.mroIn K C (.type "object") = some true
/-- isinstance(e, c) of the caught exception a -/
def tIsX (K : PySem.W.Frag) (a : Addr) (cls : Value) (d : Option Addr) (C : Addr) (ta : TA) : TE := fun σ H Q => ta σ H fun vs H1 => ∃ c u b, vs = [V.ref a, c] ∧ cls = .ref C ∧ (d = none ∨ ∃ dd fs, d = some dd ∧ H1 dd = some (.xd fs)) ∧ ClsV c u ∧ PySem.W.kitOne K (.ref C) u = some b ∧ Q (.bl b) H1
theorem pe_isX {X : Cx} {a C : Addr} {oe : Obj} {cls : Value} {d : Option Addr} {pn : List (Addr × Obj)} {e1 e2 : Expr} {ta : TA} {p pos : Pos} (T : KitE X.K C) (hz : Zc cls d oe) (hf : ∃ vs, oe.data = .fields vs)
    (hg : Gl (X.suite a ((a, oe) :: pn)) "isinstance") (hm : (X.suite a ((a, oe) :: pn)).mg "isinstance" = none) (hv : bootBuiltins "isinstance" = some (.builtin "isinstance")) (ha : PA (X.suite a ((a, oe) :: pn)) [e1, e2] ta)
    (he : starEach [e1, e2] (X.suite a ((a, oe) :: pn)).env = (false, eval e1 (X.suite a ((a, oe) :: pn)).env) :: starEach [e2] (X.suite a ((a, oe) :: pn)).env := by rfl) (hpl : (backTo pos (starEach [e2] (X.suite a ((a, oe) :: pn)).env)).any (·.1) = false := by rfl) :
    PE (X.suite a ((a, oe) :: pn)) (.Call (.Name "isinstance" p) [e1, e2] [] pos) (tIsX X.K a cls d C ta) := by
  refine ⟨fun pins s σ H Q I h => ?_⟩
  refine wpAny_Call_Name_kw (ld_blt I hg hm hv ?_ (by decide) (by decide))
  refine PyProof.Rows.callWith_builtin1 (thn (ha.run pos pins s σ H _ I h) fun us s1 ⟨vs, H1, I1, r1, c, u, b, ev, ec, hd0, k, e, q⟩ => ?_) he hpl
  subst ev
  obtain ⟨u1, u2, rfl, r1, r2⟩ := vals2 r1
  have e2 := k.eq r2
  subst e2
  obtain rfl : u1 = Value.ref a := r1
  subst ec
  obtain ⟨hx, _⟩ := I1.pin (a, oe) (List.mem_append_left _ List.mem_cons_self)
  obtain ⟨vs, hd⟩ := hf
  have key : ∃ od, PySem.W.InstAt s1.heap a oe C od := by
    rcases hd0 with ed | ⟨dd, fs, ed, ea⟩
    · subst ed
      exact ⟨none, hx, hz.1, by (unfold PySem.W.notCls; rw [hd]) <;> rfl, by rw [hz.2]; trivial⟩
    · subst ed
      have xo : ObjOk X.prog X.w H1 s1.heap dd (.xd fs) := I1.hok dd _ ea
      obtain ⟨mA, hns, _⟩ := xo
      obtain ⟨od, ho, _⟩ := lookIn_ns hns
      exact ⟨some od, hx, hz.1, by (unfold PySem.W.notCls; rw [hd]) <;> rfl, by rw [hz.2]; exact ho⟩
  obtain ⟨od, J⟩ := key
  exact PySem.W.kia_one (PySem.W.kitx_exc T.cl T.xf.ga T.xf.gg T.xf.exC T.ha T.hn T.tk T.hm) I1.kIn J e (fun z => nomatch z) fun tk => ⟨.bl b, H1, I1.tok tk, rfl, q⟩
end L2
namespace Ab
open PySem L2
section
variable {Z : Cz} {Γ : List B}
theorem den_isX {i : Nat} {a : Addr} {cls : Value} {d : Option Addr} {er : Er} {C : Addr} {c : V} {u : Value} {b : Bool} {Q : D → List B → Prop} (h : Γ[i]? = some (.exc a cls d er)) (hc : er.cls = C) (k : ClsV c u) (e : PySem.W.kitOne Z.K (.ref C) u = some b) (q : Q (.bl b) Γ) :
    Den Z (tIsX Z.K a cls d C (tCons (tVar i) (tCons (tC c) tNil))) Γ Q := fun σ G H j en kk q' => by
  obtain ⟨v, h1, h2, re⟩ := en.at_ i _ h
  subst h2
  refine ⟨.ref a, h1, c, u, b, rfl, by rw [re.c, hc], ?_, k, e, q' _ Γ _ G H q .refl j en (.bl b)⟩
  rcases re.f with ⟨z, _, _⟩ | ⟨dd, xs, h3, h4, _⟩
  · exact .inl z
  · exact .inr ⟨dd, _, h3, j.sub _ _ h4⟩
end
end Ab
namespace Ab
open PySem L2
/-- try: .. except C as n: .., the body and the suite as letters of their own -/
def tTry (K : PySem.W.Frag) (c : Value) (i : Nat) (tb : WX → TS) (ts : Addr → Value → Option Addr → TS) (W : WX) : TS := fun D σ H => tb (wAs K c i ts W D) D σ H
section
variable {X : Cx} (K : PySem.W.Frag) {x n : Str} {c : Value} {i : Nat} {body suite : List Stmt} {b₀ : Stmt} {np pos pos' : Pos} {tb : WX → TS} {ts : Addr → Value → Option Addr → TS} {Wout : WX}
theorem ks_try_as (hs : X.stack = X.env :: X.outer) (hf : X.env.frame = some X.env.locals) (hN : X.N.Nodup) (hi : X.N[i]? = some n) (hln : X.env.kindOf n = some .local) (hc : Names X x c) (tk : Takes X Wout)
    (hb : ∀ (W : WX) (pn : List (Addr × Obj)) (xe : Value → Shared → Prop), Takes (X.tr pn xe) W → PassesOwn (model X.prog X.w) X.A X.env xe → PSs (X.tr pn xe) body (tb W))
    (hsu : ∀ (a : Addr) (oe : Obj) (cls : Value) (d : Option Addr) (pn : List (Addr × Obj)), Zc cls d oe → (∃ vs, oe.data = .fields vs) → PSs (X.suite a ((a, oe) :: pn)) (b₀ :: suite) (ts a cls d)) (hK : X.K = K := by rfl) :
    PS X (.Try body [.ExceptHandler (some (.Name x np)) (some n) (b₀ :: suite) pos'] [] [] pos) (tTry K c i tb ts Wout) := by
  subst hK
  exact ps_try_as hs hf hN hi hln hc tk hb hsu
end
section
variable {Z : Cz} {Γ : List B} {P : Po}
theorem dens_tryT {c : Value} {i : Nat} {tb : WX → TS} {ts : Addr → Value → Option Addr → TS} {Y : Er → List B → Prop}
    (hb : ∀ W, DenS (Z.wx W Y) (tb W) Γ P)
    (hs : ∀ er Γ', Y er Γ' → ∃ b, PySem.W.exmOne Z.K (.ref er.cls) c = some b ∧ (b = true → ∀ a d, DenS Z (ts a (.ref er.cls) d) (Γ'.set i (.exc a (.ref er.cls) d er)) ⟨fun Γ2 => P.N (unset Γ2 i), P.R, fun Γ2 => P.Bk (unset Γ2 i), fun Γ2 => P.Ct (unset Γ2 i)⟩) ∧ (b = false → Z.X er Γ')) :
    DenS Z (tTry Z.K c i tb ts Z.W) Γ P := dens_try hb hs
end
theorem eqD_pair (a b : Int) : eqD 1 (.tup [.int a, .int b]) := eqD_tup fun z hz => by
  simp at hz
  rcases hz with rfl | rfl
  · exact eqD_int _
  · exact eqD_int _
end Ab
namespace L2
open PySem PySem.Spec PyProof.Rows
/-- what an own class must have for isinstance of its objects -/
structure KitO (K : PySem.W.Frag) (C : Addr) : Prop where
  cl : Cls K C
  ha : PySem.W.findIn K (.ref C) "__class__" = some (some (.builtin "object.__class__"))
  hn : PySem.W.specialIn K (.builtin "object.__class__") "__get__" = some (some (.builtin "getset_descriptor.__get__"))
  tk : PySem.W.takesIn K (.builtin "object.__class__") = some true
  hm : PySem.W.mroIn K C (.type "object") = some true
def rEqO (K : PySem.W.Frag) (C : Addr) (sp : Sp) : R2 := fun x y H Q => ∃ a dx fs, x = .ref a ∧ H a = some (.ins C dx fs) ∧ (∃ t : Value, TyX K H y t ∧ PySem.W.notFirst K C t = true) ∧ sp [x, y] H (fun v H' => (∃ k, v = .bl k) ∧ Q v H') (fun _ _ _ => False)
theorem op_eqO {X : Cx} {C f : Addr} {fd : FuncData} {ps : List Str} {sp : Sp} {k : Nat} (F : FnOk X.prog X.w X.K X.mg X.base (L2.CX X.prog X.w) k f fd ps sp) (hr : Room k X.A) (hs : PySem.W.findIn X.K (.ref C) "__eq__" = some (some (.ref f))) (hf : PySem.W.isFn X.K (.ref f) = true) (hb : Binds X.K fd ps []) :
    OpR X (compareOp .Eq) (rEqO X.K C sp) := by
  intro pins s σ H x y v u Q I rx ry h
  obtain ⟨a, dx, fs, rfl, ha, ⟨t, ty, nf⟩, hsp⟩ := h
  obtain rfl : v = Value.ref a := rx
  obtain ⟨mA, J, _⟩ := ins_get I.hok ha
  obtain ⟨od, J, _⟩ := J.look
  obtain ⟨m, hF⟩ := I.fr
  obtain ⟨Pz, Z, pz, _⟩ := kit_of I ry ty
  show wpAny (model X.prog X.w) X.A (richCompare .Eq (.ref a) u) _ _ _
  refine PySem.W.cmp_K (op := .Eq) (tb := t) hr.units0 hF I.ok.mod.kin J (Z.ty _ _ I.kIn pz) nf hs hf ?_
  refine wpAny_mono (run_fn F hr hb .nil passL I (.cons (show RelV (.ref a) (Value.ref a) from rfl) (.cons ry .nil)) (by rw [List.append_nil]; exact hsp)) (fun w s' q => ?_) fun _ _ x => x
  obtain ⟨z, H', I', rz, ⟨b, ek⟩, q⟩ := q
  subst ek
  cases rz
  exact ⟨.bl b, H', I', rfl, q⟩
/-- repr(v) of plain data, nothing else under way -/
def rRepr (K : PySem.W.Frag) : List V → Hp → VK → Prop := fun vs H Q => ∃ v d, vs = [v] ∧ Dp K H v d ∧ d.showable = true ∧ d.hasDict = false ∧ d.depth ≤ 60 ∧ d.shown.length ≤ sizeLine ∧ Q (.str d.shown) H
theorem cr_repr {X : Cx} (hg : X.A.guards = some []) (hu : X.A.units + 64 < cLine) : CallR X (.builtin "repr") (rRepr X.K) := by
  intro pins s σ H vs us Q I r h
  obtain ⟨v, d, rfl, dp, h1, h2, h3, h4, q⟩ := h
  obtain ⟨u, rfl, ru⟩ := vals1 r
  cases dp with
  | non => cases (show u = Value.none from ru); exact PySem.P.repr_of_none ⟨.str _, H, I.tok _, ⟨_, rfl⟩, q⟩
  | bl b => cases (show u = Value.bool b from ru); exact PySem.P.repr_of_bool ⟨.str _, H, I.tok _, ⟨_, rfl⟩, q⟩
  | int i => obtain ⟨t, rfl⟩ := (show ∃ t, u = Value.int i t from ru); exact PySem.P.repr_of_int (by simpa [PyData.showable] using h1) ⟨.str _, H, I.tok _, ⟨_, rfl⟩, q⟩
  | str x => obtain ⟨t, rfl⟩ := (show ∃ t, u = Value.str x t from ru); exact PySem.P.repr_of_str ⟨.str _, H, I.tok _, ⟨_, rfl⟩, q⟩ (by simpa only [PyData.shown] using h4)
  | @lst a xs ds sq al =>
    obtain rfl : u = Value.ref a := ru
    obtain ⟨as, rd⟩ := Dp.reads I _ _ _ (.lst sq al) (rfl : RelV (.ref a) (.ref a))
    exact repr_of_reads' rd h1 (fun z => by rw [h2] at z; cases z) hg (by omega) (fun _ _ e => e) (fun h' w tk k => ⟨.str _, H, I.kept k, ⟨_, rfl⟩, q⟩) h4
  | @tup a xs ds sq al =>
    obtain rfl : u = Value.ref a := ru
    obtain ⟨as, rd⟩ := Dp.reads I _ _ _ (.tup sq al) (rfl : RelV (.ref a) (.ref a))
    exact repr_of_reads' rd h1 (fun z => by rw [h2] at z; cases z) hg (by omega) (fun _ _ e => e) (fun h' w tk k => ⟨.str _, H, I.kept k, ⟨_, rfl⟩, q⟩) h4
structure FnOkG (P : Program) (w : World) (K : PySem.W.Frag) (mg : Str → Option Value) (base : Heap) (CX : CXT) (k : Nat) (f : Addr) (fd : FuncData) (ps : List Str) (sp : Sp) : Prop where
  lenG : ∀ ws G R D, sp ws G R D → ws.length = ps.length
  runG : ∀ (Ar : Around) (out : List Env) (sh : Shared) (G : Hp) (as : Args) (vus : List Value) (ws : List V) (R : VK) (D : XK), Ar.guards = some [] → Room k Ar → Env0 P w K mg base Ar out sh G → BindsTo sh fd as (ps.zip vus) → Vals ws vus → sp ws G R D →
    codeAny (model P w) Ar (.call (.ref f) as) (CR CX out P w G sh R D) sh
section
variable {P : Program} {w : World} {K : PySem.W.Frag} {mg : Str → Option Value} {base : Heap}
theorem fnG_of {x qual : Str} {st : Stmt} {f : Addr} {fd : FuncData} {N ps : List Str} {k : Nat} {sp : Sp} (F : Fun K x qual st f fd) (Sc : FnScope N ps (defScope st)) (ln : ∀ ws G R D, sp ws G R D → ws.length = ps.length)
    (hb : ∀ (cdv : Value) (Ar : Around) (out : List Env) (sh : Shared) (G : Hp) (ws : List V) (R : VK) (D : XK), (Ar.deeper (envOfC qual (defScope st) sh.heap.objs.size f cdv)).guards = some [] → Room k (Ar.deeper (envOfC qual (defScope st) sh.heap.objs.size f cdv)) → sp ws G R D →
      ∃ t, PSs (cxOf (L2.CX P w) P w K mg base N qual (defScope st) f cdv Ar out sh G D) (defBody st) t ∧ t { nx := fun _ H' => R .non H', rt := R } (start N ws) G) : FnOkG P w K mg base (L2.CX P w) (k + 1) f fd ps sp := by
  obtain ⟨c1, c2, c3, c4, c5, c6, cdv, c7, c8, rfl, look, code⟩ := F.ex
  constructor
  · exact ln
  · intro Ar out sh G as vus ws R D g0 room env bnd rel ask
    have long : ws.length = ps.length := ln _ _ _ _ ask
    have inK : K.In sh.heap := env.mod.kin.keeps (fun b o z => (env.bs b o z).1)
    have noLim : sh.heap.NoLimit := env.mod.nolimit.keeps (fun b o z => (env.bs b o z).1)
    obtain ⟨t, walk, wish⟩ := hb cdv Ar out sh G ws R D g0 (room.deeper _) ask
    have kinds : ∀ y ∈ ps.zip vus, (defScope st).names.lookup y.1 = some .local ∨ ((defScope st).names.lookup y.1 = some .cell ∧ ((cellsFrom (sh.heap.objs.size + 1) (defScope st).names []).lookup y.1).isSome = true) := by
      intro y hy
      cases Sc.par y.1 (List.of_mem_zip (a := y.1) (b := y.2) hy).1 with
      | inl z => exact .inl z
      | inr z => exact .inr ⟨z, PySem.W.cellsFrom_some _ _ _ (.inl z)⟩
    apply codeAny_call_function room.depth (inK _ _ look) rfl Sc.co Sc.gen rfl (PySem.W.codeRec_of inK code)
    apply bnd
    apply wpAny_newFunctionEnv_cells Sc.kind kinds
    intro en hen s1 laid
    cases hen
    refine And.intro (noLim.keeps laid.toInCall.keep) (codeAny_func ?_)
    have i0 : Inv (cxOf (L2.CX P w) P w K mg base N qual (defScope st) f cdv Ar out sh G D) [] (start N ws) G s1 := inv_start Sc room.hd env long rel laid
    have run := walk.run [] s1 (start N ws) G _ i0 wish
    apply wpAny_mono run
    · intro fl s' how
      match fl, how with
      | .ret u, ⟨v, σ', H', J, rv, q⟩ => exact ⟨v, H', J.os, J.bare, J.base, J.hok, rv, q⟩
      | .next, ⟨σ', H', J, q⟩ => exact ⟨V.non, H', J.os, J.bare, J.base, J.hok, rfl, q⟩
      | .brk, ⟨_, _, _, q⟩ => exact q.elim
      | .cont, ⟨_, _, _, q⟩ => exact q.elim
    · exact fun e s' how => how
end
section
variable {X : Cx} {x : Str} {f : Addr} {e : Expr} {es : List Expr} {t : TA} {k : Nat} {sp : Sp} {p pos : Pos} {fd : FuncData} {ps : List Str}
theorem pe_callG (F : FnOkG X.prog X.w X.K X.mg X.base (L2.CX X.prog X.w) k f fd ps sp) (g0 : X.A.guards = some []) (room : Room k X.A) (hg : Gl X x) (hm : X.mg x = some (.ref f)) (hk : PySem.W.keepIn X.K (.ref f) = true) (hb : Binds X.K fd ps [])
    (ha : PA X (e :: es) t) (hdb : (x == ("__debug__" : Str)) = false := by decide) (he : starEach (e :: es) X.env = (false, eval e X.env) :: starEach es X.env := by rfl) (hpl : (backTo pos (starEach es X.env)).any (·.1) = false := by rfl) :
    PE X (.Call (.Name x p) (e :: es) [] pos) (tCall sp [] (fun _ _ _ => False) t) := by
  constructor
  intro pins s σ H Q I h
  apply wpAny_Call_Name_kw (ld_glob I hg hm ?_ hdb)
  refine PySem.W.callWith_K (h₀ := X.base) I.ok.mod.kin hk (thn (ha.run pos pins s σ H _ I h) ?_) he hpl
  rintro us s1 ⟨vs, H1, I1, rel, ask⟩
  rw [List.append_nil] at ask
  refine ⟨I1.kIn, wpAny_call (codeAny_mono (F.runG X.A X.stack s1 H1 ⟨us, []⟩ us vs Q (fun _ _ _ => False) g0 room I1.env0 ?_ rel ask) ?_)⟩
  · have z := hb s1 us I1.kIn (by rw [List.append_nil, ← rel.length]; exact F.lenG _ _ _ _ ask)
    rwa [List.append_nil] at z
  · intro r s' got
    match r, got with
    | .error e, got => exact passL pins σ H1 s1 e s' I1 got
    | .ok (.ret u), got => exact I1.after got
    | .ok .next, got => exact got.elim
    | .ok .brk, got => exact got.elim
    | .ok .cont, got => exact got.elim
end
end L2
namespace Ab
open PySem L2
theorem k_repr {X : Cx} (K : PySem.W.Frag) (hg : X.A.guards = some []) (hu : X.A.units + 64 < cLine) (h : X.K = K := by rfl) : CallR X (.builtin "repr") (rRepr K) := by subst h; exact cr_repr hg hu
section
variable {P : Program} {w : World} {K : PySem.W.Frag} {mg : Str → Option Value} {base : Heap}
/-- a def that is called only where nothing is under way; it lets nothing out -/
theorem fn_abG {x qual : Str} {st : Stmt} {f : Addr} {fd : FuncData} {N ps : List Str} {k : Nat} (F : Fun K x qual st f fd) (Sc : FnScope N ps (defScope st)) (S : FSpec) (hl : ps.length ≤ N.length)
    (hbody : ∀ (cdv : Value) (A : Around) (outer : List PySem.Env) (s : Shared) (H : Hp) (E : XK) (ds : List D), (A.deeper (PyProof.Rows.envOfC qual (defScope st) s.heap.objs.size f cdv)).guards = some [] → Room k (A.deeper (PyProof.Rows.envOfC qual (defScope st) s.heap.objs.size f cdv)) → ds.length = ps.length → S.P ds →
      ∃ t, PSs (cxOf (L2.CX P w) P w K mg base N qual (defScope st) f cdv A outer s H E) (defBody st) t ∧
        ∀ Z : Cz, Z.K = K → DenS Z t (ds.map B.d ++ List.replicate (N.length - ds.length) .un) ⟨fun _ => S.R ds .non, ⟨S.R ds, fun _ => False⟩, fun _ => False, fun _ => False⟩) : FnOkG P w K mg base (L2.CX P w) (k + 1) f fd ps (spS K ps.length S) := by
  refine fnG_of F Sc (fun vs H Q E h => ?_) (fun cdv A outer s H vs Q E g0 hr h => ?_)
  · obtain ⟨pl, G, ds, _, r, hn, _⟩ := h
    rw [r.length, hn]
  · obtain ⟨pl, G, ds, j, r, hn, hp, hq, he⟩ := h
    obtain ⟨t, h1, h2⟩ := hbody cdv A outer s H E ds g0 hr hn hp
    refine ⟨t, h1, h2 ⟨K, pl, H, G, fun cls d _ H => E cls d H, fun er _ => False⟩ rfl _ G H ⟨j.toJ0.re rfl rfl rfl, fun _ _ _ _ _ _ _ z => z.elim⟩ (en_start r (by omega)) _ ⟨fun Γ σ G' H' hN _ j' _ => hq .non .non G' H' hN ⟨j'.toJ0.re rfl rfl rfl, fun _ _ _ _ _ _ _ z => z.elim⟩ .non,
      fun x v G' H' hR _ j' rx => (match x, hR, rx with | .inl x, hR, rx => hq x v G' H' hR ⟨j'.toJ0.re rfl rfl rfl, fun _ _ _ _ _ _ _ z => z.elim⟩ rx | .inr _, hR, _ => hR.elim), fun _ _ _ _ z => z.elim, fun _ _ _ _ z => z.elim⟩⟩
structure DfnG (P : Program) (w : World) (K : PySem.W.Frag) (mg : Str → Option Value) (base : Heap) (x : Str) (k n : Nat) (S : FSpec) : Prop where
  ex : ∃ f fd ps, FnOkG P w K mg base (L2.CX P w) k f fd ps (spS K n S) ∧ mg x = some (.ref f) ∧ PySem.W.keepIn K (.ref f) = true ∧ Binds K fd ps []
end
section
variable {X : Cx} {P : Program} {w : World} {K : PySem.W.Frag} {mg : Str → Option Value} {base : Heap} {x : Str} {e : Expr} {es : List Expr} {t : TA} {k n j : Nat} {S : FSpec} {p pos : Pos}
theorem kc_fnG (g0 : X.A.guards = some []) (c : DfnG P w K mg base x k n S) (hr : Room j X.A) (hk : k ≤ j) (hX : X.prog = P ∧ X.w = w ∧ X.K = K ∧ X.mg = mg ∧ X.base = base) (hg : Gl X x) (ha : PA X (e :: es) t) (hdb : (x == ("__debug__" : Str)) = false := by decide)
    (he : starEach (e :: es) X.env = (false, eval e X.env) :: starEach es X.env := by rfl) (hpl : (backTo pos (starEach es X.env)).any (·.1) = false := by rfl) : PE X (.Call (.Name x p) (e :: es) [] pos) (tCall (spS K n S) [] (fun _ _ _ => False) t) := by
  obtain ⟨rfl, rfl, rfl, rfl, rfl⟩ := hX
  obtain ⟨f, fd, ps, h1, h2, h3, h4⟩ := c.ex
  exact pe_callG h1 g0 (hr.mono hk) hg h2 h3 h4 ha hdb he hpl
theorem dfnG_mk {qual : Str} {st : Stmt} {f : Addr} {fd : FuncData} {ps : List Str} (F : Fun K x qual st f fd) (m : mg x = some (.ref f)) (b : Binds K fd ps [])
    (h : FnOkG P w K mg base (L2.CX P w) k f fd ps (spS K ps.length S)) : DfnG P w K mg base x k ps.length S := ⟨⟨f, fd, ps, h, m, F.kp, b⟩⟩
/-- an own == , as its callers know it -/
structure EqO (P : Program) (w : World) (K : PySem.W.Frag) (mg : Str → Option Value) (base : Heap) (C : Addr) (k : Nat) (S : FSpec) : Prop where
  kit : KitO K C
  ex : ∃ f fd ps, FnOk P w K mg base (L2.CX P w) k f fd ps (spS K 2 S) ∧ PySem.W.findIn K (.ref C) "__eq__" = some (some (.ref f)) ∧ PySem.W.isFn K (.ref f) = true ∧ Binds K fd ps []
  nfO : PySem.W.notFirst K C (.ref C) = true
  nfT : PySem.W.notFirst K C (.type "tuple") = true
def rEqW (K : PySem.W.Frag) (C : Addr) (S : FSpec) : R2 := fun x y H Q => rEqO K C (spS K 2 S) x y H Q ∨ rEqq K x y H Q
theorem k_eqO {C : Addr} (q : EqO P w K mg base C k S) (hr : Room j X.A) (hk : k ≤ j) (hX : X.prog = P ∧ X.w = w ∧ X.K = K ∧ X.mg = mg ∧ X.base = base) : OpR X (compareOp .Eq) (rEqW K C S) := by
  obtain ⟨rfl, rfl, rfl, rfl, rfl⟩ := hX
  obtain ⟨f, fd, ps, h1, h2, h3, h4⟩ := q.ex
  exact (op_eqO h1 (hr.mono hk) h2 h3 h4).or (op_eqq hr.units)
end
section
variable {Z : Cz} {Γ : List B}
theorem opd_eqO {P : Program} {w : World} {mg : Str → Option Value} {base : Heap} {C : Addr} {k : Nat} {S : FSpec} {ns : List Str} {vs : List D} {y : D} {Q : D → Prop} (q : EqO P w Z.K mg base C k S) (hy : (∃ ms us, y = .obj C ms us) ∨ ∃ us, y = .tup us)
    (hp : S.P [.obj C ns vs, y]) (hr : ∀ d, S.R [.obj C ns vs, y] d → ∃ b, d = .bl b ∧ Q (.bl b)) (hx : ∀ er, ¬ S.X [.obj C ns vs, y] er) : OpD Z (rEqW Z.K C S) (.obj C ns vs) y Q := fun G H vx vy jj rx ry kk fin => by
  refine .inl ?_
  cases rx with
  | @obj a _ dx _ xs _ h1 h2 r1 =>
    refine ⟨a, dx, _, rfl, jj.sub _ _ h1, ?_, Z.pl, G, [.obj C ns vs, y], jj.enter, .cons (.obj h1 h2 r1) (.cons ry .nil), rfl, hp, fun d v G' H' a j r => ?_, fun er _ _ _ _ z => absurd z (hx er)⟩
    · rcases hy with ⟨ms, us, rfl⟩ | ⟨us, rfl⟩
      · cases ry with
        | @obj b _ dy _ ys _ g1 g2 g3 => exact ⟨_, .base (.ins (jj.sub _ _ g1) q.kit.cl q.kit.ha q.kit.hn q.kit.tk q.kit.hm), q.nfO⟩
      · cases ry with
        | @tup b ys _ g1 g2 => exact ⟨_, ty_sqt (jj.sub.sqt g1), q.nfT⟩
    · obtain ⟨b, rfl, q'⟩ := hr d a
      cases r
      exact ⟨⟨b, rfl⟩, fin _ _ G' H' q' j (.bl b)⟩
/-- isinstance(x, C) of an object of C, of a tuple -/
theorem cad_isO {C : Addr} {ns : List Str} {vs : List D} {Q : D → Prop} (kt : KitO Z.K C) (q : Q (.bl true)) : CaD Z (rIsi Z.K) [.obj C ns vs, .cls C] Q := fun G H us jj r kk fin => by
  cases r with
  | cons a c => cases c with
    | cons c d =>
      cases d; cases c
      cases a with
      | @obj a _ dx _ xs _ h1 h2 r1 =>
        exact ⟨_, _, _, _, true, rfl, .own C, .base (.ins (jj.sub _ _ h1) kt.cl kt.ha kt.hn kt.tk kt.hm), by unfold PySem.W.kitOne; rw [if_pos (by simp)], fin _ _ G H q jj.enter (.bl _)⟩
theorem cad_isT {C : Addr} {xs : List D} {b : Bool} {Q : D → Prop} (hk : PySem.W.kitOne Z.K (.type "tuple") (.ref C) = some b) (q : Q (.bl b)) : CaD Z (rIsi Z.K) [.tup xs, .cls C] Q := fun G H us jj r kk fin => by
  cases r with
  | cons a c => cases c with
    | cons c d =>
      cases d; cases c
      exact ⟨_, _, _, _, b, rfl, .own C, tag_ty jj.sub rfl a, hk, fin _ _ G H q jj.enter (.bl _)⟩
/-- what can be shown -/
structure ShowOk (x : D) : Prop where
  pl : plainD x = true
  sh : (pyD x).showable = true
  nd : (pyD x).hasDict = false
  dp : (pyD x).depth ≤ 60
  ln : (pyD x).shown.length ≤ sizeLine
theorem cad_repr {x : D} {Q : D → Prop} (h : ShowOk x) (q : Q (.str (pyD x).shown)) : CaD Z (rRepr Z.K) [x] Q := fun G H us jj r kk fin => by
  cases r with
  | cons a c =>
    cases c
    exact ⟨_, _, rfl, a.dp jj.sub h.pl, h.sh, h.nd, h.dp, h.ln, fin _ _ G H q jj.enter (.str _)⟩
end
end Ab
namespace L2
open PySem PySem.Spec PyProof.Rows
section
variable {P : Program} {w : World} {K : PySem.W.Frag} {mg mb : Str → Option Value} {k : Nat} {fa a : Addr} {fd : FuncData} {x : Str} {sp : Sp} {s1 : Shared} {us : List Value} {ms : List Int}
/-- from a heap of wishes in which at most the script is told -/
theorem endG_core (inK : K.In s1.heap) (nsM : s1.heap.Ns mainGlobals mg) (nsB : s1.heap.Ns builtinsNs mb) (boot : ∀ x : Str, x ≠ "__name__" → mb x = bootBuiltins x) (noLim : s1.heap.NoLimit) (noGen : s1.gens = #[])
    (obj : s1.heap.get? a = some { cls := .type "list", data := .seq us.toArray }) (room : Room k callerA) (F : ∀ base : Heap, K.In base → base.Ns mainGlobals mg → FnOkG P w K mg base (L2.CX P w) k fa fd [x] sp)
    (bnd : ∀ (s : Shared) (u : Value), BindsTo s fd ⟨[u], []⟩ [(x, u)]) (ask : ∀ H : Hp, Only H → SqL K H a (ms.map V.int) → sp [.ref a] H (fun v _ => v = .bl true) fun _ _ _ => False)
    {G : Hp} (only : Only G) (sq : SqL K G a (ms.map V.int)) (ok : HOk P w G s1.heap) (just : ∀ b, G b ≠ none → b = a) (apart : G a ≠ none → K.lookup a = none) :
    codeAny (model P w) callerA (.call (.ref fa) ⟨[.ref a], []⟩) (fun r s' => r = .ok (.ret (.bool true)) ∧ OldK s1.heap s'.heap ∧ s'.os = s1.os ∧ AllBare s'.gens) s1 := by
  have keepD : ∀ {b : Addr} {o : Obj} {es : Array DictEntry} {ep : Nat}, s1.heap.get? b = some o → o.data = .dict es ep → (hidT s1.heap G).get? b = some o := by
    intro b o es ep eo ed
    apply hidT_get eo
    by_cases z : G b = none
    · exact z
    · have := just b z
      subst this
      rw [obj] at eo
      cases eo
      exact Data.noConfusion ed
  have nsH : ∀ {b : Addr} {m : Str → Option Value}, s1.heap.Ns b m → (hidT s1.heap G).Ns b m := by
    rintro b m ⟨o, es, ep, eo, ed, rest⟩
    exact ⟨o, es, ep, keepD eo ed, ed, rest⟩
  have inH : K.In (hidT s1.heap G) := by
    intro b o eo
    apply hidT_get (inK b o eo)
    by_cases z : G b = none
    · exact z
    · have q := just b z
      subst q
      rw [apart z] at eo
      cases eo
  obtain ⟨mc, l1, l2⟩ := noLim
  have env : Env0 P w K mg (hidT s1.heap G) callerA [] s1 G :=
    { frames := rfl, mod := ⟨inH, nsH nsM, ⟨mb, nsH nsB, boot⟩, ⟨mc, nsH l1, l2⟩⟩, bs := fun b o z => of_hidT z, bsz := by rw [hidT_size]; exact Nat.le_refl _, funs := trivial, frf := by intro b hb; simp [frs] at hb, hok := ok, bare := .of_eq noGen }
  have run := (F _ inH (nsH nsM)).runG callerA [] s1 G ⟨[.ref a], []⟩ [.ref a] [.ref a] (fun v _ => v = .bl true) (fun _ _ _ => False) rfl room env (bnd s1 (.ref a)) (.cons rfl .nil) (ask G only sq)
  apply codeAny_mono run
  intro r s' got
  match r, got with
  | .error e, ⟨_, _, _, _, _, _, _, _, _, _, _, _, z⟩ => exact z.elim
  | .ok .next, got => exact got.elim
  | .ok .brk, got => exact got.elim
  | .ok .cont, got => exact got.elim
  | .ok (.ret u), ⟨v, H', sameOs, bare, un, ok', rv, ev⟩ =>
    have ev : v = .bl true := ev
    subst ev
    have eu : u = Value.bool true := rv
    refine ⟨by rw [eu], OldK.of_keep ?_, sameOs, bare⟩
    intro b o eo
    rcases only b with z | ⟨ob, zs, z⟩
    · exact un.keep b o eo z (by simp [frs]) (by simp)
    · obtain ⟨e1, _⟩ := ok b _ z
      obtain ⟨e2, _⟩ := ok' b _ (un.frzs b ob _ z)
      rw [eo] at e1
      cases e1
      exact e2
end
/-- the goal that the head leaves -/
theorem endG {l : PySem.W.OpenLaw} {n k : Nat} {q : Program} {loose : List Str} {XP : (Str → Option Value) → Heap → Prop} {YP : World → Heap → Prop} {d : DefRec} {K : Params → PySem.W.Frag} {sp : World → Sp} {x : Str}
    (most : l.most = some n) (fits : n ≤ sizeLine) (plain : d.params.defaults = []) (room : Room k callerA) (says : ∀ (w : World) (h : Heap), YP w h → (K w.params).In h)
    (F : ∀ (w : World) (mg : Str → Option Value) (fa : Addr) (h : Heap), (K w.params).In h → h.Ns mainGlobals mg → mg d.name = some (.ref fa) → ∃ fd : FuncData, (∀ (s : Shared) (u : Value), BindsTo s fd ⟨[u], []⟩ [(x, u)]) ∧
        ∀ base : Heap, (K w.params).In base → base.Ns mainGlobals mg → FnOkG l.prog w (K w.params) mg base (L2.CX l.prog w) k fa fd [x] (sp w))
    (ask : ∀ (w : World) (H : Hp) (a : Addr) (ms : List Int), ms.length ≤ n → Only H → SqL (K w.params) H a (ms.map V.int) → sp w [.ref a] H (fun v _ => v = .bl true) fun _ _ _ => False) :
    PySem.W.WalkO q loose XP YP l.row.toRowW d [] (fun f vs => PySem.call f vs) := by
  apply Att.attach_call most plain
  intro w s0 s1 mg mb fa o pm cd doc a us ms gr yy _ _ _ named obj hin short noGen
  have inK := says w _ yy
  obtain ⟨fd, bnd, law⟩ := F w mg fa _ inK gr.T.g named
  have rel : Vals (ms.map V.int) us := vals_ints hin
  have len : us.length = ms.length := hin.length
  have fit : (ms.map V.int).length ≤ sizeLine := by rw [List.length_map]; exact Nat.le_trans short fits
  have go := fun (G : Hp) (o1 : Only G) (o2 : SqL (K w.params) G a (ms.map V.int)) (o3 : HOk l.prog w G s1.heap) o4 o5 =>
    endG_core inK gr.T.g gr.T.b gr.T.builtins gr.T.nolimit noGen obj room law bnd (fun H hO hS => ask w H a ms short hO hS) o1 o2 o3 o4 o5
  cases told : (K w.params).lookup a with
  | some ob =>
    have eo := inK a ob told
    rw [obj] at eo
    cases eo
    refine go (fun _ => none) (fun _ => .inl rfl) ?_ (fun b u z => nomatch (show (none : Option HO) = some u from z)) (fun b z => absurd rfl z) (fun z => absurd rfl z)
    exact .inr ⟨_, us.toArray, _, told, rfl, rfl, rfl, by rw [List.size_toArray, len, ← List.length_map (f := V.int)]; exact fit, by simpa using rel⟩
  | none =>
    let ob : Obj := { cls := .type "list", data := .seq us.toArray }
    let G : Hp := fun b => if b = a then some (.frz ob (.lst (ms.map V.int))) else none
    have at_ : G a = some (.frz ob (.lst (ms.map V.int))) := if_pos rfl
    have off : ∀ b, b ≠ a → G b = none := fun b z => if_neg z
    refine go G (fun b => ?_) (.inl (.inr ⟨ob, at_⟩)) (fun b u z => ?_) (fun b z => ?_) fun _ => told
    · by_cases z : b = a
      · subst z; exact .inr ⟨_, _, at_⟩
      · exact .inl (off b z)
    · by_cases y : b = a
      · subst y
        rw [at_] at z
        cases z
        exact ⟨obj, fit, us, _, rel, obj⟩
      · rw [off b y] at z; cases z
    · by_cases y : b = a
      · exact y
      · exact absurd (off b y) z
end L2
namespace Ab
open PySem L2
theorem kitCls_ref {K : PySem.W.Frag} {t : Value} {C : Addr} {b : Bool} (h1 : PySem.W.isClsIn K C = true) (h2 : PySem.W.typeIn K (.ref C) = some (.type "type")) (h3 : PySem.W.subIn K t (.ref C) = some b) : PySem.W.kitCls K t (.ref C) = some b := by
  have z : ((PySem.W.clsIn K C).isSome && PySem.W.typeIn K (.ref C) == some (.type "type")) = true := by
    rw [show (PySem.W.clsIn K C).isSome = true from h1, h2]; rfl
  unfold PySem.W.kitCls
  simp only [z, if_true]
  exact h3
theorem kitOne_yes {K : PySem.W.Frag} {t c : Value} (h : PySem.W.kitCls K t c = some true) : PySem.W.kitOne K t c = some true := by
  unfold PySem.W.kitOne
  split
  · rfl
  · exact h
theorem kitOne_other {K : PySem.W.Frag} {t c : Value} {b : Bool} (n : (t == c) = false) (h : PySem.W.kitCls K t c = some b) : PySem.W.kitOne K t c = some b := by
  unfold PySem.W.kitOne
  rw [n]; exact h
theorem kitCls_ty {K : PySem.W.Frag} {t : Value} {T : String} {b : Bool} (m : PySem.W.kitMeta T = true) (h : PySem.W.subIn K t (.type T) = some b) : PySem.W.kitCls K t (.type T) = some b := by
  unfold PySem.W.kitCls
  simp only [m, if_true]
  exact h
theorem exm_own {K : PySem.W.Frag} {t : Value} {C : Addr} {b : Bool} (e : PySem.W.subIn K (.ref C) (.type "BaseException") = some true) (h : PySem.W.kitCls K t (.ref C) = some b) : PySem.W.exmOne K t (.ref C) = some b := by
  unfold PySem.W.exmOne
  rw [e]; exact h
end Ab
namespace Ab
open PySem L2
/-- a constant tuple of the module -/
def KRp (K : PySem.W.Frag) (a : Addr) (d : D) : Prop := ∀ pl G, Rp K pl G (.ref a) d
theorem krp_ints {K : PySem.W.Frag} {a : Addr} {o : Obj} {its : Array Value} {n : Nat} (ns : List Int) (h : K.lookup a = some o) (c : o.cls = .type "tuple") (e : o.data = .seq its n) (hz : its.size ≤ 1000) (iv : Vals (ns.map V.int) its.toList) : KRp K a (.tup (ns.map D.int)) := fun pl G =>
  .tup (.inr ⟨o, its, n, h, c, e, Nat.le_trans hz (by decide), iv⟩) (rps_ints ns)
section
variable {Z : Cz} {Γ : List B}
theorem den_kc {a : Addr} {d : D} {Q : D → List B → Prop} (h : KRp Z.K a d) (q : Q d Γ) : Den Z (tC (.ref a)) Γ Q := fun σ G H j e k kk => kk _ _ _ G H q .refl j e (h _ _)
end
end Ab
namespace L2
open PySem PySem.Spec PyProof.Rows PySem.Calls
/-- __init__(self): super().__init__() -/
def spX0 (C : Addr) : Sp := fun vs H Q _ => ∃ a, vs = [.ref a] ∧ H a = some (exo a C none) ∧ Q .non H
abbrev veMro : List Value := [.type "ValueError", .type "Exception", .type "BaseException", .type "object"]
structure Sup0 (P : Program) (K : PySem.W.Frag) (st : Stmt) (qual : Str) (C f : Addr) (fd : FuncData) : Prop where
  body : ∃ p0 p1 p2 p3 p4, defBody st = [.Expr (.Call (.Attribute (.Call (.Name "super" p0) [] [] p1) "__init__" p2) [] [] p3) p4] ∧
    ∀ env : PySem.Env, ∃ pl : Sem Bool, eval (.Call (.Attribute (.Call (.Name "super" p0) [] [] p1) "__init__" p2) [] [] p3) env = (do
      let ov ← attributeBase (.Call (.Name "super" p0) [] [] p1) "__init__" env (eval (.Call (.Name "super" p0) [] [] p1) env)
      standAt p2.atName
      let (g, first) ← holding [ov] (getMethod ov "__init__" pl)
      callWith p3 g first (backTo p3 (starEach [] env)) [])
  par : ∃ ar, ((defArgs st).posonlyargs ++ (defArgs st).args).head? = some ar ∧ ar.arg = "self"
  lk : ∃ oc od kV doc pm an ct osl cda cc, fd = PySem.W.fnX "__init__" qual (defArgs st) (defBody st) (defScope st) [("__class__", cc)] .none kV doc pm an (.ref cda) ct ∧ K.lookup f = some ⟨oc, od, .func fd, osl⟩ ∧ PySem.W.codeIn K (.ref cda) qual = true ∧
    (∃ ccl cdd vs ccs file tf, K.lookup cda = some ⟨ccl, cdd, .fields vs, ccs⟩ ∧ vs[2]? = some (.str file tf) ∧ ((P.main.file : Str) == file) = true) ∧ (∃ cl cld csl, K.lookup cc = some ⟨cl, cld, .cell (some (.ref C)), csl⟩)
  cls : ∃ cd, PySem.W.clsIn K C = some cd
  sub : PySem.W.mroIn K C (.ref C) = some true
  nsup : PySem.W.nsIn K mainGlobals "super" = some none
  nany : PySem.W.nsIn K cStatics "thirdparty.any" = some none
  meth : PySem.W.ks_superIn K C C "__init__" = some (some (.builtin "ValueError.__init__"))
  sVE : PySem.W.subIn K (.ref C) (.type "ValueError") = some true
  ini : PySem.W.excInitIn K C veMro "ValueError.__new__" = true
  top : (P.main.scope.names.lookup ("super" : Str)).isSome = false
  sc1 : (defScope st).names.lookup ("super" : Str) = some .globalImplicit
  sc2 : (defScope st).names.lookup ("__class__" : Str) = some .free
  sc3 : (defScope st).names.lookup ("self" : Str) = some .local
  sc4 : (defScope st).kind = .function
  sc5 : (defScope st).isCoroutine = false
  sc6 : (defScope st).isGenerator = false
  sc7 : ∀ x ∈ (defScope st).names, x.2 ≠ .cell
section
variable {P : Program} {w : World} {K : PySem.W.Frag} {mg : Str → Option Value} {base : Heap}
theorem super0 {st : Stmt} {qual : Str} {C f : Addr} {fd : FuncData} (S : Sup0 P K st qual C f fd) : FnOk P w K mg base (L2.CX P w) 1 f fd ["self"] (spX0 C) := by
  refine ⟨fun vs H Q E h => by obtain ⟨a, rfl, _⟩ := h; rfl, fun A outer s H args us vs Q E hr e0 hb r hsp => ?_⟩
  obtain ⟨a, rfl, ha, hq⟩ := hsp
  obtain ⟨u, rfl, ru⟩ := vals1 r
  obtain rfl : u = Value.ref a := ru
  obtain ⟨oc, od, kV, doc, pm, an, ct, osl, cda, cc, rfl, lk, hcd, ⟨ccl, cdd, vs, ccs, file, tf, k1, k2, k3⟩, ⟨cl, cld, csl, k4⟩⟩ := S.lk
  obtain ⟨p0, p1, p2, p3, p4, hbody, hev⟩ := S.body
  obtain ⟨ar, har, hself⟩ := S.par
  obtain ⟨cdD, hD⟩ := S.cls
  obtain ⟨t1, hx⟩ := exo_at e0.hok ha
  have KX : K.In s.heap := e0.mod.kin.keeps fun b o z => (e0.bs b o z).1
  have lim : s.heap.NoLimit := e0.mod.nolimit.keeps fun b o z => (e0.bs b o z).1
  obtain ⟨mb, hmb, hboot⟩ := e0.mod.blt
  have hGl : s.heap.Ns mainGlobals mg := e0.mod.glob.keeps fun b o z => (e0.bs b o z).1
  have hBl : s.heap.Ns builtinsNs mb := hmb.keeps fun b o z => (e0.bs b o z).1
  have baseA : base.get? a = none := by
    cases z : base.get? a with
    | none => rfl
    | some o => have := (e0.bs a o z).2; rw [ha] at this; cases this
  have aK : K.lookup a = none := by
    cases z : K.lookup a with
    | none => rfl
    | some o => have := e0.mod.kin a o z; rw [baseA] at this; cases this
  have sups : mg "super" = none := PySem.W.mg_none_of e0.mod.kin e0.mod.glob S.nsup
  refine ks_codeAny_call_defAt (binds := [("self", .ref a)]) hr.depth (KX _ _ lk) rfl lim (PySem.W.codeRec_of KX hcd) rfl hb S.sc7 (fun y hy => ?_) (fun h₀ hns hk => ?_) S.sc5 S.sc6 S.sc4
  · rw [List.mem_singleton.mp hy]; exact S.sc3
  have KX0 : K.In h₀ := KX.keeps hk
  have hx0 := hk _ _ hx
  have KG : K.In (PySem.W.hideAll s.heap [a]) := fun b o z => PySem.W.hideAll_get [a] (KX b o z) fun q => by
    rw [List.mem_singleton.mp q, aK] at z; cases z
  have fr0 : Fr (PySem.W.hideAll s.heap [a]) s.heap.objs.size h₀ (fun x => ([("self", Value.ref a)] : List (Str × Value)).reverse.lookup x) := ⟨hns, fun b o z => hk b o (PySem.W.of_hideAll [a] z), Nat.le_of_eq (PySem.W.hideAll_size [a] _)⟩
  have aL : a ≠ s.heap.objs.size := Nat.ne_of_lt (Heap.lt_size hx)
  have gA : (PySem.W.hideAll s.heap [a]).get? a = none := PySem.W.hideAll_none [a] (List.mem_singleton.mpr rfl)
  obtain ⟨oD, hD1, hD2⟩ : ∃ oD, h₀.get? C = some oD ∧ oD.data = .cls cdD := by
    unfold PySem.W.clsIn at hD
    split at hD
    · rename_i hl
      cases hD
      exact ⟨_, KX0 _ _ hl, rfl⟩
    · cases hD
  have fin : ∀ h' tk, (∀ b o, b ≠ a → s.heap.get? b = some o → h'.get? b = some o) → (∃ t', h'.get? a = some (PySem.W.excObj C t' none .none)) → CR (L2.CX P w) outer P w H s Q E (.ok (.ret .none)) { s with heap := h', toks := tk } := by
    intro h' tk keep ⟨t', now⟩
    have eu : upd H a (exo a C none) = H := by
      funext b
      by_cases hb' : b = a
      · rw [hb', upd_same, ha]
      · rw [upd_ne hb']
    have mu : Mut (H a) := by rw [ha]; exact True.intro
    have un := Un.write (fs := frs outer) (ex := []) (H := H) (o := exo a C none) mu (.inl rfl) keep ⟨_, now⟩
    have new : ObjOk P w (upd H a (exo a C none)) h' a (exo a C none) := exo_ok now
    have ok : HOk P w (upd H a (exo a C none)) h' := HOk.write e0.hok mu (.inl rfl) keep ⟨_, now⟩ new
    rw [eu] at un ok
    exact ⟨.non, H, rfl, e0.bare, un, ok, rfl, hq⟩
  rw [hbody]
  obtain ⟨pl, hpl⟩ := hev (callEnv (PySem.W.fnX "__init__" qual (defArgs st) [.Expr (.Call (.Attribute (.Call (.Name "super" p0) [] [] p1) "__init__" p2) [] [] p3) p4] (defScope st) [("__class__", cc)] .none kV doc pm an (.ref cda) ct) s.heap.objs.size f)
  refine ks_wpAt_execs_cons (ks_wpAt_Expr_any (ks_wpAt_MethodCall (pl := pl) ?_ hpl) (hi := (by unfold interactive; simp [callEnv, newEnv, S.sc4])))
  refine ks_wpAt_super_base (f := f) (cc := cda) S.sc1 S.sc2 (by decide) rfl (KX0 _ _ lk) rfl har rfl (KX0 _ _ k1) rfl k2 k3 S.top ?_
  refine PySem.W.ks_loadName_global S.sc4 S.sc1 (loadGlobal_builtin (hGl.keeps hk) sups (hBl.keeps hk) ((hboot _ (by decide)).trans PyProof.Rows.Boot.«super») ⟨rfl, ?_⟩)
  refine wpAny_loadName_free S.sc4 S.sc2 rfl ⟨_, KX0 _ _ k4, rfl⟩ ?_
  rw [hself]
  refine wpAny_loadName_local S.sc4 S.sc3 hns rfl ?_
  refine ks_wpAny_isType_cls hD1 hD2 ⟨rfl, ?_⟩
  refine ks_wpAny_call_super hD1 hD2 hx0 rfl (fun c e => by cases e) (PySem.W.looks_mroIn KX0 S.sub) (fun h1 e1 k1' => ?_)
  have soA : h₀.objs.size ≠ a := (Nat.ne_of_lt (Heap.lt_size hx0)).symm
  have gsz : (PySem.W.hideAll s.heap [a]).objs.size = s.heap.objs.size := PySem.W.hideAll_size [a] _
  have up0 : s.heap.objs.size < h₀.objs.size := by
    obtain ⟨o, _, _, z, _⟩ := id hns
    exact Heap.lt_size z
  have gso : (PySem.W.hideAll s.heap [a]).get? h₀.objs.size = none := by
    cases z : (PySem.W.hideAll s.heap [a]).get? h₀.objs.size with
    | none => rfl
    | some o => exact absurd (Nat.lt_trans up0 (gsz ▸ Heap.lt_size z)) (Nat.lt_irrefl _)
  have fr1 : Fr (PySem.W.hideAll s.heap [a]) s.heap.objs.size h1 (fun x => ([("self", Value.ref a)] : List (Str × Value)).reverse.lookup x) := ⟨hns.keeps k1', fun b o z => k1' b o (fr0.keep b o z), fr0.above⟩
  have N1 : News (PySem.W.hideAll s.heap [a]) s.heap.objs.size h1 [(h₀.objs.size, PySem.W.ks_superObj C a C), (a, PySem.W.excObj C t1 none .none)] := by
    intro p hp
    rcases List.mem_cons.mp hp with rfl | hp
    · exact ⟨e1, Nat.ne_of_gt up0, gso⟩
    · rw [List.mem_singleton.mp hp]
      exact ⟨k1' _ _ hx0, aL, gA⟩
  refine PySem.W.kxs_method PySem.W.kxs_ValueError fr1 KG N1 (.head _) (PySem.W.InstAt.of_exc0 (t := t1) (c2 := .none) N1 (.tail _ (.head _))) S.nany S.meth S.sVE (by decide) fun q h2 fr2 N2 lt2 => ?_
  refine PySem.W.kxs_callWith0 N2 (.head _) ?_
  have qA : q ≠ a := (Nat.ne_of_lt (lt2 _ (.tail _ (.head _)))).symm
  refine PySem.W.kxs_call fr2 KG N2 F.excBase_ValueError S.ini (.head _) (.tail qA (.tail soA (.head fun p hp => nomatch hp))) (Nat.zero_le _) fun t' h3 fr3 N3 _ => ?_
  refine wpAt_of_wpAny (wpAny_execs_nil (fin h3 _ (fun b o nb eo => fr3.keep b o (PySem.W.hideAll_get [a] eo (by simpa using nb))) ⟨t', (N3 (a, _) (.tail _ (.tail _ (.tail _ (.head _))))).1⟩))
end
end L2
namespace L2
open PySem PySem.Spec PyProof.Rows
section
variable {X : Cx}
/-- a new error object without a dict is let go: the heap without it is as the heap before -/
theorem let_go {pins : List (Addr × Obj)} {σ : St} {H : Hp} {hp hp2 h2 : Heap} {g1 g2 : Array GenState} {d1 d2 : Drawn} {t1 t2 : Nat} {os1 os2 : OsState} {a C : Addr} (I : Inv X pins σ H ⟨hp, g1, d1, t1, os1⟩)
    (far : hp.objs.size ≤ a) (up : ∀ b o, hp.get? b = some o → hp2.get? b = some o) (un : Un (frs X.stack) [] (upd H a (exo a C none)) (upd H a (exo a C none)) hp2 h2) (ok : HOk X.prog X.w (upd H a (exo a C none)) h2) (same : os2 = os1) (bare : AllBare g2) :
    ∃ G : Heap, Inv X pins σ H ⟨G, g2, d2, t2, os2⟩ ∧ (∀ b o, G.get? b = some o → h2.get? b = some o) ∧ G.get? a = none := by
  have na : H a = none := I.hok.fresh far
  obtain ⟨G, r1, r2⟩ := restrict h2 fun b => decide (b ≠ a)
  have eq : ∀ b, b ≠ a → G.get? b = h2.get? b := fun b z => r1 b (decide_eq_true z)
  have gone : G.get? a = none := r2 a (decide_eq_false fun z => z rfl)
  have apart : ∀ b o, hp.get? b = some o → b ≠ a := fun b o z y => absurd (Heap.lt_size z) (by rw [y]; exact Nat.not_lt.mpr far)
  have still : ∀ b, b ≠ a → H b = none → upd H a (exo a C none) b = none := fun b z n => (upd_ne z).trans n
  have U : Un (frs X.stack) [] H H hp G := by
    constructor
    · intro b o z n hf hx
      exact (eq b (apart b o z)).trans (un.keep b o (up b o z) (still b (apart b o z) n) hf hx)
    · intro b o z n hf hx
      obtain ⟨sl, q⟩ := un.slot b o (up b o z) (still b (apart b o z) n) hf hx
      exact ⟨sl, (eq b (apart b o z)).trans q⟩
    · intro b o _ n _
      exact n
    · intro b o z hx
      obtain ⟨o', q⟩ := un.there b o (up b o z) hx
      exact ⟨o', (eq b (apart b o z)).trans q⟩
    · exact fun b xs z => z
    · exact fun b o v z => z
    · intro b ps z
      have ba : b ≠ a := ne_of_none z na
      obtain ⟨m, q⟩ := un.tbls b ps ((upd_ne ba).trans z)
      exact ⟨m, (upd_ne ba).symm.trans q⟩
  have K : HOk X.prog X.w H G := by
    intro b o z
    have ba : b ≠ a := ne_of_none z na
    have hb : upd H a (exo a C none) b = some o := (upd_ne ba).trans z
    refine (ok b o hb).stay (fun c v hc y => ?_) (fun c hc => ?_) fun c xs hc => ?_
    · have ca : c ≠ a := by
        rcases hc with e | e
        · rw [e]; exact ba
        · exact at_ne upd_same e exo_own
      exact (eq c ca).trans y
    · have ca : c ≠ a := at_ne upd_same hc exo_own
      exact (upd_ne ca).symm.trans hc
    · have ca : c ≠ a := at_ne upd_same hc exo_tup
      exact (upd_ne ca).symm.trans hc
  refine ⟨G, I.call' (ch := []) same U K bare (fun b z => absurd z (by simp)), fun b o z => ?_, gone⟩
  by_cases ba : b = a
  · rw [ba, gone] at z; cases z
  · exact (eq b ba).symm.trans z
theorem pmk_plain {x : Str} {C fI : Addr} {k : Nat} {fd : FuncData} {ps : List Str} {p pos : Pos} (T : OexC X.K C) (iC : PySem.W.findIn X.K (.ref C) "__init__" = some (some (.ref fI))) (tI : PySem.W.typeIn X.K (.ref fI) = some (.type "function"))
    (F1 : FnOk X.prog X.w X.K X.mg X.base (L2.CX X.prog X.w) k fI fd ps (spX0 C)) (hr : Room (k + 1) X.A) (hb : Binds X.K fd ps []) (hg : Gl X x) (hm : X.mg x = some (.ref C)) (hdb : (x == ("__debug__" : Str)) = false := by decide) :
    PMk X (.Call (.Name x p) [] [] pos) (fun _ H Q => Q (.ref C) none H) := by
  intro pins s σ H Q I q
  obtain ⟨nm, qn, N, bs, bm, sn, sub, ab, col, dd, k0, k1, k2, k3, k5, hC, hbm⟩ := T.cls
  refine wpAny_Call_Name_kw (ld_glob I hg hm ?_ hdb)
  refine PySem.W.callWith_K0 I.kIn T.kC ?_
  obtain ⟨hp, g, dr, tk, os⟩ := s
  have far : hp.objs.size ≤ hp.objs.size + 1 := Nat.le_succ _
  have na : H (hp.objs.size + 1) = none := I.hok.fresh far
  have up : ∀ b o, hp.get? b = some o → ((hp.push (PySem.W.kdv_tup [])).push (PySem.HandSPX.excO C hp.objs.size)).get? b = some o := fun b o e => Heap.get?_push_of_some _ (Heap.get?_push_of_some _ e)
  have here : ((hp.push (PySem.W.kdv_tup [])).push (PySem.HandSPX.excO C hp.objs.size)).get? (hp.objs.size + 1) = some (PySem.HandSPX.excO C hp.objs.size) := by heap_get
  have I2 : Inv X pins σ (upd H (hp.objs.size + 1) (exo (hp.objs.size + 1) C none)) ⟨(hp.push (PySem.W.kdv_tup [])).push (PySem.HandSPX.excO C hp.objs.size), g, dr, tk, os⟩ := I.laid (t' := tk) up far (exo_ok here)
  have ask : spX0 C [V.ref (hp.objs.size + 1)] (upd H (hp.objs.size + 1) (exo (hp.objs.size + 1) C none)) (fun v H2 => v = .non ∧ H2 = upd H (hp.objs.size + 1) (exo (hp.objs.size + 1) C none)) (fun _ _ _ => False) := ⟨_, rfl, upd_same, rfl, rfl⟩
  have rel : Vals [V.ref (hp.objs.size + 1)] [Value.ref (hp.objs.size + 1)] := .cons rfl .nil
  have len : ([Value.ref (hp.objs.size + 1)] ++ []).length = ps.length := by
    have := F1.len _ _ _ _ ask
    simpa using this
  have bnd := hb _ [Value.ref (hp.objs.size + 1)] I2.kIn len
  rw [List.append_nil] at bnd
  refine wpAny_call (PySem.HandSPX.call_own F.excBase_ValueError (fun Y => PySem.HandSPX.refsVE_contains Y bm hbm) (I.kIn _ _ hC) (PySem.W.looks_findIn I.kIn iC) (fun self => PySem.W.bind_fn I.kIn self tI) (Nat.zero_le _)
    (codeAny_mono (F1.run _ X.stack _ _ ⟨[Value.ref (hp.objs.size + 1)], []⟩ [Value.ref (hp.objs.size + 1)] _ _ (fun _ _ _ => False) (hr.make C [] []) (I2.env0.make C [] []) bnd rel ask) fun r s' got => ?_))
  match r, got with
  | .error er, got => exact passL pins σ _ _ er s' I2 got
  | .ok .next, got => exact got.elim
  | .ok .brk, got => exact got.elim
  | .ok .cont, got => exact got.elim
  | .ok (.ret u), ⟨v, H2, os2, bare2, un2, ok2, rv, ev, eH⟩ =>
    subst ev eH
    obtain ⟨h2, g2, d2, t2, os'⟩ := s'
    obtain ⟨t0, now⟩ := exo_at ok2 (upd_same : upd H (hp.objs.size + 1) (exo (hp.objs.size + 1) C none) (hp.objs.size + 1) = some _)
    obtain ⟨G, J, sub2, gone⟩ := let_go (d2 := d2) (t2 := t2) I far up un2 ok2 os2 bare2
    exact ⟨rv, _, _, _, ⟨G, g2, d2, t2, os'⟩, H, .ref C, none, rfl, J, sub2, gone, now, ⟨rfl, rfl⟩, rfl, rfl, na, rfl, bare2, raises_own T.exC T.tyC, q⟩
end
end L2
namespace Ab
open PySem L2
/-- a plain error class, as its raisers know it -/
structure Exn0 (P : Program) (w : World) (K : PySem.W.Frag) (mg : Str → Option Value) (base : Heap) (x : Str) (C : Addr) : Prop where
  o : OexC K C
  ex : ∃ fI fd ps, PySem.W.findIn K (.ref C) "__init__" = some (some (.ref fI)) ∧ PySem.W.typeIn K (.ref fI) = some (.type "function") ∧ FnOk P w K mg base (L2.CX P w) 1 fI fd ps (spX0 C) ∧ Binds K fd ps []
  m : mg x = some (.ref C)
def tRaise0 (C : Addr) (W : WX) : TS := fun _ σ H => W (.ref C) none σ H
section
variable {X : Cx} {P : Program} {w : World} {K : PySem.W.Frag} {mg : Str → Option Value} {base : Heap} {x : Str} {C : Addr} {j : Nat} {p pos pos2 : Pos}
theorem ks_raise0 {W : WX} (hc : X.calm = true) (tk : Takes X W) (c : Exn0 P w K mg base x C) (hr : Room j X.A) (hk : 2 ≤ j) (hX : X.prog = P ∧ X.w = w ∧ X.K = K ∧ X.mg = mg ∧ X.base = base) (hg : Gl X x) (hdb : (x == ("__debug__" : Str)) = false := by decide) :
    PS X (.Raise (some (.Call (.Name x p) [] [] pos)) none pos2) (tRaise0 C W) := by
  obtain ⟨rfl, rfl, rfl, rfl, rfl⟩ := hX
  obtain ⟨fI, fd, ps, h1, h2, h3, h4⟩ := c.ex
  exact ps_raise hc tk (pmk_plain c.o h1 h2 h3 (hr.mono hk) h4 hg c.m hdb)
end
section
variable {Z : Cz} {Γ : List B} {te : TE} {P : Po}
theorem dens_raise0 {C : Addr} (h : Z.X ⟨C, [], []⟩ Γ) : DenS Z (tRaise0 C Z.W) Γ P := fun σ G H j e De d =>
  j.acc ⟨C, [], []⟩ _ _ σ _ _ Γ h (Ex.refl _) j.toJ0 e ⟨rfl, .inl ⟨rfl, rfl, rfl⟩⟩
/-- x.index(y) of a list of flags, data -/
theorem den_indexB {T : String} {ta : TE} {Q : D → List B → Prop} (hT : T = "list") (h : Den Z te Γ fun x Γ1 => ∃ bs : List Bool, x = .lst (bs.map D.bl) ∧ Den Z ta Γ1 fun y Γ2 => ∃ (b : Bool) (n : Nat), y = .bl b ∧ bs[n]? = some b ∧ (∀ m < n, bs[m]? ≠ some b) ∧ Q (.int (n : Nat)) Γ2) :
    Den Z (tBM Z.K T (rIndex Z.K) te (tCons ta tNil)) Γ Q := fun σ G H j e k kk =>
  h σ G H j e _ fun x Γ1 v G1 H1 q s1 j1 e1 r1 => by
    obtain ⟨bs, rfl, q⟩ := q
    subst hT
    cases r1 with
    | @lst l vs _ h1 rs =>
      have ev := bools_vs rs
      subst ev
      have sq : SqL Z.K H1 l (bs.map V.bl) := .inl (.inl (j1.sub _ _ h1))
      refine ⟨.inl ⟨rfl, _, sq⟩, q σ G1 H1 j1 e1 _ fun y Γ2 vy G2 H2 q2 s2 j2 e2 r2 => ?_⟩
      obtain ⟨b, n, rfl, hn, hm, q2⟩ := q2
      cases r2
      refine ⟨l, bs.map V.bl, .bl b, n, .bl b, rfl, rfl, .inl (.inl (j2.sub _ _ (s2.ex _ _ h1))), rfl, by simp [List.all_eq_true, flatV], by rw [List.getElem?_map, hn]; rfl, by simp [eqV], fun m z' hlt hz => ?_, kk _ Γ2 _ G2 H2 q2 (s1.trans s2) j2 e2 (.int _)⟩
      rw [List.getElem?_map] at hz
      cases hb : bs[m]? with
      | none => rw [hb] at hz; cases hz
      | some c =>
        rw [hb] at hz; cases hz
        have := hm m hlt
        rw [hb] at this
        simp only [eqV]
        cases b <;> cases c <;> simp_all
end
end Ab
namespace L2
open PySem PySem.Spec PyProof.Rows
/-- l.count(y), flat items -/
def rCountF (K : PySem.W.Frag) : V → List V → Hp → VK → Prop := fun x xs H Q => ∃ (p : Addr) (ys : List V) (y : V), x = .ref p ∧ xs = [y] ∧ SqL K H p ys ∧ flatV y = true ∧ ys.all flatV = true ∧ Q (.int ((ys.countP fun z => eqV z y : Nat) : Int)) H
theorem countP_eqU {x : V} : ∀ {xs : List V} {us : List Value}, Vals xs us → xs.all flatV = true → us.countP (eqU x) = xs.countP fun y => eqV y x
  | _, _, .nil, _ => rfl
  | y :: xs, u :: us, .cons r t, f => by
    have g := Bool.and_eq_true_iff.mp (show (flatV y && xs.all flatV) = true from f)
    rw [List.countP_cons, List.countP_cons, eqU_of r g.1, countP_eqU t g.2]
theorem mt_countF {X : Cx} : MtR X "list.count" (rCountF X.K) := by
  intro pins s σ H x xs v us Q I rx rxs h
  obtain ⟨p, ys, y, rfl, rfl, hs, fy, fys, q⟩ := h
  cases rx
  obtain ⟨u, rfl, ru⟩ := rxs.one
  obtain ⟨its, rv, ⟨⟨cls, dd, data, sl⟩, n, ho, hc, hdn, hd⟩, hlen⟩ := I.list hs
  simp only at hc hd
  subst hc hd
  refine call_meets (PySem.F.slot_list_count) ⟨_, ho, rfl⟩ (PySem.F.entry_list_count) (PySem.F.args_list_count_2 _ _) (SeqAt.list_countAt p its.toArray n dd sl u (eqU y)) ⟨ho, fun w hw => mem_eqAt ru fy rv fys w (by simpa using hw), ?_⟩
  refine ⟨.int ((ys.countP fun z => eqV z y : Nat) : Int), H, I.tok _, ⟨s.toks, ?_⟩, q⟩
  have e : its.toArray.toList.countP (eqU y) = ys.countP fun z => eqV z y := countP_eqU rv fys
  show Value.int ((its.toArray.toList.countP (eqU y) : Nat) : Int) s.toks = _
  rw [e]
end L2
namespace Ab
open PySem L2
section
variable {Z : Cz} {Γ : List B} {te ta : TE}
/-- l.count(flag), a list of flags -/
theorem den_countB {T : String} {Q : D → List B → Prop} (hT : T = "list") (h : Den Z te Γ fun x Γ1 => ∃ bs : List Bool, x = .lst (bs.map D.bl) ∧ Den Z ta Γ1 fun y Γ2 => ∃ b : Bool, y = .bl b ∧ Q (.int (bs.count b : Nat)) Γ2) : Den Z (tBM Z.K T (rCountF Z.K) te (tCons ta tNil)) Γ Q := fun σ G H j e k kk =>
  h σ G H j e _ fun x Γ1 v G1 H1 q s1 j1 e1 r1 => by
    obtain ⟨bs, rfl, q⟩ := q
    subst hT
    cases r1 with
    | @lst l vs _ h1 rs =>
      have ev := bools_vs rs
      subst ev
      refine ⟨.inl ⟨rfl, _, .inl (.inl (j1.sub _ _ h1))⟩, q σ G1 H1 j1 e1 _ fun y Γ2 vy G2 H2 q2 s2 j2 e2 r2 => ?_⟩
      obtain ⟨b, rfl, q2⟩ := q2
      cases r2
      refine ⟨l, _, .bl b, rfl, rfl, .inl (.inl (j2.sub _ _ (s2.ex _ _ h1))), rfl, by simp [List.all_eq_true, flatV], ?_⟩
      have e3 : ((bs.map V.bl).countP fun z => eqV z (.bl b)) = bs.count b := by
        rw [List.countP_map, List.count]; rfl
      rw [e3]
      exact kk _ Γ2 _ G2 H2 q2 (s1.trans s2) j2 e2 (.int _)
/-- l.count(i), a list of ints -/
theorem den_countI {T : String} {Q : D → List B → Prop} (hT : T = "list") (h : Den Z te Γ fun x Γ1 => ∃ is : List Int, x = .lst (is.map D.int) ∧ Den Z ta Γ1 fun y Γ2 => ∃ i : Int, y = .int i ∧ Q (.int (is.count i : Nat)) Γ2) : Den Z (tBM Z.K T (rCountF Z.K) te (tCons ta tNil)) Γ Q := fun σ G H j e k kk =>
  h σ G H j e _ fun x Γ1 v G1 H1 q s1 j1 e1 r1 => by
    obtain ⟨is, rfl, q⟩ := q
    subst hT
    cases r1 with
    | @lst l vs _ h1 rs =>
      have ev := ints_vs rs
      subst ev
      refine ⟨.inl ⟨rfl, _, .inl (.inl (j1.sub _ _ h1))⟩, q σ G1 H1 j1 e1 _ fun y Γ2 vy G2 H2 q2 s2 j2 e2 r2 => ?_⟩
      obtain ⟨i, rfl, q2⟩ := q2
      cases r2
      refine ⟨l, _, .int i, rfl, rfl, .inl (.inl (j2.sub _ _ (s2.ex _ _ h1))), rfl, by simp [List.all_eq_true, flatV], ?_⟩
      have e3 : ((is.map V.int).countP fun z => eqV z (.int i)) = is.count i := by
        rw [List.countP_map, List.count]; rfl
      rw [e3]
      exact kk _ Γ2 _ G2 H2 q2 (s1.trans s2) j2 e2 (.int _)
end
end Ab
namespace Ab
open PySem L2
section
variable {Z : Cz} {Γ : List B} {te ta : TE} {P : Po}
/-- x += e, ints -/
theorem dens_aug {i : Nat} {a : Int} {f : Int → Int → Int} (hx : Γ[i]? = some (.d (.int a))) (h : Den Z te Γ fun y Γ1 => ∃ b : Int, y = .int b ∧ P.N (Γ1.set i (.d (.int (f a b))))) : DenS Z (tAug i te (ipI f)) Γ P := fun σ G H j e De d => by
  obtain ⟨v, h1, u, h2, r⟩ := e.at_ i _ hx
  subst h2
  cases r
  refine ⟨.int a, h1, h σ G H j e _ fun y Γ1 vy G1 H1 q s1 j1 e1 r1 => ?_⟩
  obtain ⟨b, rfl, q⟩ := q
  cases r1
  exact ⟨a, b, rfl, rfl, d.n _ _ G1 H1 q s1.ex j1 (e1.setD (.int _))⟩
/-- xs.extend(ys): a list of one's own gets the items of a list -/
theorem den_extend {m : Nat} {xs : List D} {T : String} {Q : D → List B → Prop} (hm : Γ[m]? = some (.own xs)) (hT : T = "list") (h : Den Z te Γ fun x Γ1 => ∃ xs' ys, Γ1[m]? = some (.own xs') ∧ x = .lst ys ∧ xs'.length + ys.length ≤ 100000 ∧ Q .non (Γ1.set m (.own (xs' ++ ys)))) :
    Den Z (tBM Z.K T rExtend (tVar m) (tCons te tNil)) Γ Q := fun σ G H j e k kk => by
  obtain ⟨v, h1, l, vs, h2, h3, h4, h5, h6⟩ := e.at_ m _ hm
  subst h2; subst hT
  refine ⟨.ref l, h1, .inl ⟨rfl, vs, SqL.of h3⟩, h σ G H j e _ fun x Γ1 vx G1 H1 q s1 j1 e1 r1 => ?_⟩
  obtain ⟨xs', ys, hm1, rfl, hl, q⟩ := q
  obtain ⟨v', h1', l', vs', h2', h3', h4', h5', h6'⟩ := e1.at_ m _ hm1
  subst h2'
  rw [h1] at h1'
  cases h1'
  cases r1 with
  | @lst b zs _ g1 rz =>
    obtain ⟨s2, e2, g2, z2⟩ := own_put (ys := xs' ++ ys) e1 hm1 h1 (h4'.append rz)
    exact ⟨l, b, vs', zs, rfl, rfl, h3', j1.sub _ _ g1, Nat.le_trans (by rw [h4'.length, rz.length]; exact hl) (by decide), kk .non _ .non G1 _ q (s1.trans s2) (j1.put z2 g2) e2 .non⟩
end
end Ab
namespace Ab
open PySem L2
section
variable {Z : Cz} {Γ : List B} {te : TE}
/-- what a comprehension keeps while its list C grows -/
structure Grow (Z : Cz) (σ : L2.St) (Γ1 : List B) (G1 H1 : Hp) (C : Addr) (ys : List D) (G H : Hp) : Prop where
  li : ∃ acc, H C = some (.lst acc) ∧ Rps Z.K Z.pl G acc ys
  gc : G C = none
  j : J Z G H
  ex : Ex G1 G
  fr : ∀ a o, H1 a = some o → NotPl Z a → (∀ i : Nat, IsOwn Γ1[i]? → σ[i]? ≠ some (some (.ref a))) → H a = some o ∧ (G1 a = none → G a = none)
  tr : ∀ a o, H1 a = some o → ∃ o', H a = some o'
theorem Grow.step {σ : L2.St} {Γ1 : List B} {G1 H1 : Hp} {C : Addr} {ys : List D} {G H G' H' : Hp} (w : Grow Z σ Γ1 G1 H1 C ys G H) (s : Sp1 Z σ Γ1 Γ1 G H G' H') (j' : J Z G' H') (np : NotPl Z C) (no : ∀ i : Nat, IsOwn Γ1[i]? → σ[i]? ≠ some (some (.ref C))) : Grow Z σ Γ1 G1 H1 C ys G' H' := by
  obtain ⟨acc, hC, r⟩ := w.li
  obtain ⟨hC', hg'⟩ := s.fr C _ hC np no
  exact ⟨⟨acc, hC', r.mono s.ex⟩, hg' w.gc, j', w.ex.trans s.ex, fun a o ha n z => by
    obtain ⟨z1, z2⟩ := w.fr a o ha n z
    obtain ⟨z3, z4⟩ := s.fr a o z1 n z
    exact ⟨z3, fun q => z4 (z2 q)⟩, fun a o ha => by
    obtain ⟨o', z⟩ := w.tr a o ha
    exact s.tr a o' z⟩
theorem Grow.add {σ : L2.St} {Γ1 : List B} {G1 H1 : Hp} {C : Addr} {ys : List D} {G H : Hp} {v : V} {y : D} (w : Grow Z σ Γ1 G1 H1 C ys G H) (hC1 : H1 C = none) (hz : Z.H0 C = none) (r : Rp Z.K Z.pl G v y) : ∃ acc, H C = some (.lst acc) ∧ acc.length = ys.length ∧ Grow Z σ Γ1 G1 H1 C (ys ++ [y]) G (upd H C (.lst (acc ++ [v]))) := by
  obtain ⟨acc, hC, rr⟩ := w.li
  have far : ∀ {a : Addr} {o : HO}, H1 a = some o → a ≠ C := fun ha => ne_of_none ha hC1
  exact ⟨acc, hC, rr.length, ⟨acc ++ [v], upd_same, rr.append (.one r)⟩, w.gc, w.j.put hz w.gc, w.ex, fun a o ha n z => by
    obtain ⟨z1, z2⟩ := w.fr a o ha n z
    exact ⟨by rw [upd_ne (far ha)]; exact z1, z2⟩, fun a o ha => by
    obtain ⟨o', z⟩ := w.tr a o ha
    exact ⟨o', by rw [upd_ne (far ha)]; exact z⟩⟩
/-- an environment that doesn't hold C stays when C's list grows -/
theorem En.grow {G H : Hp} {σ : L2.St} {Γ : List B} {C : Addr} {o : HO} (e : En Z G H σ Γ) (no : ∀ i : Nat, IsOwn Γ[i]? → σ[i]? ≠ some (some (.ref C))) : En Z G (upd H C o) σ Γ :=
  e.mono (Ex.refl _) fun l o b1 b2 _ ⟨n, o1, o2⟩ => by
    have : l ≠ C := fun z => no n o1 (by rw [o2, z])
    rw [upd_ne this]; exact ⟨b1, b2⟩
theorem tyes_in {σ : L2.St} {H : Hp} {A B : Hp → Prop} (h : A H) : tYes σ H (fun b H => if b = true then A H else B H) := by
  show if true = true then A H else B H
  rw [if_pos rfl]; exact h
theorem denl_flat {wi wi1 : TI} {g g1 : TG} {vs vs1 : List Nat} {Q : List D → List B → Prop} (hg : GOff g vs) (hm : GMono g) (hg1 : GOff g1 vs1) (hm1 : GMono g1) (sub : ∀ i ∈ vs1, i ∈ vs)
    (h : DenI Z wi Γ fun ds Γ1 => (∀ i ∈ vs, ¬ IsOwn Γ1[i]?) ∧ ∃ (inner : D → List D) (f : D → D → D), (ds.flatMap fun d => (inner d).map (f d)).length < 100000 ∧
      (∀ (i : Nat) d, ds[i]? = some d → DenG Z g d (wipeB Γ1 vs) fun Γ2 => wipeB Γ2 vs = wipeB Γ1 vs ∧ (∀ i ∈ vs, ¬ IsOwn Γ2[i]?) ∧
        DenI Z wi1 Γ2 fun es Γ3 => Γ3 = Γ2 ∧ es = inner d ∧ ∀ (k : Nat) e, es[k]? = some e → DenG Z g1 e (wipeB Γ2 vs1) fun Γ4 => wipeB Γ4 vs1 = wipeB Γ2 vs1 ∧ (∀ i ∈ vs1, ¬ IsOwn Γ4[i]?) ∧ Den Z te Γ4 fun y Γ5 => Γ5 = Γ4 ∧ y = f d e) ∧
      Q (ds.flatMap fun d => (inner d).map (f d)) Γ1) : DenL Z (tLc2 wi g tYes wi1 g1 tYes te vs vs1) Γ Q := fun σ G H j e k kk =>
  h σ G H j e _ fun ds Γ1 Jt G1 H1 q s1 j1 e1 it C hC => by
    obtain ⟨no, inner, f, hlen, hs, hq⟩ := q
    have hg1' : G1 C = none := j1.sub.back hC
    have hz : Z.H0 C = none := j1.old hC
    have nd1 : ∀ i : Nat, IsOwn Γ1[i]? → σ[i]? ≠ some (some (.ref C)) := fun i o => e1.noown hC i o
    have npC : NotPl Z C := fun p c e => by
      obtain ⟨_, _, _, ⟨o1, z3⟩, ⟨o2, z4⟩, _⟩ := j1.pool p c e
      exact ⟨fun z => (by rw [← z] at z3; rw [hz] at z3; cases z3), fun z => (by rw [← z] at z4; rw [hz] at z4; cases z4)⟩
    let out : Nat → List D := fun i => (ds.take i).flatMap fun d => (inner d).map (f d)
    have w0 : Grow Z σ Γ1 G1 H1 C [] G1 (upd H1 C (.lst [])) := ⟨⟨[], upd_same, .nil⟩, hg1', j1.put hz hg1', Ex.refl _, fun a o ha _ _ => ⟨by rw [upd_ne (ne_of_none ha hC)]; exact ha, fun z => z⟩, fun a o ha => ⟨o, by rw [upd_ne (ne_of_none ha hC)]; exact ha⟩⟩
    refine ⟨fun i m H => m = ds.length - i ∧ i ≤ ds.length ∧ ∃ G2, Grow Z σ Γ1 G1 H1 C (out i) G2 H ∧ En Z G2 H (L2.wipe σ vs) (wipeB Γ1 vs), ⟨ds.length, by simp, Nat.zero_le _, G1, w0, (e1.wipe vs).newM hC⟩, ?_⟩
    rintro i m H2 ⟨rfl, hi, G2, w2, e2⟩
    by_cases hlt : i < ds.length
    · refine .inr ⟨it.go G2 H2 i w2.ex w2.j hlt, fun H => ∃ G2, Grow Z σ Γ1 G1 H1 C (out (i + 1)) G2 H ∧ En Z G2 H (L2.wipe σ vs) (wipeB Γ1 vs), fun H' z => ⟨ds.length - (i + 1), by omega, rfl, hlt, z⟩, fun x H' y => ?_⟩
      obtain ⟨G3, dd, hdd, i3, r3⟩ := it.yld G2 H2 i x H' w2.ex w2.j hlt y
      have j3 := w2.j.leave i3
      have e3 := e2.called w2.j.toJ0 i3.toJ0
      have w3 := w2.step (.of i3) j3 npC nd1
      have more : out (i + 1) = out i ++ (inner dd).map (f dd) := by
        show ((ds.take (i + 1)).flatMap _) = _
        rw [take_snoc hdd, List.flatMap_append]; simp [out]
      have long : (out (i + 1)).length < 100000 := by
        refine Nat.lt_of_le_of_lt ?_ hlen
        have : ds.flatMap (fun d => (inner d).map (f d)) = out (i + 1) ++ (ds.drop (i + 1)).flatMap fun d => (inner d).map (f d) := by
          rw [← List.flatMap_append, List.take_append_drop]
        rw [this, List.length_append]; omega
      refine hg.imp hm (hs i dd hdd (L2.wipe σ vs) G3 H' x j3 e3 r3 (fun σ2 Hx => Hx = H' ∧ ∃ Γ2, (wipeB Γ2 vs = wipeB Γ1 vs ∧ (∀ i ∈ vs, ¬ IsOwn Γ2[i]?) ∧ DenI Z wi1 Γ2 fun es Γ3 => Γ3 = Γ2 ∧ es = inner dd ∧ ∀ (k : Nat) e, es[k]? = some e → DenG Z g1 e (wipeB Γ2 vs1) fun Γ4 => wipeB Γ4 vs1 = wipeB Γ2 vs1 ∧ (∀ i ∈ vs1, ¬ IsOwn Γ4[i]?) ∧ Den Z te Γ4 fun y Γ5 => Γ5 = Γ4 ∧ y = f dd e) ∧ En Z G3 H' σ2 Γ2) fun Γ2 σ2 q3 e4 => ⟨rfl, Γ2, q3, e4⟩) fun σ2 Hx off ⟨ex, Γ2, ⟨w1', no2, q3⟩, e4⟩ => ?_
      subst ex
      refine ⟨wipe_off off, ?_⟩
      refine tyes_in ?_
      have same : ∀ k : Nat, k ∉ vs → σ2[k]? = σ[k]? := fun k hk => by rw [off.2 k hk, wipe_out' σ hk]
      have own2 : ∀ k : Nat, IsOwn Γ2[k]? → k ∉ vs ∧ IsOwn Γ1[k]? := fun k o => by
        have hk : k ∉ vs := fun z => no2 k z o
        refine ⟨hk, ?_⟩
        have : Γ2[k]? = Γ1[k]? := by rw [← wipeB_out Γ2 hk, w1', wipeB_out Γ1 hk]
        rw [← this]; exact o
      have cv : ∀ {G H G' H'}, Sp1 Z σ2 Γ2 Γ2 G H G' H' → Sp1 Z σ Γ1 Γ1 G H G' H' := fun s => s.conv fun k o => ⟨(own2 k o).2, same k (own2 k o).1⟩
      have nd2 : ∀ k : Nat, IsOwn Γ2[k]? → σ2[k]? ≠ some (some (.ref C)) := fun k o => by
        rw [same k (own2 k o).1]; exact nd1 k (own2 k o).2
      have back : ∀ {G H}, En Z G H σ2 Γ2 → En Z G H (L2.wipe σ vs) (wipeB Γ1 vs) := fun e => by
        have z := e.wipe vs
        rw [w1', wipe_off off] at z; exact z
      have no21 : ∀ i ∈ vs1, ¬ IsOwn Γ2[i]? := fun i hi => no2 i (sub i hi)
      refine q3 σ2 G3 Hx j3 e4 _ fun es Γ3 Jt1 G4 H4 q4 s4 j4 e5 it1 => ?_
      obtain ⟨rfl, rfl, q4⟩ := q4
      have w4 := w3.step (cv s4) j4 npC nd1
      refine ⟨fun n m H => m = (inner dd).length - n ∧ n ≤ (inner dd).length ∧ ∃ G5, Grow Z σ Γ1 G1 H1 C (out i ++ ((inner dd).take n).map (f dd)) G5 H ∧ Ex G4 G5 ∧ En Z G5 H σ2 Γ3, ⟨(inner dd).length, by simp, Nat.zero_le _, G4, by simpa using w4, Ex.refl _, e5⟩, ?_⟩
      rintro n m H5 ⟨rfl, hn, G5, w5, x5, e6⟩
      by_cases hlt1 : n < (inner dd).length
      · refine .inr ⟨it1.go G5 H5 n x5 w5.j hlt1, fun H => ∃ G6, Grow Z σ Γ1 G1 H1 C (out i ++ ((inner dd).take (n + 1)).map (f dd)) G6 H ∧ Ex G4 G6 ∧ En Z G6 H σ2 Γ3, fun H' z => ⟨(inner dd).length - (n + 1), by omega, rfl, hlt1, z⟩, fun x1 H6 y1 => ?_⟩
        obtain ⟨G6, ee, hee, i6, r6⟩ := it1.yld G5 H5 n x1 H6 x5 w5.j hlt1 y1
        have j6 := w5.j.leave i6
        have e7 := e6.called w5.j.toJ0 i6.toJ0
        have w6 := w5.step (.of i6) j6 npC nd1
        refine hg1.imp hm1 (q4 n ee hee (L2.wipe σ2 vs1) G6 H6 x1 j6 (e7.wipe vs1) r6 (fun σ3 Hx => Hx = H6 ∧ ∃ Γ4, (wipeB Γ4 vs1 = wipeB Γ3 vs1 ∧ (∀ i ∈ vs1, ¬ IsOwn Γ4[i]?) ∧ Den Z te Γ4 fun y Γ5 => Γ5 = Γ4 ∧ y = f dd ee) ∧ En Z G6 H6 σ3 Γ4) fun Γ4 σ3 q5 e8 => ⟨rfl, Γ4, q5, e8⟩) fun σ3 Hx off1 ⟨ex1, Γ4, ⟨w1'', no4, q5⟩, e8⟩ => ?_
        subst ex1
        refine ⟨wipe_off off1, ?_⟩
        refine tyes_in ?_
        have same3 : ∀ k : Nat, k ∉ vs1 → σ3[k]? = σ2[k]? := fun k hk => by rw [off1.2 k hk, wipe_out' σ2 hk]
        have own3 : ∀ k : Nat, IsOwn Γ4[k]? → k ∉ vs1 ∧ IsOwn Γ3[k]? := fun k o => by
          have hk : k ∉ vs1 := fun z => no4 k z o
          refine ⟨hk, ?_⟩
          have : Γ4[k]? = Γ3[k]? := by rw [← wipeB_out Γ4 hk, w1'', wipeB_out Γ3 hk]
          rw [← this]; exact o
        have cv3 : ∀ {G H G' H'}, Sp1 Z σ3 Γ4 Γ4 G H G' H' → Sp1 Z σ2 Γ3 Γ3 G H G' H' := fun s => s.conv fun k o => ⟨(own3 k o).2, same3 k (own3 k o).1⟩
        have nd3 : ∀ k : Nat, IsOwn Γ4[k]? → σ3[k]? ≠ some (some (.ref C)) := fun k o => by
          rw [same3 k (own3 k o).1]; exact nd2 k (own3 k o).2
        refine q5 σ3 G6 Hx j6 e8 _ fun yd Γ6 vy G7 H7 q6 s7 j7 e9 r7 => ?_
        obtain ⟨rfl, rfl⟩ := q6
        have w7 := w6.step (cv (cv3 s7)) j7 npC nd1
        obtain ⟨acc, hacc, lacc, w8⟩ := w7.add hC hz r7
        have e10 := (e9.grow (o := .lst (acc ++ [vy])) nd3).wipe vs1
        rw [w1'', wipe_off off1] at e10
        have nx := take_snoc hee
        refine ⟨acc, hacc, ?_, G7, ?_, (x5.trans i6.g0).trans s7.ex, e7.restore s7.ex e10 no21⟩
        · rw [lacc]
          refine Nat.lt_of_lt_of_le (Nat.lt_of_le_of_lt ?_ long) (by decide)
          rw [more, List.length_append, List.length_append, List.length_map, List.length_map, List.length_take]; omega
        · rw [nx, List.map_append, ← List.append_assoc]; exact w8
      · have en : n = (inner dd).length := by omega
        subst en
        rw [List.take_length, ← more] at w5
        exact .inl ⟨it1.stop G5 H5 x5 w5.j, G5, w5, back e6⟩
    · have ei : i = ds.length := by omega
      subst ei
      have all : out ds.length = ds.flatMap fun d => (inner d).map (f d) := by show (ds.take ds.length).flatMap _ = _; rw [List.take_length]
      rw [all] at w2
      obtain ⟨acc, hacc, ra⟩ := w2.li
      exact .inl ⟨it.stop G2 H2 w2.ex w2.j, kk _ Γ1 C acc G2 H2 hq (s1.trans ⟨w2.ex, fun _ h => h, w2.fr, w2.tr⟩) w2.j (e1.restore w2.ex e2 no) hacc ra ⟨w2.gc, hz, nd1⟩ (s1.back hC)⟩
end
end Ab
namespace Ab
open PySem L2
/-- how a law begins: pool = _law_pool(script); from then on the pool's two lists are its own -/
theorem lawpool_start {K : PySem.W.Frag} {N : List Str} {a : Addr} {ns : List Int} {H : Hp} {rest : TS} {Q : VK} {S : FSpec} (hS : SqL K H a (ns.map V.int)) (hlen : ns.length ≤ 63) (hO : Only H)
    (hR : ∀ d, S.R [.scr ns] d → ∃ (seed : Int) (cs : List Int), d = .lst [.int seed, .int 0, .lst (cs.map D.int)] ∧ 0 ≤ seed ∧ seed < 2147483647 ∧ (∀ n ∈ cs, 0 ≤ n) ∧ cs.length ≤ 63) (hP : S.P [.scr ns]) (hX : ∀ er, ¬ S.X [.scr ns] er) (hN : 2 ≤ N.length)
    (go : ∀ Z : Cz, Z.K = K → (Z.W = fun _ _ _ _ => False) → (Z.X = fun _ _ => False) → DenS Z rest ((B.d (.scr ns) :: .d .pool :: List.replicate (N.length - 2) .un)) ⟨fun _ => False, ⟨fun x => x = .bl true, fun _ => False⟩, fun _ => False, fun _ => False⟩) (hQ : ∀ H', Q (.bl true) H') {De : Ends} (hD : De.rt = Q) :
    tSeq (tAsg (tCall (spS K 1 S) [] (fun _ _ _ => False) (tCons (tVar 0) tNil)) (gName 1)) rest De (L2.start N [.ref a]) H := by
  refine ⟨.ref a, rfl, none, H, [.scr ns], ⟨⟨Ex.refl H, Ex.refl H, (fun _ _ _ n => n), (fun _ _ e _ => e), (fun _ _ z => by cases z)⟩, fun _ _ _ _ _ _ _ z => z.elim⟩, .one (.scr hS), rfl, hP, fun d v G' H' hd j r => ?_, fun er _ _ _ _ z => absurd z (hX er)⟩
  obtain ⟨seed, cs, rfl, b1, b2, b3, b4⟩ := hR d hd
  cases r with
  | @lst l xs _ gl rs =>
    cases rs with
    | cons r1 rs => cases rs with
      | cons r2 rs => cases rs with
        | cons r3 rs =>
          cases rs; cases r1; cases r2
          cases r3 with
          | @lst c ys _ gc rc =>
            have := ints_vs rc
            subst this
            have hl := j.sub _ _ gl
            have hc := j.sub _ _ gc
            have old : ∀ b o, H b = some o → H' b = some o := fun b o e => j.fr b o e fun _ _ z => by cases z
            have fresh : ∀ b ws, H' b = some (.lst ws) → H b = none := fun b ws e => by
              rcases hO b with z | ⟨ob, zs, z⟩
              · exact z
              · have := old b _ z
                rw [e] at this; cases this
            have lc : l ≠ c := fun z => by
              subst z
              rw [hl] at hc
              have e : [V.int seed, .int 0, .ref l] = cs.map V.int := by simpa using hc
              match cs, e with
              | [_, _, _], e => simp at e
              | [], e => simp at e
              | [_], e => simp at e
              | [_, _], e => simp at e
              | _ :: _ :: _ :: _ :: _, e => simp at e
            let Z : Cz := ⟨K, some (l, c), H', H, fun _ _ _ _ => False, fun _ _ => False⟩
            have jZ : J Z H H' := ⟨⟨old, Ex.refl H, fun _ _ _ n => n, fun _ _ e _ => e, fun p' c' e => by
              cases e
              exact ⟨lc, fresh _ _ hl, fresh _ _ hc, ⟨_, hl⟩, ⟨_, hc⟩, _, _, hl, hc, seed, 0, cs, rfl, rfl, b1, b2, Int.le_refl _, b3, b4⟩⟩, fun _ _ _ _ _ _ _ z => z.elim⟩
            have e0 : En Z H H' (L2.start N [.ref a]) ([D.scr ns].map B.d ++ List.replicate (N.length - 1) .un) := en_start (Z := Z) (.one (.scr hS)) (by simp; omega)
            have e1 := e0.setD (i := 1) (x := .pool) (v := .ref l) (.pool rfl)
            have eΓ : ([D.scr ns].map B.d ++ List.replicate (N.length - 1) B.un).set 1 (.d .pool) = B.d (.scr ns) :: .d .pool :: List.replicate (N.length - 2) .un := by
              obtain ⟨m, hm⟩ : ∃ m, N.length = m + 2 := ⟨N.length - 2, by omega⟩
              rw [hm]; rfl
            rw [eΓ] at e1
            refine go Z rfl rfl rfl _ H H' jZ e1 De ⟨fun _ _ _ _ z => z.elim, fun x v G2 H2 hx _ _ rx => ?_, fun _ _ _ _ z => z.elim, fun _ _ _ _ z => z.elim⟩
            cases x with
            | inr _ => exact hx.elim
            | inl x =>
              obtain rfl : x = .bl true := hx
              cases (show Rp _ _ _ v (.bl true) from rx)
              rw [hD]; exact hQ _
end Ab
namespace Cc
open PySem L2 Ab
abbrev EX := Er → List B → Prop
abbrev WP := List D → (D → Prop) → (Er → Prop) → Prop
def W0 : WX := fun _ _ _ _ => False
def EX0 : EX := fun _ _ => False
structure X (K : PySem.W.Frag) where
  te : WX → TE
  wp : List B → (D → List B → Prop) → EX → Prop
  ok : ∀ (Z : Cz) (Γ : List B) (Q : D → List B → Prop), Z.K = K → wp Γ Q Z.X → Den Z (te Z.W) Γ Q
structure A (K : PySem.W.Frag) where
  ta : WX → TA
  wp : List B → (List D → List B → Prop) → EX → Prop
  ok : ∀ (Z : Cz) (Γ : List B) (Q : List D → List B → Prop), Z.K = K → wp Γ Q Z.X → DenA Z (ta Z.W) Γ Q
structure T (K : PySem.W.Frag) where
  tt : WX → TT
  wp : List B → (Bool → List B → Prop) → EX → Prop
  ok : ∀ (Z : Cz) (Γ : List B) (Q : Bool → List B → Prop), Z.K = K → wp Γ Q Z.X → DenT Z (tt Z.W) Γ Q
structure L (K : PySem.W.Frag) where
  te : WX → TE
  wp : List B → (List D → List B → Prop) → EX → Prop
  ok : ∀ (Z : Cz) (Γ : List B) (Q : List D → List B → Prop), Z.K = K → wp Γ Q Z.X → DenL Z (te Z.W) Γ Q
structure I (K : PySem.W.Frag) where
  wi : WX → TI
  wp : List B → (List D → List B → Prop) → EX → Prop
  ok : ∀ (Z : Cz) (Γ : List B) (Q : List D → List B → Prop), Z.K = K → wp Γ Q Z.X → DenI Z (wi Z.W) Γ Q
structure O (K : PySem.W.Frag) where
  to : WX → TO
  wp : List B → (Option Int → List B → Prop) → EX → Prop
  ok : ∀ (Z : Cz) (Γ : List B) (Q : Option Int → List B → Prop), Z.K = K → wp Γ Q Z.X → DenO Z (to Z.W) Γ Q
structure G (K : PySem.W.Frag) where
  g : TG
  wp : D → List B → (List B → Prop) → Prop
  vs : List Nat
  ok : ∀ (Z : Cz) (x : D) (Γ : List B) (Q : List B → Prop), Z.K = K → wp x Γ Q → DenG Z g x Γ Q
  off : ∀ ws : List Nat, (∀ v ∈ vs, v ∈ ws) → GOff g ws
  mono : GMono g
structure Gs (K : PySem.W.Frag) where
  g : TGs
  wp : List D → List B → (List B → Prop) → Prop
  vs : List Nat
  ok : ∀ (Z : Cz) (xs : List D) (Γ : List B) (Q : List B → Prop), Z.K = K → wp xs Γ Q → DenGs Z g xs Γ Q
  off : ∀ ws : List Nat, (∀ v ∈ vs, v ∈ ws) → GsOff g ws
  mono : GsMono g
structure O2 (K : PySem.W.Frag) where
  r : R2
  wp : D → D → (D → Prop) → Prop
  ok : ∀ (Z : Cz) (x y : D) (Q : D → Prop), Z.K = K → wp x y Q → OpD Z r x y Q
structure Bi (K : PySem.W.Frag) where
  r : List V → Hp → VK → Prop
  wp : List D → (D → Prop) → Prop
  ok : ∀ (Z : Cz) (xs : List D) (Q : D → Prop), Z.K = K → wp xs Q → CaD Z r xs Q
structure S (K : PySem.W.Frag) where
  ts : WX → TS
  wp : List B → Po → EX → Prop
  ok : ∀ (Z : Cz) (Γ : List B) (P : Po), Z.K = K → wp Γ P Z.X → DenS Z (ts Z.W) Γ P
def get : List B → Nat → B
  | [], _ => .un
  | b :: _, 0 => b
  | _ :: r, n + 1 => get r n
def put : List B → Nat → B → List B
  | [], _, _ => []
  | _ :: r, 0, c => c :: r
  | b :: r, n + 1, c => b :: put r n c
theorem put_set : ∀ (Γ : List B) (i : Nat) (b : B), put Γ i b = Γ.set i b
  | [], _, _ => rfl
  | _ :: _, 0, _ => rfl
  | _ :: r, n + 1, c => by simp only [put, List.set_cons_succ, put_set r n c]
theorem get_some {i : Nat} {b : B} : ∀ {Γ : List B}, get Γ i = b → b ≠ .un → Γ[i]? = some b := by
  intro Γ
  induction Γ generalizing i with
  | nil => intro h n; simp [get] at h; exact absurd h.symm n
  | cons c r ih =>
    intro h n
    cases i with
    | zero => simp only [get] at h; subst h; rfl
    | succ i => simpa using ih h n
section
variable {K : PySem.W.Frag}
def unx : D → D
  | .xtup xs => .tup xs
  | d => d
theorem rp_unx {K : PySem.W.Frag} {pl} {G : Hp} {v : V} {d : D} (h : Rp K pl G v d) : Rp K pl G v (unx d) := by
  cases h with
  | xtup h1 h2 h3 => exact .tup (.inl (.inr ⟨_, h1⟩)) h3
  | non => exact .non
  | bl b => exact .bl b
  | int i => exact .int i
  | str x => exact .str x
  | tup h r => exact .tup h r
  | lst h r => exact .lst h r
  | dic h => exact .dic h
  | dct h r => exact .dct h r
  | obj h l r => exact .obj h l r
  | pool h => exact .pool h
  | ty n => exact .ty n
  | cls C => exact .cls C
  | scr h => exact .scr h
  | exo h k => exact .exo h k
theorem den_unx {Z : Cz} {Γ : List B} {te : TE} {Q : D → List B → Prop} (h : Den Z te Γ fun d Γ' => Q (unx d) Γ') : Den Z te Γ Q := fun σ G H j e k kk => h σ G H j e k fun d Γ' v G' H' q s j' e' r => kk _ Γ' v G' H' q s j' e' (rp_unx r)
def vB (b : B) (Γ : List B) (i : Nat) (Q : D → List B → Prop) : Prop :=
  match b with
  | .d x => Q x Γ
  | .own xs => Q (.lst xs) (put Γ i (.d (.lst xs)))
  | _ => False
def varW (Γ : List B) (i : Nat) (Q : D → List B → Prop) : Prop := vB (get Γ i) Γ i Q
theorem varW_ok {Z : Cz} {Γ : List B} {i : Nat} {Q : D → List B → Prop} (h : varW Γ i Q) : Den Z (tVar i) Γ Q := by
  unfold varW vB at h
  cases e : get Γ i with
  | un => rw [e] at h; exact h.elim
  | d x => rw [e] at h; exact den_var (get_some e (by simp)) h
  | own xs => rw [e] at h; simp only [put_set] at h; exact den_move (get_some e (by simp)) h
  | ob p C ns vs => rw [e] at h; exact h.elim
  | exc a c d er => rw [e] at h; exact h.elim
def v (i : Nat) : X K := ⟨fun _ => tVar i, fun Γ Q _ => varW Γ i Q, fun Z Γ Q _ h => varW_ok h⟩
/-- a name, read as it is -/
def vr (i : Nat) : X K := ⟨fun _ => tVar i, fun Γ Q _ => match get Γ i with
  | .d x => Q x Γ
  | _ => False, fun Z Γ Q _ h => by
    split at h
    · rename_i x e; exact den_var (get_some e (by simp)) h
    · exact h.elim⟩
/-- a value, read as a tuple -/
def wk (x : X K) : X K := ⟨x.te, fun Γ Q E => x.wp Γ (fun d Γ' => Q (unx d) Γ') E, fun Z Γ Q e h => den_unx (x.ok Z Γ _ e h)⟩
def int (i : Int) : X K := ⟨fun _ => tC (.int i), fun Γ Q _ => Q (.int i) Γ, fun Z Γ Q _ h => den_int h⟩
def bl (b : Bool) : X K := ⟨fun _ => tC (.bl b), fun Γ Q _ => Q (.bl b) Γ, fun Z Γ Q _ h => den_bl h⟩
def non : X K := ⟨fun _ => tC .non, fun Γ Q _ => Q .non Γ, fun Z Γ Q _ h => den_non h⟩
def str (x : Str) : X K := ⟨fun _ => tC (.str x), fun Γ Q _ => Q (.str x) Γ, fun Z Γ Q _ h => den_str h⟩
def ty (t : String) : X K := ⟨fun _ => tC (.ty t), fun Γ Q _ => Q (.ty t) Γ, fun Z Γ Q _ h => den_ty h⟩
def cls (C : Addr) : X K := ⟨fun _ => tC (.ref C), fun Γ Q _ => Q (.cls C) Γ, fun Z Γ Q _ h => den_cls h⟩
/-- a constant of the written part -/
def con (a : Addr) (d : D) : X K := ⟨fun _ => tC (.ref a), fun Γ Q _ => KRp K a d ∧ Q d Γ, fun Z Γ Q e h => by subst e; exact den_kc h.1 h.2⟩
def a0 : A K := ⟨fun _ => tNil, fun Γ Q _ => Q [] Γ, fun Z Γ Q _ h => dena_nil h⟩
def ac (x : X K) (r : A K) : A K := ⟨fun W => tCons (x.te W) (r.ta W), fun Γ Q E => x.wp Γ (fun d Γ1 => r.wp Γ1 (fun ds Γ2 => Q (d :: ds) Γ2) E) E,
  fun Z Γ Q e h => dena_cons ((x.ok Z Γ _ e h).mono fun d Γ1 h1 => r.ok Z Γ1 _ e h1)⟩
def tup (r : A K) : X K := ⟨fun W => tTup (r.ta W), fun Γ Q E => r.wp Γ (fun ds Γ1 => ds.length ≤ 100000 ∧ Q (.tup ds) Γ1) E, fun Z Γ Q e h => den_tup (r.ok Z Γ _ e h)⟩
def dic : X K := ⟨fun _ => tDNewK, fun Γ Q _ => Q .dic Γ, fun Z Γ Q _ h => den_dic h⟩
def lst (r : A K) : L K := ⟨fun W => tLst (r.ta W), fun Γ Q E => r.wp Γ (fun ds Γ1 => ds.length ≤ 100000 ∧ Q ds Γ1) E, fun Z Γ Q e h => denl_lst (r.ok Z Γ _ e h)⟩
def ofL (l : L K) : X K := ⟨l.te, fun Γ Q E => l.wp Γ (fun ds Γ1 => Q (.lst ds) Γ1) E, fun Z Γ Q e h => den_l (l.ok Z Γ _ e h)⟩
def op (o : O2 K) (a b : X K) : X K := ⟨fun W => tOp o.r (a.te W) (b.te W), fun Γ Q E => a.wp Γ (fun x Γ1 => b.wp Γ1 (fun y Γ2 => o.wp x y fun d => Q d Γ2) E) E,
  fun Z Γ Q e h => den_op ((a.ok Z Γ _ e h).mono fun x Γ1 h1 => (b.ok Z Γ1 _ e h1).mono fun y Γ2 h2 => o.ok Z x y _ e h2)⟩
def isBl (x : D) (Q : Bool → Prop) : Prop :=
  match x with
  | .bl b => Q b
  | _ => False
theorem isBl_ex {x : D} {Q : Bool → Prop} (h : isBl x Q) : ∃ b, x = .bl b ∧ Q b := by
  cases x with
  | bl b => exact ⟨b, rfl, h⟩
  | _ => exact h.elim
def nt (a : X K) : X K := ⟨fun W => tNotV (a.te W), fun Γ Q E => a.wp Γ (fun x Γ1 => isBl x fun b => Q (.bl (!b)) Γ1) E, fun Z Γ Q e h => den_not ((a.ok Z Γ _ e h).mono fun x Γ1 h1 => isBl_ex h1)⟩
def and (a b : X K) : X K := ⟨fun W => tAndV (a.te W) (b.te W), fun Γ Q E => a.wp Γ (fun x Γ1 => isBl x fun c => if c = true then b.wp Γ1 Q E else Q (.bl false) Γ1) E,
  fun Z Γ Q e h => den_and ((a.ok Z Γ _ e h).mono fun x Γ1 h1 => by
    obtain ⟨c, rfl, h2⟩ := isBl_ex h1
    refine ⟨c, rfl, ?_⟩
    cases c with
    | true => exact b.ok Z Γ1 _ e h2
    | false => exact h2)⟩
def or (a b : X K) : X K := ⟨fun W => tOrV (a.te W) (b.te W), fun Γ Q E => a.wp Γ (fun x Γ1 => isBl x fun c => if c = true then Q (.bl true) Γ1 else b.wp Γ1 Q E) E,
  fun Z Γ Q e h => den_or ((a.ok Z Γ _ e h).mono fun x Γ1 h1 => by
    obtain ⟨c, rfl, h2⟩ := isBl_ex h1
    refine ⟨c, rfl, ?_⟩
    cases c with
    | true => exact h2
    | false => exact b.ok Z Γ1 _ e h2)⟩
def chain (o o' : O2 K) (a b c : X K) : X K := ⟨fun W => tChain o.r o'.r (a.te W) (b.te W) (c.te W),
  fun Γ Q E => a.wp Γ (fun x Γ1 => b.wp Γ1 (fun y Γ2 => o.wp x y fun d => isBl d fun k => if k = true then c.wp Γ2 (fun z Γ3 => o'.wp y z fun d => Q d Γ3) E else Q (.bl false) Γ2) E) E,
  fun Z Γ Q e h => den_chain ((a.ok Z Γ _ e h).mono fun x Γ1 h1 => (b.ok Z Γ1 _ e h1).mono fun y Γ2 h2 => fun G H vx vy j rx ry k kk => o.ok Z x y _ e h2 G H vx vy j rx ry k fun d v G' H' q => kk d v G' H' (by
    obtain ⟨c', rfl, h3⟩ := isBl_ex q
    refine ⟨c', rfl, ?_⟩
    cases c' with
    | true => exact (c.ok Z Γ2 _ e h3).mono fun w Γ3 h4 => o'.ok Z y w _ e h4
    | false => exact h3))⟩
def neg (a : X K) : X K := ⟨fun W => tUn (rU fun i => .int (-i)) (a.te W), fun Γ Q E => a.wp Γ (fun x Γ1 => match x with | .int i => Q (.int (-i)) Γ1 | _ => False) E,
  fun Z Γ Q e h => den_un ((a.ok Z Γ _ e h).mono fun x Γ1 h1 => by
    cases x with
    | int i => exact und_neg h1
    | _ => exact h1.elim)⟩
def isNon : D → Bool
  | .non => true
  | _ => false
def isN (a : X K) : X K := ⟨fun W => tIsN (a.te W), fun Γ Q E => a.wp Γ (fun x Γ1 => Q (.bl (isNon x)) Γ1) E, fun Z Γ Q e h => den_isN ((a.ok Z Γ _ e h).mono fun x Γ1 h1 => by cases x <;> exact h1)⟩
def notN (a : X K) : X K := ⟨fun W => tNotN (a.te W), fun Γ Q E => a.wp Γ (fun x Γ1 => Q (.bl (!isNon x)) Γ1) E, fun Z Γ Q e h => den_notN ((a.ok Z Γ _ e h).mono fun x Γ1 h1 => by cases x <;> exact h1)⟩
def tst (a : X K) : T K := ⟨fun W => tTest (a.te W), fun Γ Q E => a.wp Γ (fun x Γ1 => isBl x fun b => Q b Γ1) E, fun Z Γ Q e h => dent_test ((a.ok Z Γ _ e h).mono fun x Γ1 h1 => isBl_ex h1)⟩
def tB' (a : X K) : T K := ⟨fun W => tB (a.te W), fun Γ Q E => a.wp Γ (fun x Γ1 => isBl x fun b => Q b Γ1) E, fun Z Γ Q e h => dent_B ((a.ok Z Γ _ e h).mono fun x Γ1 h1 => isBl_ex h1)⟩
def tand (a b : T K) : T K := ⟨fun W => tAnd (a.tt W) (b.tt W), fun Γ Q E => a.wp Γ (fun c Γ1 => if c = true then b.wp Γ1 Q E else Q false Γ1) E, fun Z Γ Q e h => dent_and ((a.ok Z Γ _ e h).mono fun c Γ1 h1 => by
    cases c with
    | true => exact b.ok Z Γ1 _ e h1
    | false => exact h1)⟩
def tor (a b : T K) : T K := ⟨fun W => tOr (a.tt W) (b.tt W), fun Γ Q E => a.wp Γ (fun c Γ1 => if c = true then Q true Γ1 else b.wp Γ1 Q E) E, fun Z Γ Q e h => dent_or ((a.ok Z Γ _ e h).mono fun c Γ1 h1 => by
    cases c with
    | true => exact h1
    | false => exact b.ok Z Γ1 _ e h1)⟩
def tnot (a : T K) : T K := ⟨fun W => tNot (a.tt W), fun Γ Q E => a.wp Γ (fun c Γ1 => Q (!c) Γ1) E, fun Z Γ Q e h => dent_not (a.ok Z Γ _ e h)⟩
def tyes : T K := ⟨fun _ => tYes, fun Γ Q _ => Q true Γ, fun Z Γ Q _ h => dent_yes h⟩
def ife (t : T K) (a b : X K) : X K := ⟨fun W => tIf (t.tt W) (a.te W) (b.te W), fun Γ Q E => t.wp Γ (fun c Γ1 => if c = true then a.wp Γ1 Q E else b.wp Γ1 Q E) E, fun Z Γ Q e h => den_if ((t.ok Z Γ _ e h).mono fun c Γ1 h1 => by
    cases c with
    | true => exact a.ok Z Γ1 _ e h1
    | false => exact b.ok Z Γ1 _ e h1)⟩
def bi (f : Bi K) (r : A K) : X K := ⟨fun W => tCB f.r (r.ta W), fun Γ Q E => r.wp Γ (fun ds Γ1 => f.wp ds fun d => Q d Γ1) E, fun Z Γ Q e h => den_cb ((r.ok Z Γ _ e h).mono fun ds Γ1 h1 => f.ok Z ds _ e h1)⟩
def o0 : O K := ⟨fun _ => tNoPart, fun Γ Q _ => Q none Γ, fun Z Γ Q _ h => deno_none h⟩
def isI (x : D) (Q : Int → Prop) : Prop :=
  match x with
  | .int i => Q i
  | _ => False
theorem isI_ex {x : D} {Q : Int → Prop} (h : isI x Q) : ∃ i, x = .int i ∧ Q i := by
  cases x with
  | int b => exact ⟨b, rfl, h⟩
  | _ => exact h.elim
def o1 (a : X K) : O K := ⟨fun W => tPart (a.te W), fun Γ Q E => a.wp Γ (fun x Γ1 => isI x fun i => Q (some i) Γ1) E, fun Z Γ Q e h => deno_some ((a.ok Z Γ _ e h).mono fun x Γ1 h1 => isI_ex h1)⟩
theorem DenO.mono {Z : Cz} {to : TO} {Γ : List B} {Q Q' : Option Int → List B → Prop} (h : DenO Z to Γ Q) (w : ∀ d Γ', Q d Γ' → Q' d Γ') : DenO Z to Γ Q' := fun σ G H j e k q => h σ G H j e k fun d Γ' G' H' a => q d Γ' G' H' (w _ _ a)
def sl (a : X K) (lo hi : O K) : X K := ⟨fun W => tSl (rSlG K) (a.te W) (lo.to W) (hi.to W), fun Γ Q E => a.wp Γ (fun x Γ1 => lo.wp Γ1 (fun l Γ2 => hi.wp Γ2 (fun h Γ3 => ∃ d, slR l h x = some d ∧ Q d Γ3) E) E) E,
  fun Z Γ Q e h => by
    subst e
    exact den_sl ((a.ok Z Γ _ rfl h).mono fun x Γ1 h1 => DenO.mono (lo.ok Z Γ1 _ rfl h1) fun l Γ2 h2 => hi.ok Z Γ2 _ rfl h2)⟩
def fld (a : X K) (f : Str) : X K := ⟨fun W => tFld K (a.te W) f, fun Γ Q E => a.wp Γ (fun x Γ1 => match x with | .obj C ns vs => Cls K C ∧ NoAttr K C f ∧ ∃ d, (ns.zip vs).lookup f = some d ∧ Q d Γ1 | _ => False) E,
  fun Z Γ Q e h => by
    subst e
    refine den_fld ((a.ok Z Γ _ rfl h).mono fun x Γ1 h1 => ?_)
    cases x with
    | obj C ns vs => obtain ⟨c, n, d, l, q⟩ := h1; exact ⟨C, ns, vs, d, rfl, c, n, l, q⟩
    | _ => exact h1.elim⟩
def nm (i : Nat) : G K := ⟨gName i, fun x Γ Q => Q (put Γ i (.d x)), [i], fun Z x Γ Q _ h => deng_name (by rw [put_set] at h; exact h), fun ws h => goff_name (h i (by simp)), gmono_name⟩
def g0 : Gs K := ⟨gNil, fun xs Γ Q => xs = [] ∧ Q Γ, [], fun Z xs Γ Q _ h => by obtain ⟨rfl, h⟩ := h; exact dengs_nil h, fun ws _ => gsoff_nil, gsmono_nil⟩
def gc (a : G K) (b : Gs K) : Gs K := ⟨gCons a.g b.g, fun xs Γ Q => match xs with | x :: r => a.wp x Γ fun Γ1 => b.wp r Γ1 Q | [] => False, a.vs ++ b.vs,
  fun Z xs Γ Q e h => by
    cases xs with
    | nil => exact h.elim
    | cons x r => exact dengs_cons (fun σ G H v j en rx k kk => a.ok Z x Γ _ e h σ G H v j en rx k fun Γ' σ' q => kk Γ' σ' (b.ok Z r Γ' _ e q)),
  fun ws h => gsoff_cons (a.off ws fun v m => h v (List.mem_append_left _ m)) a.mono (b.off ws fun v m => h v (List.mem_append_right _ m)) b.mono, gsmono_cons a.mono b.mono⟩
def gt (n : Nat) (b : Gs K) : G K := ⟨gTup K n b.g, fun x Γ Q => match x with | .tup xs => xs.length = n ∧ b.wp xs Γ Q | _ => False, b.vs,
  fun Z x Γ Q e h => by
    subst e
    cases x with
    | tup xs => exact deng_tup h.1 (b.ok Z xs Γ Q rfl h.2)
    | _ => exact h.elim,
  fun ws h => goff_tup (b.off ws h), gmono_tup b.mono⟩
def isSq (x : D) (Q : List D → Prop) : Prop :=
  match x with
  | .tup xs => Q xs
  | .lst xs => Q xs
  | _ => False
def iseq (a : X K) : I K := ⟨fun W => iSeq K (a.te W), fun Γ Q E => a.wp Γ (fun x Γ1 => isSq x fun xs => Q xs Γ1) E,
  fun Z Γ Q e h => by
    subst e
    refine deni_seq ((a.ok Z Γ _ rfl h).mono fun x Γ1 h1 => ?_)
    cases x with
    | tup xs => exact ⟨xs, .inr rfl, h1⟩
    | lst xs => exact ⟨xs, .inl rfl, h1⟩
    | _ => exact h1.elim⟩
def rg1W (xs : List D) (Q : List D → Prop) : Prop :=
  match xs with
  | [.int n] => n < 2 ^ 62 ∧ -(2 ^ 62) ≤ n ∧ Q (rgAt 0 n.toNat)
  | _ => False
def irg1 (a : A K) : I K := ⟨fun W => iRng1 (a.ta W), fun Γ Q E => a.wp Γ (fun xs Γ1 => rg1W xs fun ys => Q ys Γ1) E,
  fun Z Γ Q e h => deni_rng1 ((a.ok Z Γ _ e h).mono fun xs Γ1 h1 => by
    unfold rg1W at h1
    split at h1
    · exact ⟨_, rfl, h1⟩
    · exact h1.elim)⟩
def rg2W (xs : List D) (Q : List D → Prop) : Prop :=
  match xs with
  | [.int n, .int m] => (-(2 ^ 62) ≤ n ∧ n < 2 ^ 62 ∧ -(2 ^ 62) ≤ m ∧ m < 2 ^ 62) ∧ Q (rgAt n (m - n).toNat)
  | _ => False
def irg2 (a : A K) : I K := ⟨fun W => iRng2 (a.ta W), fun Γ Q E => a.wp Γ (fun xs Γ1 => rg2W xs fun ys => Q ys Γ1) E,
  fun Z Γ Q e h => deni_rng2 ((a.ok Z Γ _ e h).mono fun xs Γ1 h1 => by
    unfold rg2W at h1
    split at h1
    · exact ⟨_, _, rfl, h1⟩
    · exact h1.elim)⟩
def en1W (xs : List D) (Q : List D → Prop) : Prop :=
  match xs with
  | [x] => isSq x fun ys => Q (enumD ys)
  | _ => False
def ienum (a : A K) : I K := ⟨fun W => iEnumA K (a.ta W), fun Γ Q E => a.wp Γ (fun xs Γ1 => en1W xs fun ys => Q ys Γ1) E,
  fun Z Γ Q e h => by
    subst e
    refine deni_enumT ((a.ok Z Γ _ rfl h).mono fun xs Γ1 h1 => ?_)
    unfold en1W at h1
    split at h1
    · rename_i x
      cases x with
      | tup ys => exact ⟨ys, .inl rfl, h1⟩
      | lst ys => exact ⟨ys, .inr rfl, h1⟩
      | _ => exact h1.elim
    · exact h1.elim⟩
def zipW (xs : List D) (Q : List D → Prop) : Prop :=
  match xs with
  | [.tup us, .tup ys] => Q (zipD us ys)
  | [.lst us, .lst ys] => Q (zipD us ys)
  | _ => False
def izip (a : A K) : I K := ⟨fun W => RZ.iZipA K (a.ta W), fun Γ Q E => a.wp Γ (fun xs Γ1 => zipW xs fun ys => Q ys Γ1) E,
  fun Z Γ Q e h => by
    subst e
    refine deni_zip ((a.ok Z Γ _ rfl h).mono fun xs Γ1 h1 => ?_)
    unfold zipW at h1
    split at h1
    · exact ⟨_, _, .inl rfl, h1⟩
    · exact ⟨_, _, .inr rfl, h1⟩
    · exact h1.elim⟩
end
end Cc
namespace Cc
open PySem L2 Ab
mutual
def noL : D → Bool
  | .lst _ => false
  | .scr _ => false
  | .tup xs => noLs xs
  | .obj _ _ vs => noLs vs
  | .dct _ x => noL x
  | .xtup xs => noLs xs
  | _ => true
def noLs : List D → Bool
  | [] => true
  | x :: xs => noL x && noLs xs
end
def frzB : B → B
  | .own xs => .d (.lst xs)
  | b => b
def frz (Γ : List B) : List B := Γ.map frzB
def noOb : List B → Bool
  | [] => true
  | .ob _ _ _ _ :: _ => false
  | _ :: r => noOb r
theorem noOb_all : ∀ {Γ : List B}, noOb Γ = true → ∀ (i : Nat) (p C : Addr) (ns : List Str) (vs : List D), Γ[i]? ≠ some (.ob p C ns vs)
  | [], _, i, _, _, _, _ => by simp
  | b :: r, h, 0, p, C, ns, vs => by
    intro e
    simp at e
    subst e
    simp [noOb] at h
  | b :: r, h, i + 1, p, C, ns, vs => by
    have h' : noOb r = true := by cases b <;> simp [noOb] at h <;> exact h
    simpa using noOb_all h' i p C ns vs
theorem noLs_all : ∀ {xs : List D}, noLs xs = true ↔ ∀ x ∈ xs, noL x = true
  | [] => by simp [noLs]
  | x :: xs => by simp [noLs, noLs_all (xs := xs)]
open Classical in
/-- an own list's address -/
def Own (Γ : List B) (σ : L2.St) (a : Addr) : Prop := ∃ (i : Nat) (xs : List D), Γ[i]? = some (.own xs) ∧ σ[i]? = some (some (.ref a))
open Classical in
noncomputable def G1 (Γ : List B) (σ : L2.St) (G H : Hp) : Hp := fun a => if Own Γ σ a then H a else G a
open Classical in
noncomputable def G2 (Γ : List B) (σ : L2.St) (G' : Hp) : Hp := fun a => if Own Γ σ a then none else G' a
section
variable {Z : Cz} {Γ : List B} {σ : L2.St} {G H G' H' : Hp}
theorem own_lst (e : En Z G H σ Γ) {a : Addr} (o : Own Γ σ a) : ∃ vs xs, H a = some (.lst vs) ∧ Rps Z.K Z.pl G vs xs ∧ G a = none ∧ Z.H0 a = none := by
  obtain ⟨i, xs, h1, h2⟩ := o
  obtain ⟨v, a1, l, vs, a2, a3, a4, a5, a6⟩ := e.at_ i _ h1
  rw [h2] at a1; cases a1; cases a2
  exact ⟨vs, xs, a3, a4, a5, a6⟩
theorem exG1 (e : En Z G H σ Γ) : Ex G (G1 Γ σ G H) := fun a o h => by
  unfold G1
  split
  · rename_i q
    obtain ⟨_, _, _, _, z, _⟩ := own_lst e q
    rw [z] at h; cases h
  · exact h
theorem jG1 (j : J Z G H) (e : En Z G H σ Γ) : J Z (G1 Γ σ G H) H := ⟨⟨fun a o h => by
    unfold G1 at h
    split at h
    · exact h
    · exact j.sub a o h, j.g0.trans (exG1 e), fun a o h n => by
    unfold G1
    split
    · rename_i q
      obtain ⟨_, _, _, _, _, z⟩ := own_lst e q
      rw [z] at h; cases h
    · exact j.out a o h n, j.fr, fun p c h => by
    obtain ⟨z0, z1, z2, ⟨o1, z3⟩, ⟨o2, z4⟩, z⟩ := j.pool p c h
    refine ⟨z0, ?_, ?_, ⟨o1, z3⟩, ⟨o2, z4⟩, z⟩
    · unfold G1
      split
      · rename_i q
        obtain ⟨_, _, _, _, _, y⟩ := own_lst e q
        rw [y] at z3; cases z3
      · exact z1
    · unfold G1
      split
      · rename_i q
        obtain ⟨_, _, _, _, _, y⟩ := own_lst e q
        rw [y] at z4; cases z4
      · exact z2⟩, j.acc.mono (exG1 e)⟩
theorem frz_get (i : Nat) : (frz Γ)[i]? = (Γ[i]?).map frzB := by unfold frz; rw [List.getElem?_map]
theorem frz_noown (n : noOb Γ = true) (i : Nat) : ¬ IsOwn (frz Γ)[i]? := fun o => by
  rw [frz_get] at o
  cases e : Γ[i]? with
  | none => rw [e] at o; exact o
  | some b =>
    rw [e] at o
    cases b with
    | ob p C ns vs => exact noOb_all n i p C ns vs e
    | un => exact o
    | d x => exact o
    | own xs => exact o
    | exc a c d er => exact o
theorem enG1 (e : En Z G H σ Γ) (n : noOb Γ = true) : En Z (G1 Γ σ G H) H σ (frz Γ) := by
  refine ⟨by unfold frz; rw [List.length_map]; exact e.len, fun i b h => ?_, fun i m l o => absurd o (frz_noown n i)⟩
  rw [frz_get] at h
  cases q : Γ[i]? with
  | none => rw [q] at h; cases h
  | some b0 =>
    rw [q] at h
    simp only [Option.map_some, Option.some.injEq] at h
    obtain ⟨v, a1, a2⟩ := e.at_ i _ q
    refine ⟨v, a1, ?_⟩
    cases b0 with
    | own xs =>
      subst h
      obtain ⟨l, vs, b1, b2, b3, b4, b5⟩ := a2
      subst b1
      have ow : Own Γ σ l := ⟨i, xs, q, a1⟩
      refine ⟨.ref l, rfl, .lst (xs := vs) ?_ (b3.mono (exG1 e))⟩
      unfold G1; rw [if_pos ow]; exact b2
    | un => subst h; trivial
    | d x => subst h; obtain ⟨u, c1, c2⟩ := a2; exact ⟨u, c1, c2.mono (exG1 e)⟩
    | ob p C ns vs => exact absurd q (noOb_all n i p C ns vs)
    | exc a c d er => subst h; exact ⟨a2.1, a2.2.mono (exG1 e)⟩
theorem exG2 (e : En Z G H σ Γ) (x : Ex (G1 Γ σ G H) G') : Ex G (G2 Γ σ G') := fun a o h => by
  unfold G2
  split
  · rename_i q
    obtain ⟨_, _, _, _, z, _⟩ := own_lst e q
    rw [z] at h; cases h
  · exact x a o (exG1 e a o h)
theorem ownH (j' : J Z G' H') (e : En Z G H σ Γ) (x : Ex (G1 Γ σ G H) G') {a : Addr} (o : Own Γ σ a) : H' a = H a := by
  obtain ⟨vs, xs, h1, _⟩ := own_lst e o
  have : G1 Γ σ G H a = some (.lst vs) := by unfold G1; rw [if_pos o]; exact h1
  rw [j'.sub a _ (x a _ this), h1]
theorem jG2 (j : J Z G H) (j' : J Z G' H') (e : En Z G H σ Γ) (x : Ex (G1 Γ σ G H) G') : J Z (G2 Γ σ G') H' := ⟨⟨fun a o h => by
    unfold G2 at h
    split at h
    · cases h
    · exact j'.sub a o h, j.g0.trans (exG2 e x), fun a o h n => by
    unfold G2
    split
    · rfl
    · exact j'.out a o h n, j'.fr, fun p c h => by
    obtain ⟨z0, z1, z2, z3, z4, z⟩ := j'.pool p c h
    refine ⟨z0, ?_, ?_, z3, z4, z⟩
    · unfold G2; split <;> first | rfl | exact z1
    · unfold G2; split <;> first | rfl | exact z2⟩, j.acc.mono (exG2 e x)⟩
theorem enG2 (j' : J Z G' H') (e : En Z G H σ Γ) (n : noOb Γ = true) (x : Ex (G1 Γ σ G H) G') : En Z (G2 Γ σ G') H' σ Γ := by
  refine ⟨e.len, fun i b h => ?_, e.dis⟩
  obtain ⟨v, a1, a2⟩ := e.at_ i _ h
  refine ⟨v, a1, a2.mono (exG2 e x) fun l o b1 b2 b3 b4 b5 => ?_⟩
  cases b with
  | own xs =>
    have ow : Own Γ σ l := ⟨i, xs, h, by rw [a1, b4]⟩
    refine ⟨by rw [ownH j' e x ow]; exact b1, ?_⟩
    unfold G2; rw [if_pos ow]
  | ob p C ns vs => exact absurd h (noOb_all n i p C ns vs)
  | un => exact b5.elim
  | d y => exact b5.elim
  | exc a c d er => exact b5.elim
theorem keepG2 (e : En Z G H σ Γ) (x : Ex (G1 Γ σ G H) G') {a : Addr} {o : HO} (h : G' a = some o) (n : ∀ vs, o ≠ .lst vs) : G2 Γ σ G' a = some o := by
  unfold G2
  split
  · rename_i q
    obtain ⟨vs, xs, h1, _⟩ := own_lst e q
    have : G1 Γ σ G H a = some (.lst vs) := by unfold G1; rw [if_pos q]; exact h1
    rw [x a _ this] at h; cases h
    exact absurd rfl (n vs)
  · exact h
theorem sqtG2 (e : En Z G H σ Γ) (x : Ex (G1 Γ σ G H) G') {a : Addr} {xs : List V} (h : SqT Z.K G' a xs) : SqT Z.K (G2 Γ σ G') a xs := by
  rcases h with (h | ⟨o, h⟩) | h
  · exact .inl (.inl (keepG2 e x h fun _ z => by cases z))
  · exact .inl (.inr ⟨o, keepG2 e x h fun _ z => by cases z⟩)
  · exact .inr h
mutual
theorem rpG2 (j' : J Z G' H') (e : En Z G H σ Γ) (x : Ex (G1 Γ σ G H) G') : ∀ {v : V} {d : D}, noL d = true → Rp Z.K Z.pl G' v d → Rp Z.K Z.pl (G2 Γ σ G') v d
  | _, _, _, .non => .non
  | _, _, _, .bl b => .bl b
  | _, _, _, .int i => .int i
  | _, _, _, .str x => .str x
  | _, _, p, .tup h r => .tup (sqtG2 e x h) (rpsG2 j' e x (by simpa [noL] using p) r)
  | _, _, p, .lst _ _ => by simp [noL] at p
  | _, _, p, .dic h => .dic (keepG2 e x h fun _ z => by cases z)
  | _, _, p, .dct h r => .dct (keepG2 e x h fun _ z => by cases z) (rpG2 j' e x (by simpa [noL] using p) r)
  | _, _, p, .obj h l r => .obj (keepG2 e x h fun _ z => by cases z) l (rpsG2 j' e x (by simpa [noL] using p) r)
  | _, _, _, .pool h => .pool h
  | _, _, _, .ty n => .ty n
  | _, _, _, .cls C => .cls C
  | _, _, p, .scr _ => by simp [noL] at p
  | _, _, p, .xtup h n r => .xtup (keepG2 e x h fun _ z => by cases z) n (rpsG2 j' e x (by simpa [noL] using p) r)
  | _, _, _, .exo h k => .exo (keepG2 e x h fun _ z => by cases z) fun dd z => (k dd z).imp fun _ q => keepG2 e x q fun _ y => by cases y
theorem rpsG2 (j' : J Z G' H') (e : En Z G H σ Γ) (x : Ex (G1 Γ σ G H) G') : ∀ {vs : List V} {ds : List D}, noLs ds = true → Rps Z.K Z.pl G' vs ds → Rps Z.K Z.pl (G2 Γ σ G') vs ds
  | _, _, _, .nil => .nil
  | _, _, p, .cons h r => by
    simp only [noLs, Bool.and_eq_true] at p
    exact .cons (rpG2 j' e x p.1 h) (rpsG2 j' e x p.2 r)
end
theorem spG2 (j : J Z G H) (j' : J Z G' H') (e : En Z G H σ Γ) (n : noOb Γ = true) (s : Sp1 Z σ (frz Γ) (frz Γ) (G1 Γ σ G H) H G' H') : Sp1 Z σ Γ Γ G H (G2 Γ σ G') H' := by
  refine ⟨exG2 e s.ex, fun _ h => h, fun a o ha np w => ?_, s.tr⟩
  obtain ⟨h1, h2⟩ := s.fr a o ha np fun i q => absurd q (frz_noown n i)
  refine ⟨h1, fun g => ?_⟩
  unfold G2
  split
  · rfl
  · rename_i q
    exact h2 (by unfold G1; rw [if_neg q]; exact g)
theorem den_bor {te : TE} {Q : D → List B → Prop} (n : noOb Γ = true) (h : Den Z te (frz Γ) fun d Γ' => Γ' = frz Γ ∧ noL d = true ∧ Q d Γ) : Den Z te Γ Q := fun σ G H j e k kk =>
  h σ (G1 Γ σ G H) H (jG1 j e) (enG1 e n) k fun d Γ' v G' H' ⟨e1, nl, q⟩ s j' e' r => by
    subst e1
    exact kk d Γ v (G2 Γ σ G') H' q (spG2 j j' e n s) (jG2 j j' e s.ex) (enG2 j' e n s.ex) (rpG2 j' e s.ex nl r)
theorem denl_bor {te : TE} {Q : List D → List B → Prop} (n : noOb Γ = true) (h : DenL Z te (frz Γ) fun d Γ' => Γ' = frz Γ ∧ noLs d = true ∧ Q d Γ) : DenL Z te Γ Q := fun σ G H j e k kk =>
  h σ (G1 Γ σ G H) H (jG1 j e) (enG1 e n) k fun d Γ' l vs G' H' ⟨e1, nl, q⟩ s j' e' hl r f hn => by
    subst e1
    refine kk d Γ l vs (G2 Γ σ G') H' q (spG2 j j' e n s) (jG2 j j' e s.ex) (enG2 j' e n s.ex) hl (rpsG2 j' e s.ex nl r) ⟨?_, f.h0, fun i o => e.noown hn i o⟩ hn
    unfold G2; split
    · rfl
    · exact f.g
end
section
variable {K : PySem.W.Frag}
def bor (x : X K) : X K := ⟨x.te, fun Γ Q E => noOb Γ = true ∧ x.wp (frz Γ) (fun d Γ' => Γ' = frz Γ ∧ noL d = true ∧ Q d Γ) E, fun Z Γ Q e h => den_bor h.1 (x.ok Z _ _ e h.2)⟩
def borL (x : L K) : L K := ⟨x.te, fun Γ Q E => noOb Γ = true ∧ x.wp (frz Γ) (fun d Γ' => Γ' = frz Γ ∧ noLs d = true ∧ Q d Γ) E, fun Z Γ Q e h => denl_bor h.1 (x.ok Z _ _ e h.2)⟩
def isOwn (b : B) (Q : List D → Prop) : Prop :=
  match b with
  | .own xs => Q xs
  | _ => False
theorem isOwn_ex {Γ : List B} {i : Nat} {Q : List D → Prop} (h : isOwn (get Γ i) Q) : ∃ xs, Γ[i]? = some (.own xs) ∧ Q xs := by
  cases e : get Γ i with
  | own xs => rw [e] at h; exact ⟨xs, get_some e (by simp), h⟩
  | _ => rw [e] at h; exact h.elim
def app (i : Nat) (x : X K) : X K := ⟨fun W => tBM K "list" rAppend (tVar i) (tCons (x.te W) tNil),
  fun Γ Q E => isOwn (get Γ i) fun _ => x.wp Γ (fun d Γ1 => isOwn (get Γ1 i) fun xs => xs.length < 100000 ∧ Q .non (put Γ1 i (.own (xs ++ [d])))) E,
  fun Z Γ Q e h => by
    subst e
    obtain ⟨xs, h1, h2⟩ := isOwn_ex h
    refine den_append h1 rfl ((x.ok Z Γ _ rfl h2).mono fun d Γ1 h3 => ?_)
    obtain ⟨xs', g1, g2, g3⟩ := isOwn_ex h3
    exact ⟨xs', g1, g2, by rw [put_set] at g3; exact g3⟩⟩
def ext (i : Nat) (x : X K) : X K := ⟨fun W => tBM K "list" rExtend (tVar i) (tCons (x.te W) tNil),
  fun Γ Q E => isOwn (get Γ i) fun _ => x.wp Γ (fun d Γ1 => isOwn (get Γ1 i) fun xs => match d with | .lst ys => xs.length + ys.length ≤ 100000 ∧ Q .non (put Γ1 i (.own (xs ++ ys))) | _ => False) E,
  fun Z Γ Q e h => by
    subst e
    obtain ⟨xs, h1, h2⟩ := isOwn_ex h
    refine den_extend h1 rfl ((x.ok Z Γ _ rfl h2).mono fun d Γ1 h3 => ?_)
    obtain ⟨xs', g1, g2⟩ := isOwn_ex h3
    cases d with
    | lst ys => exact ⟨xs', ys, g1, rfl, g2.1, by have := g2.2; rw [put_set] at this; exact this⟩
    | _ => exact g2.elim⟩
def popAt (i : Nat) (x : X K) : X K := ⟨fun W => tBM K "list" rPopAt (tVar i) (tCons (x.te W) tNil),
  fun Γ Q E => isOwn (get Γ i) fun _ => x.wp Γ (fun d Γ1 => isOwn (get Γ1 i) fun xs => isI d fun n => ∃ y, 0 ≤ n ∧ xs[n.toNat]? = some y ∧ xs.length ≤ 100000 ∧ Q y (put Γ1 i (.own (xs.eraseIdx n.toNat)))) E,
  fun Z Γ Q e h => by
    subst e
    obtain ⟨xs, h1, h2⟩ := isOwn_ex h
    refine den_popAt h1 rfl ((x.ok Z Γ _ rfl h2).mono fun d Γ1 h3 => ?_)
    obtain ⟨xs', g1, g2⟩ := isOwn_ex h3
    obtain ⟨n, rfl, y, n0, g3, g4, g5⟩ := isI_ex g2
    refine ⟨xs', g1, n.toNat, y, by rw [Int.toNat_of_nonneg n0], g3, g4, by rw [put_set] at g5; exact g5⟩⟩
end
end Cc
namespace Cc
open PySem L2 Ab
theorem den_dct1 {Z : Cz} {Γ : List B} {te : TE} {n : Int} {Q : D → List B → Prop} (h : Den Z te Γ fun x Γ' => Q (.dct n x) Γ') : Den Z (tDisp [(tC (.int n), te)]) Γ Q := fun σ G H j e k kk p hp => by
  have np0 : G p = none := j.sub.back hp
  have h0 := j.old hp
  have npp : NotPl Z p := fun a c e1 => by
    obtain ⟨_, _, _, ⟨o1, z3⟩, ⟨o2, z4⟩, _⟩ := j.pool a c e1
    exact ⟨fun z => (by rw [← z] at z3; rw [h0] at z3; cases z3), fun z => (by rw [← z] at z4; rw [h0] at z4; cases z4)⟩
  have no : ∀ i : Nat, IsOwn Γ[i]? → σ[i]? ≠ some (some (.ref p)) := fun i o => e.noown hp i o
  refine h σ G (upd H p (.dK [])) (j.put h0 np0) (e.newM hp) _ fun x Γ1 v G2 H2 q s j2 e2 r => ?_
  obtain ⟨a1, a2⟩ := s.fr p _ upd_same npp no
  have g2 := a2 np0
  refine ⟨a1, [(.inl n, v)], rfl, by simp, ?_⟩
  have j3 : J Z (upd G2 p (.dK [(.inl n, v)])) (upd H2 p (.dK [(.inl n, v)])) := (j2.put h0 g2).still h0 upd_same g2
  refine kk _ Γ1 _ (upd G2 p (.dK [(.inl n, v)])) (upd H2 p (.dK [(.inl n, v)])) q ⟨s.ex.trans (Ex.new g2), s.own, fun a o ha n w => ?_, fun a o ha => ?_⟩ j3 (e2.mono (Ex.new g2) fun l o b1 b2 b3 ⟨i, o1, o2⟩ => ?_) (.dct upd_same (r.mono (Ex.new g2)))
  · have ne : a ≠ p := ne_of_none ha hp
    obtain ⟨z1, z2⟩ := s.fr a o (by rw [upd_ne ne]; exact ha) n w
    rw [upd_ne ne, upd_ne ne]; exact ⟨z1, z2⟩
  · have ne : a ≠ p := ne_of_none ha hp
    obtain ⟨o', z⟩ := s.tr a o (by rw [upd_ne ne]; exact ha)
    exact ⟨o', by rw [upd_ne ne]; exact z⟩
  · have ne : l ≠ p := fun z => no i (s.own i o1) (by rw [o2, z])
    rw [upd_ne ne, upd_ne ne]; exact ⟨b1, b2⟩
theorem den_w0 {Z : Cz} {Γ : List B} {te : TE} {Q : D → List B → Prop} (h : Den (Z.wx W0 EX0) te Γ Q) : Den Z te Γ Q := fun σ G H j e k kk =>
  h σ G H ⟨j.toJ0.wx, fun _ _ _ _ _ _ _ z => z.elim⟩ e.wx k fun d Γ' v G' H' q s j' e' r => kk d Γ' v G' H' q ⟨s.ex, s.own, s.fr, s.tr⟩ ⟨j'.toJ0.ofwx, j.acc.mono s.ex⟩ e'.ofwx r
theorem dent_w0 {Z : Cz} {Γ : List B} {te : TT} {Q : Bool → List B → Prop} (h : DenT (Z.wx W0 EX0) te Γ Q) : DenT Z te Γ Q := fun σ G H j e k kk =>
  h σ G H ⟨j.toJ0.wx, fun _ _ _ _ _ _ _ z => z.elim⟩ e.wx k fun d Γ' G' H' q s j' e' => kk d Γ' G' H' q ⟨s.ex, s.own, s.fr, s.tr⟩ ⟨j'.toJ0.ofwx, j.acc.mono s.ex⟩ e'.ofwx
theorem deni_w0 {Z : Cz} {Γ : List B} {te : TI} {Q : List D → List B → Prop} (h : DenI (Z.wx W0 EX0) te Γ Q) : DenI Z te Γ Q := fun σ G H j e k kk =>
  h σ G H ⟨j.toJ0.wx, fun _ _ _ _ _ _ _ z => z.elim⟩ e.wx k fun d Γ' Jt G' H' q s j' e' it => kk d Γ' Jt G' H' q ⟨s.ex, s.own, s.fr, s.tr⟩ ⟨j'.toJ0.ofwx, j.acc.mono s.ex⟩ e'.ofwx
    ⟨fun G1 H1 i x j1 hi => it.go G1 H1 i x ⟨j1.toJ0.wx, fun _ _ _ _ _ _ _ z => z.elim⟩ hi, fun G1 H1 x j1 => it.stop G1 H1 x ⟨j1.toJ0.wx, fun _ _ _ _ _ _ _ z => z.elim⟩, fun G1 H1 i x H2 e1 j1 hi y => it.yld G1 H1 i x H2 e1 ⟨j1.toJ0.wx, fun _ _ _ _ _ _ _ z => z.elim⟩ hi y⟩
theorem DenI.mono {Z : Cz} {Γ : List B} {te : TI} {Q Q' : List D → List B → Prop} (h : DenI Z te Γ Q) (w : ∀ d Γ', Q d Γ' → Q' d Γ') : DenI Z te Γ Q' := fun σ G H j e k q => h σ G H j e k fun d Γ' Jt G' H' a => q d Γ' Jt G' H' (w _ _ a)
theorem DenG.mono {Z : Cz} {Γ : List B} {g : TG} {x : D} {Q Q' : List B → Prop} (h : DenG Z g x Γ Q) (w : ∀ Γ', Q Γ' → Q' Γ') : DenG Z g x Γ Q' := fun σ G H v j e r k q => h σ G H v j e r k fun Γ' σ' a => q Γ' σ' (w _ a)
def noOwnAt (Γ : List B) : List Nat → Prop
  | [] => True
  | i :: r => ¬ IsOwn (some (get Γ i)) ∧ noOwnAt Γ r
theorem noOwnAt_all {Γ : List B} : ∀ {vs : List Nat}, noOwnAt Γ vs → ∀ i ∈ vs, ¬ IsOwn Γ[i]?
  | [], _, i, m => by cases m
  | v :: vs, h, i, m => by
    rcases List.mem_cons.mp m with rfl | m
    · intro o
      refine h.1 ?_
      cases e : Γ[i]? with
      | none => rw [e] at o; exact o.elim
      | some b =>
        rw [e] at o
        have : get Γ i = b := by
          clear o h
          induction Γ generalizing i with
          | nil => simp at e
          | cons c r ih =>
            cases i with
            | zero => simp at e; simp [get, e]
            | succ i => simp only [get]; exact ih i (by simp) (by simpa using e)
        rw [this]; exact o
    · exact noOwnAt_all h.2 i m
def wipeP (Γ : List B) : List Nat → List B
  | [] => Γ
  | v :: vs => put (wipeP Γ vs) v .un
theorem wipeP_eq (Γ : List B) : ∀ vs, wipeP Γ vs = wipeB Γ vs
  | [] => rfl
  | v :: vs => by simp only [wipeP, wipeB, put_set, wipeP_eq Γ vs]
/-- one turn: some y is kept, none is left out -/
abbrev El := D → (Option D → Prop) → Prop
def lcS (el : El) : List D → List D → (List D → Prop) → Prop
  | [], acc, Q => Q acc
  | d :: ds, acc, Q => el d fun o => match o with
    | some y => lcS el ds (acc ++ [y]) Q
    | none => lcS el ds acc Q
section
variable {K : PySem.W.Frag}
/-- what a comprehension makes of one item -/
def elW (g : G K) (t : T K) (x : X K) (vs : List Nat) (Γ1 : List B) : El := fun d k => g.wp d (wipeP Γ1 vs) fun Γ2 => wipeP Γ2 vs = wipeP Γ1 vs ∧ noOwnAt Γ2 vs ∧
  t.wp Γ2 (fun b Γ3 => Γ3 = Γ2 ∧ if b = true then x.wp Γ2 (fun y Γ4 => Γ4 = Γ2 ∧ k (some y)) EX0 else k none) EX0
theorem drop_get {ds : List D} {i : Nat} {d : D} (hd : ds[i]? = some d) : ds.drop i = d :: ds.drop (i + 1) := by
  obtain ⟨hi, hg⟩ := List.getElem?_eq_some_iff.mp hd
  rw [← hg]; exact (List.getElem_cons_drop hi).symm
def lc (it : I K) (g : G K) (t : T K) (x : X K) (vs : List Nat) (hv : ∀ v ∈ g.vs, v ∈ vs) : L K := ⟨fun W => tLc (it.wi W) g.g (t.tt W0) (x.te W0) vs,
  fun Γ Q E => it.wp Γ (fun ds Γ1 => noOwnAt Γ1 vs ∧ ds.length < 100000 ∧ lcS (elW g t x vs Γ1) ds [] fun acc => Q acc Γ1) E, by
  intro Z Γ Q e h
  refine denl_lc (g.off vs hv) g.mono (DenI.mono (it.ok Z Γ _ e h) ?_)
  rintro ds Γ1 ⟨n, l, w⟩
  refine ⟨noOwnAt_all n, l, fun i acc => lcS (elW g t x vs Γ1) (ds.drop i) acc fun acc => Q acc Γ1, w, ?_, ?_⟩
  · intro i d acc hd _ iv
    (try dsimp only at iv)
    rw [drop_get hd] at iv
    simp only [lcS, elW, wipeP_eq] at iv
    refine DenG.mono (g.ok Z d _ _ e iv) fun Γ2 ⟨a1, a2, a3⟩ => ⟨a1, noOwnAt_all a2, dent_w0 ((t.ok (Z.wx W0 EX0) Γ2 _ e a3).mono fun b Γ3 ⟨b1, b2⟩ => ⟨b1, ?_⟩)⟩
    cases b with
    | true => exact den_w0 ((x.ok (Z.wx W0 EX0) Γ2 _ e b2).mono fun y Γ4 ⟨c1, c2⟩ => ⟨c1, c2⟩)
    | false => exact b2
  · intro acc hl iv
    (try dsimp only at iv)
    rw [List.drop_length] at iv; exact iv⟩
theorem lcS_map {el : El} {f : D → D} : ∀ {ds acc : List D} {Q : List D → Prop}, (∀ d ∈ ds, ∀ k : Option D → Prop, k (some (f d)) → el d k) → Q (acc ++ ds.map f) → lcS el ds acc Q
  | [], acc, Q, _, q => by simpa [lcS] using q
  | d :: ds, acc, Q, h, q => h d (by simp) _ (lcS_map (fun d' m => h d' (by simp [m])) (by simpa using q))
theorem lcS_fm {el : El} {f : D → Option D} : ∀ {ds acc : List D} {Q : List D → Prop}, (∀ d ∈ ds, ∀ k : Option D → Prop, k (f d) → el d k) → Q (acc ++ ds.filterMap f) → lcS el ds acc Q
  | [], acc, Q, _, q => by simpa [lcS] using q
  | d :: ds, acc, Q, h, q => h d List.mem_cons_self _ (by
    have r := fun acc' => lcS_fm (el := el) (f := f) (ds := ds) (acc := acc') (Q := Q) fun d' m => h d' (List.mem_cons_of_mem _ m)
    cases e : f d with
    | none =>
      simp only
      refine r acc ?_
      simpa [List.filterMap_cons, e] using q
    | some y =>
      simp only
      refine r (acc ++ [y]) ?_
      simpa [List.filterMap_cons, e] using q)
/-- each item makes some item that fulfils R -/
theorem lcS_rel {el : El} {R : D → D → Prop} : ∀ {ds acc : List D} {Q : List D → Prop}, (∀ d ∈ ds, ∀ k : Option D → Prop, (∀ y, R d y → k (some y)) → el d k) → (∀ ys, Each R ds ys → Q (acc ++ ys)) → lcS el ds acc Q
  | [], acc, Q, _, q => by simpa [lcS] using q [] .nil
  | d :: ds, acc, Q, h, q => h d List.mem_cons_self _ fun y ry => lcS_rel (R := R) (fun d' m => h d' (List.mem_cons_of_mem _ m)) fun ys ey => by
    rw [List.append_assoc]; exact q (y :: ys) (.cons ry ey)
/-- each item makes one or none, of a sort -/
theorem lcS_all {el : El} {R : D → Prop} : ∀ {ds acc : List D} {Q : List D → Prop}, (∀ d ∈ ds, ∀ k : Option D → Prop, (∀ o : Option D, (∀ y, o = some y → R y) → k o) → el d k) → (∀ ys, (∀ y ∈ ys, R y) → ys.length ≤ ds.length → Q (acc ++ ys)) → lcS el ds acc Q
  | [], acc, Q, _, q => by simpa [lcS] using q [] (by simp) (Nat.le_refl _)
  | d :: ds, acc, Q, h, q => by
    refine h d List.mem_cons_self _ fun o ro => ?_
    cases o with
    | none =>
      simp only
      exact lcS_all (R := R) (fun d' m => h d' (List.mem_cons_of_mem _ m)) fun ys ey hl => q ys ey (Nat.le_succ_of_le hl)
    | some y =>
      simp only
      refine lcS_all (R := R) (fun d' m => h d' (List.mem_cons_of_mem _ m)) fun ys ey hl => ?_
      rw [List.append_assoc]
      exact q (y :: ys) (fun z m => by
        rcases List.mem_cons.mp m with rfl | m
        · exact ro _ rfl
        · exact ey z m) (Nat.succ_le_succ hl)
def dct1 (n : Int) (x : X K) : X K := ⟨fun W => tDisp [(tC (.int n), x.te W)], fun Γ Q E => x.wp Γ (fun d Γ1 => Q (.dct n d) Γ1) E, fun Z Γ Q e h => den_dct1 (x.ok Z Γ _ e h)⟩
end
def spW (K : PySem.W.Frag) (n : Nat) (wp : WP) : Sp := fun vs H Q E => ∃ pl G ds QD ED, J (Cz.call K pl H G) G H ∧ Rps K pl G vs ds ∧ ds.length = n ∧ wp ds QD ED ∧
  (∀ d v G' H', QD d → J (Cz.call K pl H G) G' H' → Rp K pl G' v d → Q v H') ∧
  (∀ er cls d G' H', ED er → J (Cz.call K pl H G) G' H' → RpEr0 K pl G' cls d er → E cls d H')
section
variable {K : PySem.W.Frag}
theorem den_callW {Z : Cz} {Γ : List B} {tr : TA} {n : Nat} {wp : WP} {Q : D → List B → Prop} (h : DenA Z tr Γ fun ds Γ1 => ds.length = n ∧ wp ds (fun d => Q d Γ1) fun er => Z.X er Γ1) : Den Z (tCallS (spW Z.K n wp) (WE Z.W) tr) Γ Q := fun σ G H j e k kk =>
  h σ G H j e _ fun ds Γ1 vs G1 H1 ⟨hn, q⟩ s1 j1 e1 r1 => by
    refine ⟨Z.pl, G1, ds, _, _, j1.enter, r1, hn, q, fun d v G' H' a i r => ?_, fun er cls d G' H' a i re => ?_⟩
    · exact kk d Γ1 v G' H' a (s1.trans (.of i)) (j1.leave i) (e1.called j1.toJ0 i.toJ0) r
    · exact j1.acc er cls d σ G' H' Γ1 a i.g0 (j1.leave i).toJ0 (e1.called j1.toJ0 i.toJ0) re
theorem den_callW0 {Z : Cz} {Γ : List B} {wp : WP} {Q : D → List B → Prop} (h : wp [] (fun d => Q d Γ) fun _ => False) : Den Z (tCall (spW Z.K 0 wp) [] E0 tNil) Γ Q := fun σ G H j e k kk =>
  ⟨Z.pl, G, [], _, _, j.enter, .nil, rfl, h, fun d v G' H' a i r => kk d Γ v G' H' a (.of i) (j.leave i) (e.called j.toJ0 i.toJ0) r, fun _ _ _ _ _ a => a.elim⟩
def call (n : Nat) (wp : WP) (r : A K) : X K := ⟨fun W => tCallS (spW K n wp) (WE W) (r.ta W), fun Γ Q E => r.wp Γ (fun ds Γ1 => ds.length = n ∧ wp ds (fun d => Q d Γ1) fun er => E er Γ1) E,
  fun Z Γ Q e h => by subst e; exact den_callW (r.ok Z Γ _ rfl h)⟩
def call0 (wp : WP) : X K := ⟨fun _ => tCall (spW K 0 wp) [] E0 tNil, fun Γ Q E => wp [] (fun d => Q d Γ) fun _ => False, fun Z Γ Q e h => by subst e; exact den_callW0 h⟩
end
section
variable {K : PySem.W.Frag}
def nil : S K := ⟨fun _ => tNext, fun Γ P _ => P.N Γ, fun Z Γ P _ h => dens_nil h⟩
def seq (a b : S K) : S K := ⟨fun W => tSeq (a.ts W) (b.ts W), fun Γ P E => a.wp Γ ⟨fun Γ1 => b.wp Γ1 P E, P.R, P.Bk, P.Ct⟩ E,
  fun Z Γ P e h => dens_seq ((a.ok Z Γ _ e h).mono (fun Γ1 h1 => b.ok Z Γ1 P e h1) rfl (fun _ x => x) fun _ x => x)⟩
def brk : S K := ⟨fun _ => tBreak, fun Γ P _ => P.Bk Γ, fun Z Γ P _ h => dens_break h⟩
def cnt : S K := ⟨fun _ => tCont, fun Γ P _ => P.Ct Γ, fun Z Γ P _ h => dens_cont h⟩
def drop (x : X K) : S K := ⟨fun W => tDrop (x.te W), fun Γ P E => x.wp Γ (fun _ Γ1 => P.N Γ1) E, fun Z Γ P e h => dens_drop (x.ok Z Γ _ e h)⟩
def ret (x : X K) : S K := ⟨fun W => tRet (x.te W), fun Γ P E => x.wp Γ (fun d _ => P.R d) E, fun Z Γ P e h => dens_ret (x.ok Z Γ _ e h)⟩
def retN : S K := ⟨fun _ => tRetN, fun Γ P _ => P.R .non, fun Z Γ P _ h => dens_retN h⟩
def ifs (t : T K) (a b : S K) : S K := ⟨fun W => tIfS (t.tt W) (a.ts W) (b.ts W), fun Γ P E => t.wp Γ (fun c Γ1 => if c = true then a.wp Γ1 P E else b.wp Γ1 P E) E,
  fun Z Γ P e h => dens_if ((t.ok Z Γ _ e h).mono fun c Γ1 h1 => by
    cases c with
    | true => exact a.ok Z Γ1 P e h1
    | false => exact b.ok Z Γ1 P e h1)⟩
def asg (x : X K) (g : G K) : S K := ⟨fun W => tAsg (x.te W) g.g, fun Γ P E => x.wp Γ (fun d Γ1 => g.wp d Γ1 P.N) E, fun Z Γ P e h => dens_asg ((x.ok Z Γ _ e h).mono fun d Γ1 h1 => g.ok Z d Γ1 _ e h1)⟩
def own (i : Nat) (x : L K) : S K := ⟨fun W => tAsg (x.te W) (gName i), fun Γ P E => x.wp Γ (fun xs Γ1 => P.N (put Γ1 i (.own xs))) E,
  fun Z Γ P e h => dens_own ((x.ok Z Γ _ e h).mono fun xs Γ1 h1 => by rw [put_set] at h1; exact h1)⟩
def two (ds : List D) (Q : D → D → Prop) : Prop :=
  match ds with
  | [x, y] => Q x y
  | _ => False
theorem two_ex {ds : List D} {Q : D → D → Prop} (h : two ds Q) : ∃ x y, ds = [x, y] ∧ Q x y := by
  unfold two at h
  split at h
  · exact ⟨_, _, rfl, h⟩
  · exact h.elim
def par (i m : Nat) (r : A K) : S K := ⟨fun W => tPar i m (r.ta W), fun Γ P E => r.wp Γ (fun ds Γ1 => two ds fun x y => P.N (put (put Γ1 i (.d x)) m (.d y))) E,
  fun Z Γ P e h => dens_par ((r.ok Z Γ _ e h).mono fun ds Γ1 h1 => by
    obtain ⟨x, y, rfl, q⟩ := two_ex h1
    exact ⟨x, y, rfl, by rw [put_set, put_set] at q; exact q⟩)⟩
def forW (g : D → List B → (List B → Prop) → Prop) (s : List B → Po → Prop) (P : Po) : List D → List B → Prop
  | [], Γ => P.N Γ
  | d :: ds, Γ => g d Γ fun Γ1 => s Γ1 ⟨forW g s P ds, P.R, P.N, forW g s P ds⟩
def fors (it : I K) (g : G K) (s : S K) : S K := ⟨fun W => tFor (it.wi W) g.g (s.ts W), fun Γ P E => it.wp Γ (fun ds Γ1 => forW g.wp (fun Γ P => s.wp Γ P E) P ds Γ1) E, by
  intro Z Γ P e h
  refine dens_for (DenI.mono (it.ok Z Γ _ e h) fun ds Γ1 h1 => ⟨fun i Γ2 => forW g.wp (fun Γ P => s.wp Γ P Z.X) P (ds.drop i) Γ2, h1, ?_, ?_⟩)
  · intro i d Γ2 hd iv
    (try dsimp only at iv)
    rw [drop_get hd] at iv
    exact DenG.mono (g.ok Z d Γ2 _ e iv) fun Γ3 h3 => s.ok Z Γ3 _ e h3
  · intro Γ2 iv
    (try dsimp only at iv)
    rw [List.drop_length] at iv; exact iv⟩
/-- an invariant of what is done and what is left -/
theorem forW_inv {g : D → List B → (List B → Prop) → Prop} {s : List B → Po → Prop} {P : Po} (Iv : List D → List D → List B → Prop)
    (hs : ∀ pre d post Γ, Iv pre (d :: post) Γ → ∀ N : List B → Prop, (∀ x, Iv (pre ++ [d]) post x → N x) → g d Γ fun Γ1 => s Γ1 ⟨N, P.R, P.N, N⟩) (he : ∀ pre Γ, Iv pre [] Γ → P.N Γ) :
    ∀ {post pre : List D} {Γ : List B}, Iv pre post Γ → forW g s P post Γ
  | [], pre, Γ, h => he pre Γ h
  | d :: post, pre, Γ, h => hs pre d post Γ h _ fun x hx => forW_inv Iv hs he hx
def whW (t : List B → (Bool → List B → Prop) → Prop) (s : List B → Po → Prop) (P : Po) : Nat → List B → Prop
  | 0, _ => False
  | n + 1, Γ => t Γ fun b Γ1 => if b = true then s Γ1 ⟨whW t s P n, P.R, P.N, whW t s P n⟩ else P.N Γ1
def whs (t : T K) (s : S K) : S K := ⟨fun W => tWhile (t.tt W) (s.ts W), fun Γ P E => ∃ n, whW (fun Γ Q => t.wp Γ Q E) (fun Γ P => s.wp Γ P E) P n Γ,
  fun Z Γ P e h => dens_while (fun m Γ1 => whW (fun Γ Q => t.wp Γ Q Z.X) (fun Γ P => s.wp Γ P Z.X) P m Γ1) h (by
    intro m Γ1 iv
    cases m with
    | zero => exact iv.elim
    | succ n =>
      refine (t.ok Z Γ1 _ e iv).mono fun b Γ2 h2 => ?_
      cases b with
      | true => exact (s.ok Z Γ2 _ e h2).mono (fun Γ3 h3 => ⟨n, Nat.lt_succ_self n, h3⟩) rfl (fun _ x => x) fun Γ3 h3 => ⟨n, Nat.lt_succ_self n, h3⟩
      | false => exact h2)⟩
/-- a measure that falls -/
theorem whW_inv {t : List B → (Bool → List B → Prop) → Prop} {s : List B → Po → Prop} {P : Po} (Iv : Nat → List B → Prop)
    (hs : ∀ m Γ, Iv m Γ → ∀ N : List B → Prop, (∀ x m', m' < m → Iv m' x → N x) → t Γ fun b Γ1 => if b = true then s Γ1 ⟨N, P.R, P.N, N⟩ else P.N Γ1) : ∀ (n m : Nat) (Γ : List B), m < n → Iv m Γ → whW t s P n Γ
  | 0, m, Γ, h, _ => absurd h (Nat.not_lt_zero _)
  | n + 1, m, Γ, h, iv => hs m Γ iv _ fun x m' h' iv' => whW_inv Iv hs n m' x (by omega) iv'
def aug (i : Nat) (x : X K) : S K := ⟨fun W => tAug i (x.te W) (ipI fun i j => i + j), fun Γ P E => match get Γ i with | .d (.int a) => x.wp Γ (fun y Γ1 => isI y fun b => P.N (put Γ1 i (.d (.int (a + b))))) E | _ => False,
  fun Z Γ P e h => by
    split at h
    · rename_i a ea
      exact dens_aug (f := fun i j => i + j) (get_some ea (by simp)) ((x.ok Z Γ _ e h).mono fun y Γ1 h1 => by
        obtain ⟨b, rfl, q⟩ := isI_ex h1
        exact ⟨b, rfl, by rw [put_set] at q; exact q⟩)
    · exact h.elim⟩
/-- m[y] = x -/
def setO (m : Nat) (x y : X K) : S K := ⟨fun W => tAsg (x.te W) (gSub (tVar m) (y.te W) rSetL),
  fun Γ P E => isOwn (get Γ m) fun _ => x.wp Γ (fun d Γ1 => isOwn (get Γ1 m) fun _ => y.wp Γ1 (fun i Γ2 => isOwn (get Γ2 m) fun xs => isI i fun i => ∃ n, ixN xs.length i = some n ∧ P.N (put Γ2 m (.own (xs.set n d)))) E) E,
  fun Z Γ P e h => by
    obtain ⟨xs, h1, h2⟩ := isOwn_ex h
    refine dens_setO h1 ((x.ok Z Γ _ e h2).mono fun d Γ1 h3 => ?_)
    obtain ⟨xs1, g1, g2⟩ := isOwn_ex h3
    refine ⟨⟨xs1, g1⟩, (y.ok Z Γ1 _ e g2).mono fun i Γ2 h4 => ?_⟩
    obtain ⟨xs2, k1, k2⟩ := isOwn_ex h4
    obtain ⟨i, rfl, n, k3, k4⟩ := isI_ex k2
    exact ⟨xs2, k1, i, n, rfl, k3, by rw [put_set] at k4; exact k4⟩⟩
def rai (C : Addr) (f : Str) (x : X K) : S K := ⟨fun W _ σ H => tMkO C (spXI C f) [] (tCons (x.te W) tNil) σ H fun cls d H' => W cls d σ H',
  fun Γ P E => x.wp Γ (fun d Γ1 => E ⟨C, [f], [d]⟩ Γ1) E, fun Z Γ P e h => dens_raise (x.ok Z Γ _ e h)⟩
def rai0 (C : Addr) : S K := ⟨fun W => tRaise0 C W, fun Γ P E => E ⟨C, [], []⟩ Γ, fun Z Γ P e h => dens_raise0 h⟩
def tryAs (c : Value) (i : Nat) (b : S K) (s : Addr → Value → Option Addr → S K) : S K := ⟨fun W => tTry K c i (fun W' => b.ts W') (fun a cl d => (s a cl d).ts W) W,
  fun Γ P E => b.wp Γ P fun er Γ' => ∃ k, PySem.W.exmOne K (.ref er.cls) c = some k ∧ if k = true then ∀ a d, (s a (.ref er.cls) d).wp (put Γ' i (.exc a (.ref er.cls) d er)) ⟨fun Γ2 => P.N (put Γ2 i .un), P.R, fun Γ2 => P.Bk (put Γ2 i .un), fun Γ2 => P.Ct (put Γ2 i .un)⟩ E else E er Γ',
  fun Z Γ P e h => by
    subst e
    refine dens_tryT (Y := fun er Γ' => ∃ k, PySem.W.exmOne Z.K (.ref er.cls) c = some k ∧ if k = true then ∀ a d, (s a (.ref er.cls) d).wp (put Γ' i (.exc a (.ref er.cls) d er)) ⟨fun Γ2 => P.N (put Γ2 i .un), P.R, fun Γ2 => P.Bk (put Γ2 i .un), fun Γ2 => P.Ct (put Γ2 i .un)⟩ Z.X else Z.X er Γ') (fun W => b.ok (Z.wx W _) Γ P rfl h) fun er Γ' ⟨k, k1, k2⟩ => ⟨k, k1, fun hk a d => ?_, fun hk => ?_⟩
    · rw [if_pos hk] at k2
      have z := k2 a d
      simp only [put_set] at z
      exact (s a (.ref er.cls) d).ok Z _ _ rfl z
    · rw [hk] at k2; simpa using k2⟩
end
end Cc
namespace Cc
open PySem L2 Ab
def addW (x y : D) (Q : D → Prop) : Prop :=
  match x, y with
  | .int i, .int j => Q (.int (i + j))
  | .tup xs, .tup ys => xs.length + ys.length ≤ 100000 ∧ Q (.tup (xs ++ ys))
  | .lst xs, .lst ys => xs.length + ys.length ≤ 100000 ∧ Q (.lst (xs ++ ys))
  | _, _ => False
def add {K : PySem.W.Frag} : O2 K := ⟨rPlus K, addW, fun Z x y Q e h => by
  subst e
  unfold addW at h
  split at h
  · exact plus_int h
  · exact plus_tup h.1 h.2
  · exact plusD_lst h.1 h.2
  · exact h.elim⟩
def mulW (x y : D) (Q : D → Prop) : Prop :=
  match x, y with
  | .int i, .int j => (CMul i j ∨ CMulW i j) ∧ Q (.int (i * j))
  | .tup xs, .int n => (xs ≠ [] ∧ 2 ≤ n ∧ n ≤ 1000 ∧ xs.length ≤ 1000) ∧ Q (.tup (List.replicate n.toNat xs).flatten)
  | .lst xs, .int n => (-(2 ^ 63) ≤ n ∧ n < 2 ^ 63 ∧ xs.length * n.toNat ≤ 100000) ∧ Q (.lst (List.replicate n.toNat xs).flatten)
  | _, _ => False
def mul {K : PySem.W.Frag} : O2 K := ⟨rTimes K, mulW, fun Z x y Q e h => by
  subst e
  unfold mulW at h
  split at h
  · rcases h.1 with c | c
    · exact times_int c h.2
    · exact times_wide c h.2
  · exact times_tup h.1.1 h.1.2.1 h.1.2.2.1 h.1.2.2.2 h.2
  · exact timesD_lst h.1.1 h.1.2.1 h.1.2.2 h.2
  · exact h.elim⟩
def iiW (f : Int → Int → D) (x y : D) (Q : D → Prop) : Prop :=
  match x, y with
  | .int i, .int j => Q (f i j)
  | _, _ => False
def ciW (C : Int → Int → Prop) (f : Int → Int → D) (x y : D) (Q : D → Prop) : Prop :=
  match x, y with
  | .int i, .int j => C i j ∧ Q (f i j)
  | _, _ => False
theorem iiW_ex {f : Int → Int → D} {x y : D} {Q : D → Prop} (h : iiW f x y Q) : ∃ i j, x = .int i ∧ y = .int j ∧ Q (f i j) := by
  unfold iiW at h
  split at h
  · exact ⟨_, _, rfl, rfl, h⟩
  · exact h.elim
theorem ciW_ex {C : Int → Int → Prop} {f : Int → Int → D} {x y : D} {Q : D → Prop} (h : ciW C f x y Q) : ∃ i j, x = .int i ∧ y = .int j ∧ C i j ∧ Q (f i j) := by
  unfold ciW at h
  split at h
  · exact ⟨_, _, rfl, rfl, h⟩
  · exact h.elim
section
variable {K : PySem.W.Frag}
def sub : O2 K := ⟨rI0 fun i j => .int (i - j), iiW fun i j => .int (i - j), fun Z x y Q e h => by obtain ⟨i, j, rfl, rfl, q⟩ := iiW_ex h; exact opd_i0 (f := fun i j => i - j) q⟩
def lt : O2 K := ⟨rI0 fun i j => .bl (decide (i < j)), iiW fun i j => .bl (decide (i < j)), fun Z x y Q e h => by obtain ⟨i, j, rfl, rfl, q⟩ := iiW_ex h; exact opd_b0 (f := fun i j => decide (i < j)) q⟩
def le : O2 K := ⟨rI0 fun i j => .bl (decide (i ≤ j)), iiW fun i j => .bl (decide (i ≤ j)), fun Z x y Q e h => by obtain ⟨i, j, rfl, rfl, q⟩ := iiW_ex h; exact opd_b0 (f := fun i j => decide (i ≤ j)) q⟩
def gt' : O2 K := ⟨rI0 fun i j => .bl (decide (j < i)), iiW fun i j => .bl (decide (j < i)), fun Z x y Q e h => by obtain ⟨i, j, rfl, rfl, q⟩ := iiW_ex h; exact opd_b0 (f := fun i j => decide (j < i)) q⟩
def ge : O2 K := ⟨rI0 fun i j => .bl (decide (j ≤ i)), iiW fun i j => .bl (decide (j ≤ i)), fun Z x y Q e h => by obtain ⟨i, j, rfl, rfl, q⟩ := iiW_ex h; exact opd_b0 (f := fun i j => decide (j ≤ i)) q⟩
def fdiv : O2 K := ⟨rI CDivW fun i j => .int (i / j), ciW CDivW fun i j => .int (i / j), fun Z x y Q e h => by obtain ⟨i, j, rfl, rfl, c, q⟩ := ciW_ex h; exact opd_ic (C := CDivW) (f := fun i j => i / j) c q⟩
def mod : O2 K := ⟨rI (fun _ j => 0 < j) fun i j => .int (i % j), ciW (fun _ j => 0 < j) fun i j => .int (i % j), fun Z x y Q e h => by obtain ⟨i, j, rfl, rfl, c, q⟩ := ciW_ex h; exact opd_ic (C := fun _ j => 0 < j) (f := fun i j => i % j) c q⟩
def pow : O2 K := ⟨rI CPow fun i j => .int (i ^ j.toNat), ciW CPow fun i j => .int (i ^ j.toNat), fun Z x y Q e h => by obtain ⟨i, j, rfl, rfl, c, q⟩ := ciW_ex h; exact opd_ic (C := CPow) (f := fun i j => i ^ j.toNat) c q⟩
end
def eqOk (x : D) : Prop := eqD 64 x
def scalD : D → D → Option Bool
  | .non, .non => some true
  | .int i, .int j => some (decide (i = j))
  | .bl i, .bl j => some (decide (i = j))
  | .str i, .str j => some (decide (i = j))
  | .non, .int _ => some false | .int _, .non => some false | .non, .bl _ => some false | .bl _, .non => some false | .non, .str _ => some false | .str _, .non => some false
  | .int _, .str _ => some false | .str _, .int _ => some false | .bl _, .str _ => some false | .str _, .bl _ => some false
  | _, _ => none
theorem scal_rp {K : PySem.W.Frag} {pl} {G : Hp} {x y : D} {vx vy : V} {b : Bool} (h : scalD x y = some b) (rx : Rp K pl G vx x) (ry : Rp K pl G vy y) : scal vx vy = true ∧ decide (vx = vy) = b := by
  cases rx <;> cases ry <;> simp [scalD] at h <;> subst h <;> simp [scal]
def eqW (x y : D) (Q : Bool → Prop) : Prop :=
  match scalD x y with
  | some b => Q b
  | none => eqOk x ∧ eqOk y ∧ Q (eqvD x y)
theorem opd_eqW {Z : Cz} {x y : D} {Q : D → Prop} (h : eqW x y fun b => Q (.bl b)) : OpD Z (rEqq Z.K) x y Q := by
  unfold eqW at h
  split at h
  · rename_i b e
    refine OpD.inl fun G H vx vy j rx ry k kk => ?_
    obtain ⟨h1, h2⟩ := scal_rp e rx ry
    exact ⟨h1, by rw [h2]; exact kk _ _ G H h j.enter (.bl _)⟩
  · exact eqg_eqv h.1 h.2.1 (by decide) (by decide) h.2.2
theorem opd_neW {Z : Cz} {x y : D} {Q : D → Prop} (h : eqW x y fun b => Q (.bl (!b))) : OpD Z (rNeq Z.K) x y Q := by
  unfold eqW at h
  split at h
  · rename_i b e
    refine OpD.inl fun G H vx vy j rx ry k kk => ?_
    obtain ⟨h1, h2⟩ := scal_rp e rx ry
    exact ⟨h1, by rw [h2]; exact kk _ _ G H h j.enter (.bl _)⟩
  · exact neg_eqv h.1 h.2.1 (by decide) (by decide) h.2.2
section
variable {K : PySem.W.Frag}
def eq : O2 K := ⟨rEqq K, fun x y Q => eqW x y fun b => Q (.bl b), fun Z x y Q e h => by subst e; exact opd_eqW h⟩
def ne : O2 K := ⟨rNeq K, fun x y Q => eqW x y fun b => Q (.bl (!b)), fun Z x y Q e h => by subst e; exact opd_neW h⟩
end
def flatD : D → Bool
  | .non => true | .bl _ => true | .int _ => true | .str _ => true | _ => false
theorem flat_rp {K : PySem.W.Frag} {pl} {G : Hp} {x : D} {vx : V} (h : flatD x = true) (rx : Rp K pl G vx x) : flatV vx = true := by
  cases rx <;> simp [flatD] at h <;> rfl
def inW (x y : D) (Q : Bool → Prop) : Prop :=
  match x, y with
  | .int i, .tup xs => ∃ js : List Int, xs = js.map D.int ∧ Q (decide (i ∈ js))
  | .int i, .lst xs => ∃ js : List Int, xs = js.map D.int ∧ Q (decide (i ∈ js))
  | _, _ => False
section
variable {K : PySem.W.Frag}
def inn : O2 K := ⟨rIn K false, fun x y Q => inW x y fun b => Q (.bl b), fun Z x y Q e h => by
  subst e
  unfold inW at h
  split at h
  · obtain ⟨js, rfl, q⟩ := h; exact opd_inI (.inr rfl) q
  · obtain ⟨js, rfl, q⟩ := h; exact opd_inI (.inl rfl) q
  · exact h.elim⟩
end
theorem inV_ints {i : Int} : ∀ {js : List Int}, inV (.int i) (js.map V.int) = decide (i ∈ js)
  | [] => rfl
  | j :: js => by
    have h := inV_ints (i := i) (js := js)
    unfold inV at h ⊢
    rw [List.map_cons, List.any_cons, h]
    simp [eqV, Bool.decide_or]
    congr 1
    by_cases z : i = j
    · subst z; simp
    · have z2 : ¬ j = i := fun e => z e.symm
      simp [z, z2]
theorem opd_ninI {Z : Cz} {i : Int} {js : List Int} {x : D} {Q : D → Prop} (hx : x = .lst (js.map D.int) ∨ x = .tup (js.map D.int)) (q : Q (.bl (!decide (i ∈ js)))) : OpD Z (rIn Z.K true) (.int i) x Q := fun G H vx vy jj rx ry k kk => by
  cases rx
  have fl : (js.map V.int).all flatV = true := by simp [flatV]
  rcases hx with rfl | rfl
  · obtain ⟨p, ws, rfl, s, r1⟩ := ry.sql jj.sub
    have := ints_vs r1
    subst this
    exact ⟨p, _, rfl, .inl s, rfl, fl, by simp only [if_true, inV_ints]; exact kk _ _ G H q jj.enter (.bl _)⟩
  · cases ry with
    | @tup a ws _ h1 r1 =>
      have := ints_vs r1
      subst this
      exact ⟨a, _, rfl, .inr (jj.sub.sqt h1), rfl, fl, by simp only [if_true, inV_ints]; exact kk _ _ G H q jj.enter (.bl _)⟩
section
variable {K : PySem.W.Frag}
def nin : O2 K := ⟨rIn K true, fun x y Q => inW x y fun b => Q (.bl (!b)), fun Z x y Q e h => by
  subst e
  unfold inW at h
  split at h
  · obtain ⟨js, rfl, q⟩ := h; exact opd_ninI (.inr rfl) q
  · obtain ⟨js, rfl, q⟩ := h; exact opd_ninI (.inl rfl) q
  · exact h.elim⟩
end
def ixW (x y : D) (Q : D → Prop) : Prop :=
  match x, y with
  | .tup xs, .int i => ∃ d, atI xs i = some d ∧ Q d
  | .lst xs, .int i => ∃ d, atI xs i = some d ∧ Q d
  | _, _ => False
def ix {K : PySem.W.Frag} : O2 K := ⟨rIx K, ixW, fun Z x y Q e h => by
  subst e
  unfold ixW at h
  split at h
  · obtain ⟨d, h1, h2⟩ := h; exact opd_ixT h1 h2
  · obtain ⟨d, h1, h2⟩ := h; exact opd_ixL h1 h2
  · exact h.elim⟩
def lenW (xs : List D) (Q : D → Prop) : Prop :=
  match xs with
  | [.tup ys] => Q (.int ys.length)
  | [.lst ys] => Q (.int ys.length)
  | [.scr ns] => Q (.int ns.length)
  | _ => False
def len {K : PySem.W.Frag} : Bi K := ⟨Ab.rLen K, lenW, fun Z xs Q e h => by
  subst e
  unfold lenW at h
  split at h
  · exact cad_lenT h
  · exact cad_lenL h
  · exact cad_lenS h
  · exact h.elim⟩
def absW (xs : List D) (Q : D → Prop) : Prop :=
  match xs with
  | [.int i] => Q (.int (if i < 0 then -i else i))
  | _ => False
def abs {K : PySem.W.Frag} : Bi K := ⟨rAbs, absW, fun Z xs Q e h => by
  unfold absW at h
  split at h
  · exact cad_abs h
  · exact h.elim⟩
def intW (xs : List D) (Q : D → Prop) : Prop :=
  match xs with
  | [.int i] => Q (.int i)
  | [.bl b] => Q (.int (if b then 1 else 0))
  | _ => False
def toInt {K : PySem.W.Frag} : Bi K := ⟨rInt1, intW, fun Z xs Q e h => by
  unfold intW at h
  split at h
  · exact cad_intI h
  · exact cad_intB h
  · exact h.elim⟩
def gcdW (xs : List D) (Q : D → Prop) : Prop :=
  match xs with
  | [.int i, .int j] => Q (.int (Nat.gcd i.natAbs j.natAbs : Nat))
  | _ => False
def gcd {K : PySem.W.Frag} : Bi K := ⟨rGcd, gcdW, fun Z xs Q e h => by
  unfold gcdW at h
  split at h
  · exact cad_gcd h
  · exact h.elim⟩
def allW (f : List Bool → Bool) (xs : List D) (Q : D → Prop) : Prop :=
  match xs with
  | [.lst ys] => ∃ bs : List Bool, ys = bs.map D.bl ∧ Q (.bl (f bs))
  | _ => False
def all {K : PySem.W.Frag} : Bi K := ⟨rAll K, allW fun bs => bs.all id, fun Z xs Q e h => by
  subst e
  unfold allW at h
  split at h
  · obtain ⟨bs, rfl, q⟩ := h; exact cad_all q
  · exact h.elim⟩
def any {K : PySem.W.Frag} : Bi K := ⟨rAny K, allW fun bs => bs.any id, fun Z xs Q e h => by
  subst e
  unfold allW at h
  split at h
  · obtain ⟨bs, rfl, q⟩ := h; exact cad_any q
  · exact h.elim⟩
def sumW (xs : List D) (Q : D → Prop) : Prop :=
  match xs with
  | [.lst ys] => ∃ ns : List Int, ys = ns.map D.int ∧ Q (.int ns.sum)
  | _ => False
def sum {K : PySem.W.Frag} : Bi K := ⟨rSum K, sumW, fun Z xs Q e h => by
  subst e
  unfold sumW at h
  split at h
  · obtain ⟨bs, rfl, q⟩ := h; exact cad_sum q
  · exact h.elim⟩
def tupleW (xs : List D) (Q : D → Prop) : Prop :=
  match xs with
  | [.lst ys] => Q (.tup ys)
  | [.tup ys] => Q (.tup ys)
  | _ => False
def tuple {K : PySem.W.Frag} : Bi K := ⟨rTupleOf K, tupleW, fun Z xs Q e h => by
  subst e
  unfold tupleW at h
  split at h
  · exact cad_tupleL h
  · exact cad_tupleT h
  · exact h.elim⟩
def taggedD (x : D) : Bool := (tagD x).isSome
theorem cad_isT' {Z : Cz} {x : D} {T : String} {Q : D → Prop} (h : taggedD x = true) (hT : T ∈ ["bool", "int", "str", "tuple", "list", "dict"]) (q : Q (.bl (isTy T x))) : CaD Z (rIsi Z.K) [x, .ty T] Q := by
  obtain ⟨t, ht⟩ := Option.isSome_iff_exists.mp h
  have ht' : t ∈ ["NoneType", "bool", "int", "str", "tuple", "list", "dict"] := by
    cases x <;> simp only [tagD, Option.some.injEq, reduceCtorEq] at ht <;> subst ht <;> simp
  refine cad_isi ht (kit_all t ht' T hT) ?_
  have e : ((t == T) || (t == "bool" && T == "int")) = isTy T x := by
    have f : ∀ T ∈ ["bool", "int", "str", "tuple", "list", "dict"], (("NoneType" == T) || ("NoneType" == "bool" && T == "int")) = false ∧ (("int" == T) || ("int" == "bool" && T == "int")) = (T == "int") ∧ (("str" == T) || ("str" == "bool" && T == "int")) = (T == "str") ∧
        (("tuple" == T) || ("tuple" == "bool" && T == "int")) = (T == "tuple") ∧ (("list" == T) || ("list" == "bool" && T == "int")) = (T == "list") ∧ (("dict" == T) || ("dict" == "bool" && T == "int")) = (T == "dict") ∧ (("bool" == T) || ("bool" == "bool" && T == "int")) = (T == "bool" || T == "int") := by decide +kernel
    obtain ⟨f1, f2, f3, f4, f5, f6, f7⟩ := f T hT
    cases x <;> simp only [tagD, Option.some.injEq, reduceCtorEq] at ht <;> subst ht <;> simp only [isTy] <;> first | exact f1 | exact f2 | exact f3 | exact f4 | exact f5 | exact f6 | exact f7
  rw [e]; exact q
/-- isinstance(x, T) with a written built-in type -/
def isT {K : PySem.W.Frag} (T : String) (hT : T ∈ ["bool", "int", "str", "tuple", "list", "dict"]) : Bi K := ⟨rIsi K, fun xs Q => match xs with
  | [x, .ty T'] => T' = T ∧ taggedD x = true ∧ Q (.bl (isTy T x))
  | _ => False, fun Z xs Q e h => by
  subst e
  split at h
  · obtain ⟨rfl, h1, h2⟩ := h; exact cad_isT' h1 hT h2
  · exact h.elim⟩
theorem cad_isC {Z : Cz} {x : D} {C : Addr} {t : String} {b : Bool} {Q : D → Prop} (h : tagD x = some t) (hk : PySem.W.kitOne Z.K (.type t) (.ref C) = some b) (q : Q (.bl b)) : CaD Z (rIsi Z.K) [x, .cls C] Q := fun G H us jj r kk fin => by
  cases r with
  | cons a c => cases c with
    | cons c d =>
      cases d; cases c
      exact ⟨_, _, _, _, b, rfl, .own C, tag_ty jj.sub h a, hk, fin _ _ G H q jj.enter (.bl _)⟩
def isCW (K : PySem.W.Frag) (xs : List D) (Q : D → Prop) : Prop :=
  match xs with
  | [.obj C' _ _, .cls C] => (C' = C ∧ KitO K C) ∧ Q (.bl true)
  | [x, .cls C] => ∃ t b, tagD x = some t ∧ PySem.W.kitOne K (.type t) (.ref C) = some b ∧ Q (.bl b)
  | _ => False
def isC {K : PySem.W.Frag} : Bi K := ⟨rIsi K, isCW K, fun Z xs Q e h => by
  subst e
  unfold isCW at h
  split at h
  · obtain ⟨⟨rfl, k⟩, q⟩ := h; exact cad_isO k q
  · obtain ⟨t, b, h1, h2, h3⟩ := h; exact cad_isC h1 h2 h3
  · exact h.elim⟩
def sqW (xs : List D) (Q : List D → Prop) : Prop :=
  match xs with
  | [.lst ys] => Q ys
  | [.tup ys] => Q ys
  | _ => False
section
variable {K : PySem.W.Frag}
theorem DenA.mono' {Z : Cz} {Γ : List B} {tr : TA} {Q Q' : List D → List B → Prop} (h : DenA Z tr Γ Q) (w : ∀ d Γ', Q d Γ' → Q' d Γ') : DenA Z tr Γ Q' := h.mono w
def list (r : A K) : L K := ⟨fun W => tCB (rListOf K) (r.ta W), fun Γ Q E => r.wp Γ (fun ds Γ1 => sqW ds fun ys => Q ys Γ1) E, fun Z Γ Q e h => by
  subst e
  refine denl_cb ((r.ok Z Γ _ rfl h).mono fun ds Γ1 h1 => ?_)
  unfold sqW at h1
  split at h1
  · exact cal_listL h1
  · exact cal_listT h1
  · exact h1.elim⟩
/-- list(range(n)) -/
def listRg (a : X K) : X K := ⟨fun W => tLstRg (tRg1 (a.te W)), fun Γ Q E => a.wp Γ (fun x Γ1 => isI x fun n => 0 ≤ n ∧ n ≤ 100000 ∧ Q (.lst (((List.range n.toNat).map fun i => ((i : Nat) : Int)).map D.int)) Γ1) E, fun Z Γ Q e h =>
  den_listRg ((a.ok Z Γ _ e h).mono fun x Γ1 h1 => by
    obtain ⟨n, rfl, q⟩ := isI_ex h1
    exact ⟨n, rfl, q⟩)⟩
/-- a list plus a list, a list times a number: new -/
def addL (a b : X K) : L K := ⟨fun W => tOp (rPlus K) (a.te W) (b.te W), fun Γ Q E => a.wp Γ (fun x Γ1 => b.wp Γ1 (fun y Γ2 => match x, y with | .lst xs, .lst ys => xs.length + ys.length ≤ 100000 ∧ Q (xs ++ ys) Γ2 | _, _ => False) E) E,
  fun Z Γ Q e h => by
    subst e
    refine denl_op ((a.ok Z Γ _ rfl h).mono fun x Γ1 h1 => (b.ok Z Γ1 _ rfl h1).mono fun y Γ2 h2 => ?_)
    split at h2
    · exact plus_lst h2.1 h2.2
    · exact h2.elim⟩
end
end Cc
namespace Cc
open PySem L2 Ab
def startB (ds : List D) (n : Nat) : List B := ds.map B.d ++ List.replicate (n - ds.length) .un
def bodyW {K : PySem.W.Frag} (b : S K) (n : Nat) : WP := fun ds Q E => b.wp (startB ds n) ⟨fun _ => Q .non, ⟨Q, fun xs => Q (.lst xs)⟩, fun _ => False, fun _ => False⟩ fun er _ => E er
section
variable {P : Program} {w : World} {K : PySem.W.Frag} {mg : Str → Option Value} {base : Heap}
/-- THE RULE for a def: its certified body -/
theorem fn_w {x qual : Str} {st : Stmt} {f : Addr} {fd : FuncData} {N ps : List Str} {k : Nat} (F : Fun K x qual st f fd) (Sc : FnScope N ps (defScope st)) (b : S K) (hl : ps.length ≤ N.length)
    (hbody : ∀ (cdv : Value) (A : Around) (outer : List PySem.Env) (s : Shared) (H : Hp) (E : XK) (W : WX), Room k (A.deeper (PyProof.Rows.envOfC qual (defScope st) s.heap.objs.size f cdv)) → Takes (cxOf (L2.CX P w) P w K mg base N qual (defScope st) f cdv A outer s H E) W →
      PSs (cxOf (L2.CX P w) P w K mg base N qual (defScope st) f cdv A outer s H E) (defBody st) (b.ts W)) : FnOk P w K mg base (L2.CX P w) (k + 1) f fd ps (spW K ps.length (bodyW b N.length)) := by
  refine F.okX Sc (fun vs H Q E h => ?_) (fun cdv A outer s H vs Q E hr h => ?_)
  · obtain ⟨pl, G, ds, _, _, _, r, hn, _⟩ := h
    rw [r.length, hn]
  · obtain ⟨pl, G, ds, QD, ED, j, r, hn, hp, hq, he⟩ := h
    refine ⟨_, hbody cdv A outer s H E (fun cls d _ H => E cls d H) hr (takes_of rfl rfl rfl rfl), ?_⟩
    let Z : Cz := ⟨K, pl, H, G, fun cls d _ H => E cls d H, fun er _ => ED er⟩
    exact b.ok Z _ _ rfl hp _ G H ⟨j.toJ0.re rfl rfl rfl, fun er cls d σ G' H' Γ hx _ j' _ re => he er cls d G' H' hx ⟨j'.re rfl rfl rfl, fun _ _ _ _ _ _ _ z => z.elim⟩ re⟩ (en_start r (by omega)) _ ⟨fun Γ σ G' H' hN _ j' _ => hq .non .non G' H' hN ⟨j'.toJ0.re rfl rfl rfl, fun _ _ _ _ _ _ _ z => z.elim⟩ .non,
      fun x v G' H' hR _ j' rx => (match x, hR, rx with
      | .inl x, hR, rx => hq x v G' H' hR ⟨j'.toJ0.re rfl rfl rfl, fun _ _ _ _ _ _ _ z => z.elim⟩ rx
      | .inr xs, hR, ⟨l, hv, ⟨vs, hl, rr⟩, g, h0⟩ => by
        subst hv
        exact hq (.lst xs) (.ref l) (upd G' l (.lst vs)) H' hR ((show J (Cz.call K pl H G) G' H' from ⟨j'.toJ0.re rfl rfl rfl, fun _ _ _ _ _ _ _ z => z.elim⟩).still h0 hl g) (.lst upd_same (rr.mono (Ex.new g)))), fun _ _ _ _ z => z.elim, fun _ _ _ _ z => z.elim⟩
structure DfnW (P : Program) (w : World) (K : PySem.W.Frag) (mg : Str → Option Value) (base : Heap) (x : Str) (k n : Nat) (wp : WP) : Prop where
  ex : ∃ f fd ps, FnOk P w K mg base (L2.CX P w) k f fd ps (spW K n wp) ∧ mg x = some (.ref f) ∧ PySem.W.keepIn K (.ref f) = true ∧ Binds K fd ps []
/-- less is promised -/
theorem DfnW.imp {x : Str} {k n : Nat} {wp wp' : WP} (c : DfnW P w K mg base x k n wp) (h : ∀ ds Q E, wp' ds Q E → wp ds Q E) : DfnW P w K mg base x k n wp' := by
  obtain ⟨f, fd, ps, h1, h2⟩ := c.ex
  refine ⟨f, fd, ps, h1.imp fun vs H Q E q => ?_, h2⟩
  obtain ⟨pl, G, ds, QD, ED, j, r, hn, hp, hq, he⟩ := q
  exact ⟨pl, G, ds, QD, ED, j, r, hn, h _ _ _ hp, hq, he⟩
theorem dfnw_mk {x qual : Str} {st : Stmt} {f : Addr} {fd : FuncData} {ps : List Str} {k : Nat} {wp : WP} (F : Fun K x qual st f fd) (m : mg x = some (.ref f)) (b : Binds K fd ps [])
    (h : FnOk P w K mg base (L2.CX P w) k f fd ps (spW K ps.length wp)) : DfnW P w K mg base x k ps.length wp := ⟨⟨f, fd, ps, h, m, F.kp, b⟩⟩
/-- an elder promise by P and R -/
def wpS (S : FSpec) : WP := fun ds Q E => S.P ds ∧ (∀ d, S.R ds d → Q d) ∧ ∀ er, S.X ds er → E er
theorem DfnW.ofS {x : Str} {k n : Nat} {S : FSpec} (c : Dfn P w K mg base x k n S) : DfnW P w K mg base x k n (wpS S) := by
  obtain ⟨f, fd, ps, h1, h2⟩ := c.ex
  refine ⟨f, fd, ps, h1.imp fun vs H Q E q => ?_, h2⟩
  obtain ⟨pl, G, ds, QD, ED, j, r, hn, ⟨hp, hr, hx⟩, hq, he⟩ := q
  exact ⟨pl, G, ds, j, r, hn, hp, fun d v G' H' a => hq d v G' H' (hr d a), fun er cls d G' H' a => he er cls d G' H' (hx er a)⟩
end
section
variable {X : Cx} {P : Program} {w : World} {K : PySem.W.Frag} {mg : Str → Option Value} {base : Heap} {x : Str} {e : Expr} {es : List Expr} {t : TA} {k n j : Nat} {wp : WP} {p pos : Pos}
theorem kw_fn {W : WX} (tk : Takes X W) (c : DfnW P w K mg base x k n wp) (hr : Room j X.A) (hk : k ≤ j) (hX : X.prog = P ∧ X.w = w ∧ X.K = K ∧ X.mg = mg ∧ X.base = base) (hg : Gl X x) (ha : PA X (e :: es) t) (hdb : (x == ("__debug__" : Str)) = false := by decide)
    (he : starEach (e :: es) X.env = (false, eval e X.env) :: starEach es X.env := by rfl) (hpl : (backTo pos (starEach es X.env)).any (·.1) = false := by rfl) : PE X (.Call (.Name x p) (e :: es) [] pos) (tCallS (spW K n wp) (WE W) t) := by
  obtain ⟨rfl, rfl, rfl, rfl, rfl⟩ := hX
  obtain ⟨f, fd, ps, h1, h2, h3, h4⟩ := c.ex
  exact pe_callS h1 (hr.mono hk) hg h2 h3 h4 (fun σ => passAt tk σ) ha hdb he hpl
theorem kw_fn0 (c : DfnW P w K mg base x k 0 wp) (hr : Room j X.A) (hk : k ≤ j) (hX : X.prog = P ∧ X.w = w ∧ X.K = K ∧ X.mg = mg ∧ X.base = base) (hg : Gl X x) (hdb : (x == ("__debug__" : Str)) = false := by decide) :
    PE X (.Call (.Name x p) [] [] pos) (tCall (spW K 0 wp) [] E0 tNil) := by
  obtain ⟨rfl, rfl, rfl, rfl, rfl⟩ := hX
  obtain ⟨f, fd, ps, h1, h2, h3, h4⟩ := c.ex
  exact pe_call0 h1 (hr.mono hk) hg h2 h3 h4 .nil passL hdb
end
abbrev WPN := List D → (List D → Prop) → (Er → Prop) → Prop
def spN (K : PySem.W.Frag) (n : Nat) (wp : WPN) : Sp := fun vs H Q E => ∃ pl G ds QD ED, J (Cz.call K pl H G) G H ∧ Rps K pl G vs ds ∧ ds.length = n ∧ wp ds QD ED ∧
  (∀ xs l G' H', QD xs → J (Cz.call K pl H G) G' H' → FrL K pl H G' H' l xs → Q (.ref l) H') ∧
  (∀ er cls d G' H', ED er → J (Cz.call K pl H G) G' H' → RpEr0 K pl G' cls d er → E cls d H')
def bodyN {K : PySem.W.Frag} (b : S K) (n : Nat) : WPN := fun ds Q E => b.wp (startB ds n) ⟨fun _ => False, ⟨fun _ => False, Q⟩, fun _ => False, fun _ => False⟩ fun er _ => E er
theorem dens_retL {Z : Cz} {Γ : List B} {P : Po} {te : TE} (h : DenL Z te Γ fun xs _ => P.R.l xs) : DenS Z (tRet te) Γ P := fun σ G H j e De d =>
  h σ G H j e _ fun xs Γ1 l vs G1 H1 q s1 j1 e1 hl r f hn => d.r (.inr xs) (.ref l) G1 H1 q s1.ex j1 ⟨l, rfl, ⟨vs, hl, r⟩, f.g, f.h0⟩
section
variable {K : PySem.W.Frag}
def retO (i : Nat) : S K := ⟨fun _ => tRet (tVar i), fun Γ P _ => isOwn (get Γ i) fun xs => P.R.l xs, fun Z Γ P _ h => by
  obtain ⟨xs, h1, h2⟩ := isOwn_ex h
  exact dens_retO h1 h2⟩
def retL (x : L K) : S K := ⟨fun W => tRet (x.te W), fun Γ P E => x.wp Γ (fun xs _ => P.R.l xs) E, fun Z Γ P e h => dens_retL (x.ok Z Γ _ e h)⟩
theorem denl_callN {Z : Cz} {Γ : List B} {tr : TA} {n : Nat} {wp : WPN} {Q : List D → List B → Prop} (h : DenA Z tr Γ fun ds Γ1 => ds.length = n ∧ wp ds (fun d => Q d Γ1) fun er => Z.X er Γ1) : DenL Z (tCallS (spN Z.K n wp) (WE Z.W) tr) Γ Q := fun σ G H j e k kk =>
  h σ G H j e _ fun ds Γ1 vs G1 H1 ⟨hn, q⟩ s1 j1 e1 r1 => by
    refine ⟨Z.pl, G1, ds, _, _, j1.enter, r1, hn, q, fun xs l G' H' a i ⟨⟨ws, hl, r⟩, g, h0⟩ => ?_, fun er cls d G' H' a i re => ?_⟩
    · exact kk xs Γ1 l ws G' H' a (s1.trans (.of i)) (j1.leave i) (e1.called j1.toJ0 i.toJ0) hl r ⟨g, j1.old h0, fun i o => e1.noown h0 i o⟩ (s1.back h0)
    · exact j1.acc er cls d σ G' H' Γ1 a i.g0 (j1.leave i).toJ0 (e1.called j1.toJ0 i.toJ0) re
def callL (n : Nat) (wp : WPN) (r : A K) : L K := ⟨fun W => tCallS (spN K n wp) (WE W) (r.ta W), fun Γ Q E => r.wp Γ (fun ds Γ1 => ds.length = n ∧ wp ds (fun d => Q d Γ1) fun er => E er Γ1) E,
  fun Z Γ Q e h => by subst e; exact denl_callN (r.ok Z Γ _ rfl h)⟩
end
section
variable {P : Program} {w : World} {K : PySem.W.Frag} {mg : Str → Option Value} {base : Heap}
theorem fn_n {x qual : Str} {st : Stmt} {f : Addr} {fd : FuncData} {N ps : List Str} {k : Nat} (F : Fun K x qual st f fd) (Sc : FnScope N ps (defScope st)) (b : S K) (hl : ps.length ≤ N.length)
    (hbody : ∀ (cdv : Value) (A : Around) (outer : List PySem.Env) (s : Shared) (H : Hp) (E : XK) (W : WX), Room k (A.deeper (PyProof.Rows.envOfC qual (defScope st) s.heap.objs.size f cdv)) → Takes (cxOf (L2.CX P w) P w K mg base N qual (defScope st) f cdv A outer s H E) W →
      ∃ t, PSs (cxOf (L2.CX P w) P w K mg base N qual (defScope st) f cdv A outer s H E) (defBody st) t ∧ t = b.ts W) : FnOk P w K mg base (L2.CX P w) (k + 1) f fd ps (spN K ps.length (bodyN b N.length)) := by
  refine F.okX Sc (fun vs H Q E h => ?_) (fun cdv A outer s H vs Q E hr h => ?_)
  · obtain ⟨pl, G, ds, _, _, _, r, hn, _⟩ := h
    rw [r.length, hn]
  · obtain ⟨pl, G, ds, QD, ED, j, r, hn, hp, hq, he⟩ := h
    obtain ⟨t, h1, h2⟩ := hbody cdv A outer s H E (fun cls d _ H => E cls d H) hr (takes_of rfl rfl rfl rfl)
    subst h2
    refine ⟨_, h1, ?_⟩
    let Z : Cz := ⟨K, pl, H, G, fun cls d _ H => E cls d H, fun er _ => ED er⟩
    exact b.ok Z _ _ rfl hp _ G H ⟨j.toJ0.re rfl rfl rfl, fun er cls d σ G' H' Γ hx _ j' _ re => he er cls d G' H' hx ⟨j'.re rfl rfl rfl, fun _ _ _ _ _ _ _ z => z.elim⟩ re⟩ (en_start r (by omega)) _ ⟨fun Γ σ G' H' hN _ j' _ => hN.elim,
      fun x v G' H' hR _ j' rx => (match x, hR, rx with
      | .inl x, hR, rx => hR.elim
      | .inr xs, hR, ⟨l, hv, fl⟩ => by
        subst hv
        exact hq xs l G' H' hR ⟨j'.toJ0.re rfl rfl rfl, fun _ _ _ _ _ _ _ z => z.elim⟩ fl), fun _ _ _ _ z => z.elim, fun _ _ _ _ z => z.elim⟩
structure DfnN (P : Program) (w : World) (K : PySem.W.Frag) (mg : Str → Option Value) (base : Heap) (x : Str) (k n : Nat) (wp : WPN) : Prop where
  ex : ∃ f fd ps, FnOk P w K mg base (L2.CX P w) k f fd ps (spN K n wp) ∧ mg x = some (.ref f) ∧ PySem.W.keepIn K (.ref f) = true ∧ Binds K fd ps []
theorem dfnn_mk {x qual : Str} {st : Stmt} {f : Addr} {fd : FuncData} {ps : List Str} {k : Nat} {wp : WPN} (F : Fun K x qual st f fd) (m : mg x = some (.ref f)) (b : Binds K fd ps [])
    (h : FnOk P w K mg base (L2.CX P w) k f fd ps (spN K ps.length wp)) : DfnN P w K mg base x k ps.length wp := ⟨⟨f, fd, ps, h, m, F.kp, b⟩⟩
end
section
variable {X : Cx} {P : Program} {w : World} {K : PySem.W.Frag} {mg : Str → Option Value} {base : Heap} {x : Str} {e : Expr} {es : List Expr} {t : TA} {k n j : Nat} {wp : WPN} {p pos : Pos}
theorem kn_fn {W : WX} (tk : Takes X W) (c : DfnN P w K mg base x k n wp) (hr : Room j X.A) (hk : k ≤ j) (hX : X.prog = P ∧ X.w = w ∧ X.K = K ∧ X.mg = mg ∧ X.base = base) (hg : Gl X x) (ha : PA X (e :: es) t) (hdb : (x == ("__debug__" : Str)) = false := by decide)
    (he : starEach (e :: es) X.env = (false, eval e X.env) :: starEach es X.env := by rfl) (hpl : (backTo pos (starEach es X.env)).any (·.1) = false := by rfl) : PE X (.Call (.Name x p) (e :: es) [] pos) (tCallS (spN K n wp) (WE W) t) := by
  obtain ⟨rfl, rfl, rfl, rfl, rfl⟩ := hX
  obtain ⟨f, fd, ps, h1, h2, h3, h4⟩ := c.ex
  exact pe_callS h1 (hr.mono hk) hg h2 h3 h4 (fun σ => passAt tk σ) ha hdb he hpl
end
abbrev WI := List D → (List D → Prop) → (Er → Prop) → Prop
def spIW (K : PySem.W.Frag) (C : Addr) (n : Nat) (fs : List Str) (wi : WI) : Sp := fun vs H Q E => ∃ pl G ds H1 x dx ws QD ED, vs = .ref x :: ws ∧ H = upd (upd H1 dx (.own x)) x (.ins C dx []) ∧ H1 x = none ∧ H1 dx = none ∧ dx ≠ x ∧
  J (Cz.call K pl H1 G) G H1 ∧ Rps K pl G ws ds ∧ ds.length = n ∧ wi ds QD ED ∧
  (∀ us G' H' dx' xs, QD us → J (Cz.call K pl H1 G) G' H' → H' x = some (.ins C dx' (fs.zip xs)) → fs.length = xs.length → Rps K pl G' xs us → G' x = none → Q .non H') ∧
  (∀ er cls d G' H', ED er → J (Cz.call K pl H1 G) G' H' → RpEr0 K pl G' cls d er → E cls d H')
def bodyI {K : PySem.W.Frag} (b : S K) (C : Addr) (fs : List Str) (n : Nat) : WI := fun ds Q E => ∀ x, b.wp (B.ob x C [] [] :: (ds.map B.d ++ List.replicate (n - (ds.length + 1)) .un)) ⟨fun Γ => ∃ us, Q us ∧ Γ[0]? = some (.ob x C fs us), Rt.no, fun _ => False, fun _ => False⟩ fun er _ => E er
section
variable {P : Program} {w : World} {K : PySem.W.Frag} {mg : Str → Option Value} {base : Heap}
theorem spI_spIW {C : Addr} {n : Nat} {fs : List Str} {wi : WI} {vs : List V} {H : Hp} {Q : VK} {E : XK} (h : spIW K C n fs wi vs H Q E) : ∃ S : ISpec, S.ns = fs ∧ (∀ ds, S.P ds → wi ds (S.R ds) (S.X ds)) ∧ spI K C n S vs H Q E := by
  obtain ⟨pl, G, ds, H1, x, dx, ws, QD, ED, h1, h2, h3, h4, h5, h6, h7, h8, h9, h10, h11⟩ := h
  exact ⟨⟨fs, fun es => es = ds, fun _ => QD, fun _ => ED⟩, rfl, fun es e => by cases e; exact h9, pl, G, ds, H1, x, dx, ws, h1, h2, h3, h4, h5, h6, h7, h8, rfl, h10, h11⟩
theorem init_w {qual : Str} {st : Stmt} {f C : Addr} {fd : FuncData} {N ps : List Str} {k : Nat} (F : Fun K "__init__" qual st f fd) (Sc : FnScope N ps (defScope st)) (fs : List Str) (b : S K) (hl : ps.length ≤ N.length) {n : Nat} (hn : ps.length = n + 1)
    (hbody : ∀ (cdv : Value) (A : Around) (outer : List PySem.Env) (s : Shared) (H : Hp) (E : XK) (W : WX), Room k (A.deeper (PyProof.Rows.envOfC qual (defScope st) s.heap.objs.size f cdv)) → Takes (cxOf (L2.CX P w) P w K mg base N qual (defScope st) f cdv A outer s H E) W →
      PSs (cxOf (L2.CX P w) P w K mg base N qual (defScope st) f cdv A outer s H E) (defBody st) (b.ts W)) : FnOk P w K mg base (L2.CX P w) (k + 1) f fd ps (spIW K C n fs (bodyI b C fs N.length)) := by
  have key : ∀ S : ISpec, S.ns = fs → (∀ ds, S.P ds → bodyI b C fs N.length ds (S.R ds) (S.X ds)) → FnOk P w K mg base (L2.CX P w) (k + 1) f fd ps (spI K C n S) := fun S e hS =>
    init_ab F Sc S hl hn fun cdv A outer s H E x ds W hr tk hds hp => ⟨_, hbody cdv A outer s H E W hr tk, fun Z hK hW hX => by
      have z := hS ds hp x
      subst hW
      exact b.ok { Z with X := fun er _ => S.X ds er } _ _ hK z |> fun d => by
        intro σ G H j en De de
        exact d σ G H ⟨j.toJ0.re rfl rfl rfl, fun er cls dd σ' G' H' Γ hx x' j' e' re => j.acc er cls dd σ' G' H' Γ (hX er Γ hx) x' (j'.re rfl rfl rfl) (by
          refine ⟨e'.len, fun i bb hb => ?_, e'.dis⟩
          obtain ⟨v, h1, h2⟩ := e'.at_ i bb hb
          exact ⟨v, h1, by cases bb <;> exact h2⟩) re⟩ (by
          refine ⟨en.len, fun i bb hb => ?_, en.dis⟩
          obtain ⟨v, h1, h2⟩ := en.at_ i bb hb
          exact ⟨v, h1, by cases bb <;> exact h2⟩) De ⟨fun Γ σ2 G2 H2 a x2 j2 e2 => de.n Γ σ2 G2 H2 (by
            obtain ⟨us, hu, hg⟩ := a
            exact ⟨us, hu, by rw [e]; exact hg⟩) x2 ⟨j2.toJ0.re rfl rfl rfl, j.acc.mono x2⟩ (by
          refine ⟨e2.len, fun i bb hb => ?_, e2.dis⟩
          obtain ⟨v, h1, h2⟩ := e2.at_ i bb hb
          exact ⟨v, h1, by cases bb <;> exact h2⟩), fun _ _ _ _ z => (Rt.no_at z).elim, fun _ _ _ _ z => z.elim, fun _ _ _ _ z => z.elim⟩⟩
  have base0 := key ⟨fs, fun _ => False, fun _ _ => False, fun _ _ => False⟩ rfl fun _ z => z.elim
  refine ⟨fun vs H Q E h => ?_, fun A outer s H args us vs Q E hr h1 h2 h3 h4 => ?_⟩
  · obtain ⟨S, e, hS, q⟩ := spI_spIW h
    exact (key S e hS).len vs H Q E q
  · obtain ⟨S, e, hS, q⟩ := spI_spIW h4
    exact (key S e hS).run A outer s H args us vs Q E hr h1 h2 h3 q
structure MakW (P : Program) (w : World) (K : PySem.W.Frag) (mg : Str → Option Value) (base : Heap) (x : Str) (C : Addr) (k n : Nat) (fs : List Str) (wi : WI) : Prop where
  ex : ∃ f fd ps, Mk K C f ∧ FnOk P w K mg base (L2.CX P w) k f fd ps (spIW K C n fs wi) ∧ mg x = some (.ref C) ∧ Binds K fd ps []
end
section
variable {X : Cx} {P : Program} {w : World} {K : PySem.W.Frag} {mg : Str → Option Value} {base : Heap} {x : Str} {e : Expr} {es : List Expr} {t : TA} {k n j : Nat} {C : Addr} {fs : List Str} {wi : WI} {p pos : Pos}
theorem kw_mk {W : WX} (tk : Takes X W) (c : MakW P w K mg base x C k n fs wi) (hr : Room j X.A) (hk : k + 1 ≤ j) (hX : X.prog = P ∧ X.w = w ∧ X.K = K ∧ X.mg = mg ∧ X.base = base) (hg : Gl X x) (ha : PA X (e :: es) t) (hdb : (x == ("__debug__" : Str)) = false := by decide)
    (he : starEach (e :: es) X.env = (false, eval e X.env) :: starEach es X.env := by rfl) (hpl : (backTo pos (starEach es X.env)).any (·.1) = false := by rfl) : PE X (.Call (.Name x p) (e :: es) [] pos) (tMakeS C (spIW K C n fs wi) (WE W) t) := by
  obtain ⟨rfl, rfl, rfl, rfl, rfl⟩ := hX
  obtain ⟨f, fd, ps, M, h1, h2, h4⟩ := c.ex
  exact pe_makeS M h1 (hr.mono hk) hg h2 h4 (fun σ => passAt tk σ) ha hdb he hpl
end
section
variable {K : PySem.W.Frag}
theorem den_makeW {Z : Cz} {Γ : List B} {tr : TA} {n : Nat} {C : Addr} {fs : List Str} {wi : WI} {Q : D → List B → Prop} (h : DenA Z tr Γ fun ds Γ1 => ds.length = n ∧ wi ds (fun us => Q (.obj C fs us) Γ1) fun er => Z.X er Γ1) : Den Z (tMakeS C (spIW Z.K C n fs wi) (WE Z.W) tr) Γ Q := fun σ G H j e k kk =>
  h σ G H j e _ fun ds Γ1 vs G1 H1 ⟨hn, q⟩ s1 j1 e1 r1 x dx nx ndx ne => by
    refine ⟨Z.pl, G1, ds, H1, x, dx, vs, _, _, rfl, rfl, nx, ndx, ne, j1.enter, r1, hn, q, fun fs G' H' dx' xs a i h1 h2 r gx => ⟨rfl, ?_⟩, fun er cls d G' H' a i re => ?_⟩
    · obtain ⟨G2, s2, j2, e2, r2⟩ := made_state j1 e1 nx i h1 h2 r gx
      exact kk _ Γ1 _ G2 H' a (s1.trans s2) j2 e2 r2
    · exact j1.acc er cls d σ G' H' Γ1 a i.g0 (j1.leave i).toJ0 (e1.called j1.toJ0 i.toJ0) re
def mk (C : Addr) (n : Nat) (fs : List Str) (wi : WI) (r : A K) : X K := ⟨fun W => tMakeS C (spIW K C n fs wi) (WE W) (r.ta W), fun Γ Q E => r.wp Γ (fun ds Γ1 => ds.length = n ∧ wi ds (fun us => Q (.obj C fs us) Γ1) fun er => E er Γ1) E,
  fun Z Γ Q e h => by subst e; exact den_makeW (r.ok Z Γ _ rfl h)⟩
/-- self.f = x -/
def setf (m : Nat) (f : Str) (x : X K) : S K := ⟨fun W => sFld K (tVar m) (x.te W) f, fun Γ P E => match get Γ m with
  | .ob p C ns vs => Cls K C ∧ NoAttr K C f ∧ f ∉ ns ∧ ns.length < 1000 ∧ x.wp Γ (fun d Γ1 => Γ1 = Γ ∧ P.N (put Γ1 m (.ob p C (ns ++ [f]) (vs ++ [d])))) E
  | _ => False, fun Z Γ P e h => by
    subst e
    split at h
    · rename_i p C ns vs eg
      obtain ⟨c, n, hf, hl, hx⟩ := h
      exact dens_fld (get_some eg (by simp)) c n hf hl ((x.ok Z Γ _ rfl hx).mono fun d Γ1 ⟨h1, h2⟩ => ⟨h1, by rw [put_set] at h2; exact h2⟩)
    · exact h.elim⟩
end
end Cc
namespace L2
open PySem PySem.Spec PyProof.Rows
section
variable {X : Cx} {e : Expr} {te : TE} {pos p2 p3 p4 : Pos} {kk : Nat}
/-- a list turned round: xs[::-1] -/
def tRev (K : PySem.W.Frag) (te : TE) : TE := fun σ H Q => te σ H fun x H1 => ∃ a xs, x = .ref a ∧ SqL K H1 a xs ∧ ∀ p, H1 p = none → Q (.ref p) (upd H1 p (.lst xs.reverse))
theorem pe_rev (he : PE X e te) (hs : PE X (.UnaryOp .USub (.Constant (.int 1) kk p3) p4) (tUn (rU fun i => .int (-i)) (tC (.int 1)))) : PE X (.Subscript e (.Slice none none (some (.UnaryOp .USub (.Constant (.int 1) kk p3) p4)) p2) pos) (tRev X.K te) := by
  refine ⟨fun pins s σ H Q I h => ?_⟩
  refine Subscript_ (thn (he.run pins s σ H _ I h) fun v s1 ⟨x, H1, I1, r1, q1⟩ => ?_)
  obtain ⟨a, xs, rfl, hx, q⟩ := q1
  refine wpAny_Slice ?_
  rw [evalPart_none]
  refine wpAny_pure (wpAny_pure ?_)
  have pst : PO X (some (.UnaryOp .USub (.Constant (.int 1) kk p3) p4)) (tPart (tUn (rU fun i => .int (-i)) (tC (.int 1)))) := po_some hs
  refine thn (pst.run pins s1 σ H1 (fun l H2 => l = some (-1) ∧ H2 = H1) I1 ⟨1, rfl, -1, rfl, rfl, rfl⟩) fun vk s3 ⟨l, H3, I3, pk, e1, e2⟩ => ?_
  subst e1; subst e2
  have I4 : Inv X pins σ H3 { s3 with heap := s3.heap.push { cls := .type "slice", data := .fields #[.none, .none, vk] } } := I3.kept (t' := s3.toks) fun b ob q => Heap.get?_push_of_some _ q
  cases r1
  obtain ⟨its, r, ht, hz⟩ := I4.list hx
  have hlen := r.length
  show wpAny (model X.prog X.w) X.A (subscriptTail e (.Slice none none (some (.UnaryOp .USub (.Constant (.int 1) kk p3) p4)) p2) (.ref a) (.ref s3.heap.objs.size)) (EP X pins σ Q) X.xe { s3 with heap := s3.heap.push { cls := .type "slice", data := .fields #[.none, .none, vk] } }
  refine tail_any (ops := [.ref a, .ref s3.heap.objs.size]) ht.isList.typeIs slot_list_getitem.lookup ?_ (by with_unfolding_all rfl)
  refine wpAny_getItem_list_slice ht.isList (Heap.IsSliceOf.new ..) .none .none pk (by decide) ?_ (by rw [List.size_toArray]; omega)
  rw [PySem.W.krv_pick]
  refine ⟨.ref (s3.heap.push { cls := .type "slice", data := .fields #[.none, .none, vk] }).objs.size, _, I4.laid (t' := s3.toks) (o := .lst xs.reverse) (fun b ob q => Heap.get?_push_of_some _ q) (Nat.le_refl _) ?_, rfl, q _ (I4.hok.fresh (Nat.le_refl _))⟩
  refine ⟨by rw [List.length_reverse]; exact hz, _, 0, ?_, Heap.get?_push_size _ rfl⟩
  simpa using r.reverse
end
end L2
namespace L2
open PySem PySem.Spec PyProof.Rows StX
theorem k_rev {X : Cx} (K : PySem.W.Frag) {e : Expr} {te : TE} {pos p2 p3 p4 : Pos} {kk : Nat} (he : PE X e te) (hc : PE X (.Constant (.int 1) kk p3) (tC (.int 1)) := by exact pe_int) (h : X.K = K := by rfl) :
    PE X (.Subscript e (.Slice none none (some (.UnaryOp .USub (.Constant (.int 1) kk p3) p4)) p2) pos) (tRev K te) := by subst h; exact pe_rev he (pe_un un_neg hc)
theorem ka_star {X : Cx} (K : PySem.W.Frag) {e : Expr} {es : List Expr} {te : TE} {t : TA} {p : Pos} (he : PE X e te) (hr : PA X es t) (hs : starEach (.Starred e p :: es) X.env = (true, eval e X.env) :: starEach es X.env := by rfl) (h : X.K = K := by rfl) : PA X (.Starred e p :: es) (tStar K te t) := by subst h; exact pa_star he hr hs
/-- t.count(y), t a tuple known to the object, of flat items -/
def tCountX (K : PySem.W.Frag) (to : TE) (t : TA) : TE := fun σ H Q => to σ H fun x H1 => ∃ (a : Addr) (o : Obj) (ys : List V), x = .ref a ∧ H1 a = some (.frz o (.tup ys)) ∧ o.dict = none ∧ t σ H1 fun xs H2 => ∃ y, xs = [y] ∧ SqT K H2 a ys ∧ flatV y = true ∧ ys.all flatV = true ∧ Q (.int ((ys.countP fun z => eqV z y : Nat) : Int)) H2
theorem pe_countX {X : Cx} {o e : Expr} {to : TE} {t : TA} {apos cpos : Pos} (ho : PE X o to) (ha : PA X [e] t)
    (hbase : attributeBase o "count" X.env (eval o X.env) = eval o X.env := by rfl)
    (hfew : ((backTo cpos (starEach [e] X.env)).all (fun x => !x.1) && (backToKw cpos (keywordEach [] X.env)).all (fun x => x.1.isSome)
      && decide ([e].length + ([] : List Keyword).length + (if ([] : List Keyword).isEmpty then 0 else 1) < 30)) = true := by rfl)
    (hline : (apos.endLine == cpos.line) = true := by rfl) (hs : starEach [e] X.env = (false, eval e X.env) :: starEach [] X.env := by rfl) (hplain : (backTo cpos (starEach [] X.env)).any (·.1) = false := by rfl) :
    PE X (.Call (.Attribute o "count" apos) [e] [] cpos) (tCountX X.K to t) := by
  refine ⟨fun pins s σ H Q I h => ?_⟩
  refine wpAny_Call_method_late hbase hfew hline rfl (thn (ho.run pins s σ H _ I h) fun v s1 ⟨x, H1, I1, r1, q1⟩ => ?_)
  obtain ⟨a, ob, ys, rfl, hH, hd, q1⟩ := q1
  cases r1
  obtain ⟨e1, _, _, _, ⟨cls, dd, data, sl⟩, e2, c2, _⟩ := (show ObjOk X.prog X.w H1 s1.heap a (.frz ob (.tup ys)) from I1.hok a _ hH)
  have hT : s1.TypeIs (.ref a) "tuple" := ⟨_, e2, c2⟩
  refine ⟨"tuple", "tuple.count", PySem.F.plainAttrs_tuple, PySem.F.slot_tuple_count, PySem.F.type_tuple_count, hT, fun b e => by cases e; exact ⟨ob, e1, hd⟩, ?_⟩
  have hA := ha.run cpos pins s1 σ H1 _ I1 q1
  rw [hs] at hA ⊢
  refine Calls.callWith_builtin (by show (false || (backTo cpos (starEach [] X.env)).any (·.1)) = false; rw [hplain] <;> rfl) (Calls.evalArgs_plain ?_)
  refine thn hA fun us s2 ⟨vs, H2, I2, r2, q2⟩ => ?_
  obtain ⟨y, rfl, hs2, fy, fys, q⟩ := q2
  obtain ⟨u, rfl, ru⟩ := r2.one
  obtain ⟨its, rv, ⟨⟨cls2, dd2, data2, sl2⟩, ho2, hc2, n, hd2⟩, hlen⟩ := I2.tuple hs2
  simp only at hc2 hd2
  subst hc2 hd2
  refine call_meets (PySem.F.slot_tuple_count) ⟨_, ho2, rfl⟩ (PySem.F.entry_tuple_count) (PySem.F.args_tuple_count_2 _ _) (SeqAt.tuple_countAt a its.toArray n dd2 sl2 u (eqU y)) ⟨ho2, fun w hw => mem_eqAt ru fy rv fys w (by simpa using hw), ?_⟩
  refine ⟨.int ((ys.countP fun z => eqV z y : Nat) : Int), H2, I2.tok _, ⟨s2.toks, ?_⟩, q⟩
  have e : its.toArray.toList.countP (eqU y) = ys.countP fun z => eqV z y := countP_eqU rv fys
  show Value.int ((its.toArray.toList.countP (eqU y) : Nat) : Int) s2.toks = _
  rw [e]
theorem k_countX {X : Cx} (K : PySem.W.Frag) {o e : Expr} {to : TE} {t : TA} {apos cpos : Pos} (ho : PE X o to) (ha : PA X [e] t) (h : X.K = K := by rfl)
    (hbase : attributeBase o "count" X.env (eval o X.env) = eval o X.env := by rfl)
    (hfew : ((backTo cpos (starEach [e] X.env)).all (fun x => !x.1) && (backToKw cpos (keywordEach [] X.env)).all (fun x => x.1.isSome)
      && decide ([e].length + ([] : List Keyword).length + (if ([] : List Keyword).isEmpty then 0 else 1) < 30)) = true := by rfl)
    (hline : (apos.endLine == cpos.line) = true := by rfl) (hs : starEach [e] X.env = (false, eval e X.env) :: starEach [] X.env := by rfl) (hplain : (backTo cpos (starEach [] X.env)).any (·.1) = false := by rfl) :
    PE X (.Call (.Attribute o "count" apos) [e] [] cpos) (tCountX K to t) := by subst h; exact pe_countX ho ha hbase hfew hline hs hplain
/-- tuple(list), the new tuple known to the object -/
def rTupleX (K : PySem.W.Frag) : List V → Hp → VK → Prop := fun xs H Q => ∃ p ys, xs = [.ref p] ∧ SqL K H p ys ∧ ∀ l (o : Obj), H l = none → o.dict = none → Q (.ref l) (upd H l (.frz o (.tup ys)))
theorem call_tupleX {X : Cx} : CallR X (.type "tuple") (rTupleX X.K) := by
  intro pins s σ H xs us Q I r h
  obtain ⟨p, ys, rfl, hq, q⟩ := h
  obtain ⟨u, rfl, rx⟩ := vals1 r
  cases rx
  obtain ⟨its, r', pl, hz⟩ := I.list hq
  have hlen := r'.length
  refine call_tuple_list pl.isList (fun h' kp => ?_) (by simp only [List.size_toArray] <;> omega)
  have I1 : Inv X pins σ H { s with heap := h' } := I.kept (t' := s.toks) kp
  have I2 : Inv X pins σ (upd H h'.objs.size (.frz { cls := .type "tuple", data := .seq its.toArray } (.tup ys))) { s with heap := h'.push { cls := .type "tuple", data := .seq its.toArray } } :=
    I1.laid (t' := s.toks) (fun b o e => Heap.get?_push_of_some _ e) (Nat.le_refl _) (show ObjOk X.prog X.w _ _ _ (.frz _ (.tup ys)) from ⟨Heap.get?_push_size _ rfl, hz, its, r', IsTup.new _ _⟩)
  exact ⟨.ref h'.objs.size, _, I2, rfl, q _ _ (I1.hok.fresh (Nat.le_refl _)) rfl⟩
theorem k_tupleX {X : Cx} (K : PySem.W.Frag) (h : X.K = K := by rfl) : CallR X (.type "tuple") (rTupleX K) := by subst h; exact call_tupleX
/-- lcm of two small ints -/
def rLcm : List V → Hp → VK → Prop := fun vs H Q => ∃ a b : Int, vs = [.int a, .int b] ∧ a.natAbs < 2 ^ 64 ∧ b.natAbs < 2 ^ 64 ∧ Q (.int ((Nat.lcm a.natAbs b.natAbs : Nat) : Int)) H
theorem cr_lcm {X : Cx} : CallR X (.builtin "math.lcm") rLcm := by
  intro pins s σ H vs us Q I r h
  obtain ⟨a, b, rfl, ha, hb, q⟩ := h
  obtain ⟨t, u, rfl⟩ := Vals.int2 r
  exact PySem.W.mc_lcm ha hb fun _ => ⟨.int _, H, I.tok _, ⟨_, rfl⟩, q⟩
end L2
namespace Cc
open PySem L2 Ab StX
section
variable {K : PySem.W.Frag}
theorem strs_vs {pl} {G : Hp} : ∀ {vs : List V} {bs : List Str}, Rps K pl G vs (bs.map D.str) → vs = bs.map V.str
  | _, [], .nil => rfl
  | _, b :: bs, .cons h r => by
    cases h
    rw [List.map_cons, strs_vs r]
/-- x.count(text), a tuple of texts -/
theorem den_countS {Z : Cz} {Γ : List B} {te ta : TE} {Q : D → List B → Prop} (h : Den Z te Γ fun x Γ1 => ∃ bs : List Str, x = .xtup (bs.map D.str) ∧ Den Z ta Γ1 fun y Γ2 => ∃ b : Str, y = .str b ∧ Q (.int (bs.count b : Nat)) Γ2) : Den Z (tCountX Z.K te (tCons ta tNil)) Γ Q := fun σ G H j e k kk =>
  h σ G H j e _ fun x Γ1 v G1 H1 q s1 j1 e1 r1 => by
    obtain ⟨bs, rfl, q⟩ := q
    cases r1 with
    | @xtup l o vs _ h1 hd rs =>
      have ev := strs_vs rs
      subst ev
      refine ⟨l, o, _, rfl, j1.sub _ _ h1, hd, q σ G1 H1 j1 e1 _ fun y Γ2 vy G2 H2 q2 s2 j2 e2 r2 => ?_⟩
      obtain ⟨b, rfl, q2⟩ := q2
      cases r2
      refine ⟨.str b, rfl, .inl (.inr ⟨o, j2.sub _ _ (s2.ex _ _ h1)⟩), rfl, by simp [List.all_eq_true, flatV], ?_⟩
      have e3 : ((bs.map V.str).countP fun z => eqV z (.str b)) = bs.count b := by
        rw [List.countP_map, List.count]
        congr 1
      rw [e3]
      exact kk _ Γ2 _ G2 H2 q2 (s1.trans s2) j2 e2 (.int _)
def mcountT (x y : X K) : X K := ⟨fun W => tCountX K (x.te W) (tCons (y.te W) tNil), fun Γ Q E => x.wp Γ (fun d Γ1 => match d with
    | .xtup ys => ∃ bs : List Str, ys = bs.map D.str ∧ y.wp Γ1 (fun e Γ2 => match e with | .str b => Q (.int (bs.count b : Nat)) Γ2 | _ => False) E
    | _ => False) E, fun Z Γ Q e h => by
  subst e
  refine den_countS ((x.ok Z Γ _ rfl h).mono fun d Γ1 h1 => ?_)
  split at h1
  · obtain ⟨bs, rfl, h2⟩ := h1
    refine ⟨bs, rfl, (y.ok Z Γ1 _ rfl h2).mono fun e Γ2 h3 => ?_⟩
    split at h3
    · exact ⟨_, rfl, h3⟩
    · exact h3.elim
  · exact h1.elim⟩
/-- tuple(x), known to the object -/
def tupleX : Bi K := ⟨rTupleX K, fun xs Q => match xs with
    | [.lst ys] => Q (.xtup ys)
    | _ => False, fun Z xs Q e h => by
  subst e
  split at h
  · rename_i ys
    intro G H vs jj r k kk
    cases r with
    | cons a b =>
      cases b
      obtain ⟨p, ws, rfl, s, r1⟩ := a.sql jj.sub
      exact ⟨p, ws, rfl, s, fun l o hl hd => kk _ _ _ _ h (jj.sp hl) (.xtup upd_same hd (r1.mono (Ex.new (jj.sub.back hl))))⟩
  · exact h.elim⟩
def mcount (x y : X K) : X K := ⟨fun W => tBM K "list" (rCountF K) (x.te W) (tCons (y.te W) tNil), fun Γ Q E => x.wp Γ (fun d Γ1 => match d with
    | .lst ys => ∃ bs : List Bool, ys = bs.map D.bl ∧ y.wp Γ1 (fun e Γ2 => isBl e fun b => Q (.int (bs.count b : Nat)) Γ2) E
    | _ => False) E, fun Z Γ Q e h => by
  subst e
  refine den_countB rfl ((x.ok Z Γ _ rfl h).mono fun d Γ1 h1 => ?_)
  split at h1
  · obtain ⟨bs, rfl, h2⟩ := h1
    exact ⟨bs, rfl, (y.ok Z Γ1 _ rfl h2).mono fun e Γ2 h3 => isBl_ex h3⟩
  · exact h1.elim⟩
def mindex (x y : X K) : X K := ⟨fun W => tBM K "list" (rIndex K) (x.te W) (tCons (y.te W) tNil), fun Γ Q E => x.wp Γ (fun d Γ1 => match d with
    | .lst ys => ∃ bs : List Bool, ys = bs.map D.bl ∧ y.wp Γ1 (fun e Γ2 => isBl e fun b => ∃ n : Nat, bs[n]? = some b ∧ (∀ m < n, bs[m]? ≠ some b) ∧ Q (.int (n : Nat)) Γ2) E
    | _ => False) E, fun Z Γ Q e h => by
  subst e
  refine den_indexB rfl ((x.ok Z Γ _ rfl h).mono fun d Γ1 h1 => ?_)
  split at h1
  · obtain ⟨bs, rfl, h2⟩ := h1
    exact ⟨bs, rfl, (y.ok Z Γ1 _ rfl h2).mono fun e Γ2 h3 => by
      obtain ⟨b, rfl, n, h4⟩ := isBl_ex h3
      exact ⟨b, n, rfl, h4⟩⟩
  · exact h1.elim⟩
def lcm : Bi K := ⟨rLcm, fun xs Q => match xs with
    | [.int i, .int j] => i.natAbs < 2 ^ 64 ∧ j.natAbs < 2 ^ 64 ∧ Q (.int (Nat.lcm i.natAbs j.natAbs : Nat))
    | _ => False, fun Z xs Q e h => by
  split at h
  · rename_i i j
    intro G H vs jj r k kk
    cases r with
    | cons a b => cases b with
      | cons b c => cases c; cases a; cases b; exact ⟨i, j, rfl, h.1, h.2.1, kk _ _ G H h.2.2 jj.enter (.int _)⟩
  · exact h.elim⟩
theorem dena_star {Z : Cz} {Γ : List B} {te : TE} {tr : TA} {Q : List D → List B → Prop} (h : Den Z te Γ fun x Γ1 => ∃ xs, (x = .tup xs ∨ x = .lst xs) ∧ DenA Z tr Γ1 fun ys Γ2 => Q (xs ++ ys) Γ2) : DenA Z (tStar Z.K te tr) Γ Q := fun σ G H j e k kk =>
  h σ G H j e _ fun x Γ1 v G1 H1 h1 s1 j1 e1 r1 => by
    obtain ⟨xs, hx, q⟩ := h1
    rcases hx with rfl | rfl
    · cases r1 with
      | @tup a vs _ g1 rs => exact ⟨a, vs, rfl, .inl (j1.sub.sqt g1), q σ G1 H1 j1 e1 _ fun ys Γ2 ws G2 H2 q2 s2 j2 e2 r2 => kk _ Γ2 _ G2 H2 q2 (s1.trans s2) j2 e2 ((rs.mono s2.ex).append r2)⟩
    · cases r1 with
      | @lst a vs _ g1 rs => exact ⟨a, vs, rfl, .inr (.inl (.inl (j1.sub _ _ g1))), q σ G1 H1 j1 e1 _ fun ys Γ2 ws G2 H2 q2 s2 j2 e2 r2 => kk _ Γ2 _ G2 H2 q2 (s1.trans s2) j2 e2 ((rs.mono s2.ex).append r2)⟩
def astar (x : X K) (r : A K) : A K := ⟨fun W => tStar K (x.te W) (r.ta W), fun Γ Q E => x.wp Γ (fun d Γ1 => isSq d fun xs => r.wp Γ1 (fun ys Γ2 => Q (xs ++ ys) Γ2) E) E, fun Z Γ Q e h => by
  subst e
  refine dena_star ((x.ok Z Γ _ rfl h).mono fun d Γ1 h1 => ?_)
  cases d with
  | tup xs => exact ⟨xs, .inl rfl, r.ok Z Γ1 _ rfl h1⟩
  | lst xs => exact ⟨xs, .inr rfl, r.ok Z Γ1 _ rfl h1⟩
  | _ => exact h1.elim⟩
theorem denl_rev {Z : Cz} {Γ : List B} {te : TE} {Q : List D → List B → Prop} (h : Den Z te Γ fun x Γ1 => ∃ xs, x = .lst xs ∧ Q xs.reverse Γ1) : DenL Z (tRev Z.K te) Γ Q := fun σ G H j e k kk =>
  h σ G H j e _ fun x Γ1 v G1 H1 q s1 j1 e1 r1 => by
    obtain ⟨xs, rfl, q⟩ := q
    cases r1 with
    | @lst a vs _ g1 rs =>
      refine ⟨a, vs, rfl, .inl (.inl (j1.sub _ _ g1)), fun p hp => ?_⟩
      have n := j1.sub.back hp
      refine kk _ Γ1 p vs.reverse G1 (upd H1 p (.lst vs.reverse)) q (s1.trans ⟨Ex.refl _, fun _ h => h, fun a o ha _ _ => ⟨?_, fun z => z⟩, fun a o ha => ⟨o, ?_⟩⟩) (j1.put (j1.old hp) n) (e1.newM hp) upd_same rs.reverse ⟨n, j1.old hp, fun i o => e1.noown hp i o⟩ (s1.back hp)
      · rw [upd_ne (ne_of_none ha hp)]; exact ha
      · rw [upd_ne (ne_of_none ha hp)]; exact ha
def revL (x : X K) : L K := ⟨fun W => tRev K (x.te W), fun Γ Q E => x.wp Γ (fun d Γ1 => match d with | .lst xs => Q xs.reverse Γ1 | _ => False) E, fun Z Γ Q e h => by
  subst e
  refine denl_rev ((x.ok Z Γ _ rfl h).mono fun d Γ1 h1 => ?_)
  cases d with
  | lst xs => exact ⟨xs, rfl, h1⟩
  | _ => exact h1.elim⟩
def rev (x : X K) : X K := ofL (revL x)
def lc2 (it : I K) (g : G K) (it1 : I K) (g1 : G K) (x : X K) (vs vs1 : List Nat) (hv : ∀ v ∈ g.vs, v ∈ vs) (hv1 : ∀ v ∈ g1.vs, v ∈ vs1) (sub : ∀ i ∈ vs1, i ∈ vs) : L K := ⟨fun W => tLc2 (it.wi W) g.g tYes (it1.wi W0) g1.g tYes (x.te W0) vs vs1,
  fun Γ Q E => it.wp Γ (fun ds Γ1 => noOwnAt Γ1 vs ∧ ∃ (inner : D → List D) (f : D → D → D), (ds.flatMap fun d => (inner d).map (f d)).length < 100000 ∧
    (∀ d ∈ ds, g.wp d (wipeP Γ1 vs) fun Γ2 => wipeP Γ2 vs = wipeP Γ1 vs ∧ noOwnAt Γ2 vs ∧ it1.wp Γ2 (fun es Γ3 => Γ3 = Γ2 ∧ es = inner d ∧ ∀ e ∈ es, g1.wp e (wipeP Γ2 vs1) fun Γ4 => wipeP Γ4 vs1 = wipeP Γ2 vs1 ∧ noOwnAt Γ4 vs1 ∧ x.wp Γ4 (fun y Γ5 => Γ5 = Γ4 ∧ y = f d e) EX0) EX0) ∧
    Q (ds.flatMap fun d => (inner d).map (f d)) Γ1) E, by
  intro Z Γ Q e h
  refine denl_flat (g.off vs hv) g.mono (g1.off vs1 hv1) g1.mono sub (DenI.mono (it.ok Z Γ _ e h) ?_)
  rintro ds Γ1 ⟨n, inner, f, l, hs, q⟩
  refine ⟨noOwnAt_all n, inner, f, l, fun i d hd => ?_, q⟩
  have z := hs d (List.mem_of_getElem? hd)
  simp only [wipeP_eq] at z
  refine DenG.mono (g.ok Z d _ _ e z) fun Γ2 ⟨a1, a2, a3⟩ => ⟨a1, noOwnAt_all a2, ?_⟩
  refine deni_w0 (DenI.mono (it1.ok (Z.wx W0 EX0) Γ2 _ e a3) ?_)
  rintro es Γ3 ⟨b1, b2, b3⟩
  refine ⟨b1, b2, fun k e1 he => ?_⟩
  have z2 := b3 e1 (List.mem_of_getElem? he)
  refine DenG.mono (g1.ok Z e1 _ _ e z2) fun Γ4 ⟨c1, c2, c3⟩ => ⟨c1, noOwnAt_all c2, den_w0 ((x.ok (Z.wx W0 EX0) Γ4 _ e c3).mono fun y Γ5 h5 => h5)⟩⟩
def callG (n : Nat) (P : FSpec) (r : A K) : X K := ⟨fun W => tCall (spS K n P) [] (fun _ _ _ => False) (r.ta W), fun Γ Q E => r.wp Γ (fun ds Γ1 => ds.length = n ∧ P.P ds ∧ (∀ d, P.R ds d → Q d Γ1) ∧ ∀ er, ¬ P.X ds er) E, fun Z Γ Q e h => by subst e; exact den_call (r.ok Z Γ _ rfl h)⟩
end
end Cc
namespace L2
open PySem PySem.Spec PyProof.Rows
def tIsXA (K : PySem.W.Frag) (a : Addr) (cls : Value) (d : Option Addr) (ta : TA) : TE := fun σ H Q => ∃ C, cls = .ref C ∧ KitE K C ∧ tIsX K a cls d C ta σ H Q
theorem kx_isx {X : Cx} (K : PySem.W.Frag) {a : Addr} {oe : Obj} {cls : Value} {d : Option Addr} {pn : List (Addr × Obj)} {e1 e2 : Expr} {ta : TA} {p pos : Pos} (hz : Zc cls d oe) (hf : ∃ vs, oe.data = .fields vs)
    (hg : Gl (X.suite a ((a, oe) :: pn)) "isinstance") (hm : (X.suite a ((a, oe) :: pn)).mg "isinstance" = none) (hv : bootBuiltins "isinstance" = some (.builtin "isinstance")) (ha : PA (X.suite a ((a, oe) :: pn)) [e1, e2] ta)
    (he : starEach [e1, e2] (X.suite a ((a, oe) :: pn)).env = (false, eval e1 (X.suite a ((a, oe) :: pn)).env) :: starEach [e2] (X.suite a ((a, oe) :: pn)).env := by rfl) (hpl : (backTo pos (starEach [e2] (X.suite a ((a, oe) :: pn)).env)).any (·.1) = false := by rfl) (hK : X.K = K := by rfl) :
    PE (X.suite a ((a, oe) :: pn)) (.Call (.Name "isinstance" p) [e1, e2] [] pos) (tIsXA K a cls d ta) := by
  subst hK
  exact ⟨fun pins s σ H Q I h => by
    obtain ⟨C, hc, T, h⟩ := h
    exact (pe_isX T hz hf hg hm hv ha he hpl).run pins s σ H Q I h⟩
def tXfA (K : PySem.W.Frag) (a : Addr) (cls : Value) (d : Option Addr) (f : Str) (te : TE) : TE := fun σ H Q => ∃ C, cls = .ref C ∧ XfC K C ∧ PySem.W.findIn K (.ref C) f = some none ∧ tXf a cls d C f te σ H Q
theorem kx_f {X : Cx} (K : PySem.W.Frag) {a : Addr} {oe : Obj} {cls : Value} {d : Option Addr} {pn : List (Addr × Obj)} {e : Expr} {te : TE} {pos : Pos} {n : Str}
    (hz : Zc cls d oe) (hf : ∃ vs, oe.data = .fields vs) (he : PE (X.suite a ((a, oe) :: pn)) e te) (hb : attributeBase e n X.env (eval e X.env) = eval e X.env := by rfl) (hK : X.K = K := by rfl) :
    PE (X.suite a ((a, oe) :: pn)) (.Attribute e n pos) (tXfA K a cls d n te) := by
  subst hK
  exact ⟨fun pins s σ H Q I h => by
    obtain ⟨C, hc, T, hno, h⟩ := h
    exact (pe_xf T hno hz hf he hb).run pins s σ H Q I h⟩
end L2
namespace Cc
open PySem L2 Ab
section
variable {K : PySem.W.Frag}
def isX (a : Addr) (cls : Value) (d : Option Addr) (i : Nat) (c : V) (u : Value) (k : ClsV c u) : X K := ⟨fun _ => tIsXA K a cls d (tCons (tVar i) (tCons (tC c) tNil)), fun Γ Q _ => match get Γ i with
  | .exc a' cl' d' er => (a' = a ∧ cl' = cls ∧ d' = d) ∧ KitE K er.cls ∧ ∃ b, PySem.W.kitOne K (.ref er.cls) u = some b ∧ Q (.bl b) Γ
  | _ => False, fun Z Γ Q e h => by
    subst e
    split at h
    · rename_i a' cl' d' er eg
      obtain ⟨⟨rfl, rfl, rfl⟩, T, b, hk, q⟩ := h
      have hg := get_some eg (by simp)
      intro σ G H j en kk q'
      obtain ⟨v, h1, h2, re⟩ := en.at_ i _ hg
      exact ⟨er.cls, re.c, T, den_isX hg rfl k hk q σ G H j en kk q'⟩
    · exact h.elim⟩
def xf (a : Addr) (cls : Value) (d : Option Addr) (f : Str) (i : Nat) : X K := ⟨fun _ => tXfA K a cls d f (tVar i), fun Γ Q _ => match get Γ i with
  | .exc a' cl' d' er => (a' = a ∧ cl' = cls ∧ d' = d) ∧ (XfC K er.cls ∧ PySem.W.findIn K (.ref er.cls) f = some none) ∧ ∃ y, er.ns = [f] ∧ er.vs = [y] ∧ Q y Γ
  | _ => False, fun Z Γ Q e h => by
    subst e
    split at h
    · rename_i a' cl' d' er eg
      obtain ⟨⟨rfl, rfl, rfl⟩, ⟨T, hno⟩, y, hn, hv, q⟩ := h
      have hg := get_some eg (by simp)
      intro σ G H j en kk q'
      obtain ⟨v, h1, h2, re⟩ := en.at_ i _ hg
      exact ⟨er.cls, re.c, T, hno, den_xf hg rfl hn hv q σ G H j en kk q'⟩
    · exact h.elim⟩
end
end Cc
namespace Cc
open PySem L2 Ab
section
variable {P : Program} {w : World} {K : PySem.W.Frag} {mg : Str → Option Value} {base : Heap}
theorem fn_e {x qual : Str} {st : Stmt} {f : Addr} {fd : FuncData} {N ps : List Str} {k : Nat} (F : Fun K x qual st f fd) (Sc : FnScope N ps (defScope st)) (b : S K) (hl : ps.length ≤ N.length)
    (hbody : ∀ (cdv : Value) (A : Around) (outer : List PySem.Env) (s : Shared) (H : Hp) (E : XK) (W : WX), Room k (A.deeper (PyProof.Rows.envOfC qual (defScope st) s.heap.objs.size f cdv)) → Takes (cxOf (L2.CX P w) P w K mg base N qual (defScope st) f cdv A outer s H E) W →
      ∃ t, PSs (cxOf (L2.CX P w) P w K mg base N qual (defScope st) f cdv A outer s H E) (defBody st) t ∧ t = b.ts W) : FnOk P w K mg base (L2.CX P w) (k + 1) f fd ps (spW K ps.length (bodyW b N.length)) :=
  fn_w F Sc b hl fun cdv A outer s H E W hr tk => by
    obtain ⟨t, h, e⟩ := hbody cdv A outer s H E W hr tk
    rw [← e]; exact h
theorem init_e {qual : Str} {st : Stmt} {f C : Addr} {fd : FuncData} {N ps : List Str} {k : Nat} (F : Fun K "__init__" qual st f fd) (Sc : FnScope N ps (defScope st)) (fs : List Str) (b : S K) (hl : ps.length ≤ N.length) {n : Nat} (hn : ps.length = n + 1)
    (hbody : ∀ (cdv : Value) (A : Around) (outer : List PySem.Env) (s : Shared) (H : Hp) (E : XK) (W : WX), Room k (A.deeper (PyProof.Rows.envOfC qual (defScope st) s.heap.objs.size f cdv)) → Takes (cxOf (L2.CX P w) P w K mg base N qual (defScope st) f cdv A outer s H E) W →
      ∃ t, PSs (cxOf (L2.CX P w) P w K mg base N qual (defScope st) f cdv A outer s H E) (defBody st) t ∧ t = b.ts W) : FnOk P w K mg base (L2.CX P w) (k + 1) f fd ps (spIW K C n fs (bodyI b C fs N.length)) :=
  init_w F Sc fs b hl hn fun cdv A outer s H E W hr tk => by
    obtain ⟨t, h, e⟩ := hbody cdv A outer s H E W hr tk
    rw [← e]; exact h
end
end Cc
namespace L2
open PySem PySem.Spec PyProof.Rows
section
variable {X : Cx} (K : PySem.W.Frag) {o e : Expr} {to : TE} {t : TA} {apos cpos : Pos}
theorem k_countL (ho : PE X o to) (ha : PA X [e] t) (h : X.K = K := by rfl)
    (hbase : attributeBase o "count" X.env (eval o X.env) = eval o X.env := by rfl)
    (hfew : ((backTo cpos (starEach [e] X.env)).all (fun x => !x.1) && (backToKw cpos (keywordEach [] X.env)).all (fun x => x.1.isSome)
      && decide ([e].length + ([] : List Keyword).length + (if ([] : List Keyword).isEmpty then 0 else 1) < 30)) = true := by rfl)
    (hline : (apos.endLine == cpos.line) = true := by rfl) (hs : starEach [e] X.env = (false, eval e X.env) :: starEach [] X.env := by rfl) (hplain : (backTo cpos (starEach [] X.env)).any (·.1) = false := by rfl) :
    PE X (.Call (.Attribute o "count" apos) [e] [] cpos) (tBM K "list" (rCountF K) to t) := by
  subst h
  exact pe_bm PySem.F.plainAttrs_list PySem.F.slot_list_count PySem.F.type_list_count mt_countF ho ha hbase hfew hline hs hplain
theorem k_indexL (ho : PE X o to) (ha : PA X [e] t) (h : X.K = K := by rfl)
    (hbase : attributeBase o "index" X.env (eval o X.env) = eval o X.env := by rfl)
    (hfew : ((backTo cpos (starEach [e] X.env)).all (fun x => !x.1) && (backToKw cpos (keywordEach [] X.env)).all (fun x => x.1.isSome)
      && decide ([e].length + ([] : List Keyword).length + (if ([] : List Keyword).isEmpty then 0 else 1) < 30)) = true := by rfl)
    (hline : (apos.endLine == cpos.line) = true := by rfl) (hs : starEach [e] X.env = (false, eval e X.env) :: starEach [] X.env := by rfl) (hplain : (backTo cpos (starEach [] X.env)).any (·.1) = false := by rfl) :
    PE X (.Call (.Attribute o "index" apos) [e] [] cpos) (tBM K "list" (rIndex K) to t) := by
  subst h
  exact pe_bm PySem.F.plainAttrs_list PySem.F.slot_list_index PySem.F.type_list_index mt_index ho ha hbase hfew hline hs hplain
end
end L2
namespace L2
open PySem PySem.Spec PyProof.Rows
/-- an error that is made, as a value -/
def tMade (tm : St → Hp → XK → Prop) : TE := fun σ H Q => tm σ H fun cls d H1 => ∃ C, cls = .ref C ∧ ∀ a, H1 a = none → Q (.ref a) (upd H1 a (ExD a C d))
theorem pe_made {X : Cx} {e : Expr} {tm : St → Hp → XK → Prop} (h : PMk X e tm) : PE X e (tMade tm) := by
  refine ⟨fun pins s σ H Q I q => wpAny_mono (h pins s σ H _ I q) (fun u s1 hu => ?_) fun _ _ x => x⟩
  obtain ⟨a, oe, vs, sI, H', cls, d, rfl, J, k, hne, ha, hz, hd, h1, na, os, ag, r, C, ec, q⟩ := hu
  subst ec
  exact ⟨.ref a, upd H' a (ExD a C d), J.call' (ch := []) os (Un.laidN k hne na) (J.hok.laidN k na (exD_ok ha hz hd)) ag (fun b z => absurd z (by simp)), rfl, q a na⟩
/-- o.f of an error object -/
def tXv (K : PySem.W.Frag) (te : TE) (f : Str) : TE := fun σ H Q => te σ H fun x H1 => ∃ (a C dd : Addr) (fs : List (Str × V)) (v : V), x = .ref a ∧ H1 a = some (ExD a C (some dd)) ∧ (XfC K C ∧ PySem.W.findIn K (.ref C) f = some none) ∧ H1 dd = some (.xd fs) ∧ fs.lookup f = some v ∧ Q v H1
theorem pe_xv {X : Cx} {e : Expr} {te : TE} {pos : Pos} {n : Str} (he : PE X e te) (hb : attributeBase e n X.env (eval e X.env) = eval e X.env := by rfl) : PE X (.Attribute e n pos) (tXv X.K te n) := by
  refine ⟨fun pins s σ H Q I h => ?_⟩
  refine attr_of hb (thn (he.run pins s σ H _ I h) fun u s1 hh => ?_)
  obtain ⟨x, H1, I1, rx, a, C, dd, fs, v, ex, ha, ⟨T, hno⟩, ea, l, q⟩ := hh
  subst ex
  obtain rfl : u = Value.ref a := rx
  obtain ⟨oe, vs, hx0, hz, hd⟩ := exD_at I1.hok ha
  have hx : ObjOk X.prog X.w H1 s1.heap dd (.xd fs) := I1.hok dd _ ea
  obtain ⟨mA, hns, hr⟩ := hx
  obtain ⟨od, ho, hl⟩ := lookIn_ns hns
  obtain ⟨u, hu, ru⟩ := RelO.some_of (v := v) (o := mA n) (by rw [← l]; exact hr n)
  have J : PySem.W.InstAt s1.heap a oe C (some od) := ⟨hx0, hz.1, by unfold PySem.W.notCls; rw [hd] <;> rfl, by rw [hz.2]; exact ho⟩
  exact HandSPX.exc_get I1.kIn J T.ga T.gg T.exC (PySem.W.findObj_own T.hdC hno rfl (by rw [hl, hu])) (handed_of ru) ⟨v, H1, I1.tok _, ru, q⟩
/-- isinstance(e, c) of an error object -/
def rIsE (K : PySem.W.Frag) : List V → Hp → VK → Prop := fun vs H Q => ∃ (a C : Addr) (d : Option Addr) (c : V) (u : Value) (b : Bool), vs = [.ref a, c] ∧ H a = some (ExD a C d) ∧ (∀ dd, d = some dd → ∃ fs, H dd = some (.xd fs)) ∧ KitE K C ∧ ClsV c u ∧ PySem.W.kitOne K (.ref C) u = some b ∧ Q (.bl b) H
theorem cr_isE {X : Cx} : CallR X (.builtin "isinstance") (rIsE X.K) := by
  intro pins s σ H vs us Q I r h
  obtain ⟨a, C, d, c, u, b, rfl, ha, hd0, T, k, e, q⟩ := h
  obtain ⟨u1, u2, rfl, r1, r2⟩ := vals2 r
  have e2 := k.eq r2
  subst e2
  obtain rfl : u1 = Value.ref a := r1
  obtain ⟨oe, vs, hx, hz, hd⟩ := exD_at I.hok ha
  have key : ∃ od, PySem.W.InstAt s.heap a oe C od := by
    cases d with
    | none => exact ⟨none, hx, hz.1, by (unfold PySem.W.notCls; rw [hd]) <;> rfl, by rw [hz.2]; trivial⟩
    | some dd =>
      obtain ⟨fs, ea⟩ := hd0 dd rfl
      have xo : ObjOk X.prog X.w H s.heap dd (.xd fs) := I.hok dd _ ea
      obtain ⟨mA, hns, _⟩ := xo
      obtain ⟨od, ho, _⟩ := lookIn_ns hns
      exact ⟨some od, hx, hz.1, by (unfold PySem.W.notCls; rw [hd]) <;> rfl, by rw [hz.2]; exact ho⟩
  obtain ⟨od, J⟩ := key
  exact PySem.W.kia_one (PySem.W.kitx_exc T.cl T.xf.ga T.xf.gg T.xf.exC T.ha T.hn T.tk T.hm) I.kIn J e (fun z => nomatch z) fun tk => ⟨.bl b, H, I.tok tk, rfl, q⟩
theorem k_isE {X : Cx} (K : PySem.W.Frag) (h : X.K = K := by rfl) : CallR X (.builtin "isinstance") (rIsE K) := by subst h; exact cr_isE
/-- repr of data or of a new dict -/
def rReprD (K : PySem.W.Frag) : List V → Hp → VK → Prop := fun vs H Q => rRepr K vs H Q ∨ ∃ a, vs = [.ref a] ∧ H a = some (.dK []) ∧ Q (.str (PyData.shown (.dict []))) H
theorem k_reprD {X : Cx} (K : PySem.W.Frag) (hg : X.A.guards = some []) (hu : X.A.units + 64 < cLine) (hK : X.K = K := by rfl) : CallR X (.builtin "repr") (rReprD K) := by
  subst hK
  intro pins s σ H vs us Q I r h
  rcases h with h | ⟨a, rfl, ha, q⟩
  · exact cr_repr hg hu pins s σ H vs us Q I r h
  · obtain ⟨u, rfl, ru⟩ := vals1 r
    obtain rfl : u = Value.ref a := ru
    obtain ⟨z, hsm, ws, kv, o, es, ep, ho, hex, hdat, ks, pr, nd⟩ := dk_of I.hok ha
    have e0 : ws = [] := by cases kv; rfl
    subst e0
    have e1 : es.toList = [] := by cases hp : es.toList with
      | nil => rfl
      | cons x xs => rw [hp] at pr; cases pr
    have rd : Reads s.heap (.ref a) (.dict []) (a :: [] ++ []) := .dict ho hex.1 hdat (by rw [e1]; exact .nil) (by rw [e1]; exact .nil)
    have dp : (PyData.dict []).depth ≤ 60 := by decide
    exact repr_of_reads' rd (by decide) (fun _ m => by simp at m; rw [m] at hsm; simp at hsm) hg (by omega) (fun _ _ e => e) (fun h' w tk k => ⟨.str _, H, I.kept k, ⟨_, rfl⟩, q⟩)
section
variable {X : Cx} {P : Program} {w : World} {mg : Str → Option Value} {base : Heap} {x fn : Str} {C : Addr} {e : Expr} {es : List Expr} {ta : TA} {te : TE} {j : Nat} {p pos : Pos}
theorem k_xv (K : PySem.W.Frag) {n : Str} (he : PE X e te) (hK : X.K = K := by rfl) (hb : attributeBase e n X.env (eval e X.env) = eval e X.env := by rfl) : PE X (.Attribute e n pos) (tXv K te n) := by subst hK; exact pe_xv he hb
theorem k_lenSet (K : PySem.W.Frag) {p2 q : Pos} (hc : X.calm = true) (hg : Gl X "len") (hm : X.mg "len" = none) (hg2 : Gl X "set") (hm2 : X.mg "set" = none) (ha : PE X e te) (hK : X.K = K := by rfl)
    (na : starEach [e] X.env = (false, eval e X.env) :: starEach [] X.env := by rfl) : PE X (.Call (.Name "len" p) [.Call (.Name "set" p2) [e] [] q] [] pos) (tLenSetI K te) := by subst hK; exact pe_lenSetI hc hg hm hg2 hm2 ha na
end
end L2
namespace Ab
open PySem L2
section
variable {X : Cx} {P : Program} {w : World} {K : PySem.W.Frag} {mg : Str → Option Value} {base : Heap} {x fn : Str} {C : Addr} {e : Expr} {es : List Expr} {ta : TA} {j : Nat} {p pos : Pos}
theorem k_mkE (c : Exn1 P w K mg base x C fn) (hr : Room j X.A) (hk : 2 ≤ j) (hX : X.prog = P ∧ X.w = w ∧ X.K = K ∧ X.mg = mg ∧ X.base = base) (hg : Gl X x) (ha : PA X (e :: es) ta) (hdb : (x == ("__debug__" : Str)) = false := by decide)
    (he : starEach (e :: es) X.env = (false, eval e X.env) :: starEach es X.env := by rfl) (hpl : (backTo pos (starEach es X.env)).any (·.1) = false := by rfl) :
    PE X (.Call (.Name x p) (e :: es) [] pos) (tMade (tMkO C (spXI C fn) [] ta)) := by
  obtain ⟨rfl, rfl, rfl, rfl, rfl⟩ := hX
  obtain ⟨fI, fd, ps, h1, h2, h3, h4⟩ := c.ex
  exact pe_made (pmk_oex c.o h1 h2 h3 (hr.mono hk) h4 .nil passL hg c.m ha hdb he hpl)
theorem k_mkE0 (c : Exn0 P w K mg base x C) (hr : Room j X.A) (hk : 2 ≤ j) (hX : X.prog = P ∧ X.w = w ∧ X.K = K ∧ X.mg = mg ∧ X.base = base) (hg : Gl X x) (hdb : (x == ("__debug__" : Str)) = false := by decide) :
    PE X (.Call (.Name x p) [] [] pos) (tMade fun _ H Q => Q (.ref C) none H) := by
  obtain ⟨rfl, rfl, rfl, rfl, rfl⟩ := hX
  obtain ⟨fI, fd, ps, h1, h2, h3, h4⟩ := c.ex
  exact pe_made (pmk_plain c.o h1 h2 h3 (hr.mono hk) h4 hg c.m hdb)
end
end Ab
namespace Cc
open PySem L2 Ab
section
variable {K : PySem.W.Frag}
theorem mk_eH {H1 : Hp} {a dx C : Addr} {f : Str} {v : V} (ha : H1 a = none) : upd (del (upd (upd (upd H1 a (L2.exo a C none)) dx (exd dx [(f, v)])) a (L2.exo a C (some dx))) a) dx (.xd [(f, v)]) = upd H1 dx (.xd [(f, v)]) := by
  funext b
  by_cases h1 : b = dx
  · rw [h1, upd_same, upd_same]
  · rw [upd_ne h1, upd_ne h1]
    by_cases h2 : b = a
    · rw [h2, del_same, ha]
    · rw [del_ne h2, upd_ne h2, upd_ne h1, upd_ne h2]
theorem den_mkE {Z : Cz} {Γ : List B} {te : TE} {C : Addr} {f : Str} {Q : D → List B → Prop} (h : Den Z te Γ fun _ Γ1 => Q (.exo C) Γ1) : Den Z (tMade (tMkO C (spXI C f) [] (tCons te tNil))) Γ Q := fun σ G H j e k kk =>
  h σ G H j e _ fun x Γ1 v G1 H1 q s1 j1 e1 r1 => ⟨(by show 1 ≤ 1000; decide), fun a ha => ⟨a, v, rfl, upd_same, fun dx hd ne => by
    have hd1 : H1 dx = none := by rw [upd_ne ne] at hd; exact hd
    refine ⟨rfl, dx, [(f, v)], upd_same, by rw [upd_ne ne, upd_same], hd1, C, rfl, fun a2 ha2 => ?_⟩
    rw [mk_eH ha] at ha2 ⊢
    have n2 : dx ≠ a2 := fun z => by rw [z, upd_same] at ha2; cases ha2
    have j2 := j1.new (o := .xd [(f, v)]) hd1
    exact kk _ Γ1 _ (upd (upd G1 dx (.xd [(f, v)])) a2 (ExD a2 C (some dx))) _ q (s1.trans ((Sp1.of (j1.sp hd1)).trans (Sp1.of (j2.sp ha2)))) (j2.new ha2) ((e1.new j1.toJ0 hd1).new j2.toJ0 ha2) (.exo upd_same fun dd z => by cases z; exact ⟨_, (upd_ne n2).trans upd_same⟩)⟩⟩
theorem den_mkF {Z : Cz} {Γ : List B} {te : TE} {C : Addr} {f : Str} {Q : D → List B → Prop} (T : XfC Z.K C) (hno : PySem.W.findIn Z.K (.ref C) f = some none) (h : Den Z te Γ Q) : Den Z (tXv Z.K (tMade (tMkO C (spXI C f) [] (tCons te tNil))) f) Γ Q := fun σ G H j e k kk =>
  h σ G H j e _ fun x Γ1 v G1 H1 q s1 j1 e1 r1 => ⟨(by show 1 ≤ 1000; decide), fun a ha => ⟨a, v, rfl, upd_same, fun dx hd ne => by
    have hd1 : H1 dx = none := by rw [upd_ne ne] at hd; exact hd
    refine ⟨rfl, dx, [(f, v)], upd_same, by rw [upd_ne ne, upd_same], hd1, C, rfl, fun a2 ha2 => ?_⟩
    rw [mk_eH ha] at ha2 ⊢
    have n2 : dx ≠ a2 := fun z => by rw [z, upd_same] at ha2; cases ha2
    have j2 := j1.new (o := .xd [(f, v)]) hd1
    refine ⟨a2, C, dx, [(f, v)], v, rfl, upd_same, ⟨T, hno⟩, (upd_ne n2).trans upd_same, by simp [List.lookup], ?_⟩
    have s3 : Sp1 Z σ Γ1 Γ1 G1 H1 (upd (upd G1 dx (.xd [(f, v)])) a2 (ExD a2 C (some dx))) (upd (upd H1 dx (.xd [(f, v)])) a2 (ExD a2 C (some dx))) := (Sp1.of (j1.sp hd1)).trans (Sp1.of (j2.sp ha2))
    exact kk _ Γ1 _ _ _ q (s1.trans s3) (j2.new ha2) ((e1.new j1.toJ0 hd1).new j2.toJ0 ha2) (r1.mono s3.ex)⟩⟩
def mkE (C : Addr) (f : Str) (x : X K) : X K := ⟨fun W => tMade (tMkO C (spXI C f) [] (tCons (x.te W) tNil)), fun Γ Q E => x.wp Γ (fun _ Γ1 => Q (.exo C) Γ1) E, fun Z Γ Q e h => den_mkE (x.ok Z Γ _ e h)⟩
def mkF (C : Addr) (f : Str) (x : X K) : X K := ⟨fun W => tXv K (tMade (tMkO C (spXI C f) [] (tCons (x.te W) tNil))) f, fun Γ Q E => (XfC K C ∧ PySem.W.findIn K (.ref C) f = some none) ∧ x.wp Γ Q E, fun Z Γ Q e h => by
  subst e; exact den_mkF h.1.1 h.1.2 (x.ok Z Γ _ rfl h.2)⟩
def mkE0 (C : Addr) : X K := ⟨fun _ => tMade fun _ H Q => Q (.ref C) none H, fun Γ Q _ => Q (.exo C) Γ, fun Z Γ Q e q => fun σ G H j e k kk =>
  ⟨C, rfl, fun a ha => kk _ Γ _ (upd G a (ExD a C none)) _ q (.of (j.sp ha)) (j.new ha) (e.new j.toJ0 ha) (.exo upd_same fun _ z => by cases z)⟩⟩
def isEW (K : PySem.W.Frag) (xs : List D) (Q : D → Prop) : Prop := match xs with
  | [.exo C, .cls C'] => KitE K C ∧ ∃ b, PySem.W.kitOne K (.ref C) (.ref C') = some b ∧ Q (.bl b)
  | [.exo C, .ty T] => KitE K C ∧ ∃ b, PySem.W.kitOne K (.ref C) (.type T) = some b ∧ Q (.bl b)
  | _ => False
def isE : Bi K := ⟨rIsE K, isEW K, fun Z xs Q e h => by
  subst e
  unfold isEW at h
  split at h
  · obtain ⟨T, b, hk, q⟩ := h
    intro G H us jj r kk fin
    cases r with
    | cons a c => cases c with
      | cons c d =>
        cases d; cases c
        cases a with
        | exo g1 g2 => exact ⟨_, _, _, _, _, b, rfl, jj.sub _ _ g1, fun dd z => (g2 dd z).imp fun _ q => jj.sub _ _ q, T, .own _, hk, fin _ _ G H q jj.enter (.bl _)⟩
  · obtain ⟨T, b, hk, q⟩ := h
    intro G H us jj r kk fin
    cases r with
    | cons a c => cases c with
      | cons c d =>
        cases d; cases c
        cases a with
        | exo g1 g2 => exact ⟨_, _, _, _, _, b, rfl, jj.sub _ _ g1, fun dd z => (g2 dd z).imp fun _ q => jj.sub _ _ q, T, .ty _, hk, fin _ _ G H q jj.enter (.bl _)⟩
  · exact h.elim⟩
def reprW (xs : List D) (Q : D → Prop) : Prop := match xs with
  | [.dic] => Q (.str (PyData.shown (.dict [])))
  | [x] => ShowOk x ∧ Q (.str (pyD x).shown)
  | _ => False
def reprD : Bi K := ⟨rReprD K, reprW, fun Z xs Q e h => by
  subst e
  unfold reprW at h
  split at h
  · intro G H us jj r kk fin
    cases r with
    | cons a c =>
      cases c
      cases a with
      | dic g => exact .inr ⟨_, rfl, jj.sub _ _ g, fin _ _ G H h jj.enter (.str _)⟩
  · intro G H us jj r kk fin
    exact .inl (cad_repr h.1 h.2 G H us jj r kk fin)
  · exact h.elim⟩
def lenSet (x : X K) : X K := ⟨fun W => tLenSetI K (x.te W), fun Γ Q E => x.wp Γ (fun d Γ1 => match d with
  | .lst ds => ∃ ns : List Int, ds = ns.map D.int ∧ ns.length < 64 ∧ ns.Nodup ∧ Q (.int ns.length) Γ1
  | _ => False) E, fun Z Γ Q e h => by
  subst e
  intro σ G H j en k kk
  refine x.ok Z Γ _ rfl h σ G H j en _ fun d Γ1 v G1 H1 q s1 j1 e1 r1 => ?_
  split at q
  · obtain ⟨ns, rfl, hl, hn, q⟩ := q
    cases r1 with
    | @lst l xs _ g1 rs =>
      have := ints_vs rs
      subst this
      exact ⟨l, ns, rfl, .inl (.inl (j1.sub _ _ g1)), hl, hn, kk _ Γ1 _ G1 H1 q s1 j1 e1 (.int _)⟩
  · exact q.elim⟩
theorem e_te_mkE (C : Addr) (f : Str) (x : X K) (W : WX) : (mkE C f x : X K).te W = tMade (tMkO C (spXI C f) [] (tCons (x.te W) tNil)) := rfl
theorem e_wp_mkE (C : Addr) (f : Str) (x : X K) (Γ : List B) (Q : D → List B → Prop) (E : EX) : (mkE C f x : X K).wp Γ Q E = x.wp Γ (fun _ Γ1 => Q (.exo C) Γ1) E := rfl
theorem e_te_mkF (C : Addr) (f : Str) (x : X K) (W : WX) : (mkF C f x : X K).te W = tXv K (tMade (tMkO C (spXI C f) [] (tCons (x.te W) tNil))) f := rfl
theorem e_wp_mkF (C : Addr) (f : Str) (x : X K) (Γ : List B) (Q : D → List B → Prop) (E : EX) : (mkF C f x : X K).wp Γ Q E = ((XfC K C ∧ PySem.W.findIn K (.ref C) f = some none) ∧ x.wp Γ Q E) := rfl
theorem e_te_mkE0 (C : Addr) (W : WX) : (mkE0 C : X K).te W = tMade fun _ H Q => Q (.ref C) none H := rfl
theorem e_wp_mkE0 (C : Addr) (Γ : List B) (Q : D → List B → Prop) (E : EX) : (mkE0 C : X K).wp Γ Q E = Q (.exo C) Γ := rfl
theorem e_r_isE : (isE : Bi K).r = rIsE K := rfl
theorem e_wp_isE : (isE : Bi K).wp = isEW K := rfl
theorem e_r_reprD : (reprD : Bi K).r = rReprD K := rfl
theorem e_wp_reprD : (reprD : Bi K).wp = reprW := rfl
theorem e_te_lenSet (x : X K) (W : WX) : (lenSet x : X K).te W = tLenSetI K (x.te W) := rfl
theorem e_wp_lenSet (x : X K) (Γ : List B) (Q : D → List B → Prop) (E : EX) : (lenSet x : X K).wp Γ Q E = x.wp Γ (fun d Γ1 => match d with
  | .lst ds => ∃ ns : List Int, ds = ns.map D.int ∧ ns.length < 64 ∧ ns.Nodup ∧ Q (.int ns.length) Γ1
  | _ => False) E := rfl
end
end Cc
namespace Cc
open PySem L2 Ab StX
section
variable {K : PySem.W.Frag}
theorem e_te_v (i : Nat) (W : WX) : (Cc.v i : X K).te W = (fun _ => tVar i : WX → TE) W := rfl
theorem e_wp_v (i : Nat) (Γ : List B) (Q : D → List B → Prop) (E : EX) : (Cc.v i : X K).wp Γ Q E = (fun Γ Q _ => varW Γ i Q : List B → (D → List B → Prop) → EX → Prop) Γ Q E := rfl
theorem e_te_vr (i : Nat) (W : WX) : (Cc.vr i : X K).te W = (fun _ => tVar i : WX → TE) W := rfl
theorem e_wp_vr (i : Nat) (Γ : List B) (Q : D → List B → Prop) (E : EX) : (Cc.vr i : X K).wp Γ Q E = (fun Γ Q _ => match get Γ i with
  | .d x => Q x Γ
  | _ => False : List B → (D → List B → Prop) → EX → Prop) Γ Q E := rfl
theorem e_te_wk (x : X K) (W : WX) : (Cc.wk x : X K).te W = (x.te : WX → TE) W := rfl
theorem e_wp_wk (x : X K) (Γ : List B) (Q : D → List B → Prop) (E : EX) : (Cc.wk x : X K).wp Γ Q E = (fun Γ Q E => x.wp Γ (fun d Γ' => Q (unx d) Γ') E : List B → (D → List B → Prop) → EX → Prop) Γ Q E := rfl
theorem e_te_int (i : Int) (W : WX) : (Cc.int i : X K).te W = (fun _ => tC (.int i) : WX → TE) W := rfl
theorem e_wp_int (i : Int) (Γ : List B) (Q : D → List B → Prop) (E : EX) : (Cc.int i : X K).wp Γ Q E = (fun Γ Q _ => Q (.int i) Γ : List B → (D → List B → Prop) → EX → Prop) Γ Q E := rfl
theorem e_te_bl (b : Bool) (W : WX) : (Cc.bl b : X K).te W = (fun _ => tC (.bl b) : WX → TE) W := rfl
theorem e_wp_bl (b : Bool) (Γ : List B) (Q : D → List B → Prop) (E : EX) : (Cc.bl b : X K).wp Γ Q E = (fun Γ Q _ => Q (.bl b) Γ : List B → (D → List B → Prop) → EX → Prop) Γ Q E := rfl
theorem e_te_non (W : WX) : (Cc.non : X K).te W = (fun _ => tC .non : WX → TE) W := rfl
theorem e_wp_non (Γ : List B) (Q : D → List B → Prop) (E : EX) : (Cc.non : X K).wp Γ Q E = (fun Γ Q _ => Q .non Γ : List B → (D → List B → Prop) → EX → Prop) Γ Q E := rfl
theorem e_te_str (x : Str) (W : WX) : (Cc.str x : X K).te W = (fun _ => tC (.str x) : WX → TE) W := rfl
theorem e_wp_str (x : Str) (Γ : List B) (Q : D → List B → Prop) (E : EX) : (Cc.str x : X K).wp Γ Q E = (fun Γ Q _ => Q (.str x) Γ : List B → (D → List B → Prop) → EX → Prop) Γ Q E := rfl
theorem e_te_ty (t : String) (W : WX) : (Cc.ty t : X K).te W = (fun _ => tC (.ty t) : WX → TE) W := rfl
theorem e_wp_ty (t : String) (Γ : List B) (Q : D → List B → Prop) (E : EX) : (Cc.ty t : X K).wp Γ Q E = (fun Γ Q _ => Q (.ty t) Γ : List B → (D → List B → Prop) → EX → Prop) Γ Q E := rfl
theorem e_te_cls (C : Addr) (W : WX) : (Cc.cls C : X K).te W = (fun _ => tC (.ref C) : WX → TE) W := rfl
theorem e_wp_cls (C : Addr) (Γ : List B) (Q : D → List B → Prop) (E : EX) : (Cc.cls C : X K).wp Γ Q E = (fun Γ Q _ => Q (.cls C) Γ : List B → (D → List B → Prop) → EX → Prop) Γ Q E := rfl
theorem e_te_con (a : Addr) (d : D) (W : WX) : (Cc.con a d : X K).te W = (fun _ => tC (.ref a) : WX → TE) W := rfl
theorem e_wp_con (a : Addr) (d : D) (Γ : List B) (Q : D → List B → Prop) (E : EX) : (Cc.con a d : X K).wp Γ Q E = (fun Γ Q _ => KRp K a d ∧ Q d Γ : List B → (D → List B → Prop) → EX → Prop) Γ Q E := rfl
theorem e_te_a0 (W : WX) : (Cc.a0 : A K).ta W = (fun _ => tNil : WX → TA) W := rfl
theorem e_wp_a0 (Γ : List B) (Q : List D → List B → Prop) (E : EX) : (Cc.a0 : A K).wp Γ Q E = (fun Γ Q _ => Q [] Γ : List B → (List D → List B → Prop) → EX → Prop) Γ Q E := rfl
theorem e_te_ac (x : X K) (r : A K) (W : WX) : (Cc.ac x r : A K).ta W = (fun W => tCons (x.te W) (r.ta W) : WX → TA) W := rfl
theorem e_wp_ac (x : X K) (r : A K) (Γ : List B) (Q : List D → List B → Prop) (E : EX) : (Cc.ac x r : A K).wp Γ Q E = (fun Γ Q E => x.wp Γ (fun d Γ1 => r.wp Γ1 (fun ds Γ2 => Q (d :: ds) Γ2) E) E : List B → (List D → List B → Prop) → EX → Prop) Γ Q E := rfl
theorem e_te_tup (r : A K) (W : WX) : (Cc.tup r : X K).te W = (fun W => tTup (r.ta W) : WX → TE) W := rfl
theorem e_wp_tup (r : A K) (Γ : List B) (Q : D → List B → Prop) (E : EX) : (Cc.tup r : X K).wp Γ Q E = (fun Γ Q E => r.wp Γ (fun ds Γ1 => ds.length ≤ 100000 ∧ Q (.tup ds) Γ1) E : List B → (D → List B → Prop) → EX → Prop) Γ Q E := rfl
theorem e_te_dic (W : WX) : (Cc.dic : X K).te W = (fun _ => tDNewK : WX → TE) W := rfl
theorem e_wp_dic (Γ : List B) (Q : D → List B → Prop) (E : EX) : (Cc.dic : X K).wp Γ Q E = (fun Γ Q _ => Q .dic Γ : List B → (D → List B → Prop) → EX → Prop) Γ Q E := rfl
theorem e_te_lst (r : A K) (W : WX) : (Cc.lst r : L K).te W = (fun W => tLst (r.ta W) : WX → TE) W := rfl
theorem e_wp_lst (r : A K) (Γ : List B) (Q : List D → List B → Prop) (E : EX) : (Cc.lst r : L K).wp Γ Q E = (fun Γ Q E => r.wp Γ (fun ds Γ1 => ds.length ≤ 100000 ∧ Q ds Γ1) E : List B → (List D → List B → Prop) → EX → Prop) Γ Q E := rfl
theorem e_te_ofL (l : L K) (W : WX) : (Cc.ofL l : X K).te W = (l.te : WX → TE) W := rfl
theorem e_wp_ofL (l : L K) (Γ : List B) (Q : D → List B → Prop) (E : EX) : (Cc.ofL l : X K).wp Γ Q E = (fun Γ Q E => l.wp Γ (fun ds Γ1 => Q (.lst ds) Γ1) E : List B → (D → List B → Prop) → EX → Prop) Γ Q E := rfl
theorem e_te_op (o : O2 K) (a b : X K) (W : WX) : (Cc.op o a b : X K).te W = (fun W => tOp o.r (a.te W) (b.te W) : WX → TE) W := rfl
theorem e_wp_op (o : O2 K) (a b : X K) (Γ : List B) (Q : D → List B → Prop) (E : EX) : (Cc.op o a b : X K).wp Γ Q E = (fun Γ Q E => a.wp Γ (fun x Γ1 => b.wp Γ1 (fun y Γ2 => o.wp x y fun d => Q d Γ2) E) E : List B → (D → List B → Prop) → EX → Prop) Γ Q E := rfl
theorem e_te_nt (a : X K) (W : WX) : (Cc.nt a : X K).te W = (fun W => tNotV (a.te W) : WX → TE) W := rfl
theorem e_wp_nt (a : X K) (Γ : List B) (Q : D → List B → Prop) (E : EX) : (Cc.nt a : X K).wp Γ Q E = (fun Γ Q E => a.wp Γ (fun x Γ1 => isBl x fun b => Q (.bl (!b)) Γ1) E : List B → (D → List B → Prop) → EX → Prop) Γ Q E := rfl
theorem e_te_and (a b : X K) (W : WX) : (Cc.and a b : X K).te W = (fun W => tAndV (a.te W) (b.te W) : WX → TE) W := rfl
theorem e_wp_and (a b : X K) (Γ : List B) (Q : D → List B → Prop) (E : EX) : (Cc.and a b : X K).wp Γ Q E = (fun Γ Q E => a.wp Γ (fun x Γ1 => isBl x fun c => if c = true then b.wp Γ1 Q E else Q (.bl false) Γ1) E : List B → (D → List B → Prop) → EX → Prop) Γ Q E := rfl
theorem e_te_or (a b : X K) (W : WX) : (Cc.or a b : X K).te W = (fun W => tOrV (a.te W) (b.te W) : WX → TE) W := rfl
theorem e_wp_or (a b : X K) (Γ : List B) (Q : D → List B → Prop) (E : EX) : (Cc.or a b : X K).wp Γ Q E = (fun Γ Q E => a.wp Γ (fun x Γ1 => isBl x fun c => if c = true then Q (.bl true) Γ1 else b.wp Γ1 Q E) E : List B → (D → List B → Prop) → EX → Prop) Γ Q E := rfl
theorem e_te_chain (o o' : O2 K) (a b c : X K) (W : WX) : (Cc.chain o o' a b c : X K).te W = (fun W => tChain o.r o'.r (a.te W) (b.te W) (c.te W) : WX → TE) W := rfl
theorem e_wp_chain (o o' : O2 K) (a b c : X K) (Γ : List B) (Q : D → List B → Prop) (E : EX) : (Cc.chain o o' a b c : X K).wp Γ Q E = (fun Γ Q E => a.wp Γ (fun x Γ1 => b.wp Γ1 (fun y Γ2 => o.wp x y fun d => isBl d fun k => if k = true then c.wp Γ2 (fun z Γ3 => o'.wp y z fun d => Q d Γ3) E else Q (.bl false) Γ2) E) E : List B → (D → List B → Prop) → EX → Prop) Γ Q E := rfl
theorem e_te_neg (a : X K) (W : WX) : (Cc.neg a : X K).te W = (fun W => tUn (rU fun i => .int (-i)) (a.te W) : WX → TE) W := rfl
theorem e_wp_neg (a : X K) (Γ : List B) (Q : D → List B → Prop) (E : EX) : (Cc.neg a : X K).wp Γ Q E = (fun Γ Q E => a.wp Γ (fun x Γ1 => match x with | .int i => Q (.int (-i)) Γ1 | _ => False) E : List B → (D → List B → Prop) → EX → Prop) Γ Q E := rfl
theorem e_te_isN (a : X K) (W : WX) : (Cc.isN a : X K).te W = (fun W => tIsN (a.te W) : WX → TE) W := rfl
theorem e_wp_isN (a : X K) (Γ : List B) (Q : D → List B → Prop) (E : EX) : (Cc.isN a : X K).wp Γ Q E = (fun Γ Q E => a.wp Γ (fun x Γ1 => Q (.bl (isNon x)) Γ1) E : List B → (D → List B → Prop) → EX → Prop) Γ Q E := rfl
theorem e_te_notN (a : X K) (W : WX) : (Cc.notN a : X K).te W = (fun W => tNotN (a.te W) : WX → TE) W := rfl
theorem e_wp_notN (a : X K) (Γ : List B) (Q : D → List B → Prop) (E : EX) : (Cc.notN a : X K).wp Γ Q E = (fun Γ Q E => a.wp Γ (fun x Γ1 => Q (.bl (!isNon x)) Γ1) E : List B → (D → List B → Prop) → EX → Prop) Γ Q E := rfl
theorem e_te_tst (a : X K) (W : WX) : (Cc.tst a : T K).tt W = (fun W => tTest (a.te W) : WX → TT) W := rfl
theorem e_wp_tst (a : X K) (Γ : List B) (Q : Bool → List B → Prop) (E : EX) : (Cc.tst a : T K).wp Γ Q E = (fun Γ Q E => a.wp Γ (fun x Γ1 => isBl x fun b => Q b Γ1) E : List B → (Bool → List B → Prop) → EX → Prop) Γ Q E := rfl
theorem e_te_tB' (a : X K) (W : WX) : (Cc.tB' a : T K).tt W = (fun W => tB (a.te W) : WX → TT) W := rfl
theorem e_wp_tB' (a : X K) (Γ : List B) (Q : Bool → List B → Prop) (E : EX) : (Cc.tB' a : T K).wp Γ Q E = (fun Γ Q E => a.wp Γ (fun x Γ1 => isBl x fun b => Q b Γ1) E : List B → (Bool → List B → Prop) → EX → Prop) Γ Q E := rfl
theorem e_te_tand (a b : T K) (W : WX) : (Cc.tand a b : T K).tt W = (fun W => tAnd (a.tt W) (b.tt W) : WX → TT) W := rfl
theorem e_wp_tand (a b : T K) (Γ : List B) (Q : Bool → List B → Prop) (E : EX) : (Cc.tand a b : T K).wp Γ Q E = (fun Γ Q E => a.wp Γ (fun c Γ1 => if c = true then b.wp Γ1 Q E else Q false Γ1) E : List B → (Bool → List B → Prop) → EX → Prop) Γ Q E := rfl
theorem e_te_tor (a b : T K) (W : WX) : (Cc.tor a b : T K).tt W = (fun W => tOr (a.tt W) (b.tt W) : WX → TT) W := rfl
theorem e_wp_tor (a b : T K) (Γ : List B) (Q : Bool → List B → Prop) (E : EX) : (Cc.tor a b : T K).wp Γ Q E = (fun Γ Q E => a.wp Γ (fun c Γ1 => if c = true then Q true Γ1 else b.wp Γ1 Q E) E : List B → (Bool → List B → Prop) → EX → Prop) Γ Q E := rfl
theorem e_te_tnot (a : T K) (W : WX) : (Cc.tnot a : T K).tt W = (fun W => tNot (a.tt W) : WX → TT) W := rfl
theorem e_wp_tnot (a : T K) (Γ : List B) (Q : Bool → List B → Prop) (E : EX) : (Cc.tnot a : T K).wp Γ Q E = (fun Γ Q E => a.wp Γ (fun c Γ1 => Q (!c) Γ1) E : List B → (Bool → List B → Prop) → EX → Prop) Γ Q E := rfl
theorem e_te_tyes (W : WX) : (Cc.tyes : T K).tt W = (fun _ => tYes : WX → TT) W := rfl
theorem e_wp_tyes (Γ : List B) (Q : Bool → List B → Prop) (E : EX) : (Cc.tyes : T K).wp Γ Q E = (fun Γ Q _ => Q true Γ : List B → (Bool → List B → Prop) → EX → Prop) Γ Q E := rfl
theorem e_te_ife (t : T K) (a b : X K) (W : WX) : (Cc.ife t a b : X K).te W = (fun W => tIf (t.tt W) (a.te W) (b.te W) : WX → TE) W := rfl
theorem e_wp_ife (t : T K) (a b : X K) (Γ : List B) (Q : D → List B → Prop) (E : EX) : (Cc.ife t a b : X K).wp Γ Q E = (fun Γ Q E => t.wp Γ (fun c Γ1 => if c = true then a.wp Γ1 Q E else b.wp Γ1 Q E) E : List B → (D → List B → Prop) → EX → Prop) Γ Q E := rfl
theorem e_te_bi (f : Bi K) (r : A K) (W : WX) : (Cc.bi f r : X K).te W = (fun W => tCB f.r (r.ta W) : WX → TE) W := rfl
theorem e_wp_bi (f : Bi K) (r : A K) (Γ : List B) (Q : D → List B → Prop) (E : EX) : (Cc.bi f r : X K).wp Γ Q E = (fun Γ Q E => r.wp Γ (fun ds Γ1 => f.wp ds fun d => Q d Γ1) E : List B → (D → List B → Prop) → EX → Prop) Γ Q E := rfl
theorem e_te_o0 (W : WX) : (Cc.o0 : O K).to W = (fun _ => tNoPart : WX → TO) W := rfl
theorem e_wp_o0 (Γ : List B) (Q : Option Int → List B → Prop) (E : EX) : (Cc.o0 : O K).wp Γ Q E = (fun Γ Q _ => Q none Γ : List B → (Option Int → List B → Prop) → EX → Prop) Γ Q E := rfl
theorem e_te_o1 (a : X K) (W : WX) : (Cc.o1 a : O K).to W = (fun W => tPart (a.te W) : WX → TO) W := rfl
theorem e_wp_o1 (a : X K) (Γ : List B) (Q : Option Int → List B → Prop) (E : EX) : (Cc.o1 a : O K).wp Γ Q E = (fun Γ Q E => a.wp Γ (fun x Γ1 => isI x fun i => Q (some i) Γ1) E : List B → (Option Int → List B → Prop) → EX → Prop) Γ Q E := rfl
theorem e_te_sl (a : X K) (lo hi : O K) (W : WX) : (Cc.sl a lo hi : X K).te W = (fun W => tSl (rSlG K) (a.te W) (lo.to W) (hi.to W) : WX → TE) W := rfl
theorem e_wp_sl (a : X K) (lo hi : O K) (Γ : List B) (Q : D → List B → Prop) (E : EX) : (Cc.sl a lo hi : X K).wp Γ Q E = (fun Γ Q E => a.wp Γ (fun x Γ1 => lo.wp Γ1 (fun l Γ2 => hi.wp Γ2 (fun h Γ3 => ∃ d, slR l h x = some d ∧ Q d Γ3) E) E) E : List B → (D → List B → Prop) → EX → Prop) Γ Q E := rfl
theorem e_te_fld (a : X K) (f : Str) (W : WX) : (Cc.fld a f : X K).te W = (fun W => tFld K (a.te W) f : WX → TE) W := rfl
theorem e_wp_fld (a : X K) (f : Str) (Γ : List B) (Q : D → List B → Prop) (E : EX) : (Cc.fld a f : X K).wp Γ Q E = (fun Γ Q E => a.wp Γ (fun x Γ1 => match x with | .obj C ns vs => Cls K C ∧ NoAttr K C f ∧ ∃ d, (ns.zip vs).lookup f = some d ∧ Q d Γ1 | _ => False) E : List B → (D → List B → Prop) → EX → Prop) Γ Q E := rfl
theorem e_g_nm (i : Nat) : (Cc.nm i : G K).g = gName i := rfl
theorem e_wp_nm (i : Nat) : (Cc.nm i : G K).wp = fun x Γ Q => Q (put Γ i (.d x)) := rfl
theorem e_vs_nm (i : Nat) : (Cc.nm i : G K).vs = [i] := rfl
theorem e_g_g0 : (Cc.g0 : Gs K).g = gNil := rfl
theorem e_wp_g0 : (Cc.g0 : Gs K).wp = fun xs Γ Q => xs = [] ∧ Q Γ := rfl
theorem e_vs_g0 : (Cc.g0 : Gs K).vs = [] := rfl
theorem e_g_gc (a : G K) (b : Gs K) : (Cc.gc a b : Gs K).g = gCons a.g b.g := rfl
theorem e_wp_gc (a : G K) (b : Gs K) : (Cc.gc a b : Gs K).wp = fun xs Γ Q => match xs with | x :: r => a.wp x Γ fun Γ1 => b.wp r Γ1 Q | [] => False := rfl
theorem e_vs_gc (a : G K) (b : Gs K) : (Cc.gc a b : Gs K).vs = a.vs ++ b.vs := rfl
theorem e_g_gt (n : Nat) (b : Gs K) : (Cc.gt n b : G K).g = gTup K n b.g := rfl
theorem e_wp_gt (n : Nat) (b : Gs K) : (Cc.gt n b : G K).wp = fun x Γ Q => match x with | .tup xs => xs.length = n ∧ b.wp xs Γ Q | _ => False := rfl
theorem e_vs_gt (n : Nat) (b : Gs K) : (Cc.gt n b : G K).vs = b.vs := rfl
theorem e_te_iseq (a : X K) (W : WX) : (Cc.iseq a : I K).wi W = (fun W => iSeq K (a.te W) : WX → TI) W := rfl
theorem e_wp_iseq (a : X K) (Γ : List B) (Q : List D → List B → Prop) (E : EX) : (Cc.iseq a : I K).wp Γ Q E = (fun Γ Q E => a.wp Γ (fun x Γ1 => isSq x fun xs => Q xs Γ1) E : List B → (List D → List B → Prop) → EX → Prop) Γ Q E := rfl
theorem e_te_irg1 (a : A K) (W : WX) : (Cc.irg1 a : I K).wi W = (fun W => iRng1 (a.ta W) : WX → TI) W := rfl
theorem e_wp_irg1 (a : A K) (Γ : List B) (Q : List D → List B → Prop) (E : EX) : (Cc.irg1 a : I K).wp Γ Q E = (fun Γ Q E => a.wp Γ (fun xs Γ1 => rg1W xs fun ys => Q ys Γ1) E : List B → (List D → List B → Prop) → EX → Prop) Γ Q E := rfl
theorem e_te_irg2 (a : A K) (W : WX) : (Cc.irg2 a : I K).wi W = (fun W => iRng2 (a.ta W) : WX → TI) W := rfl
theorem e_wp_irg2 (a : A K) (Γ : List B) (Q : List D → List B → Prop) (E : EX) : (Cc.irg2 a : I K).wp Γ Q E = (fun Γ Q E => a.wp Γ (fun xs Γ1 => rg2W xs fun ys => Q ys Γ1) E : List B → (List D → List B → Prop) → EX → Prop) Γ Q E := rfl
theorem e_te_ienum (a : A K) (W : WX) : (Cc.ienum a : I K).wi W = (fun W => iEnumA K (a.ta W) : WX → TI) W := rfl
theorem e_wp_ienum (a : A K) (Γ : List B) (Q : List D → List B → Prop) (E : EX) : (Cc.ienum a : I K).wp Γ Q E = (fun Γ Q E => a.wp Γ (fun xs Γ1 => en1W xs fun ys => Q ys Γ1) E : List B → (List D → List B → Prop) → EX → Prop) Γ Q E := rfl
theorem e_te_izip (a : A K) (W : WX) : (Cc.izip a : I K).wi W = (fun W => RZ.iZipA K (a.ta W) : WX → TI) W := rfl
theorem e_wp_izip (a : A K) (Γ : List B) (Q : List D → List B → Prop) (E : EX) : (Cc.izip a : I K).wp Γ Q E = (fun Γ Q E => a.wp Γ (fun xs Γ1 => zipW xs fun ys => Q ys Γ1) E : List B → (List D → List B → Prop) → EX → Prop) Γ Q E := rfl
theorem e_te_bor (x : X K) (W : WX) : (Cc.bor x : X K).te W = (x.te : WX → TE) W := rfl
theorem e_wp_bor (x : X K) (Γ : List B) (Q : D → List B → Prop) (E : EX) : (Cc.bor x : X K).wp Γ Q E = (fun Γ Q E => noOb Γ = true ∧ x.wp (frz Γ) (fun d Γ' => Γ' = frz Γ ∧ noL d = true ∧ Q d Γ) E : List B → (D → List B → Prop) → EX → Prop) Γ Q E := rfl
theorem e_te_borL (x : L K) (W : WX) : (Cc.borL x : L K).te W = (x.te : WX → TE) W := rfl
theorem e_wp_borL (x : L K) (Γ : List B) (Q : List D → List B → Prop) (E : EX) : (Cc.borL x : L K).wp Γ Q E = (fun Γ Q E => noOb Γ = true ∧ x.wp (frz Γ) (fun d Γ' => Γ' = frz Γ ∧ noLs d = true ∧ Q d Γ) E : List B → (List D → List B → Prop) → EX → Prop) Γ Q E := rfl
theorem e_te_app (i : Nat) (x : X K) (W : WX) : (Cc.app i x : X K).te W = (fun W => tBM K "list" rAppend (tVar i) (tCons (x.te W) tNil) : WX → TE) W := rfl
theorem e_wp_app (i : Nat) (x : X K) (Γ : List B) (Q : D → List B → Prop) (E : EX) : (Cc.app i x : X K).wp Γ Q E = (fun Γ Q E => isOwn (get Γ i) fun _ => x.wp Γ (fun d Γ1 => isOwn (get Γ1 i) fun xs => xs.length < 100000 ∧ Q .non (put Γ1 i (.own (xs ++ [d])))) E : List B → (D → List B → Prop) → EX → Prop) Γ Q E := rfl
theorem e_te_ext (i : Nat) (x : X K) (W : WX) : (Cc.ext i x : X K).te W = (fun W => tBM K "list" rExtend (tVar i) (tCons (x.te W) tNil) : WX → TE) W := rfl
theorem e_wp_ext (i : Nat) (x : X K) (Γ : List B) (Q : D → List B → Prop) (E : EX) : (Cc.ext i x : X K).wp Γ Q E = (fun Γ Q E => isOwn (get Γ i) fun _ => x.wp Γ (fun d Γ1 => isOwn (get Γ1 i) fun xs => match d with | .lst ys => xs.length + ys.length ≤ 100000 ∧ Q .non (put Γ1 i (.own (xs ++ ys))) | _ => False) E : List B → (D → List B → Prop) → EX → Prop) Γ Q E := rfl
theorem e_te_popAt (i : Nat) (x : X K) (W : WX) : (Cc.popAt i x : X K).te W = (fun W => tBM K "list" rPopAt (tVar i) (tCons (x.te W) tNil) : WX → TE) W := rfl
theorem e_wp_popAt (i : Nat) (x : X K) (Γ : List B) (Q : D → List B → Prop) (E : EX) : (Cc.popAt i x : X K).wp Γ Q E = (fun Γ Q E => isOwn (get Γ i) fun _ => x.wp Γ (fun d Γ1 => isOwn (get Γ1 i) fun xs => isI d fun n => ∃ y, 0 ≤ n ∧ xs[n.toNat]? = some y ∧ xs.length ≤ 100000 ∧ Q y (put Γ1 i (.own (xs.eraseIdx n.toNat)))) E : List B → (D → List B → Prop) → EX → Prop) Γ Q E := rfl
theorem e_te_lc (it : I K) (g : G K) (t : T K) (x : X K) (vs : List Nat) (hv : ∀ v ∈ g.vs, v ∈ vs) (W : WX) : (Cc.lc it g t x vs hv : L K).te W = (fun W => tLc (it.wi W) g.g (t.tt W0) (x.te W0) vs : WX → TE) W := rfl
theorem e_wp_lc (it : I K) (g : G K) (t : T K) (x : X K) (vs : List Nat) (hv : ∀ v ∈ g.vs, v ∈ vs) (Γ : List B) (Q : List D → List B → Prop) (E : EX) : (Cc.lc it g t x vs hv : L K).wp Γ Q E = (fun Γ Q E => it.wp Γ (fun ds Γ1 => noOwnAt Γ1 vs ∧ ds.length < 100000 ∧ lcS (elW g t x vs Γ1) ds [] fun acc => Q acc Γ1) E : List B → (List D → List B → Prop) → EX → Prop) Γ Q E := rfl
theorem e_te_dct1 (n : Int) (x : X K) (W : WX) : (Cc.dct1 n x : X K).te W = (fun W => tDisp [(tC (.int n), x.te W)] : WX → TE) W := rfl
theorem e_wp_dct1 (n : Int) (x : X K) (Γ : List B) (Q : D → List B → Prop) (E : EX) : (Cc.dct1 n x : X K).wp Γ Q E = (fun Γ Q E => x.wp Γ (fun d Γ1 => Q (.dct n d) Γ1) E : List B → (D → List B → Prop) → EX → Prop) Γ Q E := rfl
theorem e_te_call (n : Nat) (wp : WP) (r : A K) (W : WX) : (Cc.call n wp r : X K).te W = (fun W => tCallS (spW K n wp) (WE W) (r.ta W) : WX → TE) W := rfl
theorem e_wp_call (n : Nat) (wp : WP) (r : A K) (Γ : List B) (Q : D → List B → Prop) (E : EX) : (Cc.call n wp r : X K).wp Γ Q E = (fun Γ Q E => r.wp Γ (fun ds Γ1 => ds.length = n ∧ wp ds (fun d => Q d Γ1) fun er => E er Γ1) E : List B → (D → List B → Prop) → EX → Prop) Γ Q E := rfl
theorem e_te_call0 (wp : WP) (W : WX) : (Cc.call0 wp : X K).te W = (fun _ => tCall (spW K 0 wp) [] E0 tNil : WX → TE) W := rfl
theorem e_wp_call0 (wp : WP) (Γ : List B) (Q : D → List B → Prop) (E : EX) : (Cc.call0 wp : X K).wp Γ Q E = (fun Γ Q E => wp [] (fun d => Q d Γ) fun _ => False : List B → (D → List B → Prop) → EX → Prop) Γ Q E := rfl
theorem e_te_nil (W : WX) : (Cc.nil : S K).ts W = (fun _ => tNext : WX → TS) W := rfl
theorem e_wp_nil (Γ : List B) (P : Po) (E : EX) : (Cc.nil : S K).wp Γ P E = (fun Γ P _ => P.N Γ : List B → (Po) → EX → Prop) Γ P E := rfl
theorem e_te_seq (a b : S K) (W : WX) : (Cc.seq a b : S K).ts W = (fun W => tSeq (a.ts W) (b.ts W) : WX → TS) W := rfl
theorem e_wp_seq (a b : S K) (Γ : List B) (P : Po) (E : EX) : (Cc.seq a b : S K).wp Γ P E = (fun Γ P E => a.wp Γ ⟨fun Γ1 => b.wp Γ1 P E, P.R, P.Bk, P.Ct⟩ E : List B → (Po) → EX → Prop) Γ P E := rfl
theorem e_te_brk (W : WX) : (Cc.brk : S K).ts W = (fun _ => tBreak : WX → TS) W := rfl
theorem e_wp_brk (Γ : List B) (P : Po) (E : EX) : (Cc.brk : S K).wp Γ P E = (fun Γ P _ => P.Bk Γ : List B → (Po) → EX → Prop) Γ P E := rfl
theorem e_te_cnt (W : WX) : (Cc.cnt : S K).ts W = (fun _ => tCont : WX → TS) W := rfl
theorem e_wp_cnt (Γ : List B) (P : Po) (E : EX) : (Cc.cnt : S K).wp Γ P E = (fun Γ P _ => P.Ct Γ : List B → (Po) → EX → Prop) Γ P E := rfl
theorem e_te_drop (x : X K) (W : WX) : (Cc.drop x : S K).ts W = (fun W => tDrop (x.te W) : WX → TS) W := rfl
theorem e_wp_drop (x : X K) (Γ : List B) (P : Po) (E : EX) : (Cc.drop x : S K).wp Γ P E = (fun Γ P E => x.wp Γ (fun _ Γ1 => P.N Γ1) E : List B → (Po) → EX → Prop) Γ P E := rfl
theorem e_te_ret (x : X K) (W : WX) : (Cc.ret x : S K).ts W = (fun W => tRet (x.te W) : WX → TS) W := rfl
theorem e_wp_ret (x : X K) (Γ : List B) (P : Po) (E : EX) : (Cc.ret x : S K).wp Γ P E = (fun Γ P E => x.wp Γ (fun d _ => P.R d) E : List B → (Po) → EX → Prop) Γ P E := rfl
theorem e_te_retN (W : WX) : (Cc.retN : S K).ts W = (fun _ => tRetN : WX → TS) W := rfl
theorem e_wp_retN (Γ : List B) (P : Po) (E : EX) : (Cc.retN : S K).wp Γ P E = (fun Γ P _ => P.R .non : List B → (Po) → EX → Prop) Γ P E := rfl
theorem e_te_ifs (t : T K) (a b : S K) (W : WX) : (Cc.ifs t a b : S K).ts W = (fun W => tIfS (t.tt W) (a.ts W) (b.ts W) : WX → TS) W := rfl
theorem e_wp_ifs (t : T K) (a b : S K) (Γ : List B) (P : Po) (E : EX) : (Cc.ifs t a b : S K).wp Γ P E = (fun Γ P E => t.wp Γ (fun c Γ1 => if c = true then a.wp Γ1 P E else b.wp Γ1 P E) E : List B → (Po) → EX → Prop) Γ P E := rfl
theorem e_te_asg (x : X K) (g : G K) (W : WX) : (Cc.asg x g : S K).ts W = (fun W => tAsg (x.te W) g.g : WX → TS) W := rfl
theorem e_wp_asg (x : X K) (g : G K) (Γ : List B) (P : Po) (E : EX) : (Cc.asg x g : S K).wp Γ P E = (fun Γ P E => x.wp Γ (fun d Γ1 => g.wp d Γ1 P.N) E : List B → (Po) → EX → Prop) Γ P E := rfl
theorem e_te_own (i : Nat) (x : L K) (W : WX) : (Cc.own i x : S K).ts W = (fun W => tAsg (x.te W) (gName i) : WX → TS) W := rfl
theorem e_wp_own (i : Nat) (x : L K) (Γ : List B) (P : Po) (E : EX) : (Cc.own i x : S K).wp Γ P E = (fun Γ P E => x.wp Γ (fun xs Γ1 => P.N (put Γ1 i (.own xs))) E : List B → (Po) → EX → Prop) Γ P E := rfl
theorem e_te_par (i m : Nat) (r : A K) (W : WX) : (Cc.par i m r : S K).ts W = (fun W => tPar i m (r.ta W) : WX → TS) W := rfl
theorem e_wp_par (i m : Nat) (r : A K) (Γ : List B) (P : Po) (E : EX) : (Cc.par i m r : S K).wp Γ P E = (fun Γ P E => r.wp Γ (fun ds Γ1 => two ds fun x y => P.N (put (put Γ1 i (.d x)) m (.d y))) E : List B → (Po) → EX → Prop) Γ P E := rfl
theorem e_te_fors (it : I K) (g : G K) (s : S K) (W : WX) : (Cc.fors it g s : S K).ts W = (fun W => tFor (it.wi W) g.g (s.ts W) : WX → TS) W := rfl
theorem e_wp_fors (it : I K) (g : G K) (s : S K) (Γ : List B) (P : Po) (E : EX) : (Cc.fors it g s : S K).wp Γ P E = (fun Γ P E => it.wp Γ (fun ds Γ1 => forW g.wp (fun Γ P => s.wp Γ P E) P ds Γ1) E : List B → (Po) → EX → Prop) Γ P E := rfl
theorem e_te_whs (t : T K) (s : S K) (W : WX) : (Cc.whs t s : S K).ts W = (fun W => tWhile (t.tt W) (s.ts W) : WX → TS) W := rfl
theorem e_wp_whs (t : T K) (s : S K) (Γ : List B) (P : Po) (E : EX) : (Cc.whs t s : S K).wp Γ P E = (fun Γ P E => ∃ n, whW (fun Γ Q => t.wp Γ Q E) (fun Γ P => s.wp Γ P E) P n Γ : List B → (Po) → EX → Prop) Γ P E := rfl
theorem e_te_aug (i : Nat) (x : X K) (W : WX) : (Cc.aug i x : S K).ts W = (fun W => tAug i (x.te W) (ipI fun i j => i + j) : WX → TS) W := rfl
theorem e_wp_aug (i : Nat) (x : X K) (Γ : List B) (P : Po) (E : EX) : (Cc.aug i x : S K).wp Γ P E = (fun Γ P E => match get Γ i with | .d (.int a) => x.wp Γ (fun y Γ1 => isI y fun b => P.N (put Γ1 i (.d (.int (a + b))))) E | _ => False : List B → (Po) → EX → Prop) Γ P E := rfl
theorem e_te_setO (m : Nat) (x y : X K) (W : WX) : (Cc.setO m x y : S K).ts W = (fun W => tAsg (x.te W) (gSub (tVar m) (y.te W) rSetL) : WX → TS) W := rfl
theorem e_wp_setO (m : Nat) (x y : X K) (Γ : List B) (P : Po) (E : EX) : (Cc.setO m x y : S K).wp Γ P E = (fun Γ P E => isOwn (get Γ m) fun _ => x.wp Γ (fun d Γ1 => isOwn (get Γ1 m) fun _ => y.wp Γ1 (fun i Γ2 => isOwn (get Γ2 m) fun xs => isI i fun i => ∃ n, ixN xs.length i = some n ∧ P.N (put Γ2 m (.own (xs.set n d)))) E) E : List B → (Po) → EX → Prop) Γ P E := rfl
theorem e_te_rai (C : Addr) (f : Str) (x : X K) (W : WX) : (Cc.rai C f x : S K).ts W = (fun W _ σ H => tMkO C (spXI C f) [] (tCons (x.te W) tNil) σ H fun cls d H' => W cls d σ H' : WX → TS) W := rfl
theorem e_wp_rai (C : Addr) (f : Str) (x : X K) (Γ : List B) (P : Po) (E : EX) : (Cc.rai C f x : S K).wp Γ P E = (fun Γ P E => x.wp Γ (fun d Γ1 => E ⟨C, [f], [d]⟩ Γ1) E : List B → (Po) → EX → Prop) Γ P E := rfl
theorem e_te_rai0 (C : Addr) (W : WX) : (Cc.rai0 C : S K).ts W = (fun W => tRaise0 C W : WX → TS) W := rfl
theorem e_wp_rai0 (C : Addr) (Γ : List B) (P : Po) (E : EX) : (Cc.rai0 C : S K).wp Γ P E = (fun Γ P E => E ⟨C, [], []⟩ Γ : List B → (Po) → EX → Prop) Γ P E := rfl
theorem e_te_tryAs (c : Value) (i : Nat) (b : S K) (s : Addr → Value → Option Addr → S K) (W : WX) : (Cc.tryAs c i b s : S K).ts W = (fun W => tTry K c i (fun W' => b.ts W') (fun a cl d => (s a cl d).ts W) W : WX → TS) W := rfl
theorem e_wp_tryAs (c : Value) (i : Nat) (b : S K) (s : Addr → Value → Option Addr → S K) (Γ : List B) (P : Po) (E : EX) : (Cc.tryAs c i b s : S K).wp Γ P E = (fun Γ P E => b.wp Γ P fun er Γ' => ∃ k, PySem.W.exmOne K (.ref er.cls) c = some k ∧ if k = true then ∀ a d, (s a (.ref er.cls) d).wp (put Γ' i (.exc a (.ref er.cls) d er)) ⟨fun Γ2 => P.N (put Γ2 i .un), P.R, fun Γ2 => P.Bk (put Γ2 i .un), fun Γ2 => P.Ct (put Γ2 i .un)⟩ E else E er Γ' : List B → (Po) → EX → Prop) Γ P E := rfl
theorem e_r_add  : (Cc.add : O2 K).r = rPlus K := rfl
theorem e_wp_add  : (Cc.add : O2 K).wp = addW := rfl
theorem e_r_mul  : (Cc.mul : O2 K).r = rTimes K := rfl
theorem e_wp_mul  : (Cc.mul : O2 K).wp = mulW := rfl
theorem e_r_sub : (Cc.sub : O2 K).r = rI0 fun i j => .int (i - j) := rfl
theorem e_wp_sub : (Cc.sub : O2 K).wp = iiW fun i j => .int (i - j) := rfl
theorem e_r_lt : (Cc.lt : O2 K).r = rI0 fun i j => .bl (decide (i < j)) := rfl
theorem e_wp_lt : (Cc.lt : O2 K).wp = iiW fun i j => .bl (decide (i < j)) := rfl
theorem e_r_le : (Cc.le : O2 K).r = rI0 fun i j => .bl (decide (i ≤ j)) := rfl
theorem e_wp_le : (Cc.le : O2 K).wp = iiW fun i j => .bl (decide (i ≤ j)) := rfl
theorem e_r_gt' : (Cc.gt' : O2 K).r = rI0 fun i j => .bl (decide (j < i)) := rfl
theorem e_wp_gt' : (Cc.gt' : O2 K).wp = iiW fun i j => .bl (decide (j < i)) := rfl
theorem e_r_ge : (Cc.ge : O2 K).r = rI0 fun i j => .bl (decide (j ≤ i)) := rfl
theorem e_wp_ge : (Cc.ge : O2 K).wp = iiW fun i j => .bl (decide (j ≤ i)) := rfl
theorem e_r_fdiv : (Cc.fdiv : O2 K).r = rI CDivW fun i j => .int (i / j) := rfl
theorem e_wp_fdiv : (Cc.fdiv : O2 K).wp = ciW CDivW fun i j => .int (i / j) := rfl
theorem e_r_mod : (Cc.mod : O2 K).r = rI (fun _ j => 0 < j) fun i j => .int (i % j) := rfl
theorem e_wp_mod : (Cc.mod : O2 K).wp = ciW (fun _ j => 0 < j) fun i j => .int (i % j) := rfl
theorem e_r_pow : (Cc.pow : O2 K).r = rI CPow fun i j => .int (i ^ j.toNat) := rfl
theorem e_wp_pow : (Cc.pow : O2 K).wp = ciW CPow fun i j => .int (i ^ j.toNat) := rfl
theorem e_r_eq : (Cc.eq : O2 K).r = rEqq K := rfl
theorem e_wp_eq : (Cc.eq : O2 K).wp = fun x y Q => eqW x y fun b => Q (.bl b) := rfl
theorem e_r_ne : (Cc.ne : O2 K).r = rNeq K := rfl
theorem e_wp_ne : (Cc.ne : O2 K).wp = fun x y Q => eqW x y fun b => Q (.bl (!b)) := rfl
theorem e_r_inn : (Cc.inn : O2 K).r = rIn K false := rfl
theorem e_wp_inn : (Cc.inn : O2 K).wp = fun x y Q => inW x y fun b => Q (.bl b) := rfl
theorem e_r_nin : (Cc.nin : O2 K).r = rIn K true := rfl
theorem e_wp_nin : (Cc.nin : O2 K).wp = fun x y Q => inW x y fun b => Q (.bl (!b)) := rfl
theorem e_r_ix  : (Cc.ix : O2 K).r = rIx K := rfl
theorem e_wp_ix  : (Cc.ix : O2 K).wp = ixW := rfl
theorem e_r_len  : (Cc.len : Bi K).r = Ab.rLen K := rfl
theorem e_wp_len  : (Cc.len : Bi K).wp = lenW := rfl
theorem e_r_abs  : (Cc.abs : Bi K).r = rAbs := rfl
theorem e_wp_abs  : (Cc.abs : Bi K).wp = absW := rfl
theorem e_r_toInt  : (Cc.toInt : Bi K).r = rInt1 := rfl
theorem e_wp_toInt  : (Cc.toInt : Bi K).wp = intW := rfl
theorem e_r_gcd  : (Cc.gcd : Bi K).r = rGcd := rfl
theorem e_wp_gcd  : (Cc.gcd : Bi K).wp = gcdW := rfl
theorem e_r_all  : (Cc.all : Bi K).r = rAll K := rfl
theorem e_wp_all  : (Cc.all : Bi K).wp = allW fun bs => bs.all id := rfl
theorem e_r_any  : (Cc.any : Bi K).r = rAny K := rfl
theorem e_wp_any  : (Cc.any : Bi K).wp = allW fun bs => bs.any id := rfl
theorem e_r_sum  : (Cc.sum : Bi K).r = rSum K := rfl
theorem e_wp_sum  : (Cc.sum : Bi K).wp = sumW := rfl
theorem e_r_tuple  : (Cc.tuple : Bi K).r = rTupleOf K := rfl
theorem e_wp_tuple  : (Cc.tuple : Bi K).wp = tupleW := rfl
theorem e_r_isT  (T : String) (hT : T ∈ ["bool", "int", "str", "tuple", "list", "dict"]) : (Cc.isT T hT : Bi K).r = rIsi K := rfl
theorem e_wp_isT  (T : String) (hT : T ∈ ["bool", "int", "str", "tuple", "list", "dict"]) : (Cc.isT T hT : Bi K).wp = fun xs Q => match xs with
  | [x, .ty T'] => T' = T ∧ taggedD x = true ∧ Q (.bl (isTy T x))
  | _ => False := rfl
theorem e_r_isC  : (Cc.isC : Bi K).r = rIsi K := rfl
theorem e_wp_isC  : (Cc.isC : Bi K).wp = isCW K := rfl
theorem e_te_list (r : A K) (W : WX) : (Cc.list r : L K).te W = (fun W => tCB (rListOf K) (r.ta W) : WX → TE) W := rfl
theorem e_wp_list (r : A K) (Γ : List B) (Q : List D → List B → Prop) (E : EX) : (Cc.list r : L K).wp Γ Q E = (fun Γ Q E => r.wp Γ (fun ds Γ1 => sqW ds fun ys => Q ys Γ1) E : List B → (List D → List B → Prop) → EX → Prop) Γ Q E := rfl
theorem e_te_listRg (a : X K) (W : WX) : (Cc.listRg a : X K).te W = (fun W => tLstRg (tRg1 (a.te W)) : WX → TE) W := rfl
theorem e_wp_listRg (a : X K) (Γ : List B) (Q : D → List B → Prop) (E : EX) : (Cc.listRg a : X K).wp Γ Q E = (fun Γ Q E => a.wp Γ (fun x Γ1 => isI x fun n => 0 ≤ n ∧ n ≤ 100000 ∧ Q (.lst (((List.range n.toNat).map fun i => ((i : Nat) : Int)).map D.int)) Γ1) E : List B → (D → List B → Prop) → EX → Prop) Γ Q E := rfl
theorem e_te_addL (a b : X K) (W : WX) : (Cc.addL a b : L K).te W = (fun W => tOp (rPlus K) (a.te W) (b.te W) : WX → TE) W := rfl
theorem e_wp_addL (a b : X K) (Γ : List B) (Q : List D → List B → Prop) (E : EX) : (Cc.addL a b : L K).wp Γ Q E = (fun Γ Q E => a.wp Γ (fun x Γ1 => b.wp Γ1 (fun y Γ2 => match x, y with | .lst xs, .lst ys => xs.length + ys.length ≤ 100000 ∧ Q (xs ++ ys) Γ2 | _, _ => False) E) E : List B → (List D → List B → Prop) → EX → Prop) Γ Q E := rfl
theorem e_te_retO (i : Nat) (W : WX) : (Cc.retO i : S K).ts W = (fun _ => tRet (tVar i) : WX → TS) W := rfl
theorem e_wp_retO (i : Nat) (Γ : List B) (P : Po) (E : EX) : (Cc.retO i : S K).wp Γ P E = (fun Γ P _ => isOwn (get Γ i) fun xs => P.R.l xs : List B → (Po) → EX → Prop) Γ P E := rfl
theorem e_te_retL (x : L K) (W : WX) : (Cc.retL x : S K).ts W = (fun W => tRet (x.te W) : WX → TS) W := rfl
theorem e_wp_retL (x : L K) (Γ : List B) (P : Po) (E : EX) : (Cc.retL x : S K).wp Γ P E = (fun Γ P E => x.wp Γ (fun xs _ => P.R.l xs) E : List B → (Po) → EX → Prop) Γ P E := rfl
theorem e_te_callL (n : Nat) (wp : WPN) (r : A K) (W : WX) : (Cc.callL n wp r : L K).te W = (fun W => tCallS (spN K n wp) (WE W) (r.ta W) : WX → TE) W := rfl
theorem e_wp_callL (n : Nat) (wp : WPN) (r : A K) (Γ : List B) (Q : List D → List B → Prop) (E : EX) : (Cc.callL n wp r : L K).wp Γ Q E = (fun Γ Q E => r.wp Γ (fun ds Γ1 => ds.length = n ∧ wp ds (fun d => Q d Γ1) fun er => E er Γ1) E : List B → (List D → List B → Prop) → EX → Prop) Γ Q E := rfl
theorem e_te_mk (C : Addr) (n : Nat) (fs : List Str) (wi : WI) (r : A K) (W : WX) : (Cc.mk C n fs wi r : X K).te W = (fun W => tMakeS C (spIW K C n fs wi) (WE W) (r.ta W) : WX → TE) W := rfl
theorem e_wp_mk (C : Addr) (n : Nat) (fs : List Str) (wi : WI) (r : A K) (Γ : List B) (Q : D → List B → Prop) (E : EX) : (Cc.mk C n fs wi r : X K).wp Γ Q E = (fun Γ Q E => r.wp Γ (fun ds Γ1 => ds.length = n ∧ wi ds (fun us => Q (.obj C fs us) Γ1) fun er => E er Γ1) E : List B → (D → List B → Prop) → EX → Prop) Γ Q E := rfl
theorem e_te_setf (m : Nat) (f : Str) (x : X K) (W : WX) : (Cc.setf m f x : S K).ts W = (fun W => sFld K (tVar m) (x.te W) f : WX → TS) W := rfl
theorem e_wp_setf (m : Nat) (f : Str) (x : X K) (Γ : List B) (P : Po) (E : EX) : (Cc.setf m f x : S K).wp Γ P E = (fun Γ P E => match get Γ m with
  | .ob p C ns vs => Cls K C ∧ NoAttr K C f ∧ f ∉ ns ∧ ns.length < 1000 ∧ x.wp Γ (fun d Γ1 => Γ1 = Γ ∧ P.N (put Γ1 m (.ob p C (ns ++ [f]) (vs ++ [d])))) E
  | _ => False : List B → (Po) → EX → Prop) Γ P E := rfl
theorem e_te_mcountT (x y : X K) (W : WX) : (Cc.mcountT x y : X K).te W = (fun W => tCountX K (x.te W) (tCons (y.te W) tNil) : WX → TE) W := rfl
theorem e_wp_mcountT (x y : X K) (Γ : List B) (Q : D → List B → Prop) (E : EX) : (Cc.mcountT x y : X K).wp Γ Q E = (fun Γ Q E => x.wp Γ (fun d Γ1 => match d with
    | .xtup ys => ∃ bs : List Str, ys = bs.map D.str ∧ y.wp Γ1 (fun e Γ2 => match e with | .str b => Q (.int (bs.count b : Nat)) Γ2 | _ => False) E
    | _ => False) E : List B → (D → List B → Prop) → EX → Prop) Γ Q E := rfl
theorem e_r_tupleX : (Cc.tupleX : Bi K).r = rTupleX K := rfl
theorem e_wp_tupleX : (Cc.tupleX : Bi K).wp = fun xs Q => match xs with
    | [.lst ys] => Q (.xtup ys)
    | _ => False := rfl
theorem e_te_mcount (x y : X K) (W : WX) : (Cc.mcount x y : X K).te W = (fun W => tBM K "list" (rCountF K) (x.te W) (tCons (y.te W) tNil) : WX → TE) W := rfl
theorem e_wp_mcount (x y : X K) (Γ : List B) (Q : D → List B → Prop) (E : EX) : (Cc.mcount x y : X K).wp Γ Q E = (fun Γ Q E => x.wp Γ (fun d Γ1 => match d with
    | .lst ys => ∃ bs : List Bool, ys = bs.map D.bl ∧ y.wp Γ1 (fun e Γ2 => isBl e fun b => Q (.int (bs.count b : Nat)) Γ2) E
    | _ => False) E : List B → (D → List B → Prop) → EX → Prop) Γ Q E := rfl
theorem e_te_mindex (x y : X K) (W : WX) : (Cc.mindex x y : X K).te W = (fun W => tBM K "list" (rIndex K) (x.te W) (tCons (y.te W) tNil) : WX → TE) W := rfl
theorem e_wp_mindex (x y : X K) (Γ : List B) (Q : D → List B → Prop) (E : EX) : (Cc.mindex x y : X K).wp Γ Q E = (fun Γ Q E => x.wp Γ (fun d Γ1 => match d with
    | .lst ys => ∃ bs : List Bool, ys = bs.map D.bl ∧ y.wp Γ1 (fun e Γ2 => isBl e fun b => ∃ n : Nat, bs[n]? = some b ∧ (∀ m < n, bs[m]? ≠ some b) ∧ Q (.int (n : Nat)) Γ2) E
    | _ => False) E : List B → (D → List B → Prop) → EX → Prop) Γ Q E := rfl
theorem e_r_lcm : (Cc.lcm : Bi K).r = rLcm := rfl
theorem e_wp_lcm : (Cc.lcm : Bi K).wp = fun xs Q => match xs with
    | [.int i, .int j] => i.natAbs < 2 ^ 64 ∧ j.natAbs < 2 ^ 64 ∧ Q (.int (Nat.lcm i.natAbs j.natAbs : Nat))
    | _ => False := rfl
theorem e_te_astar (x : X K) (r : A K) (W : WX) : (Cc.astar x r : A K).ta W = (fun W => tStar K (x.te W) (r.ta W) : WX → TA) W := rfl
theorem e_wp_astar (x : X K) (r : A K) (Γ : List B) (Q : List D → List B → Prop) (E : EX) : (Cc.astar x r : A K).wp Γ Q E = (fun Γ Q E => x.wp Γ (fun d Γ1 => isSq d fun xs => r.wp Γ1 (fun ys Γ2 => Q (xs ++ ys) Γ2) E) E : List B → (List D → List B → Prop) → EX → Prop) Γ Q E := rfl
theorem e_te_revL (x : X K) (W : WX) : (Cc.revL x : L K).te W = (fun W => tRev K (x.te W) : WX → TE) W := rfl
theorem e_wp_revL (x : X K) (Γ : List B) (Q : List D → List B → Prop) (E : EX) : (Cc.revL x : L K).wp Γ Q E = (fun Γ Q E => x.wp Γ (fun d Γ1 => match d with | .lst xs => Q xs.reverse Γ1 | _ => False) E : List B → (List D → List B → Prop) → EX → Prop) Γ Q E := rfl
theorem e_te_lc2 (it : I K) (g : G K) (it1 : I K) (g1 : G K) (x : X K) (vs vs1 : List Nat) (hv : ∀ v ∈ g.vs, v ∈ vs) (hv1 : ∀ v ∈ g1.vs, v ∈ vs1) (sub : ∀ i ∈ vs1, i ∈ vs) (W : WX) : (Cc.lc2 it g it1 g1 x vs vs1 hv hv1 sub : L K).te W = (fun W => tLc2 (it.wi W) g.g tYes (it1.wi W0) g1.g tYes (x.te W0) vs vs1 : WX → TE) W := rfl
theorem e_wp_lc2 (it : I K) (g : G K) (it1 : I K) (g1 : G K) (x : X K) (vs vs1 : List Nat) (hv : ∀ v ∈ g.vs, v ∈ vs) (hv1 : ∀ v ∈ g1.vs, v ∈ vs1) (sub : ∀ i ∈ vs1, i ∈ vs) (Γ : List B) (Q : List D → List B → Prop) (E : EX) : (Cc.lc2 it g it1 g1 x vs vs1 hv hv1 sub : L K).wp Γ Q E = (fun Γ Q E => it.wp Γ (fun ds Γ1 => noOwnAt Γ1 vs ∧ ∃ (inner : D → List D) (f : D → D → D), (ds.flatMap fun d => (inner d).map (f d)).length < 100000 ∧
    (∀ d ∈ ds, g.wp d (wipeP Γ1 vs) fun Γ2 => wipeP Γ2 vs = wipeP Γ1 vs ∧ noOwnAt Γ2 vs ∧ it1.wp Γ2 (fun es Γ3 => Γ3 = Γ2 ∧ es = inner d ∧ ∀ e ∈ es, g1.wp e (wipeP Γ2 vs1) fun Γ4 => wipeP Γ4 vs1 = wipeP Γ2 vs1 ∧ noOwnAt Γ4 vs1 ∧ x.wp Γ4 (fun y Γ5 => Γ5 = Γ4 ∧ y = f d e) EX0) EX0) ∧
    Q (ds.flatMap fun d => (inner d).map (f d)) Γ1) E : List B → (List D → List B → Prop) → EX → Prop) Γ Q E := rfl
theorem e_te_callG (n : Nat) (P : FSpec) (r : A K) (W : WX) : (Cc.callG n P r : X K).te W = (fun W => tCall (spS K n P) [] (fun _ _ _ => False) (r.ta W) : WX → TE) W := rfl
theorem e_wp_callG (n : Nat) (P : FSpec) (r : A K) (Γ : List B) (Q : D → List B → Prop) (E : EX) : (Cc.callG n P r : X K).wp Γ Q E = (fun Γ Q E => r.wp Γ (fun ds Γ1 => ds.length = n ∧ P.P ds ∧ (∀ d, P.R ds d → Q d Γ1) ∧ ∀ er, ¬ P.X ds er) E : List B → (D → List B → Prop) → EX → Prop) Γ Q E := rfl
theorem e_te_isX (a : Addr) (cls : Value) (d : Option Addr) (i : Nat) (c : V) (u : Value) (k : ClsV c u) (W : WX) : (Cc.isX a cls d i c u k : X K).te W = (fun _ => tIsXA K a cls d (tCons (tVar i) (tCons (tC c) tNil)) : WX → TE) W := rfl
theorem e_wp_isX (a : Addr) (cls : Value) (d : Option Addr) (i : Nat) (c : V) (u : Value) (k : ClsV c u) (Γ : List B) (Q : D → List B → Prop) (E : EX) : (Cc.isX a cls d i c u k : X K).wp Γ Q E = (fun Γ Q _ => match get Γ i with
  | .exc a' cl' d' er => (a' = a ∧ cl' = cls ∧ d' = d) ∧ KitE K er.cls ∧ ∃ b, PySem.W.kitOne K (.ref er.cls) u = some b ∧ Q (.bl b) Γ
  | _ => False : List B → (D → List B → Prop) → EX → Prop) Γ Q E := rfl
theorem e_te_xf (a : Addr) (cls : Value) (d : Option Addr) (f : Str) (i : Nat) (W : WX) : (Cc.xf a cls d f i : X K).te W = (fun _ => tXfA K a cls d f (tVar i) : WX → TE) W := rfl
theorem e_wp_xf (a : Addr) (cls : Value) (d : Option Addr) (f : Str) (i : Nat) (Γ : List B) (Q : D → List B → Prop) (E : EX) : (Cc.xf a cls d f i : X K).wp Γ Q E = (fun Γ Q _ => match get Γ i with
  | .exc a' cl' d' er => (a' = a ∧ cl' = cls ∧ d' = d) ∧ (XfC K er.cls ∧ PySem.W.findIn K (.ref er.cls) f = some none) ∧ ∃ y, er.ns = [f] ∧ er.vs = [y] ∧ Q y Γ
  | _ => False : List B → (D → List B → Prop) → EX → Prop) Γ Q E := rfl
end
end Cc
namespace Cc
open PySem L2 Ab
theorem r_get0 {b : B} {r : List B} : Cc.get (b :: r) 0 = b := rfl
theorem r_getS {b : B} {r : List B} {n : Nat} : Cc.get (b :: r) (n + 1) = Cc.get r n := rfl
theorem r_put0 {b c : B} {r : List B} : Cc.put (b :: r) 0 c = c :: r := rfl
theorem r_putS {b c : B} {r : List B} {n : Nat} : Cc.put (b :: r) (n + 1) c = b :: Cc.put r n c := rfl
theorem r_var {Γ : List B} {i : Nat} {Q : D → List B → Prop} : Cc.varW Γ i Q = Cc.vB (Cc.get Γ i) Γ i Q := rfl
theorem r_vd {x : D} {Γ : List B} {i : Nat} {Q : D → List B → Prop} : Cc.vB (.d x) Γ i Q = Q x Γ := rfl
theorem r_vown {xs : List D} {Γ : List B} {i : Nat} {Q : D → List B → Prop} : Cc.vB (.own xs) Γ i Q = Q (.lst xs) (Cc.put Γ i (.d (.lst xs))) := rfl
theorem r_isBl {b : Bool} {Q : Bool → Prop} : Cc.isBl (.bl b) Q = Q b := rfl
theorem r_isI {i : Int} {Q : Int → Prop} : Cc.isI (.int i) Q = Q i := rfl
theorem r_isSqT {xs : List D} {Q : List D → Prop} : Cc.isSq (.tup xs) Q = Q xs := rfl
theorem r_isSqL {xs : List D} {Q : List D → Prop} : Cc.isSq (.lst xs) Q = Q xs := rfl
theorem r_two {x y : D} {Q : D → D → Prop} : Cc.two [x, y] Q = Q x y := rfl
theorem r_isOwn {xs : List D} {Q : List D → Prop} : Cc.isOwn (.own xs) Q = Q xs := rfl
theorem r_no {x : D} : (¬ IsOwn (some (.d x))) = True := by simp [IsOwn]
theorem r_noU : (¬ IsOwn (some .un)) = True := by simp [IsOwn]
theorem r_unxI {i : Int} : Cc.unx (.int i) = .int i := rfl
theorem r_unxT {xs : List D} : Cc.unx (.tup xs) = .tup xs := rfl
theorem r_unxX {xs : List D} : Cc.unx (.xtup xs) = .tup xs := rfl
theorem r_unxO {C : Addr} {ns : List Str} {vs : List D} : Cc.unx (.obj C ns vs) = .obj C ns vs := rfl
theorem r_addI {i j : Int} {Q : D → Prop} : Cc.addW (.int i) (.int j) Q = Q (.int (i + j)) := rfl
theorem r_addT {xs ys : List D} {Q : D → Prop} : Cc.addW (.tup xs) (.tup ys) Q = (xs.length + ys.length ≤ 100000 ∧ Q (.tup (xs ++ ys))) := rfl
theorem r_addL {xs ys : List D} {Q : D → Prop} : Cc.addW (.lst xs) (.lst ys) Q = (xs.length + ys.length ≤ 100000 ∧ Q (.lst (xs ++ ys))) := rfl
theorem r_mulI {i j : Int} {Q : D → Prop} : Cc.mulW (.int i) (.int j) Q = ((CMul i j ∨ CMulW i j) ∧ Q (.int (i * j))) := rfl
theorem r_mulT {xs : List D} {n : Int} {Q : D → Prop} : Cc.mulW (.tup xs) (.int n) Q = ((xs ≠ [] ∧ 2 ≤ n ∧ n ≤ 1000 ∧ xs.length ≤ 1000) ∧ Q (.tup (List.replicate n.toNat xs).flatten)) := rfl
theorem r_ii {f : Int → Int → D} {i j : Int} {Q : D → Prop} : Cc.iiW f (.int i) (.int j) Q = Q (f i j) := rfl
theorem r_ci {C : Int → Int → Prop} {f : Int → Int → D} {i j : Int} {Q : D → Prop} : Cc.ciW C f (.int i) (.int j) Q = (C i j ∧ Q (f i j)) := rfl
theorem r_eqI {i j : Int} {Q : Bool → Prop} : Cc.eqW (.int i) (.int j) Q = Q (decide (i = j)) := rfl
theorem r_eqS {i j : Str} {Q : Bool → Prop} : Cc.eqW (.str i) (.str j) Q = Q (decide (i = j)) := rfl
theorem r_eqB {i j : Bool} {Q : Bool → Prop} : Cc.eqW (.bl i) (.bl j) Q = Q (decide (i = j)) := rfl
theorem r_inT {i : Int} {xs : List D} {Q : Bool → Prop} : Cc.inW (.int i) (.tup xs) Q = ∃ js : List Int, xs = js.map D.int ∧ Q (decide (i ∈ js)) := rfl
theorem r_inL {i : Int} {xs : List D} {Q : Bool → Prop} : Cc.inW (.int i) (.lst xs) Q = ∃ js : List Int, xs = js.map D.int ∧ Q (decide (i ∈ js)) := rfl
theorem r_ixT {i : Int} {xs : List D} {Q : D → Prop} : Cc.ixW (.tup xs) (.int i) Q = ∃ d, atI xs i = some d ∧ Q d := rfl
theorem r_ixL {i : Int} {xs : List D} {Q : D → Prop} : Cc.ixW (.lst xs) (.int i) Q = ∃ d, atI xs i = some d ∧ Q d := rfl
theorem r_lenT {xs : List D} {Q : D → Prop} : Cc.lenW [.tup xs] Q = Q (.int xs.length) := rfl
theorem r_lenL {xs : List D} {Q : D → Prop} : Cc.lenW [.lst xs] Q = Q (.int xs.length) := rfl
theorem r_abs {i : Int} {Q : D → Prop} : Cc.absW [.int i] Q = Q (.int (if i < 0 then -i else i)) := rfl
theorem r_intI {i : Int} {Q : D → Prop} : Cc.intW [.int i] Q = Q (.int i) := rfl
theorem r_intB {b : Bool} {Q : D → Prop} : Cc.intW [.bl b] Q = Q (.int (if b then 1 else 0)) := rfl
theorem r_gcd {i j : Int} {Q : D → Prop} : Cc.gcdW [.int i, .int j] Q = Q (.int (Nat.gcd i.natAbs j.natAbs : Nat)) := rfl
theorem r_all {f : List Bool → Bool} {xs : List D} {Q : D → Prop} : Cc.allW f [.lst xs] Q = ∃ bs : List Bool, xs = bs.map D.bl ∧ Q (.bl (f bs)) := rfl
theorem r_sum {xs : List D} {Q : D → Prop} : Cc.sumW [.lst xs] Q = ∃ ns : List Int, xs = ns.map D.int ∧ Q (.int ns.sum) := rfl
theorem r_tupL {xs : List D} {Q : D → Prop} : Cc.tupleW [.lst xs] Q = Q (.tup xs) := rfl
theorem r_tupT {xs : List D} {Q : D → Prop} : Cc.tupleW [.tup xs] Q = Q (.tup xs) := rfl
theorem r_sqT {xs : List D} {Q : List D → Prop} : Cc.sqW [.tup xs] Q = Q xs := rfl
theorem r_sqL {xs : List D} {Q : List D → Prop} : Cc.sqW [.lst xs] Q = Q xs := rfl
theorem r_rg1 {n : Int} {Q : List D → Prop} : Cc.rg1W [.int n] Q = (n < 2 ^ 62 ∧ -(2 ^ 62) ≤ n ∧ Q (rgAt 0 n.toNat)) := rfl
theorem r_en {x : D} {Q : List D → Prop} : Cc.en1W [x] Q = Cc.isSq x fun ys => Q (enumD ys) := rfl
theorem r_zipT {us ys : List D} {Q : List D → Prop} : Cc.zipW [.tup us, .tup ys] Q = Q (zipD us ys) := rfl
theorem r_zipL {us ys : List D} {Q : List D → Prop} : Cc.zipW [.lst us, .lst ys] Q = Q (zipD us ys) := rfl
theorem r_slT {lo hi : Option Int} {xs : List D} {Q : D → Prop} : (∃ d, slR lo hi (.tup xs) = some d ∧ Q d) = Q (.tup (cutD xs lo hi)) := by simp [slR]
theorem r_slL {lo hi : Option Int} {xs : List D} {Q : D → Prop} : (∃ d, slR lo hi (.lst xs) = some d ∧ Q d) = Q (.lst (cutD xs lo hi)) := by simp [slR]
theorem r_noOwn0 {Γ : List B} : Cc.noOwnAt Γ [] = True := rfl
theorem r_noOwnS {Γ : List B} {i : Nat} {r : List Nat} : Cc.noOwnAt Γ (i :: r) = (¬ IsOwn (some (Cc.get Γ i)) ∧ Cc.noOwnAt Γ r) := rfl
theorem r_wip0 {Γ : List B} : Cc.wipeP Γ [] = Γ := rfl
theorem r_wipS {Γ : List B} {i : Nat} {r : List Nat} : Cc.wipeP Γ (i :: r) = Cc.put (Cc.wipeP Γ r) i .un := rfl
theorem r_start {ds : List D} {n : Nat} : Cc.startB ds n = ds.map B.d ++ List.replicate (n - ds.length) .un := rfl
theorem r_bodyN {K : PySem.W.Frag} {b : S K} {n : Nat} {ds : List D} {Q : List D → Prop} {E : Er → Prop} : Cc.bodyN b n ds Q E = b.wp (Cc.startB ds n) ⟨fun _ => False, ⟨fun _ => False, Q⟩, fun _ => False, fun _ => False⟩ fun er _ => E er := rfl
theorem r_body {K : PySem.W.Frag} {b : S K} {n : Nat} {ds : List D} {Q : D → Prop} {E : Er → Prop} : Cc.bodyW b n ds Q E = b.wp (Cc.startB ds n) ⟨fun _ => Q .non, ⟨Q, fun xs => Q (.lst xs)⟩, fun _ => False, fun _ => False⟩ fun er _ => E er := rfl
theorem r_lt {i j : Int} : (decide (i < j) = true) = (i < j) := by simp
theorem r_isN0 : Cc.isNon .non = true := rfl
theorem r_isNT {xs : List D} : Cc.isNon (.tup xs) = false := rfl
theorem r_isNI {i : Int} : Cc.isNon (.int i) = false := rfl
theorem r_isNL {xs : List D} : Cc.isNon (.lst xs) = false := rfl
end Cc
namespace Cc
open PySem L2 Ab
/-- a loop whose state keeps a shape -/
theorem forW_keep {g : D → List B → (List B → Prop) → Prop} {s : List B → Po → Prop} {P : Po} (I : List B → Prop) (he : ∀ Γ, I Γ → P.N Γ) : ∀ {ds : List D} {Γ : List B}, I Γ →
    (∀ d ∈ ds, ∀ Γ, I Γ → ∀ N : List B → Prop, (∀ Γ', I Γ' → N Γ') → g d Γ fun Γ1 => s Γ1 ⟨N, P.R, P.N, N⟩) → forW g s P ds Γ
  | [], Γ, h, _ => he Γ h
  | d :: ds, Γ, h, hs => hs d List.mem_cons_self Γ h _ fun Γ' h' => forW_keep I he h' fun d' m => hs d' (List.mem_cons_of_mem _ m)
/-- a loop by what is done and what is left of the items -/
theorem forW_by {g : D → List B → (List B → Prop) → Prop} {s : List B → Po → Prop} {P : Po} {ds : List D} {Γ : List B} (I : List D → List B → Prop) (h0 : I [] Γ) (he : ∀ Γ, I ds Γ → P.N Γ)
    (hs : ∀ pre d post, ds = pre ++ d :: post → ∀ Γ, I pre Γ → ∀ N : List B → Prop, (∀ Γ', I (pre ++ [d]) Γ' → N Γ') → g d Γ fun Γ1 => s Γ1 ⟨N, P.R, P.N, N⟩) : forW g s P ds Γ :=
  forW_inv (fun pre post Γ => pre ++ post = ds ∧ I pre Γ) (fun pre d post Γ ⟨e, h⟩ N hN => hs pre d post e.symm Γ h N fun Γ' h' => hN Γ' ⟨by simpa using e, h'⟩) (fun pre Γ ⟨e, h⟩ => he Γ (by simpa [← e] using h)) (pre := []) ⟨rfl, h0⟩
theorem mem_enum {xs : List D} {d : D} (h : d ∈ enumD xs) : ∃ (i : Nat) (x : D), xs[i]? = some x ∧ d = .tup [.int (i : Nat), x] := by
  obtain ⟨i, hi⟩ := List.mem_iff_getElem?.mp h
  obtain ⟨x, h1, h2⟩ := enumD_inv hi
  exact ⟨i, x, h1, h2⟩
theorem mem_zip {xs ys : List D} {d : D} (h : d ∈ zipD xs ys) : ∃ (i : Nat) (x y : D), xs[i]? = some x ∧ ys[i]? = some y ∧ d = .tup [x, y] := by
  obtain ⟨i, hi⟩ := List.mem_iff_getElem?.mp h
  obtain ⟨x, y, h1, h2, h3⟩ := zipD_inv hi
  exact ⟨i, x, y, h1, h2, h3⟩
theorem mem_rg {lo : Int} {n : Nat} {d : D} (h : d ∈ rgAt lo n) : ∃ i : Nat, i < n ∧ d = .int (lo + (i : Nat)) := by
  simp only [rgAt, List.mem_map, List.mem_range] at h
  obtain ⟨i, h1, h2⟩ := h
  exact ⟨i, h1, h2.symm⟩
theorem rg_len {lo : Int} {n : Nat} : (rgAt lo n).length = n := by simp [rgAt]
end Cc
namespace Cc
open PySem L2 Ab
def sqOf : D → List D
  | .tup xs => xs
  | .lst xs => xs
  | _ => []
def okB : B → Prop
  | .un => True
  | .d _ => True
  | _ => False
theorem okB_cases {b : B} (h : okB b) : b = .un ∨ ∃ x, b = .d x := by
  cases b with
  | un => exact .inl rfl
  | d x => exact .inr ⟨x, rfl⟩
  | _ => exact h.elim
theorem r_okU : okB .un = True := rfl
theorem r_okD {x : D} : okB (.d x) = True := rfl
theorem r_noOb0 : noOb [] = true := rfl
theorem r_noObU {r : List B} : noOb (.un :: r) = noOb r := rfl
theorem r_noObD {x : D} {r : List B} : noOb (.d x :: r) = noOb r := rfl
theorem r_noObO {xs : List D} {r : List B} : noOb (.own xs :: r) = noOb r := rfl
theorem r_frz0 : frz [] = [] := rfl
theorem r_frzU {r : List B} : frz (.un :: r) = .un :: frz r := rfl
theorem r_frzD {x : D} {r : List B} : frz (.d x :: r) = .d x :: frz r := rfl
theorem r_frzO {xs : List D} {r : List B} : frz (.own xs :: r) = .d (.lst xs) :: frz r := rfl
theorem r_noLi {i : Int} : noL (.int i) = true := rfl
theorem r_noLb {i : Bool} : noL (.bl i) = true := rfl
theorem r_noLs {i : Str} : noL (.str i) = true := rfl
theorem r_noLn : noL .non = true := rfl
theorem noLs_of {xs : List D} (h : ∀ x ∈ xs, noL x = true) : noLs xs = true := noLs_all.mpr h
theorem noL_tup {xs : List D} (h : ∀ x ∈ xs, noL x = true) : noL (.tup xs) = true := by unfold noL; exact noLs_all.mpr h
theorem noL_xtup {xs : List D} (h : ∀ x ∈ xs, noL x = true) : noL (.xtup xs) = true := by unfold noL; exact noLs_all.mpr h
end Cc
namespace Cc
open PySem L2 Ab
/-- a loop by the number of its turn -/
theorem forW_ix {g : D → List B → (List B → Prop) → Prop} {s : List B → Po → Prop} {P : Po} {ds : List D} {Γ : List B} (I : Nat → List B → Prop) (h0 : I 0 Γ) (he : ∀ Γ, I ds.length Γ → P.N Γ)
    (hs : ∀ i d, ds[i]? = some d → ∀ Γ, I i Γ → ∀ N : List B → Prop, (∀ Γ', I (i + 1) Γ' → N Γ') → g d Γ fun Γ1 => s Γ1 ⟨N, P.R, P.N, N⟩) : forW g s P ds Γ :=
  forW_by (fun pre Γ => I pre.length Γ) h0 he fun pre d post e Γ h N hN => hs pre.length d (by rw [e]; simp) Γ h N fun Γ' h' => hN Γ' (by simpa using h')
theorem map_get {α : Type} {f : α → D} {xs : List α} {i : Nat} {d : D} (h : (xs.map f)[i]? = some d) : ∃ x, xs[i]? = some x ∧ d = f x := by
  rw [List.getElem?_map] at h
  cases e : xs[i]? with
  | none => rw [e] at h; cases h
  | some x => rw [e] at h; cases h; exact ⟨x, rfl, rfl⟩
theorem take_succ_get {α : Type} {xs : List α} {i : Nat} {x : α} (h : xs[i]? = some x) : xs.take (i + 1) = xs.take i ++ [x] := take_snoc h
theorem okB_no {b : B} (h : okB b) : (¬ IsOwn (some b)) := by
  rcases okB_cases h with rfl | ⟨x, rfl⟩ <;> exact fun z => z
end Cc
namespace L2
open PySem PySem.Spec PyProof.Rows
def CDivM (_ j : Int) : Prop := j ≠ 0 ∧ j.natAbs.log2 < 9000
theorem op_fdivM {X : Cx} : OpR X (binaryOp .FloorDiv) (rI CDivM fun i j => .int (i.fdiv j)) := opI fun i j _ _ _ _ _ hc q => floordiv_int hc.1 q (.inl (PyProof.noPylong_of_log2 hc.2))
end L2
namespace Cc
open PySem L2 Ab
section
variable {K : PySem.W.Frag}
def fdivM : O2 K := ⟨rI CDivM fun i j => .int (i.fdiv j), ciW CDivM fun i j => .int (i.fdiv j), fun Z x y Q e h => by obtain ⟨i, j, rfl, rfl, c, q⟩ := ciW_ex h; exact opd_ic (C := CDivM) (f := fun i j => i.fdiv j) c q⟩
theorem e_r_fdivM : (fdivM : O2 K).r = rI CDivM fun i j => .int (i.fdiv j) := rfl
theorem e_wp_fdivM : (fdivM : O2 K).wp = ciW CDivM fun i j => .int (i.fdiv j) := rfl
end
end Cc
namespace Cc
open PySem L2 Ab
structure Sho (x : D) (k n : Nat) : Prop where
  pl : plainD x = true
  sh : (pyD x).showable = true
  nd : (pyD x).hasDict = false
  dp : (pyD x).depth ≤ k
  ln : (pyD x).shown.length ≤ n
theorem Sho.ok {x : D} {k n : Nat} (h : Sho x k n) (hk : k ≤ 60) (hn : n ≤ 2 ^ 24) : ShowOk x := ⟨h.pl, h.sh, h.nd, Nat.le_trans h.dp hk, Nat.le_trans h.ln (by rw [sizeLine_eq]; exact hn)⟩
theorem Sho.up {x : D} {k n k' n' : Nat} (h : Sho x k n) (hk : k ≤ k') (hn : n ≤ n') : Sho x k' n' := ⟨h.pl, h.sh, h.nd, Nat.le_trans h.dp hk, Nat.le_trans h.ln hn⟩
theorem Sho.all {k n : Nat} : ∀ {xs : List D}, (∀ x ∈ xs, Sho x k n) → plainsD xs = true ∧ PyData.showableAll (pysD xs) = true ∧ PyData.hasDictAll (pysD xs) = false ∧ PyData.depthAll (pysD xs) ≤ k ∧ piled (PyData.shownAll (pysD xs)) ≤ xs.length * (n + 2) ∧ (PyData.shownAll (pysD xs)).length = xs.length
  | [], _ => ⟨rfl, rfl, rfl, Nat.zero_le _, by simp [pysD, PyData.shownAll, piled], rfl⟩
  | x :: xs, h => by
    obtain ⟨h1, h2, h3, h4, h5, h6⟩ := Sho.all fun y m => h y (List.mem_cons_of_mem _ m)
    have hx := h x List.mem_cons_self
    refine ⟨by simp [plainsD, hx.pl, h1], by simp [pysD, PyData.showableAll, hx.sh, h2], by simp [pysD, PyData.hasDictAll, hx.nd, h3], ?_, ?_, by simp [pysD, PyData.shownAll, h6]⟩
    · simp only [pysD, PyData.depthAll]
      exact Nat.max_le.mpr ⟨hx.dp, h4⟩
    · simp only [pysD, PyData.shownAll, piled_cons, List.length_cons]
      have := hx.ln
      rw [Nat.add_mul, Nat.one_mul]
      omega
theorem tupleText_le (ts : List Str) : (tupleText ts).length ≤ piled ts + 3 := by
  unfold tupleText
  rw [strLen_append, strLen_append]
  have e1 : ((("(" : String) : Str)).length = 1 := rfl
  have e2 : (((if ts.length == 1 then ",)" else ")" : String) : Str)).length ≤ 2 := by
    split
    · exact Nat.le_of_eq rfl
    · show 1 ≤ 2; decide
  have e3 : (Str.join ", " ts).length ≤ piled ts := by
    cases ts with
    | nil => exact Nat.le_of_eq rfl
    | cons t ts =>
      have := join_length_add (t :: ts) (by simp)
      omega
  omega
theorem listText_le (ts : List Str) : (listText ts).length ≤ piled ts + 3 := by
  unfold listText
  rw [strLen_append]
  have e1 : ((("]" : String) : Str)).length = 1 := rfl
  have e0 : ((("[" : String) : Str)).length = 1 := rfl
  cases ts with
  | nil => exact Nat.le_trans (Nat.le_of_eq rfl) (Nat.le_add_left _ _)
  | cons t ts =>
    have e2 : textFrom 0 (("[" : String) : Str) (t :: ts) = textFrom 1 ((("[" : String) : Str) ++ (((if 0 > 0 then ", " else "" : String)) : Str) ++ t) ts := rfl
    rw [e2, textFrom_length_pos _ _ _ (by decide), strLen_append, strLen_append, piled_cons]
    have e4 : ((((if 0 > 0 then ", " else "" : String)) : Str)).length = 0 := rfl
    omega
theorem Sho.tup {xs : List D} {k n : Nat} (h : ∀ x ∈ xs, Sho x k n) : Sho (.tup xs) (k + 1) (xs.length * (n + 2) + 3) := by
  obtain ⟨h1, h2, h3, h4, h5, h6⟩ := Sho.all h
  refine ⟨by simpa [plainD] using h1, by simpa [pyD, PyData.showable] using h2, by simpa [pyD, PyData.hasDict] using h3, ?_, ?_⟩
  · simp only [pyD, PyData.depth]; omega
  · simp only [pyD, PyData.shown]
    have := tupleText_le (PyData.shownAll (pysD xs))
    omega
theorem Sho.lst {xs : List D} {k n : Nat} (h : ∀ x ∈ xs, Sho x k n) : Sho (.lst xs) (k + 1) (xs.length * (n + 2) + 3) := by
  obtain ⟨h1, h2, h3, h4, h5, h6⟩ := Sho.all h
  refine ⟨by simpa [plainD] using h1, by simpa [pyD, PyData.showable] using h2, by simpa [pyD, PyData.hasDict] using h3, ?_, ?_⟩
  · simp only [pyD, PyData.depth]; omega
  · simp only [pyD, PyData.shown]
    have := listText_le (PyData.shownAll (pysD xs))
    omega
theorem Sho.str {x : Str} {n : Nat} (h : (reprText x).length ≤ n) : Sho (.str x) 0 n := ⟨rfl, rfl, rfl, Nat.le_refl _, by simpa [pyD, PyData.shown] using h⟩
theorem Sho.int {i : Int} {k : Nat} (hk : 0 < k) (h : i.natAbs.log2 < k) (h2 : k ≤ 1920) : Sho (.int i) 0 (k + 1) := by
  refine ⟨rfl, by simp only [pyD, PyData.showable, decide_eq_true_eq]; omega, rfl, Nat.le_refl _, ?_⟩
  simp only [pyD, PyData.shown]
  have e := int_text_length_le hk h
  rw [ofString_length]; exact e
theorem Sho.bl {b : Bool} : Sho (.bl b) 0 5 := by cases b <;> exact ⟨rfl, rfl, rfl, Nat.le_refl _, by decide⟩
theorem Sho.non : Sho .non 0 5 := ⟨rfl, rfl, rfl, Nat.le_refl _, by decide⟩
end Cc
namespace Cc
open PySem L2 Ab PyProof.Rows
/-- an error class of the program -/
structure EC (K : PySem.W.Frag) (E C : Addr) : Prop where
  x : ∃ nm q N bs sn sub ab col dd k0 k1 k2 k3 k5, K.lookup C = some (excClassObj nm q C N bs [.ref E, .type "ValueError", .type "Exception", .type "BaseException", .type "object"] true sn sub ab col dd k0 k1 k2 k3 k5 "ValueError.__new__")
  sa : PySem.W.findIn K (.ref C) "__setattr__" = some (some (.builtin "object.__setattr__"))
  ty : PySem.W.typeIn K (.ref C) = some (.type "type")
  kp : PySem.W.keepIn K (.ref C) = true
  ga : PySem.W.findIn K (.ref C) "__getattribute__" = some (some (.builtin "BaseException.__getattribute__"))
  gg : PySem.W.findIn K (.ref C) "__getattr__" = some none
  hd : PySem.W.hasDictIn K C = true
  ha : PySem.W.findIn K (.ref C) "__class__" = some (some (.builtin "object.__class__"))
theorem ec_mk {K : PySem.W.Frag} {E C : Addr} {nm q : Str} {N : Addr} {bs : List Value} {sn : List Str} {sub : List Value} {ab : Bool} {col : Option Bool} {dd : Option Addr} {k0 k1 k2 k3 k5 : Option Value} (x : K.lookup C = some (excClassObj nm q C N bs [.ref E, .type "ValueError", .type "Exception", .type "BaseException", .type "object"] true sn sub ab col dd k0 k1 k2 k3 k5 "ValueError.__new__"))
    (sa : PySem.W.findIn K (.ref C) "__setattr__" = some (some (.builtin "object.__setattr__"))) (ty : PySem.W.typeIn K (.ref C) = some (.type "type")) (kp : PySem.W.keepIn K (.ref C) = true) (ga : PySem.W.findIn K (.ref C) "__getattribute__" = some (some (.builtin "BaseException.__getattribute__")))
    (gg : PySem.W.findIn K (.ref C) "__getattr__" = some none) (hd : PySem.W.hasDictIn K C = true) (ha : PySem.W.findIn K (.ref C) "__class__" = some (some (.builtin "object.__class__"))) : EC K E C := ⟨⟨_, _, _, _, _, _, _, _, _, _, _, _, _, _, x⟩, sa, ty, kp, ga, gg, hd, ha⟩
section
variable {K : PySem.W.Frag} {E C : Addr}
theorem EC.cls (e : EC K E C) : ∃ cd, PySem.W.clsIn K C = some cd ∧ cd.mro = [.ref C, .ref E, .type "ValueError", .type "Exception", .type "BaseException", .type "object"] := by
  obtain ⟨nm, q, N, bs, sn, sub, ab, col, dd, k0, k1, k2, k3, k5, x⟩ := e.x
  unfold PySem.W.clsIn
  rw [x]
  exact ⟨_, rfl, rfl⟩
theorem EC.mro (e : EC K E C) (u : Value) : PySem.W.mroIn K C u = some ([Value.ref C, .ref E, .type "ValueError", .type "Exception", .type "BaseException", .type "object"].contains u) := by
  obtain ⟨cd, h1, h2⟩ := e.cls
  unfold PySem.W.mroIn
  rw [h1, Option.bind_some, h2]
  rfl
theorem EC.sub (e : EC K E C) (u : Value) : PySem.W.subIn K (.ref C) u = some ([Value.ref C, .ref E, .type "ValueError", .type "Exception", .type "BaseException", .type "object"].contains u) := e.mro u
theorem EC.isC (e : EC K E C) : PySem.W.isClsIn K C = true := by
  obtain ⟨cd, h1, _⟩ := e.cls
  unfold PySem.W.isClsIn
  rw [h1]; rfl
theorem EC.oex (e : EC K E C) : OexC K C := by
  obtain ⟨nm, q, N, bs, sn, sub, ab, col, dd, k0, k1, k2, k3, k5, x⟩ := e.x
  exact ⟨⟨nm, q, N, bs, _, sn, sub, ab, col, dd, k0, k1, k2, k3, k5, x, rfl⟩, e.sa, by rw [e.sub]; simp [List.contains_cons], e.ty, e.kp⟩
theorem EC.kit (e : EC K E C) (hn : PySem.W.specialIn K (.builtin "object.__class__") "__get__" = some (some (.builtin "getset_descriptor.__get__"))) (tk : PySem.W.takesIn K (.builtin "object.__class__") = some true) : KitE K C :=
  ⟨e.isC, ⟨e.ga, e.gg, by rw [e.sub]; simp [List.contains_cons], e.hd⟩, e.ha, hn, tk, by rw [e.mro]; simp [List.contains_cons]⟩
theorem EC.one {C' : Addr} (e : EC K E C) (e' : EC K E C') (n : C' ≠ E) : PySem.W.kitOne K (.ref C) (.ref C') = some (decide (C' = C)) := by
  by_cases h : C' = C
  · subst h
    unfold PySem.W.kitOne
    simp
  · refine kitOne_other ?_ (kitCls_ref e'.isC e'.ty ?_)
    · simpa using fun z => h z.symm
    · rw [e.sub]
      simp [List.contains_cons, h, n]
end
/-- an own __init__ that says super().__init__() alone -/
structure PIn (P : Program) (K : PySem.W.Frag) (C : Addr) (st : Stmt) (qual : Str) : Prop where
  ex : ∃ (f : Addr) (oc : Value) (od : Option Addr) (kV doc pm : Value) (an : Option Addr) (ct : Value) (osl : Array (Option Value)) (cda cc : Addr) (ccl : Value) (cdd : Option Addr) (vs : Array Value) (ccs : Array (Option Value)) (file : Str) (tf : Tok) (cl : Value) (cld : Option Addr) (csl : Array (Option Value)),
    PySem.W.findIn K (.ref C) "__init__" = some (some (.ref f)) ∧ PySem.W.typeIn K (.ref f) = some (.type "function") ∧
    K.lookup f = some ⟨oc, od, .func (PySem.W.fnX "__init__" qual (defArgs st) (defBody st) (defScope st) [("__class__", cc)] .none kV doc pm an (.ref cda) ct), osl⟩ ∧ PySem.W.codeIn K (.ref cda) qual = true ∧
    K.lookup cda = some ⟨ccl, cdd, .fields vs, ccs⟩ ∧ vs[2]? = some (.str file tf) ∧ ((P.main.file : Str) == file) = true ∧ K.lookup cc = some ⟨cl, cld, .cell (some (.ref C)), csl⟩
  meth : PySem.W.ks_superIn K C C "__init__" = some (some (.builtin "ValueError.__init__"))
  ini : PySem.W.excInitIn K C veMro "ValueError.__new__" = true
theorem pin_mk {P : Program} {K : PySem.W.Frag} {C : Addr} {st : Stmt} {qual : Str} {f : Addr} {oc : Value} {od : Option Addr} {kV doc pm : Value} {an : Option Addr} {ct : Value} {osl : Array (Option Value)} {cda cc : Addr} {ccl : Value} {cdd : Option Addr} {vs : Array Value} {ccs : Array (Option Value)} {file : Str} {tf : Tok} {cl : Value} {cld : Option Addr} {csl : Array (Option Value)}
    (h1 : PySem.W.findIn K (.ref C) "__init__" = some (some (.ref f))) (h2 : PySem.W.typeIn K (.ref f) = some (.type "function"))
    (h3 : K.lookup f = some ⟨oc, od, .func (PySem.W.fnX "__init__" qual (defArgs st) (defBody st) (defScope st) [("__class__", cc)] .none kV doc pm an (.ref cda) ct), osl⟩) (h4 : PySem.W.codeIn K (.ref cda) qual = true)
    (h5 : K.lookup cda = some ⟨ccl, cdd, .fields vs, ccs⟩) (h6 : vs[2]? = some (.str file tf)) (h7 : ((P.main.file : Str) == file) = true) (h8 : K.lookup cc = some ⟨cl, cld, .cell (some (.ref C)), csl⟩)
    (me : PySem.W.ks_superIn K C C "__init__" = some (some (.builtin "ValueError.__init__"))) (ini : PySem.W.excInitIn K C veMro "ValueError.__new__" = true) : PIn P K C st qual :=
  ⟨⟨f, oc, od, kV, doc, pm, an, ct, osl, cda, cc, ccl, cdd, vs, ccs, file, tf, cl, cld, csl, h1, h2, h3, h4, h5, h6, h7, h8⟩, me, ini⟩
/-- an own __init__ with one field -/
def EIn (K : PySem.W.Frag) (C : Addr) (st : Stmt) (qual : Str) : Prop := ∃ (f : Addr) (fd : FuncData), PySem.W.findIn K (.ref C) "__init__" = some (some (.ref f)) ∧ PySem.W.typeIn K (.ref f) = some (.type "function") ∧ Fun K "__init__" qual st f fd
theorem ein_mk {K : PySem.W.Frag} {C : Addr} {st : Stmt} {qual : Str} {f : Addr} {oc : Value} {od an : Option Addr} {osl : Array (Option Value)} {kV doc pm cdv ct : Value} (h1 : PySem.W.findIn K (.ref C) "__init__" = some (some (.ref f))) (h2 : PySem.W.typeIn K (.ref f) = some (.type "function"))
    (l : K.lookup f = some ⟨oc, od, .func (PySem.W.fnOf "__init__" qual (defArgs st) (defBody st) (defScope st) .none kV doc pm an cdv ct), osl⟩) (c : PySem.W.codeIn K cdv qual = true) (k : PySem.W.keepIn K (.ref f) = true) : EIn K C st qual := ⟨f, _, h1, h2, fun_mk l c k⟩
/-- a tuple of ints of the written part -/
theorem krp_two {K : PySem.W.Frag} {a : Addr} {od : Option Addr} {its : Array Value} {n : Nat} {sl : Array (Option Value)} {ns : List Int} (l : K.lookup a = some ⟨.type "tuple", od, .seq its n, sl⟩) (hz : its.size ≤ 1000) (iv : Vals (ns.map V.int) its.toList) : KRp K a (.tup (ns.map D.int)) := krp_ints ns l rfl rfl hz iv
end Cc
namespace My
open PySem L2 Ab
def top (i : Nat) : Stmt := PySem.Challenge.pw_oncetwice_k07_whole_stages_and_lacks.main.body.getD i (.Pass ⟨0, 0, 0, 0⟩)
abbrev s_BadWish_init : Stmt := inClass (top 3) 0
abbrev N_BadWish_init : List Str := ["self", "part"]
theorem sc_BadWish_init : FnScope N_BadWish_init ["self", "part"] (defScope s_BadWish_init) := ⟨rfl, rfl, rfl, by decide +kernel, rfl, by decide +kernel, by decide +kernel⟩
abbrev s_NoOrder_init : Stmt := inClass (top 4) 0
abbrev s_NoMoment_init : Stmt := inClass (top 5) 0
abbrev s_is_whole : Stmt := top 7
abbrev N_is_whole : List Str := ["thing"]
theorem sc_is_whole : FnScope N_is_whole ["thing"] (defScope s_is_whole) := ⟨rfl, rfl, rfl, by decide +kernel, rfl, by decide +kernel, by decide +kernel⟩
abbrev s_is_from_to : Stmt := top 8
abbrev N_is_from_to : List Str := ["thing", "low", "high"]
theorem sc_is_from_to : FnScope N_is_from_to ["thing", "low", "high"] (defScope s_is_from_to) := ⟨rfl, rfl, rfl, by decide +kernel, rfl, by decide +kernel, by decide +kernel⟩
abbrev s_is_tuple_of : Stmt := top 9
abbrev N_is_tuple_of : List Str := ["thing", "many"]
theorem sc_is_tuple_of : FnScope N_is_tuple_of ["thing", "many"] (defScope s_is_tuple_of) := ⟨rfl, rfl, rfl, by decide +kernel, rfl, by decide +kernel, by decide +kernel⟩
abbrev s_is_number : Stmt := top 10
abbrev N_is_number : List Str := ["thing", "top", "bottom"]
theorem sc_is_number : FnScope N_is_number ["thing"] (defScope s_is_number) := ⟨rfl, rfl, rfl, by decide +kernel, rfl, by decide +kernel, by decide +kernel⟩
abbrev s_is_row : Stmt := top 11
abbrev N_is_row : List Str := ["thing", "many", "item"]
theorem sc_is_row : FnScope N_is_row ["thing", "many"] (defScope s_is_row) := ⟨rfl, rfl, rfl, by decide +kernel, rfl, by decide +kernel, by decide +kernel⟩
abbrev s_is_lot : Stmt := top 12
abbrev N_is_lot : List Str := ["thing", "many", "cell", "after"]
theorem sc_is_lot : FnScope N_is_lot ["thing", "many"] (defScope s_is_lot) := ⟨rfl, rfl, rfl, by decide +kernel, rfl, by decide +kernel, by decide +kernel⟩
abbrev s_unit_row : Stmt := top 16
abbrev N_unit_row : List Str := ["at", "many", "place"]
theorem sc_unit_row : FnScope N_unit_row ["at", "many"] (defScope s_unit_row) := ⟨rfl, rfl, rfl, by decide +kernel, rfl, by decide +kernel, by decide +kernel⟩
abbrev s_whole_row : Stmt := top 18
abbrev N_whole_row : List Str := ["row", "many", "_", "bottom", "top"]
theorem sc_whole_row : FnScope N_whole_row ["row"] (defScope s_whole_row) := ⟨rfl, rfl, rfl, by decide +kernel, rfl, by decide +kernel, by decide +kernel⟩
abbrev s_shortened : Stmt := top 19
abbrev N_shortened : List Str := ["row", "shared", "item"]
theorem sc_shortened : FnScope N_shortened ["row"] (defScope s_shortened) := ⟨rfl, rfl, rfl, by decide +kernel, rfl, by decide +kernel, by decide +kernel⟩
abbrev s_cleared : Stmt := top 20
abbrev N_cleared : List Str := ["span", "row", "left", "pivot", "base", "by", "times", "item", "other"]
theorem sc_cleared : FnScope N_cleared ["span", "row"] (defScope s_cleared) := ⟨rfl, rfl, rfl, by decide +kernel, rfl, by decide +kernel, by decide +kernel⟩
abbrev s_first_not_nought : Stmt := top 21
abbrev N_first_not_nought : List Str := ["row", "place", "item"]
theorem sc_first_not_nought : FnScope N_first_not_nought ["row"] (defScope s_first_not_nought) := ⟨rfl, rfl, rfl, by decide +kernel, rfl, by decide +kernel, by decide +kernel⟩
abbrev s_widened : Stmt := top 22
abbrev N_widened : List Str := ["span", "row", "left", "pivot"]
theorem sc_widened : FnScope N_widened ["span", "row"] (defScope s_widened) := ⟨rfl, rfl, rfl, by decide +kernel, rfl, by decide +kernel, by decide +kernel⟩
abbrev s_span_of : Stmt := top 23
abbrev N_span_of : List Str := ["rows", "span", "row"]
theorem sc_span_of : FnScope N_span_of ["rows"] (defScope s_span_of) := ⟨rfl, rfl, rfl, by decide +kernel, rfl, by decide +kernel, by decide +kernel⟩
abbrev s_Wish_init : Stmt := inClass (top 27) 0
abbrev N_Wish_init : List Str := ["self", "rows", "locked", "spare"]
theorem sc_Wish_init : FnScope N_Wish_init ["self", "rows", "locked", "spare"] (defScope s_Wish_init) := ⟨rfl, rfl, rfl, by decide +kernel, rfl, by decide +kernel, by decide +kernel⟩
abbrev s_Wish_eq : Stmt := inClass (top 27) 1
abbrev N_Wish_eq : List Str := ["self", "other"]
theorem sc_Wish_eq : FnScope N_Wish_eq ["self", "other"] (defScope s_Wish_eq) := ⟨rfl, rfl, rfl, by decide +kernel, rfl, by decide +kernel, by decide +kernel⟩
abbrev s_check_rows : Stmt := top 28
abbrev N_check_rows : List Str := ["rows", "cell", "row"]
theorem sc_check_rows : FnScope N_check_rows ["rows"] (defScope s_check_rows) := ⟨rfl, rfl, rfl, by decide +kernel, rfl, by decide +kernel, by decide +kernel⟩
abbrev s_count_cells : Stmt := top 29
abbrev N_count_cells : List Str := ["wish"]
theorem sc_count_cells : FnScope N_count_cells ["wish"] (defScope s_count_cells) := ⟨rfl, rfl, rfl, by decide +kernel, rfl, by decide +kernel, by decide +kernel⟩
abbrev s_is_cell : Stmt := top 30
abbrev N_is_cell : List Str := ["wish", "thing"]
theorem sc_is_cell : FnScope N_is_cell ["wish", "thing"] (defScope s_is_cell) := ⟨rfl, rfl, rfl, by decide +kernel, rfl, by decide +kernel, by decide +kernel⟩
abbrev s_wished_cells : Stmt := top 31
abbrev N_wished_cells : List Str := ["wish", "cell", "row"]
theorem sc_wished_cells : FnScope N_wished_cells ["wish"] (defScope s_wished_cells) := ⟨rfl, rfl, rfl, by decide +kernel, rfl, by decide +kernel, by decide +kernel⟩
abbrev s_is_order : Stmt := top 37
abbrev N_is_order : List Str := ["wish", "thing", "cell"]
theorem sc_is_order : FnScope N_is_order ["wish", "thing"] (defScope s_is_order) := ⟨rfl, rfl, rfl, by decide +kernel, rfl, by decide +kernel, by decide +kernel⟩
abbrev s_check_order : Stmt := top 38
abbrev N_check_order : List Str := ["wish", "order"]
theorem sc_check_order : FnScope N_check_order ["wish", "order"] (defScope s_check_order) := ⟨rfl, rfl, rfl, by decide +kernel, rfl, by decide +kernel, by decide +kernel⟩
abbrev s_single_ticks : Stmt := top 39
abbrev N_single_ticks : List Str := ["order", "cell"]
theorem sc_single_ticks : FnScope N_single_ticks ["order"] (defScope s_single_ticks) := ⟨rfl, rfl, rfl, by decide +kernel, rfl, by decide +kernel, by decide +kernel⟩
abbrev s_written_cells : Stmt := top 40
abbrev N_written_cells : List Str := ["ticks", "tick", "cell"]
theorem sc_written_cells : FnScope N_written_cells ["ticks"] (defScope s_written_cells) := ⟨rfl, rfl, rfl, by decide +kernel, rfl, by decide +kernel, by decide +kernel⟩
abbrev s_stages_at : Stmt := top 41
abbrev N_stages_at : List Str := ["wish", "ticks", "moment", "ahead", "behind", "wished", "words", "cell"]
theorem sc_stages_at : FnScope N_stages_at ["wish", "ticks", "moment"] (defScope s_stages_at) := ⟨rfl, rfl, rfl, by decide +kernel, rfl, by decide +kernel, by decide +kernel⟩
abbrev s_safe_span : Stmt := top 42
abbrev N_safe_span : List Str := ["wish", "words", "rows", "cell", "row"]
theorem sc_safe_span : FnScope N_safe_span ["wish", "words"] (defScope s_safe_span) := ⟨rfl, rfl, rfl, by decide +kernel, rfl, by decide +kernel, by decide +kernel⟩
abbrev s_lack_of : Stmt := top 43
abbrev N_lack_of : List Str := ["wish", "words", "safe", "needed", "cell"]
theorem sc_lack_of : FnScope N_lack_of ["wish", "words"] (defScope s_lack_of) := ⟨rfl, rfl, rfl, by decide +kernel, rfl, by decide +kernel, by decide +kernel⟩
abbrev s_lack_at : Stmt := top 44
abbrev N_lack_at : List Str := ["wish", "ticks", "moment", "words"]
theorem sc_lack_at : FnScope N_lack_at ["wish", "ticks", "moment"] (defScope s_lack_at) := ⟨rfl, rfl, rfl, by decide +kernel, rfl, by decide +kernel, by decide +kernel⟩
abbrev s_check_moment : Stmt := top 46
abbrev N_check_moment : List Str := ["order", "moment"]
theorem sc_check_moment : FnScope N_check_moment ["order", "moment"] (defScope s_check_moment) := ⟨rfl, rfl, rfl, by decide +kernel, rfl, by decide +kernel, by decide +kernel⟩
abbrev s_stages : Stmt := top 47
abbrev N_stages : List Str := ["wish", "order", "moment"]
theorem sc_stages : FnScope N_stages ["wish", "order", "moment"] (defScope s_stages) := ⟨rfl, rfl, rfl, by decide +kernel, rfl, by decide +kernel, by decide +kernel⟩
abbrev s_lack : Stmt := top 48
abbrev N_lack : List Str := ["wish", "order", "moment"]
theorem sc_lack : FnScope N_lack ["wish", "order", "moment"] (defScope s_lack) := ⟨rfl, rfl, rfl, by decide +kernel, rfl, by decide +kernel, by decide +kernel⟩
abbrev s__law_pool : Stmt := top 50
abbrev N__law_pool : List Str := ["script", "seed", "cell"]
theorem sc__law_pool : FnScope N__law_pool ["script"] (defScope s__law_pool) := ⟨rfl, rfl, rfl, by decide +kernel, rfl, by decide +kernel, by decide +kernel⟩
abbrev s__law_draw : Stmt := top 51
abbrev N__law_draw : List Str := ["pool", "many", "cells", "digit", "mixed"]
theorem sc__law_draw : FnScope N__law_draw ["pool", "many"] (defScope s__law_draw) := ⟨rfl, rfl, rfl, by decide +kernel, rfl, by decide +kernel, by decide +kernel⟩
abbrev s__law_mixed : Stmt := top 52
abbrev N__law_mixed : List Str := ["pool", "things", "left", "put", "k"]
theorem sc__law_mixed : FnScope N__law_mixed ["pool", "things"] (defScope s__law_mixed) := ⟨rfl, rfl, rfl, by decide +kernel, rfl, by decide +kernel, by decide +kernel⟩
abbrev s__law_deep : Stmt := top 53
abbrev N__law_deep : List Str := ["thing", "turn"]
theorem sc__law_deep : FnScope N__law_deep [] (defScope s__law_deep) := ⟨rfl, rfl, rfl, by decide +kernel, rfl, by decide +kernel, by decide +kernel⟩
abbrev s__law_is : Stmt := top 54
abbrev N__law_is : List Str := ["told", "due"]
theorem sc__law_is : FnScope N__law_is ["told", "due"] (defScope s__law_is) := ⟨rfl, rfl, rfl, by decide +kernel, rfl, by decide +kernel, by decide +kernel⟩
abbrev s__law_low : Stmt := top 55
abbrev N__law_low : List Str := ["top", "bottom", "one", "other"]
theorem sc__law_low : FnScope N__law_low ["top", "bottom"] (defScope s__law_low) := ⟨rfl, rfl, rfl, by decide +kernel, rfl, by decide +kernel, by decide +kernel⟩
abbrev s__law_add : Stmt := top 56
abbrev N__law_add : List Str := ["one", "other"]
theorem sc__law_add : FnScope N__law_add ["one", "other"] (defScope s__law_add) := ⟨rfl, rfl, rfl, by decide +kernel, rfl, by decide +kernel, by decide +kernel⟩
abbrev s__law_mul : Stmt := top 57
abbrev N__law_mul : List Str := ["one", "other"]
theorem sc__law_mul : FnScope N__law_mul ["one", "other"] (defScope s__law_mul) := ⟨rfl, rfl, rfl, by decide +kernel, rfl, by decide +kernel, by decide +kernel⟩
abbrev s__law_unit : Stmt := top 58
abbrev N__law_unit : List Str := ["size", "at", "place"]
theorem sc__law_unit : FnScope N__law_unit ["size", "at"] (defScope s__law_unit) := ⟨rfl, rfl, rfl, by decide +kernel, rfl, by decide +kernel, by decide +kernel⟩
abbrev s__law_left : Stmt := top 59
abbrev N__law_left : List Str := ["found", "row", "lead", "known", "share", "one", "other"]
theorem sc__law_left : FnScope N__law_left ["found", "row"] (defScope s__law_left) := ⟨rfl, rfl, rfl, by decide +kernel, rfl, by decide +kernel, by decide +kernel⟩
abbrev s__law_steps : Stmt := top 60
abbrev N__law_steps : List Str := ["rows", "found", "row", "left", "places", "place"]
theorem sc__law_steps : FnScope N__law_steps ["rows"] (defScope s__law_steps) := ⟨rfl, rfl, rfl, by decide +kernel, rfl, by decide +kernel, by decide +kernel⟩
abbrev s__law_rank : Stmt := top 61
abbrev N__law_rank : List Str := ["rows"]
theorem sc__law_rank : FnScope N__law_rank ["rows"] (defScope s__law_rank) := ⟨rfl, rfl, rfl, by decide +kernel, rfl, by decide +kernel, by decide +kernel⟩
abbrev s__law_number : Stmt := top 62
abbrev N__law_number : List Str := ["pool", "some"]
theorem sc__law_number : FnScope N__law_number ["pool"] (defScope s__law_number) := ⟨rfl, rfl, rfl, by decide +kernel, rfl, by decide +kernel, by decide +kernel⟩
abbrev s__law_some_row : Stmt := top 63
abbrev N__law_some_row : List Str := ["pool", "many", "cell", "kind", "row", "place"]
theorem sc__law_some_row : FnScope N__law_some_row ["pool", "many", "cell"] (defScope s__law_some_row) := ⟨rfl, rfl, rfl, by decide +kernel, rfl, by decide +kernel, by decide +kernel⟩
abbrev s__law_wish : Stmt := top 64
abbrev N__law_wish : List Str := ["pool", "most", "many", "kind", "rows", "locked", "cell", "source", "row"]
theorem sc__law_wish : FnScope N__law_wish ["pool", "most"] (defScope s__law_wish) := ⟨rfl, rfl, rfl, by decide +kernel, rfl, by decide +kernel, by decide +kernel⟩
abbrev s__law_made_wish : Stmt := top 65
abbrev N__law_made_wish : List Str := ["spec"]
theorem sc__law_made_wish : FnScope N__law_made_wish ["spec"] (defScope s__law_made_wish) := ⟨rfl, rfl, rfl, by decide +kernel, rfl, by decide +kernel, by decide +kernel⟩
abbrev s__law_all_cells : Stmt := top 66
abbrev N__law_all_cells : List Str := ["spec"]
theorem sc__law_all_cells : FnScope N__law_all_cells ["spec"] (defScope s__law_all_cells) := ⟨rfl, rfl, rfl, by decide +kernel, rfl, by decide +kernel, by decide +kernel⟩
abbrev s__law_stages : Stmt := top 67
abbrev N__law_stages : List Str := ["spec", "order", "moment", "found", "cell", "wished", "word"]
theorem sc__law_stages : FnScope N__law_stages ["spec", "order", "moment"] (defScope s__law_stages) := ⟨rfl, rfl, rfl, by decide +kernel, rfl, by decide +kernel, by decide +kernel⟩
abbrev s__law_safe : Stmt := top 68
abbrev N__law_safe : List Str := ["spec", "words", "many", "found", "cell"]
theorem sc__law_safe : FnScope N__law_safe ["spec", "words"] (defScope s__law_safe) := ⟨rfl, rfl, rfl, by decide +kernel, rfl, by decide +kernel, by decide +kernel⟩
abbrev s__law_wished : Stmt := top 69
abbrev N__law_wished : List Str := ["spec", "cell"]
theorem sc__law_wished : FnScope N__law_wished ["spec"] (defScope s__law_wished) := ⟨rfl, rfl, rfl, by decide +kernel, rfl, by decide +kernel, by decide +kernel⟩
abbrev s__law_lack : Stmt := top 70
abbrev N__law_lack : List Str := ["spec", "words", "safe", "wished", "cell", "word"]
theorem sc__law_lack : FnScope N__law_lack ["spec", "words"] (defScope s__law_lack) := ⟨rfl, rfl, rfl, by decide +kernel, rfl, by decide +kernel, by decide +kernel⟩
abbrev s__law_order : Stmt := top 71
abbrev N__law_order : List Str := ["pool", "spec", "many", "cells", "order", "kind", "cell", "turn"]
theorem sc__law_order : FnScope N__law_order ["pool", "spec"] (defScope s__law_order) := ⟨rfl, rfl, rfl, by decide +kernel, rfl, by decide +kernel, by decide +kernel⟩
abbrev s__law_is_int : Stmt := top 72
abbrev N__law_is_int : List Str := ["thing", "least", "most"]
theorem sc__law_is_int : FnScope N__law_is_int ["thing", "least", "most"] (defScope s__law_is_int) := ⟨rfl, rfl, rfl, by decide +kernel, rfl, by decide +kernel, by decide +kernel⟩
abbrev s__law_is_order : Stmt := top 73
abbrev N__law_is_order : List Str := ["spec", "thing", "cell"]
theorem sc__law_is_order : FnScope N__law_is_order ["spec", "thing"] (defScope s__law_is_order) := ⟨rfl, rfl, rfl, by decide +kernel, rfl, by decide +kernel, by decide +kernel⟩
abbrev s__law_word : Stmt := top 74
abbrev N__law_word : List Str := ["which", "wish", "order", "moment", "word", "e", "flags"]
theorem sc__law_word : FnScope N__law_word ["which", "wish", "order", "moment"] (defScope s__law_word) := ⟨rfl, rfl, rfl, by decide +kernel, rfl, by decide +kernel, by decide +kernel⟩
abbrev s__law_refused_right : Stmt := top 75
abbrev N__law_refused_right : List Str := ["pool", "spec", "wish", "order", "many", "odd", "thing", "moment", "due", "which"]
theorem sc__law_refused_right : FnScope N__law_refused_right ["pool", "spec", "wish", "order"] (defScope s__law_refused_right) := ⟨rfl, rfl, rfl, by decide +kernel, rfl, by decide +kernel, by decide +kernel⟩
abbrev s_law : Stmt := top 76
abbrev N_law : List Str := ["script", "pool", "turn", "spec", "wish", "order", "moment", "words", "again", "place"]
theorem sc_law : FnScope N_law ["script"] (defScope s_law) := ⟨rfl, rfl, rfl, by decide +kernel, rfl, by decide +kernel, by decide +kernel⟩
structure HasM (mg : Str → Option Value) (x : Str) (C : Addr) : Prop where
  m : mg x = some (.ref C)
structure Tx (mg : Str → Option Value) : Prop where
  abs : mg "abs" = none
  all : mg "all" = none
  bool : mg "bool" = none
  enumerate : mg "enumerate" = none
  gcd : mg "gcd" = some (.builtin "math.gcd")
  int : mg "int" = none
  isinstance : mg "isinstance" = none
  lcm : mg "lcm" = some (.builtin "math.lcm")
  len : mg "len" = none
  list : mg "list" = none
  range : mg "range" = none
  repr : mg "repr" = none
  sum : mg "sum" = none
  tuple : mg "tuple" = none
  zip : mg "zip" = none
  c_AMID : ∃ u, mg "AMID" = some u ∧ RelV (.str "amid") u
  c_DONE : ∃ u, mg "DONE" = some u ∧ RelV (.str "done") u
  c_MOST_CELLS : ∃ u, mg "MOST_CELLS" = some u ∧ RelV (.int 6) u
  c_MOST_SPARE : ∃ u, mg "MOST_SPARE" = some u ∧ RelV (.int 2) u
  c_MOST_TICKS : ∃ u, mg "MOST_TICKS" = some u ∧ RelV (.int 60) u
  c_NOT_BEGUN : ∃ u, mg "NOT_BEGUN" = some u ∧ RelV (.str "not begun") u
end My
namespace My
open PySem L2 Ab
theorem no_own1 {Γ : List B} {k : Nat} (h : ¬ IsOwn Γ[k]?) : ∀ i ∈ [k], ¬ IsOwn Γ[i]? := fun i hi => by
  have e : i = k := by simpa using hi
  rw [e]; exact h
local macro_rules | `(tactic| walk_at "den") => `(tactic| first
  | ((with_reducible refine' den_var ?h ?_); (case h => rfl))
  | with_reducible refine ifT ?_ | with_reducible refine ifF ?_
  | with_reducible refine den_int ?_ | with_reducible refine den_bl ?_ | with_reducible refine den_non ?_ | with_reducible refine den_str ?_ | with_reducible refine den_ty ?_
  | with_reducible refine dens_nil ?_ | with_reducible refine dens_seq ?_ | with_reducible refine dens_ret ?_ | with_reducible refine dens_if ?_ | with_reducible refine dens_asg ?_ | with_reducible refine dens_drop ?_ | with_reducible refine dens_raise ?_
  | with_reducible refine dena_nil ?_ | with_reducible refine dena_cons ?_
  | with_reducible refine den_and ?_ | with_reducible refine den_or ?_ | with_reducible refine den_not ?_ | with_reducible refine den_chain ?_ | with_reducible refine den_cb ?_ | with_reducible refine den_op ?_ | with_reducible refine den_tup ?_ | with_reducible refine den_un ?_ | with_reducible refine den_isN ?_ | with_reducible refine den_notN ?_
  | with_reducible refine dent_test ?_ | with_reducible refine dent_B ?_ | with_reducible refine dent_and ?_ | with_reducible refine dent_or ?_ | with_reducible refine dent_not ?_ | with_reducible refine dent_yes ?_
  | with_reducible refine den_fun ?_ | with_reducible refine den_l (denl_lst ?_) | with_reducible refine den_sl ?_ | with_reducible refine cad_lenS ?_ | with_reducible refine deno_none ?_ | with_reducible refine deno_some ?_
  | with_reducible refine deng_name ?_ | ((with_reducible refine' deng_tup ?h ?_); (case h => rfl)) | with_reducible refine dengs_cons ?_ | with_reducible refine dengs_nil ?_
  | with_reducible refine plus_int ?_ | with_reducible refine opd_b0 ?_ | with_reducible refine eqg_int ?_ | with_reducible refine neg_int ?_ | with_reducible refine opd_i0 ?_ | with_reducible refine und_neg ?_
  | with_reducible refine dens_retN ?_ | with_reducible refine dens_cont ?_ | with_reducible refine dens_break ?_ | with_reducible refine dens_par ?_ | with_reducible refine den_if ?_ | with_reducible refine den_dic ?_ | with_reducible refine den_cls ?_)
local macro_rules | `(tactic| walk_at "dem") => `(tactic| first
  | ((with_reducible refine' den_lenO ?h ?_); (case h => rfl)) | ((with_reducible refine' den_var ?h ?_); (case h => rfl))
  | with_reducible refine ifT ?_ | with_reducible refine ifF ?_
  | with_reducible refine den_int ?_ | with_reducible refine den_bl ?_ | with_reducible refine den_non ?_ | with_reducible refine den_str ?_ | with_reducible refine den_ty ?_
  | with_reducible refine dens_nil ?_ | with_reducible refine dens_seq ?_ | with_reducible refine dens_ret ?_ | with_reducible refine dens_if ?_ | with_reducible refine dens_drop ?_ | with_reducible refine dens_raise ?_
  | with_reducible refine dena_nil ?_ | with_reducible refine dena_cons ?_
  | with_reducible refine den_and ?_ | with_reducible refine den_or ?_ | with_reducible refine den_not ?_ | with_reducible refine den_chain ?_ | with_reducible refine den_cb ?_ | with_reducible refine den_op ?_ | with_reducible refine den_tup ?_ | with_reducible refine den_un ?_ | with_reducible refine den_isN ?_ | with_reducible refine den_notN ?_
  | with_reducible refine dent_test ?_ | with_reducible refine dent_B ?_ | with_reducible refine dent_and ?_ | with_reducible refine dent_or ?_ | with_reducible refine dent_not ?_ | with_reducible refine dent_yes ?_
  | with_reducible refine den_fun ?_ | with_reducible refine den_l (denl_lst ?_) | with_reducible refine den_sl ?_ | with_reducible refine cad_lenS ?_ | with_reducible refine deno_none ?_ | with_reducible refine deno_some ?_
  | with_reducible refine deng_name ?_ | ((with_reducible refine' deng_tup ?h ?_); (case h => rfl)) | with_reducible refine dengs_cons ?_ | with_reducible refine dengs_nil ?_
  | with_reducible refine plus_int ?_ | with_reducible refine opd_b0 ?_ | with_reducible refine eqg_int ?_ | with_reducible refine neg_int ?_ | with_reducible refine opd_i0 ?_ | with_reducible refine und_neg ?_
  | with_reducible refine dens_retN ?_ | with_reducible refine dens_cont ?_ | with_reducible refine dens_break ?_ | with_reducible refine dens_par ?_ | with_reducible refine den_if ?_ | with_reducible refine den_dic ?_ | with_reducible refine den_cls ?_)
local macro_rules | `(tactic| walk_at "fin") => `(tactic| (first | refine (show (_ : D) = _ from ?_) | skip))
section
variable {P : Program} {w : World} {K : PySem.W.Frag} {mg : Str → Option Value} {base : Heap}
theorem ixN0 (n : Nat) : ixN (n + 1) 0 = some 0 := by
  unfold ixN
  rw [if_pos (by decide), if_pos (by omega)]; rfl
theorem atI0 {α : Type} (x : α) (xs : List α) : atI (x :: xs) 0 = some x := by
  unfold atI
  rw [List.length_cons, ixN0]; rfl
theorem lowlog {m : Int} (h0 : 0 ≤ m) (h : m < 2 ^ 30) : m.natAbs.log2 < 9000 := by
  have : m.natAbs < 2 ^ 30 := by omega
  by_cases z : m.natAbs = 0
  · rw [z]; decide
  · exact Nat.lt_trans ((Nat.log2_lt z).mpr this) (by decide)
theorem ok_law_draw {f : Addr} {fd : FuncData} (F : Fun K "_law_draw" "_law_draw" s__law_draw f fd) (T : Tx mg) : FnOk P w K mg base (L2.CX P w) 1 f fd ["pool", "many"] (spS K 2 S_draw) := by
  refine F.okX sc__law_draw (fun vs H Q E h => ?_) (fun cdv A outer s H vs Q E hr h => ?_)
  · obtain ⟨pl, G, ds, _, r, hn, _⟩ := h
    rw [r.length, hn]; rfl
  · refine ⟨_, (pss_cons (ps_asg (pe_op (k_plus K) (pe_ix (k_ix K) (pv 0) pe_int (fun _ _ => rfl)) pe_int) (pg_sub (pv 0) pe_int set_list))
      (pss_cons (ps_set (i := 2) sc__law_draw.nd rfl (Or.inl rfl) (pe_ix (k_ix K) (pv 0) pe_int (fun _ _ => rfl)))
      (pss_cons (ps_if (pt_cmpR op_gt (pe_callB (k_len K) rfl T.len (by decide +kernel) (pa_cons (pv 2) pa_nil)) pe_int (nomark _)) (pss_cons (ps_set (i := 3) sc__law_draw.nd rfl (Or.inl rfl) (pe_op op_mod (pe_callTy call_int1 rfl T.int (by decide +kernel) (pa_cons (pe_ix (k_ix K) (pv 2) pe_int (fun _ _ => rfl)) pa_nil)) (pv 1)))
      (pss_cons (ps_asg (pe_op op_fdivW (pe_callTy call_int1 rfl T.int (by decide +kernel) (pa_cons (pe_ix (k_ix K) (pv 2) pe_int (fun _ _ => rfl)) pa_nil)) (pv 1)) (pg_sub (pv 2) pe_int set_list))
      (pss_cons (ps_if (pt_cmpR (k_eq K hr.units) (pe_ix (k_ix K) (pv 2) pe_int (fun _ _ => rfl)) pe_int (nomark _)) (pss_one (ps_expr (pe_bm PySem.F.plainAttrs_list PySem.F.slot_list_pop PySem.F.type_list_pop mt_popAt (pv 2) (pa_cons pe_int pa_nil)))) pss_nil)
      (pss_one (ps_ret (pv 3)))))) pss_nil)
      (pss_cons (ps_set (i := 4) sc__law_draw.nd rfl (Or.inl rfl) (pe_op op_mod (pe_callTy call_int1 rfl T.int (by decide +kernel) (pa_cons (pe_op (k_times K) (pe_op (k_plus K) (pe_ix (k_ix K) (pv 0) pe_int (fun _ _ => rfl)) (pe_op (k_times K) pe_int (pe_ix (k_ix K) (pv 0) pe_int (fun _ _ => rfl)))) pe_int) pa_nil)) pe_int))
      (pss_cons (ps_set (i := 4) sc__law_draw.nd rfl (Or.inl rfl) (pe_op op_mod (pe_callTy call_int1 rfl T.int (by decide +kernel) (pa_cons (pe_op (k_times K) (pv 4) (pe_op (k_plus K) (pe_op op_fdivW (pv 4) pe_int) pe_int)) pa_nil)) pe_int))
      (pss_cons (ps_set (i := 4) sc__law_draw.nd rfl (Or.inl rfl) (pe_op op_mod (pe_callTy call_int1 rfl T.int (by decide +kernel) (pa_cons (pe_op (k_times K) (pv 4) (pe_op (k_plus K) (pe_op op_fdivW (pv 4) pe_int) pe_int)) pa_nil)) pe_int))
      (pss_one (ps_ret (pe_op op_mod (pe_callTy call_int1 rfl T.int (by decide +kernel) (pa_cons (pe_op op_fdivW (pv 4) pe_int) pa_nil)) (pv 1)))))))))), ?_⟩
    obtain ⟨pl, G, ds, j, r, hn, ⟨m, rfl, hm1, hm2⟩, hq, _⟩ := h
    cases r with
    | cons r1 r2 => cases r2 with
      | cons r2 r3 =>
        cases r3; cases r2
        cases r1 with
        | @pool p c hpl =>
          obtain ⟨pc, gp, gc, _, _, uu, ww, hp, hc, seed, k, ns, rfl, rfl, b1, b2, b3, b4, b5⟩ := j.pool p c hpl
          have fin : ∀ (i : Int) (seed' k' : Int) (ns' : List Int) (H' : Hp), 0 ≤ i → i < m → H' p = some (.lst [.int seed', .int k', .ref c]) → H' c = some (.lst (ns'.map V.int)) →
              (0 ≤ seed' ∧ seed' < 2147483647 ∧ 0 ≤ k' ∧ (∀ n ∈ ns', 0 ≤ n) ∧ ns'.length ≤ 63) → (∀ a, a ≠ p → a ≠ c → H' a = H a) → Q (.int i) H' := fun i seed' k' ns' H' i1 i2 e1 e2 e3 e4 =>
            hq (.int i) (.int i) G H' ⟨m, i, rfl, rfl, i1, i2⟩ (j.pl hpl e1 e2 ⟨seed', k', ns', rfl, rfl, e3⟩ e4) (.int i)
          have s0 : (start N__law_draw [.ref p, .int m])[0]? = some (some (.ref p)) := rfl
          have s1 : (start N__law_draw [.ref p, .int m])[1]? = some (some (.int m)) := rfl
          refine ps_item (D := { nx := _, rt := Q }) (v := .int (k + 1)) (l := p) (i := 1) (n := 1) (pu_add (pu_ix (pu_var s0) pu_c hp rfl) pu_c) (pu_var s0) pu_c hp rfl ?_
          have hp1 : upd H p (.lst ([.int seed, .int k, .ref c].set 1 (.int (k + 1)))) p = some (.lst [.int seed, .int (k + 1), .ref c]) := upd_same
          have hc1 : upd H p (.lst ([.int seed, .int k, .ref c].set 1 (.int (k + 1)))) c = some (.lst (ns.map V.int)) := by rw [upd_ne (Ne.symm pc)]; exact hc
          have hf1 : ∀ a, a ≠ p → a ≠ c → upd H p (.lst ([.int seed, .int k, .ref c].set 1 (.int (k + 1)))) a = H a := fun a n1 _ => upd_ne n1
          revert hp1 hc1 hf1
          generalize upd H p (.lst ([.int seed, .int k, .ref c].set 1 (.int (k + 1)))) = H1
          intro hp1 hc1 hf1
          refine ps_name (v := .ref c) (pu_ix (pu_var s0) pu_c hp1 rfl) ?_
          have t1 : ((start N__law_draw [.ref p, .int m]).set 2 (some (.ref c)))[1]? = some (some (.int m)) := rfl
          have t2 : ((start N__law_draw [.ref p, .int m]).set 2 (some (.ref c)))[2]? = some (some (.ref c)) := rfl
          have t0 : ((start N__law_draw [.ref p, .int m]).set 2 (some (.ref c)))[0]? = some (some (.ref p)) := rfl
          have hl3 : 3 < ((start N__law_draw [.ref p, .int m]).set 2 (some (.ref c))).length := by simp [L2.start]
          have hl4 : 4 < ((start N__law_draw [.ref p, .int m]).set 2 (some (.ref c))).length := by simp [L2.start]
          revert t0 t1 t2 hl3 hl4
          generalize (start N__law_draw [.ref p, .int m]).set 2 (some (.ref c)) = σ
          intro t1 t2 t0 hl3 hl4
          refine ps_when (pu_B (f := fun i j => decide (i > j)) (pu_len (pu_var t2) hc1) pu_c) (fun hlt => ?_) (fun _ => ?_)
          · cases ns with
            | nil => simp at hlt
            | cons n ns =>
              have hn0 : 0 ≤ n := b4 n (by simp)
              have pix : ∀ {H} {x : V} {xs : List V}, H c = some (.lst (x :: xs)) → Pu (tOp (rIx K) (tVar 2) (tC (.int 0))) σ H x := fun h => pu_ix (pu_var t2) pu_c h (atI0 _ _)
              refine ps_name (v := .int (n % m)) (pu_I (C := fun _ j => 0 < j) (f := fun i j => i % j) (pu_int (pix hc1)) (pu_var t1) (by omega)) ?_
              have u0 : (σ.set 3 (some (.int (n % m))))[0]? = some (some (.ref p)) := by rw [List.getElem?_set_ne (by decide)]; exact t0
              have u1 : (σ.set 3 (some (.int (n % m))))[1]? = some (some (.int m)) := by rw [List.getElem?_set_ne (by decide)]; exact t1
              have u2 : (σ.set 3 (some (.int (n % m))))[2]? = some (some (.ref c)) := by rw [List.getElem?_set_ne (by decide)]; exact t2
              have u3 : (σ.set 3 (some (.int (n % m))))[3]? = some (some (.int (n % m))) := List.getElem?_set_self (by simpa using hl3)
              revert u0 u1 u2 u3
              generalize σ.set 3 (some (.int (n % m))) = σ'
              intro u0 u1 u2 u3
              have pix' : ∀ {H} {x : V} {xs : List V}, H c = some (.lst (x :: xs)) → Pu (tOp (rIx K) (tVar 2) (tC (.int 0))) σ' H x := fun h => pu_ix (pu_var u2) pu_c h (atI0 _ _)
              refine ps_item (v := .int (n / m)) (n := 0) (pu_I (C := CDivW) (f := fun i j => i / j) (pu_int (pix' hc1)) (pu_var u1) ⟨by omega, lowlog (by omega) hm2⟩) (pu_var u2) pu_c hc1 (by rw [List.length_map, List.length_cons]; exact ixN0 _) ?_
              have hp2 : upd H1 c (.lst (((n :: ns).map V.int).set 0 (.int (n / m)))) p = some (.lst [.int seed, .int (k + 1), .ref c]) := by rw [upd_ne pc]; exact hp1
              have hc2 : upd H1 c (.lst (((n :: ns).map V.int).set 0 (.int (n / m)))) c = some (.lst ((n / m :: ns).map V.int)) := upd_same
              have hf2 : ∀ a, a ≠ p → a ≠ c → upd H1 c (.lst (((n :: ns).map V.int).set 0 (.int (n / m)))) a = H a := fun a n1 n2 => by rw [upd_ne n2]; exact hf1 a n1 n2
              revert hp2 hc2 hf2
              generalize upd H1 c (.lst (((n :: ns).map V.int).set 0 (.int (n / m)))) = H2
              intro hp2 hc2 hf2
              have hq0 : 0 ≤ n / m := Int.ediv_nonneg hn0 (by omega)
              have hr0 : 0 ≤ n % m := Int.emod_nonneg _ (by omega)
              have hr1 : n % m < m := Int.emod_lt_of_pos _ (by omega)
              have hmem : ∀ x ∈ ns, 0 ≤ x := fun x hx => b4 x (by simp [hx])
              have hlen : ns.length + 1 ≤ 63 := by simpa using b5
              refine ps_when (pu_eqI (pix' hc2) pu_c) (fun _ => ?_) (fun _ => ?_)
              · refine ⟨.ref c, u2, .inl ⟨rfl, _, SqL.of hc2⟩, ⟨c, _, 0, 0, .int (n / m), rfl, rfl, hc2, by decide, by decide, (ixN_seq (by rw [List.length_map, List.length_cons]; exact ixN0 _)).1, rfl, ?_⟩⟩
                refine ps_give (pu_var u3) ?_
                exact fin _ seed (k + 1) ns _ hr0 hr1 (by rw [upd_ne pc]; exact hp2) (by rw [upd_same]; rfl) ⟨b1, b2, by omega, hmem, by omega⟩ fun a n1 n2 => by rw [upd_ne n2]; exact hf2 a n1 n2
              · refine ps_give (pu_var u3) ?_
                exact fin _ seed (k + 1) (n / m :: ns) _ hr0 hr1 hp2 hc2 ⟨b1, b2, by omega, fun x hx => by
                  rcases List.mem_cons.mp hx with e | e
                  · rw [e]; exact hq0
                  · exact hmem x e, by simpa using hlen⟩ hf2
          · have pix0 : Pu (tOp (rIx K) (tVar 0) (tC (.int 0))) σ H1 (.int seed) := pu_ix (pu_var t0) pu_c hp1 rfl
            have pix1 : Pu (tOp (rIx K) (tVar 0) (tC (.int 1))) σ H1 (.int (k + 1)) := pu_ix (pu_var t0) pu_c hp1 rfl
            refine ps_name (pu_I (C := fun _ j => 0 < j) (f := fun i j => i % j) (pu_int (pu_mul (pu_add pix0 (pu_mul pu_c pix1 (.inl (by decide)))) pu_c (.inr (by decide)))) pu_c (by decide)) ?_
            have step : ∀ (a d e : Int) (M : Int), 0 < M → M < 2147483648 → 0 < a → a < 1073741824 → 0 ≤ d → d < 2147483648 → ∀ σ x, σ[4]? = some (some (V.int x)) → 0 ≤ x → x < 2147483648 → 
                Pu (tOp (rI (fun _ j => 0 < j) fun i j => .int (i % j)) (tCB rInt1 (tCons (tOp (rTimes K) (tVar 4) (tOp (rPlus K) (tOp (rI CDivW fun i j => .int (i / j)) (tVar 4) (tC (.int a))) (tC (.int d)))) tNil)) (tC (.int M))) σ H1 (.int ((x * (x / a + d)) % M)) := fun a d e M h1 h2 h3 h4 h5 h6 σ x hx hx0 hx1 =>
              pu_I (C := fun _ j => 0 < j) (f := fun i j => i % j) (pu_int (pu_mul (pu_var hx) (pu_add (pu_I (C := CDivW) (f := fun i j => i / j) (pu_var hx) pu_c ⟨h3, lowlog (by omega) (by simpa using h4)⟩) pu_c) (.inl (by omega)))) pu_c h1
            have md : ∀ (x M : Int), 0 < M → 0 ≤ x % M ∧ x % M < M := fun x M h => ⟨Int.emod_nonneg _ (by omega), Int.emod_lt_of_pos _ h⟩
            have sl : ∀ (σ : L2.St) (v : V), 4 < σ.length → (σ.set 4 (some v))[4]? = some (some v) := fun σ v h => List.getElem?_set_self h
            have g1 := md ((seed + 7919 * (k + 1)) * 48271) 2147483647 (by decide)
            revert g1
            generalize (seed + 7919 * (k + 1)) * 48271 % 2147483647 = x1
            intro g1
            refine ps_name (step 1009 69621 0 2147483647 (by decide) (by decide) (by decide) (by decide) (by decide) (by decide) _ x1 (sl _ _ hl4) g1.1 (by omega)) ?_
            have g2 := md (x1 * (x1 / 1009 + 69621)) 2147483647 (by decide)
            revert g2
            generalize x1 * (x1 / 1009 + 69621) % 2147483647 = x2
            intro g2
            refine ps_name (step 2003 40692 0 2147483399 (by decide) (by decide) (by decide) (by decide) (by decide) (by decide) _ x2 (sl _ _ (by simpa using hl4)) g2.1 (by omega)) ?_
            generalize x2 * (x2 / 2003 + 40692) % 2147483399 = x3
            refine ps_give (v := .int (x3 / 16 % m)) (pu_I (C := fun _ j => 0 < j) (f := fun i j => i % j) (pu_int (pu_I (C := CDivW) (f := fun i j => i / j) (pu_var (sl _ _ (by simpa using hl4))) pu_c ⟨by decide, lowlog (by decide) (by decide)⟩)) (pu_var (by
              rw [List.getElem?_set_ne (by decide), List.getElem?_set_ne (by decide), List.getElem?_set_ne (by decide)]; exact t1)) (by omega)) ?_
            have g4 := md (x3 / 16) m (by omega)
            exact fin _ seed (k + 1) ns _ g4.1 g4.2 hp1 hc1 ⟨b1, b2, by omega, b4, b5⟩ hf1
end
end My
namespace My
open PySem L2 Ab
local macro_rules | `(tactic| walk_at "den") => `(tactic| first
  | ((with_reducible refine' den_var ?h ?_); (case h => rfl))
  | with_reducible refine ifT ?_ | with_reducible refine ifF ?_
  | with_reducible refine den_int ?_ | with_reducible refine den_bl ?_ | with_reducible refine den_non ?_ | with_reducible refine den_str ?_ | with_reducible refine den_ty ?_
  | with_reducible refine dens_nil ?_ | with_reducible refine dens_seq ?_ | with_reducible refine dens_ret ?_ | with_reducible refine dens_if ?_ | with_reducible refine dens_asg ?_ | with_reducible refine dens_drop ?_ | with_reducible refine dens_raise ?_
  | with_reducible refine dena_nil ?_ | with_reducible refine dena_cons ?_
  | with_reducible refine den_and ?_ | with_reducible refine den_or ?_ | with_reducible refine den_not ?_ | with_reducible refine den_chain ?_ | with_reducible refine den_cb ?_ | with_reducible refine den_op ?_ | with_reducible refine den_tup ?_ | with_reducible refine den_un ?_ | with_reducible refine den_isN ?_ | with_reducible refine den_notN ?_
  | with_reducible refine dent_test ?_ | with_reducible refine dent_B ?_ | with_reducible refine dent_and ?_ | with_reducible refine dent_or ?_ | with_reducible refine dent_not ?_ | with_reducible refine dent_yes ?_
  | with_reducible refine den_fun ?_ | with_reducible refine den_l (denl_lst ?_) | with_reducible refine den_sl ?_ | with_reducible refine cad_lenS ?_ | with_reducible refine deno_none ?_ | with_reducible refine deno_some ?_
  | with_reducible refine deng_name ?_ | ((with_reducible refine' deng_tup ?h ?_); (case h => rfl)) | with_reducible refine dengs_cons ?_ | with_reducible refine dengs_nil ?_
  | with_reducible refine plus_int ?_ | with_reducible refine opd_b0 ?_ | with_reducible refine eqg_int ?_ | with_reducible refine neg_int ?_ | with_reducible refine opd_i0 ?_ | with_reducible refine und_neg ?_
  | with_reducible refine dens_retN ?_ | with_reducible refine dens_cont ?_ | with_reducible refine dens_break ?_ | with_reducible refine dens_par ?_ | with_reducible refine den_if ?_ | with_reducible refine den_dic ?_ | with_reducible refine den_cls ?_)
local macro_rules | `(tactic| walk_at "dem") => `(tactic| first
  | ((with_reducible refine' den_lenO ?h ?_); (case h => rfl)) | ((with_reducible refine' den_var ?h ?_); (case h => rfl))
  | with_reducible refine ifT ?_ | with_reducible refine ifF ?_
  | with_reducible refine den_int ?_ | with_reducible refine den_bl ?_ | with_reducible refine den_non ?_ | with_reducible refine den_str ?_ | with_reducible refine den_ty ?_
  | with_reducible refine dens_nil ?_ | with_reducible refine dens_seq ?_ | with_reducible refine dens_ret ?_ | with_reducible refine dens_if ?_ | with_reducible refine dens_drop ?_ | with_reducible refine dens_raise ?_
  | with_reducible refine dena_nil ?_ | with_reducible refine dena_cons ?_
  | with_reducible refine den_and ?_ | with_reducible refine den_or ?_ | with_reducible refine den_not ?_ | with_reducible refine den_chain ?_ | with_reducible refine den_cb ?_ | with_reducible refine den_op ?_ | with_reducible refine den_tup ?_ | with_reducible refine den_un ?_ | with_reducible refine den_isN ?_ | with_reducible refine den_notN ?_
  | with_reducible refine dent_test ?_ | with_reducible refine dent_B ?_ | with_reducible refine dent_and ?_ | with_reducible refine dent_or ?_ | with_reducible refine dent_not ?_ | with_reducible refine dent_yes ?_
  | with_reducible refine den_fun ?_ | with_reducible refine den_l (denl_lst ?_) | with_reducible refine den_sl ?_ | with_reducible refine cad_lenS ?_ | with_reducible refine deno_none ?_ | with_reducible refine deno_some ?_
  | with_reducible refine deng_name ?_ | ((with_reducible refine' deng_tup ?h ?_); (case h => rfl)) | with_reducible refine dengs_cons ?_ | with_reducible refine dengs_nil ?_
  | with_reducible refine plus_int ?_ | with_reducible refine opd_b0 ?_ | with_reducible refine eqg_int ?_ | with_reducible refine neg_int ?_ | with_reducible refine opd_i0 ?_ | with_reducible refine und_neg ?_
  | with_reducible refine dens_retN ?_ | with_reducible refine dens_cont ?_ | with_reducible refine dens_break ?_ | with_reducible refine dens_par ?_ | with_reducible refine den_if ?_ | with_reducible refine den_dic ?_ | with_reducible refine den_cls ?_)
local macro_rules | `(tactic| walk_at "fin") => `(tactic| (first | refine (show (_ : D) = _ from ?_) | skip))
section
variable {P : Program} {w : World} {K : PySem.W.Frag} {mg : Str → Option Value} {base : Heap}
abbrev S_pool : FSpec := ⟨fun ds => ∃ ns : List Int, ds = [.scr ns] ∧ ns.length ≤ 63, fun ds d => ∃ (seed : Int) (cs : List Int), d = .lst [.int seed, .int 0, .lst (cs.map D.int)] ∧ 0 ≤ seed ∧ seed < 2147483647 ∧ (∀ n ∈ cs, 0 ≤ n) ∧ cs.length ≤ 63, fun _ _ => False⟩
theorem ok_law_pool {f : Addr} {fd : FuncData} (F : Fun K "_law_pool" "_law_pool" s__law_pool f fd) (T : Tx mg) : FnOk P w K mg base (L2.CX P w) 1 f fd ["script"] (spS K 1 S_pool) := by
  refine fn_ab F sc__law_pool S_pool (by decide) fun cdv A outer s H E ds W hr tk hn hp => ?_
  refine ⟨_, (pss_cons (ps_set (i := 1) sc__law_pool.nd rfl (Or.inl rfl) (pe_op (k_plus K) (pe_op (k_plus K) (pe_op op_mod (pe_callTy call_int1 rfl T.int (by decide +kernel) (pa_cons (pe_callB (k_sum K rfl) rfl T.sum (by decide +kernel) (pa_cons (pe_slice (k_sl K) (pv 0) po_none (po_some pe_int)) pa_nil)) pa_nil)) pe_int) (pe_callB (k_len K) rfl T.len (by decide +kernel) (pa_cons (pv 0) pa_nil))) pe_int))
      (pss_cons (ps_for (passes_of rfl) rfl (ki_seq K (pe_slice (k_sl K) (pv 0) po_none (po_some pe_int))) (pg_name (i := 2) sc__law_pool.nd rfl (Or.inl rfl))
      (pss_one (ps_set (i := 1) sc__law_pool.nd rfl (Or.inl rfl) (pe_op op_mod (pe_callTy call_int1 rfl T.int (by decide +kernel) (pa_cons (pe_op (k_plus K) (pe_op (k_plus K) (pe_op (k_times K) (pv 1) pe_int) (pe_op op_mod (pe_callTy call_int1 rfl T.int (by decide +kernel) (pa_cons (pv 2) pa_nil)) pe_int)) pe_int) pa_nil)) pe_int))))
      (pss_one (ps_ret (pe_lst (pa_cons (pv 1) (pa_cons pe_int (pa_cons (pe_lc (own := [("cell", 2)]) rfl sc__law_pool.nd (ki_seq K (pe_slice (k_sl K) (pv 0) po_none (po_some pe_int))) (blkOk_by (own := [("cell", 2)]) (N := N__law_pool) (sc := defScope s__law_pool) (by decide +kernel))
        (fun _ _ _ _ _ => (pg_name (i := 2) sc__law_pool.nd rfl (Or.inl rfl))) (fun _ _ _ _ _ => (pts_one (pt_cmpR op_ge (pe_callB call_abs rfl T.abs (by decide +kernel) (pa_cons (pv 2) pa_nil)) (pe_op op_pow pe_int pe_int) (nomark _)))) (fun _ _ _ _ _ => (pe_callB call_abs rfl T.abs (by decide +kernel) (pa_cons (pv 2) pa_nil)))) pa_nil)))))))), ?_⟩
  rintro Z rfl rfl hX
  obtain ⟨ns, rfl, hns⟩ := hp
  repeat walk_at "den"
  refine ⟨1, rfl, ?_⟩
  repeat walk_at "den"
  refine ⟨_, rfl, ?_⟩
  repeat walk_at "den"
  rw [show ((1 : Int)) = ((1 : Nat) : Int) from rfl, cut_map]
  refine cad_sum ?_
  repeat walk_at "den"
  refine cad_intI ?_
  repeat walk_at "den"
  refine opd_ic (f := fun i j => i % j) (by decide) ?_
  repeat walk_at "den"
  have b0 : 0 ≤ (ns.take 1).sum % 1000003 ∧ (ns.take 1).sum % 1000003 < 1000003 := ⟨Int.emod_nonneg _ (by decide), Int.emod_lt_of_pos _ (by decide)⟩
  refine dens_for (deni_seq ?_)
  repeat walk_at "den"
  refine ⟨63, rfl, ?_⟩
  repeat walk_at "den"
  refine ⟨_, rfl, ?_⟩
  rw [show ((63 : Int)) = ((63 : Nat) : Int) from rfl, cut_map]
  refine ⟨_, .inl rfl, fun i Γ => ∃ (seed : Int) (b : B), Γ = [.d (.scr ns), .d (.int seed), b] ∧ ¬ IsOwn (some b) ∧ 0 ≤ seed ∧ seed < 2147483647, ⟨_, .un, rfl, fun z => z, by omega, by omega⟩, ?_, ?_⟩
  · rintro i d Γ hd ⟨seed, b, rfl, hb, h1, h2⟩
    obtain ⟨c, rfl⟩ : ∃ c, d = .int c := by
      rw [List.getElem?_map] at hd
      cases e : (ns.take 63)[i]? with
      | none => rw [e] at hd; cases hd
      | some c => rw [e] at hd; cases hd; exact ⟨c, rfl⟩
    repeat walk_at "den"
    refine times_int (.inr (by decide)) ?_
    repeat walk_at "den"
    refine cad_intI ?_
    repeat walk_at "den"
    refine opd_ic (f := fun i j => i % j) (by decide) ?_
    repeat walk_at "den"
    refine cad_intI ?_
    repeat walk_at "den"
    refine opd_ic (f := fun i j => i % j) (by decide) ?_
    repeat walk_at "den"
    exact ⟨_, _, rfl, fun z => z, Int.emod_nonneg _ (by decide), Int.emod_lt_of_pos _ (by decide)⟩
  · rintro Γ ⟨seed, b, rfl, hb, h1, h2⟩
    repeat walk_at "den"
    refine den_l (denl_lc (goff_name (by simp)) gmono_name (deni_seq ?_))
    repeat walk_at "den"
    refine ⟨63, rfl, ?_⟩
    repeat walk_at "den"
    refine ⟨_, rfl, ?_⟩
    rw [show ((63 : Int)) = ((63 : Nat) : Int) from rfl, cut_map]
    refine ⟨_, .inl rfl, fun i hi => by
      have e : i = 2 := by simpa using hi
      rw [e]; exact hb, by simp; omega, fun i acc => ∃ cs : List Int, acc = cs.map D.int ∧ (∀ n ∈ cs, 0 ≤ n) ∧ cs.length ≤ i, ⟨[], rfl, by simp, Nat.le_refl _⟩, ?_, ?_⟩
    · rintro i d acc hd hl ⟨cs, rfl, hc, hl2⟩
      obtain ⟨c, rfl⟩ : ∃ c, d = .int c := by
        rw [List.getElem?_map] at hd
        cases e : (ns.take 63)[i]? with
        | none => rw [e] at hd; cases hd
        | some c => rw [e] at hd; cases hd; exact ⟨c, rfl⟩
      refine deng_name ⟨rfl, no_own1 (fun z => z), ?_⟩
      repeat walk_at "den"
      refine cad_abs ?_
      repeat walk_at "den"
      refine opd_ic (f := fun i j => i ^ j.toNat) ⟨by decide, by decide, by decide⟩ ?_
      repeat walk_at "den"
      refine ⟨_, rfl, rfl, ite_b (fun h => ?_) fun h => ?_⟩
      · repeat walk_at "den"
        refine cad_abs ⟨rfl, cs ++ [_], by rw [List.map_append]; rfl, fun n hn => ?_, by simp; omega⟩
        rcases List.mem_append.mp hn with e | e
        · exact hc n e
        · rw [List.mem_singleton.mp e]; split <;> omega
      · exact ⟨cs, rfl, hc, by omega⟩
    · rintro acc hl ⟨cs, rfl, hc, hl2⟩
      repeat walk_at "den"
      refine ⟨by simp, seed, cs, rfl, h1, h2, hc, ?_⟩
      simp at hl2; omega
end
end My
namespace My
open PySem L2 Ab
local macro_rules | `(tactic| walk_at "den") => `(tactic| first
  | ((with_reducible refine' den_var ?h ?_); (case h => rfl))
  | with_reducible refine ifT ?_ | with_reducible refine ifF ?_
  | with_reducible refine den_int ?_ | with_reducible refine den_bl ?_ | with_reducible refine den_non ?_ | with_reducible refine den_str ?_ | with_reducible refine den_ty ?_
  | with_reducible refine dens_nil ?_ | with_reducible refine dens_seq ?_ | with_reducible refine dens_ret ?_ | with_reducible refine dens_if ?_ | with_reducible refine dens_asg ?_ | with_reducible refine dens_drop ?_ | with_reducible refine dens_raise ?_
  | with_reducible refine dena_nil ?_ | with_reducible refine dena_cons ?_
  | with_reducible refine den_and ?_ | with_reducible refine den_or ?_ | with_reducible refine den_not ?_ | with_reducible refine den_chain ?_ | with_reducible refine den_cb ?_ | with_reducible refine den_op ?_ | with_reducible refine den_tup ?_ | with_reducible refine den_un ?_ | with_reducible refine den_isN ?_ | with_reducible refine den_notN ?_
  | with_reducible refine dent_test ?_ | with_reducible refine dent_B ?_ | with_reducible refine dent_and ?_ | with_reducible refine dent_or ?_ | with_reducible refine dent_not ?_ | with_reducible refine dent_yes ?_
  | with_reducible refine den_fun ?_ | with_reducible refine den_l (denl_lst ?_) | with_reducible refine den_sl ?_ | with_reducible refine cad_lenS ?_ | with_reducible refine deno_none ?_ | with_reducible refine deno_some ?_
  | with_reducible refine deng_name ?_ | ((with_reducible refine' deng_tup ?h ?_); (case h => rfl)) | with_reducible refine dengs_cons ?_ | with_reducible refine dengs_nil ?_
  | with_reducible refine plus_int ?_ | with_reducible refine opd_b0 ?_ | with_reducible refine eqg_int ?_ | with_reducible refine neg_int ?_ | with_reducible refine opd_i0 ?_ | with_reducible refine und_neg ?_
  | with_reducible refine dens_retN ?_ | with_reducible refine dens_cont ?_ | with_reducible refine dens_break ?_ | with_reducible refine dens_par ?_ | with_reducible refine den_if ?_ | with_reducible refine den_dic ?_ | with_reducible refine den_cls ?_)
local macro_rules | `(tactic| walk_at "dem") => `(tactic| first
  | ((with_reducible refine' den_lenO ?h ?_); (case h => rfl)) | ((with_reducible refine' den_var ?h ?_); (case h => rfl))
  | with_reducible refine ifT ?_ | with_reducible refine ifF ?_
  | with_reducible refine den_int ?_ | with_reducible refine den_bl ?_ | with_reducible refine den_non ?_ | with_reducible refine den_str ?_ | with_reducible refine den_ty ?_
  | with_reducible refine dens_nil ?_ | with_reducible refine dens_seq ?_ | with_reducible refine dens_ret ?_ | with_reducible refine dens_if ?_ | with_reducible refine dens_drop ?_ | with_reducible refine dens_raise ?_
  | with_reducible refine dena_nil ?_ | with_reducible refine dena_cons ?_
  | with_reducible refine den_and ?_ | with_reducible refine den_or ?_ | with_reducible refine den_not ?_ | with_reducible refine den_chain ?_ | with_reducible refine den_cb ?_ | with_reducible refine den_op ?_ | with_reducible refine den_tup ?_ | with_reducible refine den_un ?_ | with_reducible refine den_isN ?_ | with_reducible refine den_notN ?_
  | with_reducible refine dent_test ?_ | with_reducible refine dent_B ?_ | with_reducible refine dent_and ?_ | with_reducible refine dent_or ?_ | with_reducible refine dent_not ?_ | with_reducible refine dent_yes ?_
  | with_reducible refine den_fun ?_ | with_reducible refine den_l (denl_lst ?_) | with_reducible refine den_sl ?_ | with_reducible refine cad_lenS ?_ | with_reducible refine deno_none ?_ | with_reducible refine deno_some ?_
  | with_reducible refine deng_name ?_ | ((with_reducible refine' deng_tup ?h ?_); (case h => rfl)) | with_reducible refine dengs_cons ?_ | with_reducible refine dengs_nil ?_
  | with_reducible refine plus_int ?_ | with_reducible refine opd_b0 ?_ | with_reducible refine eqg_int ?_ | with_reducible refine neg_int ?_ | with_reducible refine opd_i0 ?_ | with_reducible refine und_neg ?_
  | with_reducible refine dens_retN ?_ | with_reducible refine dens_cont ?_ | with_reducible refine dens_break ?_ | with_reducible refine dens_par ?_ | with_reducible refine den_if ?_ | with_reducible refine den_dic ?_ | with_reducible refine den_cls ?_)
local macro_rules | `(tactic| walk_at "fin") => `(tactic| (first | refine (show (_ : D) = _ from ?_) | skip))
section
variable {P : Program} {w : World} {K : PySem.W.Frag} {mg : Str → Option Value} {base : Heap}
abbrev S_is : FSpec := ⟨fun ds => ∃ x, ds = [x, x] ∧ ShowOk x, fun ds d => d = .bl true, fun _ _ => False⟩
theorem ok_law_is {f : Addr} {fd : FuncData} (F : Fun K "_law_is" "_law_is" s__law_is f fd) (T : Tx mg) : FnOkG P w K mg base (L2.CX P w) 1 f fd ["told", "due"] (spS K 2 S_is) := by
  refine fn_abG F sc__law_is S_is (by decide) fun cdv A outer s H E ds hg0 hr hn hp => ?_
  refine ⟨_, (pss_one (ps_ret (pe_cmpR (k_eq K hr.units) (pe_callB (k_repr K hg0 hr.units) rfl T.repr (by decide +kernel) (pa_cons (pv 0) pa_nil)) (pe_callB (k_repr K hg0 hr.units) rfl T.repr (by decide +kernel) (pa_cons (pv 1) pa_nil)) (nomark _)))), ?_⟩
  rintro Z rfl
  obtain ⟨x, rfl, hx⟩ := hp
  repeat walk_at "den"
  refine cad_repr hx ?_
  repeat walk_at "den"
  refine cad_repr hx ?_
  refine eqg_str ?_
  simp
end
end My
namespace My
open PySem L2 Ab Cc
theorem vsub {K : PySem.W.Frag} {g : G K} {vs : List Nat} (h : (g.vs.all fun v => decide (v ∈ vs)) = true) : ∀ v ∈ g.vs, v ∈ vs := fun v m => by simpa using (List.all_eq_true.mp h) v m
structure Ad where
  C_CellError : Addr
  C_BadWish : Addr
  C_NoOrder : Addr
  C_NoMoment : Addr
  C_Wish : Addr
  A_NOUGHT : Addr
  A_ONE : Addr
def b_is_whole (K : PySem.W.Frag) (a : Ad) : S K :=
      (ret (Cc.and (bi (isT "int" (by simp)) (ac (v 0) (ac (ty "int") a0))) (nt (bi (isT "bool" (by simp)) (ac (v 0) (ac (ty "bool") a0))))))
def wp_is_whole (K : PySem.W.Frag) (a : Ad) : WP := bodyW (b_is_whole K a) 1
def b_is_tuple_of (K : PySem.W.Frag) (a : Ad) : S K :=
      (ret (Cc.and (bi (isT "tuple" (by simp)) (ac (v 0) (ac (ty "tuple") a0))) (op eq (bi len (ac (v 0) a0)) (v 1))))
def wp_is_tuple_of (K : PySem.W.Frag) (a : Ad) : WP := bodyW (b_is_tuple_of K a) 2
def b_unit_row (K : PySem.W.Frag) (a : Ad) : S K :=
      (ret (bi tuple (ac (ofL (lc (irg1 (ac (v 1) a0)) (nm 2) tyes (ife (tst (op eq (v 2) (v 0))) (con a.A_ONE (.tup [.int (1), .int (1)])) (con a.A_NOUGHT (.tup [.int (0), .int (1)]))) [2] (vsub rfl))) a0)))
def wp_unit_row (K : PySem.W.Frag) (a : Ad) : WP := bodyW (b_unit_row K a) 3
def b_whole_row (K : PySem.W.Frag) (a : Ad) : S K :=
      (seq (asg (int 1) (nm 1))
      (seq (fors (iseq (v 0)) (gt 2 (gc (nm 2) (gc (nm 3) g0)))
      (asg (bi Cc.lcm (ac (v 1) (ac (v 3) a0))) (nm 1)))
      (ret (ofL (lc (iseq (v 0)) (gt 2 (gc (nm 4) (gc (nm 3) g0))) tyes (op mul (v 4) (op fdiv (v 1) (v 3))) [4, 3] (vsub rfl))))))
def wp_whole_row (K : PySem.W.Frag) (a : Ad) : WP := bodyW (b_whole_row K a) 5
def b_shortened (K : PySem.W.Frag) (a : Ad) : S K :=
      (seq (asg (int 0) (nm 1))
      (seq (fors (iseq (v 0)) (nm 2)
      (asg (bi Cc.gcd (ac (v 1) (ac (v 2) a0))) (nm 1)))
      (seq (ifs (tst (op gt' (v 1) (int 1))) (ret (ofL (lc (iseq (v 0)) (nm 2) tyes (op fdiv (v 2) (v 1)) [2] (vsub rfl)))) nil)
      (ret (v 0)))))
def wp_shortened (K : PySem.W.Frag) (a : Ad) : WP := bodyW (b_shortened K a) 3
def b_first_not_nought (K : PySem.W.Frag) (a : Ad) : S K :=
      (seq (fors (ienum (ac (v 0) a0)) (gt 2 (gc (nm 1) (gc (nm 2) g0)))
      (ifs (tst (op ne (v 2) (int 0))) (ret (v 1)) nil))
      (ret non))
def wp_first_not_nought (K : PySem.W.Frag) (a : Ad) : WP := bodyW (b_first_not_nought K a) 3
def b_count_cells (K : PySem.W.Frag) (a : Ad) : S K :=
      (ret (op add (bi len (ac (fld (v 0) "rows") a0)) (fld (v 0) "spare")))
def wp_count_cells (K : PySem.W.Frag) (a : Ad) : WP := bodyW (b_count_cells K a) 1
def b_wished_cells (K : PySem.W.Frag) (a : Ad) : S K :=
      (ret (ofL (lc (ienum (ac (fld (v 0) "rows") a0)) (gt 2 (gc (nm 1) (gc (nm 2) g0))) (tB' (notN (v 2))) (v 1) [1, 2] (vsub rfl))))
def wp_wished_cells (K : PySem.W.Frag) (a : Ad) : WP := bodyW (b_wished_cells K a) 3
def b_single_ticks (K : PySem.W.Frag) (a : Ad) : S K :=
      (ret (bi tuple (ac (ofL (lc (iseq (v 0)) (nm 1) tyes (tup (ac (v 1) a0)) [1] (vsub rfl))) a0)))
def wp_single_ticks (K : PySem.W.Frag) (a : Ad) : WP := bodyW (b_single_ticks K a) 2
def b_written_cells (K : PySem.W.Frag) (a : Ad) : S K :=
      (ret (ofL (lc2 (iseq (v 0)) (nm 1) (iseq (v 1)) (nm 2) (v 2) [1, 2] [2] (vsub rfl) (vsub rfl) (by decide))))
def wp_written_cells (K : PySem.W.Frag) (a : Ad) : WP := bodyW (b_written_cells K a) 3
def b__law_deep (K : PySem.W.Frag) (a : Ad) : S K :=
      (seq (asg (ofL (lst (ac non a0))) (nm 0))
      (seq (fors (irg1 (ac (int 35) a0)) (nm 1)
      (asg (ofL (lst (ac (v 0) a0))) (nm 0)))
      (ret (v 0))))
def wp__law_deep (K : PySem.W.Frag) (a : Ad) : WP := bodyW (b__law_deep K a) 2
def b__law_low (K : PySem.W.Frag) (a : Ad) : S K :=
      (seq (par 2 3 (ac (bi Cc.abs (ac (v 0) a0)) (ac (bi Cc.abs (ac (v 1) a0)) a0)))
      (seq (whs (tst (op gt' (v 3) (int 0)))
      (par 2 3 (ac (v 3) (ac (op mod (bi toInt (ac (v 2) a0)) (v 3)) a0))))
      (seq (asg (ife (tst (op gt' (v 1) (int 0))) (v 2) (neg (v 2))) (nm 2))
      (ret (tup (ac (op fdivM (v 0) (v 2)) (ac (op fdivM (v 1) (v 2)) a0)))))))
def wp__law_low (K : PySem.W.Frag) (a : Ad) : WP := bodyW (b__law_low K a) 4
def b__law_unit (K : PySem.W.Frag) (a : Ad) : S K :=
      (ret (bi tuple (ac (ofL (lc (irg1 (ac (v 0) a0)) (nm 2) tyes (tup (ac (bi toInt (ac (op eq (v 2) (v 1)) a0)) (ac (int 1) a0))) [2] (vsub rfl))) a0)))
def wp__law_unit (K : PySem.W.Frag) (a : Ad) : WP := bodyW (b__law_unit K a) 3
def b__law_all_cells (K : PySem.W.Frag) (a : Ad) : S K :=
      (ret (op add (bi len (ac (op ix (v 0) (int 0)) a0)) (op ix (v 0) (int 2))))
def wp__law_all_cells (K : PySem.W.Frag) (a : Ad) : WP := bodyW (b__law_all_cells K a) 1
def b__law_wished (K : PySem.W.Frag) (a : Ad) : S K :=
      (ret (ofL (lc (irg1 (ac (bi len (ac (op ix (v 0) (int 0)) a0)) a0)) (nm 1) (tB' (bi (isT "tuple" (by simp)) (ac (op ix (op ix (v 0) (int 0)) (v 1)) (ac (ty "tuple") a0)))) (v 1) [1] (vsub rfl))))
def wp__law_wished (K : PySem.W.Frag) (a : Ad) : WP := bodyW (b__law_wished K a) 2
def b__law_is_int (K : PySem.W.Frag) (a : Ad) : S K :=
      (ret (Cc.and (bi (isT "int" (by simp)) (ac (v 0) (ac (ty "int") a0))) (Cc.and (nt (bi (isT "bool" (by simp)) (ac (v 0) (ac (ty "bool") a0)))) (chain le le (v 1) (v 0) (v 2)))))
def wp__law_is_int (K : PySem.W.Frag) (a : Ad) : WP := bodyW (b__law_is_int K a) 3
def b_is_from_to (K : PySem.W.Frag) (a : Ad) : S K :=
      (ret (Cc.and (call 1 (wp_is_whole K a) (ac (v 0) a0)) (chain le le (v 1) (v 0) (v 2))))
def wp_is_from_to (K : PySem.W.Frag) (a : Ad) : WP := bodyW (b_is_from_to K a) 3
def b_is_number (K : PySem.W.Frag) (a : Ad) : S K :=
      (seq (ifs (tnot (tB' (call 2 (wp_is_tuple_of K a) (ac (v 0) (ac (int 2) a0))))) (ret (bl false)) nil)
      (seq (asg (v 0) (gt 2 (gc (nm 1) (gc (nm 2) g0))))
      (ret (Cc.and (call 1 (wp_is_whole K a) (ac (v 1) a0)) (Cc.and (call 1 (wp_is_whole K a) (ac (v 2) a0)) (Cc.and (op ge (v 2) (int 1)) (op eq (bi Cc.gcd (ac (v 1) (ac (v 2) a0))) (int 1))))))))
def wp_is_number (K : PySem.W.Frag) (a : Ad) : WP := bodyW (b_is_number K a) 3
def b_cleared (K : PySem.W.Frag) (a : Ad) : S K :=
      (seq (asg (v 1) (nm 2))
      (seq (fors (iseq (v 0)) (gt 2 (gc (nm 3) (gc (nm 4) g0)))
      (seq (asg (tup (ac (op ix (v 4) (v 3)) (ac (op ix (v 2) (v 3)) a0))) (gt 2 (gc (nm 5) (gc (nm 6) g0))))
      (ifs (tst (op ne (v 6) (int 0))) (asg (call 1 (wp_shortened K a) (ac (ofL (lc (izip (ac (v 2) (ac (v 4) a0))) (gt 2 (gc (nm 7) (gc (nm 8) g0))) tyes (op sub (op mul (v 5) (v 7)) (op mul (v 6) (v 8))) [7, 8] (vsub rfl))) a0)) (nm 2)) nil)))
      (ret (v 2))))
def wp_cleared (K : PySem.W.Frag) (a : Ad) : WP := bodyW (b_cleared K a) 9
def b_stages_at (K : PySem.W.Frag) (a : Ad) : S K :=
      (seq (asg (call 1 (wp_written_cells K a) (ac (sl (v 1) o0 (o1 (v 2))) a0)) (nm 3))
      (seq (asg (call 1 (wp_written_cells K a) (ac (sl (v 1) (o1 (v 2)) o0) a0)) (nm 4))
      (seq (asg (call 1 (wp_wished_cells K a) (ac (v 0) a0)) (nm 5))
      (seq (own 6 (lst a0))
      (seq (fors (irg1 (ac (call 1 (wp_count_cells K a) (ac (v 0) a0)) a0)) (nm 7)
      (ifs (tst (op nin (v 7) (v 3))) (drop (app 6 (str "not begun"))) (ifs (tand (tst (op inn (v 7) (v 5))) (tst (op nin (v 7) (v 4)))) (drop (app 6 (str "done"))) (drop (app 6 (str "amid"))))))
      (ret (bor (bi tupleX (ac (v 6) a0)))))))))
def wp_stages_at (K : PySem.W.Frag) (a : Ad) : WP := bodyW (b_stages_at K a) 8
def b__law_mixed (K : PySem.W.Frag) (a : Ad) : S K :=
      (seq (own 2 (list (ac (v 1) a0)))
      (seq (own 3 (lst a0))
      (seq (fors (irg1 (ac (bi len (ac (v 1) a0)) a0)) (nm 4)
      (drop (app 3 (popAt 2 (call 2 (wpS S_draw) (ac (v 0) (ac (bor (bi len (ac (v 2) a0))) a0)))))))
      (ret (v 3)))))
def wp__law_mixed (K : PySem.W.Frag) (a : Ad) : WP := bodyW (b__law_mixed K a) 5
def b__law_add (K : PySem.W.Frag) (a : Ad) : S K :=
      (ret (call 2 (wp__law_low K a) (ac (op add (op mul (op ix (v 0) (int 0)) (op ix (v 1) (int 1))) (op mul (op ix (v 1) (int 0)) (op ix (v 0) (int 1)))) (ac (op mul (op ix (v 0) (int 1)) (op ix (v 1) (int 1))) a0))))
def wp__law_add (K : PySem.W.Frag) (a : Ad) : WP := bodyW (b__law_add K a) 2
def b__law_mul (K : PySem.W.Frag) (a : Ad) : S K :=
      (ret (call 2 (wp__law_low K a) (ac (op mul (op ix (v 0) (int 0)) (op ix (v 1) (int 0))) (ac (op mul (op ix (v 0) (int 1)) (op ix (v 1) (int 1))) a0))))
def wp__law_mul (K : PySem.W.Frag) (a : Ad) : WP := bodyW (b__law_mul K a) 2
def b__law_number (K : PySem.W.Frag) (a : Ad) : S K :=
      (seq (asg (ofL (lst (ac (tup (ac (int 0) (ac (int 1) a0))) (ac (tup (ac (int 1) (ac (int 1) a0))) (ac (tup (ac (neg (int 1)) (ac (int 1) a0))) (ac (tup (ac (int 2) (ac (int 1) a0))) (ac (tup (ac (int 1) (ac (int 2) a0))) (ac (tup (ac (neg (int 2)) (ac (int 3) a0))) (ac (tup (ac (int 3) (ac (int 1) a0))) (ac (tup (ac (int 0) (ac (int 1) a0))) (ac (tup (ac (int 1) (ac (int 1) a0))) (ac (tup (ac (int 101) (ac (int 7) a0))) a0)))))))))))) (nm 1))
      (ret (op ix (v 1) (call 2 (wpS S_draw) (ac (v 0) (ac (int 10) a0))))))
def wp__law_number (K : PySem.W.Frag) (a : Ad) : WP := bodyW (b__law_number K a) 2
def b__law_stages (K : PySem.W.Frag) (a : Ad) : S K :=
      (seq (own 3 (lst a0))
      (seq (fors (irg1 (ac (call 1 (wp__law_all_cells K a) (ac (v 0) a0)) a0)) (nm 4)
      (seq (asg (Cc.and (op lt (v 4) (bi len (ac (op ix (v 0) (int 0)) a0))) (bi (isT "tuple" (by simp)) (ac (op ix (op ix (v 0) (int 0)) (v 4)) (ac (ty "tuple") a0)))) (nm 5))
      (seq (asg (str "amid") (nm 6))
      (seq (ifs (tst (op nin (v 4) (sl (v 1) o0 (o1 (v 2))))) (asg (str "not begun") (nm 6)) (ifs (tand (tB' (v 5)) (tst (op nin (v 4) (sl (v 1) (o1 (v 2)) o0)))) (asg (str "done") (nm 6)) nil))
      (drop (app 3 (v 6)))))))
      (ret (bor (bi tuple (ac (v 3) a0))))))
def wp__law_stages (K : PySem.W.Frag) (a : Ad) : WP := bodyW (b__law_stages K a) 7
def b__law_safe (K : PySem.W.Frag) (a : Ad) : S K :=
      (seq (asg (bi len (ac (op ix (v 0) (int 0)) a0)) (nm 2))
      (seq (asg (ofL (lc (irg1 (ac (v 2) a0)) (nm 4) (tst (op eq (op ix (v 1) (v 4)) (str "not begun"))) (call 2 (wp__law_unit K a) (ac (v 2) (ac (v 4) a0))) [4] (vsub rfl))) (nm 3))
      (ret (op add (v 3) (ofL (lc (irg1 (ac (v 2) a0)) (nm 4) (tst (op eq (op ix (v 1) (v 4)) (str "done"))) (op ix (op ix (v 0) (int 0)) (v 4)) [4] (vsub rfl)))))))
def wp__law_safe (K : PySem.W.Frag) (a : Ad) : WP := bodyW (b__law_safe K a) 5
def b__law_is_order (K : PySem.W.Frag) (a : Ad) : S K :=
      (seq (ifs (tor (tnot (tB' (bi (isT "tuple" (by simp)) (ac (v 1) (ac (ty "tuple") a0))))) (tst (op gt' (bi len (ac (v 1) a0)) (int 60)))) (ret (bl false)) nil)
      (ret (bi Cc.all (ac (ofL (lc (iseq (v 1)) (nm 2) tyes (call 3 (wp__law_is_int K a) (ac (v 2) (ac (int 0) (ac (op sub (call 1 (wp__law_all_cells K a) (ac (v 0) a0)) (int 1)) a0)))) [2] (vsub rfl))) a0))))
def wp__law_is_order (K : PySem.W.Frag) (a : Ad) : WP := bodyW (b__law_is_order K a) 3
def b_is_row (K : PySem.W.Frag) (a : Ad) : S K :=
      (ret (Cc.and (call 2 (wp_is_tuple_of K a) (ac (v 0) (ac (v 1) a0))) (bi Cc.all (ac (ofL (lc (iseq (v 0)) (nm 2) tyes (call 1 (wp_is_number K a) (ac (v 2) a0)) [2] (vsub rfl))) a0))))
def wp_is_row (K : PySem.W.Frag) (a : Ad) : WP := bodyW (b_is_row K a) 3
def b_is_lot (K : PySem.W.Frag) (a : Ad) : S K :=
      (seq (ifs (tor (tnot (tB' (bi (isT "tuple" (by simp)) (ac (v 0) (ac (ty "tuple") a0))))) (tnot (tB' (bi Cc.all (ac (ofL (lc (iseq (v 0)) (nm 2) tyes (call 3 (wp_is_from_to K a) (ac (v 2) (ac (int 0) (ac (op sub (v 1) (int 1)) a0)))) [2] (vsub rfl))) a0))))) (ret (bl false)) nil)
      (ret (bi Cc.all (ac (ofL (lc (izip (ac (v 0) (ac (sl (v 0) (o1 (int 1)) o0) a0))) (gt 2 (gc (nm 2) (gc (nm 3) g0))) tyes (op lt (v 2) (v 3)) [2, 3] (vsub rfl))) a0))))
def wp_is_lot (K : PySem.W.Frag) (a : Ad) : WP := bodyW (b_is_lot K a) 4
def b_widened (K : PySem.W.Frag) (a : Ad) : S K :=
      (seq (asg (call 2 (wp_cleared K a) (ac (v 0) (ac (call 1 (wp_whole_row K a) (ac (v 1) a0)) a0))) (nm 2))
      (seq (asg (call 1 (wp_first_not_nought K a) (ac (v 2) a0)) (nm 3))
      (seq (ifs (tB' (isN (v 3))) (ret (v 0)) nil)
      (ret (ofL (lst (astar (v 0) (ac (tup (ac (v 3) (ac (v 2) a0))) a0))))))))
def wp_widened (K : PySem.W.Frag) (a : Ad) : WP := bodyW (b_widened K a) 4
def b_is_cell (K : PySem.W.Frag) (a : Ad) : S K :=
      (ret (call 3 (wp_is_from_to K a) (ac (v 1) (ac (int 0) (ac (op sub (call 1 (wp_count_cells K a) (ac (v 0) a0)) (int 1)) a0)))))
def wp_is_cell (K : PySem.W.Frag) (a : Ad) : WP := bodyW (b_is_cell K a) 2
def b_check_moment (K : PySem.W.Frag) (a : Ad) : S K :=
      (ifs (tnot (tB' (call 3 (wp_is_from_to K a) (ac (v 1) (ac (int 0) (ac (bi len (ac (v 0) a0)) a0)))))) (rai0 a.C_NoMoment) nil)
def wp_check_moment (K : PySem.W.Frag) (a : Ad) : WP := bodyW (b_check_moment K a) 2
def b__law_left (K : PySem.W.Frag) (a : Ad) : S K :=
      (seq (own 1 (borL (list (ac (v 1) a0))))
      (seq (fors (iseq (v 0)) (gt 2 (gc (nm 2) (gc (nm 3) g0)))
      (ifs (tst (op ne (op ix (bor (op ix (v 1) (v 2))) (int 0)) (int 0))) (seq (asg (call 2 (wp__law_low K a) (ac (op mul (neg (op ix (bor (op ix (v 1) (v 2))) (int 0))) (op ix (op ix (v 3) (v 2)) (int 1))) (ac (op mul (op ix (bor (op ix (v 1) (v 2))) (int 1)) (op ix (op ix (v 3) (v 2)) (int 0))) a0))) (nm 4))
      (own 1 (borL (lc (izip (ac (v 1) (ac (v 3) a0))) (gt 2 (gc (nm 5) (gc (nm 6) g0))) tyes (call 2 (wp__law_add K a) (ac (v 5) (ac (call 2 (wp__law_mul K a) (ac (v 4) (ac (v 6) a0))) a0))) [5, 6] (vsub rfl))))) nil))
      (retO 1)))
def wp__law_left (K : PySem.W.Frag) (a : Ad) : WPN := bodyN (b__law_left K a) 7
def b__law_some_row (K : PySem.W.Frag) (a : Ad) : S K :=
      (seq (asg (call 2 (wpS S_draw) (ac (v 0) (ac (int 6) a0))) (nm 3))
      (seq (ifs (tst (op eq (v 3) (int 0))) (ret (call 2 (wp__law_unit K a) (ac (v 1) (ac (v 2) a0)))) nil)
      (seq (own 4 (list (ac (call 2 (wp__law_unit K a) (ac (v 1) (ac (call 2 (wpS S_draw) (ac (v 0) (ac (v 1) a0))) a0))) a0)))
      (seq (ifs (tst (op gt' (v 3) (int 2))) (setO 4 (call 1 (wp__law_number K a) (ac (v 0) a0)) (call 2 (wpS S_draw) (ac (v 0) (ac (v 1) a0)))) nil)
      (seq (ifs (tst (op eq (v 3) (int 5))) (own 4 (lc (irg1 (ac (v 1) a0)) (nm 5) tyes (call 1 (wp__law_number K a) (ac (v 0) a0)) [5] (vsub rfl))) nil)
      (ret (bor (bi tuple (ac (v 4) a0)))))))))
def wp__law_some_row (K : PySem.W.Frag) (a : Ad) : WP := bodyW (b__law_some_row K a) 6
def b__law_order (K : PySem.W.Frag) (a : Ad) : S K :=
      (seq (asg (call 1 (wp__law_all_cells K a) (ac (v 1) a0)) (nm 2))
      (seq (asg (ofL (lc (iseq (call 2 (wp__law_mixed K a) (ac (v 0) (ac (listRg (v 2)) a0)))) (nm 6) (tst (op nin (v 6) (op ix (v 1) (int 1)))) (v 6) [6] (vsub rfl))) (nm 3))
      (seq (asg (op add (v 3) (sl (rev (v 3)) (o1 (int 1)) o0)) (nm 4))
      (seq (asg (call 2 (wpS S_draw) (ac (v 0) (ac (int 5) a0))) (nm 5))
      (seq (ifs (tst (op eq (v 5) (int 0))) (asg (ofL (lc (irg1 (ac (call 2 (wpS S_draw) (ac (v 0) (ac (int 9) a0))) a0)) (nm 7) tyes (call 2 (wpS S_draw) (ac (v 0) (ac (v 2) a0))) [7] (vsub rfl))) (nm 4)) nil)
      (seq (ifs (tst (op eq (v 5) (int 1))) (asg (ofL (lc (iseq (v 4)) (nm 6) (tst (op gt' (call 2 (wpS S_draw) (ac (v 0) (ac (int 6) a0))) (int 0))) (v 6) [6] (vsub rfl))) (nm 4)) nil)
      (seq (ifs (tst (op eq (v 5) (int 2))) (asg (op add (v 3) (sl (v 3) o0 (o1 (call 2 (wpS S_draw) (ac (v 0) (ac (op add (bi len (ac (v 3) a0)) (int 1)) a0)))))) (nm 4)) nil)
      (seq (ifs (tst (op eq (v 5) (int 3))) (asg (op add (sl (v 3) o0 (o1 (int 1))) (rev (v 3))) (nm 4)) nil)
      (ret (bi tuple (ac (v 4) a0)))))))))))
def wp__law_order (K : PySem.W.Frag) (a : Ad) : WP := bodyW (b__law_order K a) 8
def b_span_of (K : PySem.W.Frag) (a : Ad) : S K :=
      (seq (asg (ofL (lst a0)) (nm 1))
      (seq (fors (iseq (v 0)) (nm 2)
      (asg (call 2 (wp_widened K a) (ac (v 1) (ac (v 2) a0))) (nm 1)))
      (ret (v 1))))
def wp_span_of (K : PySem.W.Frag) (a : Ad) : WP := bodyW (b_span_of K a) 3
def b_check_rows (K : PySem.W.Frag) (a : Ad) : S K :=
      (seq (ifs (tor (tnot (tB' (bi (isT "tuple" (by simp)) (ac (v 0) (ac (ty "tuple") a0))))) (tnot (tst (chain le le (int 1) (bi len (ac (v 0) a0)) (int 6))))) (rai a.C_BadWish "part" (tup (ac (str "rows") a0))) nil)
      (fors (ienum (ac (v 0) a0)) (gt 2 (gc (nm 1) (gc (nm 2) g0)))
      (ifs (tand (tB' (notN (v 2))) (tnot (tB' (call 2 (wp_is_row K a) (ac (v 2) (ac (bi len (ac (v 0) a0)) a0)))))) (rai a.C_BadWish "part" (tup (ac (str "row") (ac (v 1) a0)))) nil)))
def wp_check_rows (K : PySem.W.Frag) (a : Ad) : WP := bodyW (b_check_rows K a) 3
def b_is_order (K : PySem.W.Frag) (a : Ad) : S K :=
      (seq (ifs (tor (tnot (tB' (bi (isT "tuple" (by simp)) (ac (v 1) (ac (ty "tuple") a0))))) (tst (op gt' (bi len (ac (v 1) a0)) (int 60)))) (ret (bl false)) nil)
      (ret (bi Cc.all (ac (ofL (lc (iseq (v 1)) (nm 2) tyes (call 2 (wp_is_cell K a) (ac (v 0) (ac (v 2) a0))) [2] (vsub rfl))) a0))))
def wp_is_order (K : PySem.W.Frag) (a : Ad) : WP := bodyW (b_is_order K a) 3
def b__law_steps (K : PySem.W.Frag) (a : Ad) : S K :=
      (seq (own 1 (lst a0))
      (seq (fors (iseq (v 0)) (nm 2)
      (seq (asg (ofL (borL (callL 2 (wp__law_left K a) (ac (v 1) (ac (v 2) a0))))) (nm 3))
      (seq (asg (ofL (lc (irg1 (ac (bi len (ac (v 3) a0)) a0)) (nm 5) (tst (op ne (op ix (op ix (v 3) (v 5)) (int 0)) (int 0))) (v 5) [5] (vsub rfl))) (nm 4))
      (ifs (tst (op gt' (bi len (ac (v 4) a0)) (int 0))) (drop (app 1 (tup (ac (op ix (v 4) (int 0)) (ac (v 3) a0))))) nil))))
      (ret (v 1))))
def wp__law_steps (K : PySem.W.Frag) (a : Ad) : WP := bodyW (b__law_steps K a) 6
def b__law_wish (K : PySem.W.Frag) (a : Ad) : S K :=
      (seq (asg (op add (int 1) (call 2 (wpS S_draw) (ac (v 0) (ac (v 1) a0)))) (nm 2))
      (seq (asg (call 2 (wpS S_draw) (ac (v 0) (ac (int 5) a0))) (nm 3))
      (seq (asg (ofL (lc (irg1 (ac (v 2) a0)) (nm 6) tyes (call 3 (wp__law_some_row K a) (ac (v 0) (ac (v 2) (ac (v 6) a0)))) [6] (vsub rfl))) (nm 4))
      (seq (ifs (tst (op eq (v 3) (int 0))) (asg (ofL (lc (iseq (call 2 (wp__law_mixed K a) (ac (v 0) (ac (listRg (v 2)) a0)))) (nm 7) tyes (call 2 (wp__law_unit K a) (ac (v 2) (ac (v 7) a0))) [7] (vsub rfl))) (nm 4)) nil)
      (seq (ifs (tst (op eq (v 3) (int 1))) (asg (ofL (lc (irg1 (ac (v 2) a0)) (nm 6) tyes (call 2 (wp__law_unit K a) (ac (v 2) (ac (call 2 (wpS S_draw) (ac (v 0) (ac (v 2) a0))) a0))) [6] (vsub rfl))) (nm 4)) nil)
      (seq (ifs (tst (op gt' (v 3) (int 2))) (asg (ofL (lc (iseq (v 4)) (nm 8) tyes (ife (tst (op eq (call 2 (wpS S_draw) (ac (v 0) (ac (int 5) a0))) (int 0))) non (v 8)) [8] (vsub rfl))) (nm 4)) nil)
      (seq (asg (ofL (lst a0)) (nm 5))
      (seq (ifs (tst (op eq (call 2 (wpS S_draw) (ac (v 0) (ac (int 4) a0))) (int 0))) (seq (asg (ofL (lc (irg1 (ac (v 2) a0)) (nm 6) (tst (op eq (call 2 (wpS S_draw) (ac (v 0) (ac (int 3) a0))) (int 0))) (v 6) [6] (vsub rfl))) (nm 5))
      (asg (ofL (lc (irg1 (ac (v 2) a0)) (nm 6) tyes (ife (tand (tst (op inn (v 6) (v 5))) (tst (op gt' (call 2 (wpS S_draw) (ac (v 0) (ac (int 4) a0))) (int 0)))) (call 2 (wp__law_unit K a) (ac (v 2) (ac (v 6) a0))) (op ix (v 4) (v 6))) [6] (vsub rfl))) (nm 4))) nil)
      (ret (tup (ac (bi tuple (ac (v 4) a0)) (ac (bi tuple (ac (v 5) a0)) (ac (op ix (ofL (lst (ac (int 0) (ac (int 0) (ac (int 0) (ac (int 1) (ac (int 2) a0))))))) (call 2 (wpS S_draw) (ac (v 0) (ac (int 5) a0)))) a0)))))))))))))
def wp__law_wish (K : PySem.W.Frag) (a : Ad) : WP := bodyW (b__law_wish K a) 9
def b_Wish_init (K : PySem.W.Frag) (a : Ad) : S K :=
      (seq (drop (call 1 (wp_check_rows K a) (ac (v 1) a0)))
      (seq (ifs (tnot (tB' (call 2 (wp_is_lot K a) (ac (v 2) (ac (bi len (ac (v 1) a0)) a0))))) (rai a.C_BadWish "part" (tup (ac (str "locked") a0))) nil)
      (seq (ifs (tnot (tB' (call 3 (wp_is_from_to K a) (ac (v 3) (ac (int 0) (ac (int 2) a0)))))) (rai a.C_BadWish "part" (tup (ac (str "spare") a0))) nil)
      (seq (setf 0 "rows" (v 1))
      (seq (setf 0 "locked" (v 2))
      (setf 0 "spare" (v 3)))))))
def b_check_order (K : PySem.W.Frag) (a : Ad) : S K :=
      (ifs (tnot (tB' (call 2 (wp_is_order K a) (ac (v 0) (ac (v 1) a0))))) (rai0 a.C_NoOrder) nil)
def wp_check_order (K : PySem.W.Frag) (a : Ad) : WP := bodyW (b_check_order K a) 2
def b_safe_span (K : PySem.W.Frag) (a : Ad) : S K :=
      (seq (own 2 (lst a0))
      (seq (fors (ienum (ac (fld (v 0) "rows") a0)) (gt 2 (gc (nm 3) (gc (nm 4) g0)))
      (ifs (tst (op eq (op ix (v 1) (v 3)) (str "not begun"))) (drop (app 2 (call 2 (wp_unit_row K a) (ac (v 3) (ac (bi len (ac (fld (v 0) "rows") a0)) a0))))) (ifs (tst (op eq (op ix (v 1) (v 3)) (str "done"))) (drop (app 2 (v 4))) nil)))
      (ret (call 1 (wp_span_of K a) (ac (v 2) a0)))))
def wp_safe_span (K : PySem.W.Frag) (a : Ad) : WP := bodyW (b_safe_span K a) 5
def b__law_rank (K : PySem.W.Frag) (a : Ad) : S K :=
      (ret (bi len (ac (call 1 (wp__law_steps K a) (ac (v 0) a0)) a0)))
def wp__law_rank (K : PySem.W.Frag) (a : Ad) : WP := bodyW (b__law_rank K a) 1
def b_lack_of (K : PySem.W.Frag) (a : Ad) : S K :=
      (seq (asg (call 2 (wp_safe_span K a) (ac (v 0) (ac (v 1) a0))) (nm 2))
      (seq (asg (v 2) (nm 3))
      (seq (fors (iseq (call 1 (wp_wished_cells K a) (ac (v 0) a0))) (nm 4)
      (asg (call 2 (wp_widened K a) (ac (v 3) (ac (op ix (fld (v 0) "rows") (v 4)) a0))) (nm 3)))
      (ret (op sub (bi len (ac (v 3) a0)) (bi len (ac (v 2) a0)))))))
def wp_lack_of (K : PySem.W.Frag) (a : Ad) : WP := bodyW (b_lack_of K a) 5
def b_stages (K : PySem.W.Frag) (a : Ad) : S K :=
      (seq (drop (call 2 (wp_check_order K a) (ac (v 0) (ac (v 1) a0))))
      (seq (drop (call 2 (wp_check_moment K a) (ac (v 1) (ac (v 2) a0))))
      (ret (wk (call 3 (wp_stages_at K a) (ac (v 0) (ac (call 1 (wp_single_ticks K a) (ac (v 1) a0)) (ac (v 2) a0))))))))
def wp_stages (K : PySem.W.Frag) (a : Ad) : WP := bodyW (b_stages K a) 3
def b__law_lack (K : PySem.W.Frag) (a : Ad) : S K :=
      (seq (asg (call 2 (wp__law_safe K a) (ac (v 0) (ac (v 1) a0))) (nm 2))
      (seq (asg (ofL (lc (iseq (call 1 (wp__law_wished K a) (ac (v 0) a0))) (nm 4) tyes (op ix (op ix (v 0) (int 0)) (v 4)) [4] (vsub rfl))) (nm 3))
      (ret (tup (ac (op sub (call 1 (wp__law_rank K a) (ac (op add (v 2) (v 3)) a0)) (call 1 (wp__law_rank K a) (ac (v 2) a0))) (ac (bi len (ac (ofL (lc (iseq (v 1)) (nm 5) (tst (op eq (v 5) (str "amid"))) (v 5) [5] (vsub rfl))) a0)) a0))))))
def wp__law_lack (K : PySem.W.Frag) (a : Ad) : WP := bodyW (b__law_lack K a) 6
def b_lack_at (K : PySem.W.Frag) (a : Ad) : S K :=
      (seq (asg (call 3 (wp_stages_at K a) (ac (wk (v 0)) (ac (wk (v 1)) (ac (wk (v 2)) a0)))) (nm 3))
      (ret (tup (ac (call 2 (wp_lack_of K a) (ac (wk (v 0)) (ac (wk (v 3)) a0))) (ac (mcountT (vr 3) (str "amid")) a0)))))
def wp_lack_at (K : PySem.W.Frag) (a : Ad) : WP := bodyW (b_lack_at K a) 4
def b__law_made_wish (K : PySem.W.Frag) (a : Ad) : S K :=
      (ret (mk a.C_Wish 3 ["rows", "locked", "spare"] (bodyI (b_Wish_init K a) a.C_Wish ["rows", "locked", "spare"] 4) (ac (op ix (v 0) (int 0)) (ac (op ix (v 0) (int 1)) (ac (op ix (v 0) (int 2)) a0)))))
def wp__law_made_wish (K : PySem.W.Frag) (a : Ad) : WP := bodyW (b__law_made_wish K a) 1
def b_lack (K : PySem.W.Frag) (a : Ad) : S K :=
      (seq (drop (call 2 (wp_check_order K a) (ac (v 0) (ac (v 1) a0))))
      (seq (drop (call 2 (wp_check_moment K a) (ac (v 1) (ac (v 2) a0))))
      (ret (call 3 (wp_lack_at K a) (ac (v 0) (ac (call 1 (wp_single_ticks K a) (ac (v 1) a0)) (ac (v 2) a0)))))))
def wp_lack (K : PySem.W.Frag) (a : Ad) : WP := bodyW (b_lack K a) 3
def b__law_word (K : PySem.W.Frag) (a : Ad) : S K :=
      (seq (asg (str "let") (nm 4))
      (seq (tryAs (.ref a.C_CellError) 5 (ifs (tst (op eq (v 0) (int 0))) (drop (call 3 (wp_stages K a) (ac (v 1) (ac (v 2) (ac (v 3) a0))))) (drop (call 3 (wp_lack K a) (ac (v 1) (ac (v 2) (ac (v 3) a0))))))
      (fun a_ cl_ d_ => (seq (asg (ofL (lst (ac (isX a_ cl_ d_ 5 (.ref a.C_NoOrder) (.ref a.C_NoOrder) (.own _)) (ac (isX a_ cl_ d_ 5 (.ref a.C_NoMoment) (.ref a.C_NoMoment) (.own _)) a0)))) (nm 6))
      (asg (ife (tst (op eq (mcount (v 6) (bl true)) (int 1))) (op ix (ofL (lst (ac (str "order") (ac (str "moment") a0)))) (mindex (v 6) (bl true))) (str "other")) (nm 4)))))
      (ret (v 4))))
def wp__law_word (K : PySem.W.Frag) (a : Ad) : WP := bodyW (b__law_word K a) 7
def b__law_refused_right (K : PySem.W.Frag) (a : Ad) : S K :=
      (seq (asg (call 1 (wp__law_all_cells K a) (ac (v 1) a0)) (nm 4))
      (seq (asg (ofL (lst (ac (v 3) (ac (op add (v 3) (tup (ac (v 4) a0))) (ac (op add (v 3) (tup (ac (neg (int 1)) a0))) (ac (op add (v 3) (tup (ac (bl true) a0))) (ac (ofL (list (ac (v 3) a0))) (ac non (ac (op mul (tup (ac (int 0) a0)) (int 60)) (ac (op mul (tup (ac (int 0) a0)) (int 61)) (ac (str "0") (ac dic (ac (call0 (wp__law_deep K a)) (ac (tup (ac (tup (ac (int 0) a0)) a0)) a0)))))))))))))) (nm 5))
      (seq (asg (op ix (v 5) (call 2 (wpS S_draw) (ac (v 0) (ac (int 12) a0)))) (nm 6))
      (seq (asg (op ix (ofL (lst (ac (int 0) (ac (int 1) (ac (bi len (ac (v 3) a0)) (ac (op add (bi len (ac (v 3) a0)) (int 1)) (ac (neg (int 1)) (ac (bl true) (ac non (ac (str "0") (ac (tup (ac (int 0) a0)) (ac (op pow (int 10) (int 29)) (ac (call0 (wp__law_deep K a)) (ac (int 60) a0)))))))))))))) (call 2 (wpS S_draw) (ac (v 0) (ac (int 12) a0)))) (nm 7))
      (seq (asg (str "order") (nm 8))
      (seq (ifs (tB' (call 2 (wp__law_is_order K a) (ac (v 1) (ac (v 6) a0)))) (asg (ife (tB' (call 3 (wp__law_is_int K a) (ac (v 7) (ac (int 0) (ac (bi len (ac (v 6) a0)) a0))))) (str "let") (str "moment")) (nm 8)) nil)
      (ret (op eq (ofL (lc (irg1 (ac (int 2) a0)) (nm 9) tyes (call 4 (wp__law_word K a) (ac (v 9) (ac (v 2) (ac (v 6) (ac (v 7) a0))))) [9] (vsub rfl))) (ofL (lst (ac (v 8) (ac (v 8) a0))))))))))))
def wp__law_refused_right (K : PySem.W.Frag) (a : Ad) : WP := bodyW (b__law_refused_right K a) 10
end My
namespace My
open PySem L2 Ab Cc
theorem W0_eq : W0 = fun _ _ _ _ => False := rfl
local macro_rules | `(tactic| walk_at "rd") => `(tactic| (simp only [e_te_v, e_te_vr, e_te_wk, e_te_int, e_te_bl, e_te_non, e_te_str, e_te_ty, e_te_cls, e_te_con, e_te_a0, e_te_ac, e_te_tup, e_te_dic, e_te_lst, e_te_ofL, e_te_op, e_te_nt, e_te_and, e_te_or, e_te_chain, e_te_neg, e_te_isN, e_te_notN, e_te_tst, e_te_tB', e_te_tand, e_te_tor, e_te_tnot, e_te_tyes, e_te_ife, e_te_bi, e_te_o0, e_te_o1, e_te_sl, e_te_fld, e_g_nm, e_vs_nm, e_g_g0, e_vs_g0, e_g_gc, e_vs_gc, e_g_gt, e_vs_gt, e_te_iseq, e_te_irg1, e_te_irg2, e_te_ienum, e_te_izip, e_te_bor, e_te_borL, e_te_app, e_te_ext, e_te_popAt, e_te_lc, e_te_dct1, e_te_call, e_te_call0, e_te_nil, e_te_seq, e_te_brk, e_te_cnt, e_te_drop, e_te_ret, e_te_retN, e_te_ifs, e_te_asg, e_te_own, e_te_par, e_te_fors, e_te_whs, e_te_aug, e_te_setO, e_te_rai, e_te_rai0, e_te_tryAs, e_r_add, e_r_mul, e_r_sub, e_r_lt, e_r_le, e_r_gt', e_r_ge, e_r_fdiv, e_r_mod, e_r_pow, e_r_eq, e_r_ne, e_r_inn, e_r_nin, e_r_ix, e_r_len, e_r_abs, e_r_toInt, e_r_gcd, e_r_all, e_r_any, e_r_sum, e_r_tuple, e_r_isT, e_r_isC, e_te_list, e_te_listRg, e_te_addL, e_te_retO, e_te_retL, e_te_callL, e_te_mk, e_te_setf, e_te_mcountT, e_r_tupleX, e_te_mcount, e_te_mindex, e_r_lcm, e_te_astar, e_te_revL, e_te_lc2, e_te_callG, e_te_isX, e_te_xf, e_r_fdivM, b_is_whole, b_is_tuple_of, b_unit_row, b_whole_row, b_shortened, b_first_not_nought, b_count_cells, b_wished_cells, b_single_ticks, b_written_cells, b__law_deep, b__law_low, b__law_unit, b__law_all_cells, b__law_wished, b__law_is_int, b_is_from_to, b_is_number, b_cleared, b_stages_at, b__law_mixed, b__law_add, b__law_mul, b__law_number, b__law_stages, b__law_safe, b__law_is_order, b_is_row, b_is_lot, b_widened, b_is_cell, b_check_moment, b__law_left, b__law_some_row, b__law_order, b_span_of, b_check_rows, b_is_order, b__law_steps, b__law_wish, b_Wish_init, b_check_order, b_safe_span, b__law_rank, b_lack_of, b_stages, b__law_lack, b_lack_at, b__law_made_wish, b_lack, b__law_word, b__law_refused_right, rev, W0_eq, List.map_cons, List.map_nil] <;> rfl))
section
variable {P : Program} {w : World} {K : PySem.W.Frag} {mg : Str → Option Value} {base : Heap} {a : Ad}
theorem ok_is_whole {f : Addr} {fd : FuncData} (F : Fun K "is_whole" "is_whole" s_is_whole f fd) (T : Tx mg) : FnOk P w K mg base (L2.CX P w) 1 f fd ["thing"] (spW K 1 (wp_is_whole K a)) :=
  fn_e (k := 0) F sc_is_whole (b_is_whole K a) (by decide) fun cdv A outer s H E W hr tk => ⟨_,
    (pss_one (ps_ret (pe_and (pe_callB (k_isi K) rfl T.isinstance (by decide +kernel) (pa_cons (pv 0) (pa_cons (pe_bltn (v := .ty "int") rfl T.int (by decide +kernel) rfl) pa_nil))) (pe_one (pe_not (pe_callB (k_isi K) rfl T.isinstance (by decide +kernel) (pa_cons (pv 0) (pa_cons (pe_bltn (v := .ty "bool") rfl T.bool (by decide +kernel) rfl) pa_nil)))))))), by walk_at "rd"⟩
theorem ok_is_tuple_of {f : Addr} {fd : FuncData} (F : Fun K "is_tuple_of" "is_tuple_of" s_is_tuple_of f fd) (T : Tx mg) : FnOk P w K mg base (L2.CX P w) 1 f fd ["thing", "many"] (spW K 2 (wp_is_tuple_of K a)) :=
  fn_e (k := 0) F sc_is_tuple_of (b_is_tuple_of K a) (by decide) fun cdv A outer s H E W hr tk => ⟨_,
    (pss_one (ps_ret (pe_and (pe_callB (k_isi K) rfl T.isinstance (by decide +kernel) (pa_cons (pv 0) (pa_cons (pe_bltn (v := .ty "tuple") rfl T.tuple (by decide +kernel) rfl) pa_nil))) (pe_one (pe_cmpR (k_eq K hr.units) (pe_callB (k_len K) rfl T.len (by decide +kernel) (pa_cons (pv 0) pa_nil)) (pv 1) (nomark _)))))), by walk_at "rd"⟩
theorem ok_unit_row {f : Addr} {fd : FuncData} (F : Fun K "unit_row" "unit_row" s_unit_row f fd) (T : Tx mg) (q_NOUGHT : ∃ u, mg "NOUGHT" = some u ∧ RelV (.ref a.A_NOUGHT) u) (q_ONE : ∃ u, mg "ONE" = some u ∧ RelV (.ref a.A_ONE) u) : FnOk P w K mg base (L2.CX P w) 1 f fd ["at", "many"] (spW K 2 (wp_unit_row K a)) :=
  fn_e (k := 0) F sc_unit_row (b_unit_row K a) (by decide) fun cdv A outer s H E W hr tk => ⟨_,
    (pss_one (ps_ret (pe_callTy (k_tuple K) rfl T.tuple (by decide +kernel) (pa_cons (pe_lc (own := [("place", 2)]) rfl sc_unit_row.nd (pi_range1 rfl T.range (pa_cons (pv 1) pa_nil)) (blkOk_by (own := [("place", 2)]) (N := N_unit_row) (sc := defScope s_unit_row) (by decide +kernel))
        (fun _ _ _ _ _ => (pg_name (i := 2) sc_unit_row.nd rfl (Or.inl rfl))) (fun _ _ _ _ _ => pts_nil) (fun _ _ _ _ _ => (pe_ifExp (pt_cmpR (k_eq K hr.units) (pv 2) (pv 0) (nomark _)) (kg_c (v := .ref a.A_ONE) rfl q_ONE) (kg_c (v := .ref a.A_NOUGHT) rfl q_NOUGHT)))) pa_nil)))), by walk_at "rd"⟩
theorem ok_whole_row {f : Addr} {fd : FuncData} (F : Fun K "whole_row" "whole_row" s_whole_row f fd) (T : Tx mg) : FnOk P w K mg base (L2.CX P w) 1 f fd ["row"] (spW K 1 (wp_whole_row K a)) :=
  fn_e (k := 0) F sc_whole_row (b_whole_row K a) (by decide) fun cdv A outer s H E W hr tk => ⟨_,
    (pss_cons (ps_set (i := 1) sc_whole_row.nd rfl (Or.inr rfl) pe_int)
      (pss_cons (ps_for (passes_of rfl) rfl (ki_seq K (pv 0)) (kg_tup (n := 2) K rfl (pgs_cons (pg_name (i := 2) sc_whole_row.nd rfl (Or.inl rfl)) (pgs_cons (pg_name (i := 3) sc_whole_row.nd rfl (Or.inl rfl)) pgs_nil)))
      (pss_one (ps_set (i := 1) sc_whole_row.nd rfl (Or.inr rfl) (pe_callBfun cr_lcm rfl T.lcm (pa_cons (pv 1) (pa_cons (pv 3) pa_nil))))))
      (pss_one (ps_ret (pe_lc (own := [("top", 4), ("bottom", 3)]) rfl sc_whole_row.nd (ki_seq K (pv 0)) (blkOk_by (own := [("top", 4), ("bottom", 3)]) (N := N_whole_row) (sc := defScope s_whole_row) (by decide +kernel))
        (fun _ _ _ _ _ => (kg_tup (n := 2) K rfl (pgs_cons (pg_name (i := 4) sc_whole_row.nd rfl (Or.inl rfl)) (pgs_cons (pg_name (i := 3) sc_whole_row.nd rfl (Or.inl rfl)) pgs_nil)))) (fun _ _ _ _ _ => pts_nil) (fun _ _ _ _ _ => (pe_op (k_times K) (pv 4) (pe_op op_fdivW (pv 1) (pv 3))))))))), by walk_at "rd"⟩
theorem ok_shortened {f : Addr} {fd : FuncData} (F : Fun K "shortened" "shortened" s_shortened f fd) (T : Tx mg) : FnOk P w K mg base (L2.CX P w) 1 f fd ["row"] (spW K 1 (wp_shortened K a)) :=
  fn_e (k := 0) F sc_shortened (b_shortened K a) (by decide) fun cdv A outer s H E W hr tk => ⟨_,
    (pss_cons (ps_set (i := 1) sc_shortened.nd rfl (Or.inr rfl) pe_int)
      (pss_cons (ps_for (passes_of rfl) rfl (ki_seq K (pv 0)) (pg_name (i := 2) sc_shortened.nd rfl (Or.inl rfl))
      (pss_one (ps_set (i := 1) sc_shortened.nd rfl (Or.inr rfl) (pe_callBfun cr_gcd rfl T.gcd (pa_cons (pv 1) (pa_cons (pv 2) pa_nil))))))
      (pss_cons (ps_if (pt_cmpR op_gt (pv 1) pe_int (nomark _)) (pss_one (ps_ret (pe_lc (own := [("item", 2)]) rfl sc_shortened.nd (ki_seq K (pv 0)) (blkOk_by (own := [("item", 2)]) (N := N_shortened) (sc := defScope s_shortened) (by decide +kernel))
        (fun _ _ _ _ _ => (pg_name (i := 2) sc_shortened.nd rfl (Or.inl rfl))) (fun _ _ _ _ _ => pts_nil) (fun _ _ _ _ _ => (pe_op op_fdivW (pv 2) (pv 1)))))) pss_nil)
      (pss_one (ps_ret (pv 0)))))), by walk_at "rd"⟩
theorem ok_first_not_nought {f : Addr} {fd : FuncData} (F : Fun K "first_not_nought" "first_not_nought" s_first_not_nought f fd) (T : Tx mg) : FnOk P w K mg base (L2.CX P w) 1 f fd ["row"] (spW K 1 (wp_first_not_nought K a)) :=
  fn_e (k := 0) F sc_first_not_nought (b_first_not_nought K a) (by decide) fun cdv A outer s H E W hr tk => ⟨_,
    (pss_cons (ps_for (passes_of rfl) rfl (ki_enum K rfl T.enumerate (pa_cons (pv 0) pa_nil)) (kg_tup (n := 2) K rfl (pgs_cons (pg_name (i := 1) sc_first_not_nought.nd rfl (Or.inl rfl)) (pgs_cons (pg_name (i := 2) sc_first_not_nought.nd rfl (Or.inl rfl)) pgs_nil)))
      (pss_one (ps_if (pt_cmpR (k_ne K hr.units) (pv 2) pe_int (nomark _)) (pss_one (ps_ret (pv 1))) pss_nil)))
      (pss_one (ps_ret pe_non))), by walk_at "rd"⟩
theorem ok_count_cells {f : Addr} {fd : FuncData} (F : Fun K "count_cells" "count_cells" s_count_cells f fd) (T : Tx mg) : FnOk P w K mg base (L2.CX P w) 1 f fd ["wish"] (spW K 1 (wp_count_cells K a)) :=
  fn_e (k := 0) F sc_count_cells (b_count_cells K a) (by decide) fun cdv A outer s H E W hr tk => ⟨_,
    (pss_one (ps_ret (pe_op (k_plus K) (pe_callB (k_len K) rfl T.len (by decide +kernel) (pa_cons (k_fld K (pv 0)) pa_nil)) (k_fld K (pv 0))))), by walk_at "rd"⟩
theorem ok_wished_cells {f : Addr} {fd : FuncData} (F : Fun K "wished_cells" "wished_cells" s_wished_cells f fd) (T : Tx mg) : FnOk P w K mg base (L2.CX P w) 1 f fd ["wish"] (spW K 1 (wp_wished_cells K a)) :=
  fn_e (k := 0) F sc_wished_cells (b_wished_cells K a) (by decide) fun cdv A outer s H E W hr tk => ⟨_,
    (pss_one (ps_ret (pe_lc (own := [("cell", 1), ("row", 2)]) rfl sc_wished_cells.nd (ki_enum K rfl T.enumerate (pa_cons (k_fld K (pv 0)) pa_nil)) (blkOk_by (own := [("cell", 1), ("row", 2)]) (N := N_wished_cells) (sc := defScope s_wished_cells) (by decide +kernel))
        (fun _ _ _ _ _ => (kg_tup (n := 2) K rfl (pgs_cons (pg_name (i := 1) sc_wished_cells.nd rfl (Or.inl rfl)) (pgs_cons (pg_name (i := 2) sc_wished_cells.nd rfl (Or.inl rfl)) pgs_nil)))) (fun _ _ _ _ _ => (pts_one (pt_cmp (pc_notN (pv 2))))) (fun _ _ _ _ _ => (pv 1))))), by walk_at "rd"⟩
theorem ok_single_ticks {f : Addr} {fd : FuncData} (F : Fun K "single_ticks" "single_ticks" s_single_ticks f fd) (T : Tx mg) : FnOk P w K mg base (L2.CX P w) 1 f fd ["order"] (spW K 1 (wp_single_ticks K a)) :=
  fn_e (k := 0) F sc_single_ticks (b_single_ticks K a) (by decide) fun cdv A outer s H E W hr tk => ⟨_,
    (pss_one (ps_ret (pe_callTy (k_tuple K) rfl T.tuple (by decide +kernel) (pa_cons (pe_lc (own := [("cell", 1)]) rfl sc_single_ticks.nd (ki_seq K (pv 0)) (blkOk_by (own := [("cell", 1)]) (N := N_single_ticks) (sc := defScope s_single_ticks) (by decide +kernel))
        (fun _ _ _ _ _ => (pg_name (i := 1) sc_single_ticks.nd rfl (Or.inl rfl))) (fun _ _ _ _ _ => pts_nil) (fun _ _ _ _ _ => (pe_tup (pa_cons (pv 1) pa_nil)))) pa_nil)))), by walk_at "rd"⟩
theorem ok_written_cells {f : Addr} {fd : FuncData} (F : Fun K "written_cells" "written_cells" s_written_cells f fd) (T : Tx mg) : FnOk P w K mg base (L2.CX P w) 1 f fd ["ticks"] (spW K 1 (wp_written_cells K a)) :=
  fn_e (k := 0) F sc_written_cells (b_written_cells K a) (by decide) fun cdv A outer s H E W hr tk => ⟨_,
    (pss_one (ps_ret (pe_lc2 (own := [("tick", 1), ("cell", 2)]) (vs1 := [2]) rfl sc_written_cells.nd (ki_seq K (pv 0)) (blkOk_by (own := [("tick", 1), ("cell", 2)]) (N := N_written_cells) (sc := defScope s_written_cells) (by decide +kernel)) (by decide)
        (fun _ _ _ _ _ => (pg_name (i := 1) sc_written_cells.nd rfl (Or.inl rfl))) (fun _ _ _ _ _ => pts_nil) (fun _ _ _ _ _ => (ki_seq K (pv 1))) (fun _ _ _ _ _ => (pg_name (i := 2) sc_written_cells.nd rfl (Or.inl rfl))) (fun _ _ _ _ _ => pts_nil) (fun _ _ _ _ _ => (pv 2))))), by walk_at "rd"⟩
theorem ok__law_deep {f : Addr} {fd : FuncData} (F : Fun K "_law_deep" "_law_deep" s__law_deep f fd) (T : Tx mg) : FnOk P w K mg base (L2.CX P w) 1 f fd [] (spW K 0 (wp__law_deep K a)) :=
  fn_e (k := 0) F sc__law_deep (b__law_deep K a) (by decide) fun cdv A outer s H E W hr tk => ⟨_,
    (pss_cons (ps_set (i := 0) sc__law_deep.nd rfl (Or.inl rfl) (pe_lst (pa_cons pe_non pa_nil)))
      (pss_cons (ps_for (passes_of rfl) rfl (pi_range1 rfl T.range (pa_cons pe_int pa_nil)) (pg_name (i := 1) sc__law_deep.nd rfl (Or.inl rfl))
      (pss_one (ps_set (i := 0) sc__law_deep.nd rfl (Or.inl rfl) (pe_lst (pa_cons (pv 0) pa_nil)))))
      (pss_one (ps_ret (pv 0))))), by walk_at "rd"⟩
theorem ok__law_low {f : Addr} {fd : FuncData} (F : Fun K "_law_low" "_law_low" s__law_low f fd) (T : Tx mg) : FnOk P w K mg base (L2.CX P w) 1 f fd ["top", "bottom"] (spW K 2 (wp__law_low K a)) :=
  fn_e (k := 0) F sc__law_low (b__law_low K a) (by decide) fun cdv A outer s H E W hr tk => ⟨_,
    (pss_cons (ps_par (i := 2) (j := 3) rfl sc__law_low.nd rfl rfl (by decide) rfl rfl (pa_cons (pe_callB call_abs rfl T.abs (by decide +kernel) (pa_cons (pv 0) pa_nil)) (pa_cons (pe_callB call_abs rfl T.abs (by decide +kernel) (pa_cons (pv 1) pa_nil)) pa_nil)) (by rfl))
      (pss_cons (ps_while (passes_of rfl) (pt_cmpR op_gt (pv 3) pe_int (nomark _))
      (pss_one (ps_par (i := 2) (j := 3) rfl sc__law_low.nd rfl rfl (by decide) rfl rfl (pa_cons (pv 3) (pa_cons (pe_op op_mod (pe_callTy call_int1 rfl T.int (by decide +kernel) (pa_cons (pv 2) pa_nil)) (pv 3)) pa_nil)) (by rfl))))
      (pss_cons (ps_set (i := 2) sc__law_low.nd rfl (Or.inl rfl) (pe_ifExp (pt_cmpR op_gt (pv 1) pe_int (nomark _)) (pv 2) (pe_un un_neg (pv 2))))
      (pss_one (ps_ret (pe_tup (pa_cons (pe_op op_fdivM (pv 0) (pv 2)) (pa_cons (pe_op op_fdivM (pv 1) (pv 2)) pa_nil)))))))), by walk_at "rd"⟩
theorem ok__law_unit {f : Addr} {fd : FuncData} (F : Fun K "_law_unit" "_law_unit" s__law_unit f fd) (T : Tx mg) : FnOk P w K mg base (L2.CX P w) 1 f fd ["size", "at"] (spW K 2 (wp__law_unit K a)) :=
  fn_e (k := 0) F sc__law_unit (b__law_unit K a) (by decide) fun cdv A outer s H E W hr tk => ⟨_,
    (pss_one (ps_ret (pe_callTy (k_tuple K) rfl T.tuple (by decide +kernel) (pa_cons (pe_lc (own := [("place", 2)]) rfl sc__law_unit.nd (pi_range1 rfl T.range (pa_cons (pv 0) pa_nil)) (blkOk_by (own := [("place", 2)]) (N := N__law_unit) (sc := defScope s__law_unit) (by decide +kernel))
        (fun _ _ _ _ _ => (pg_name (i := 2) sc__law_unit.nd rfl (Or.inl rfl))) (fun _ _ _ _ _ => pts_nil) (fun _ _ _ _ _ => (pe_tup (pa_cons (pe_callTy call_int1 rfl T.int (by decide +kernel) (pa_cons (pe_cmpR (k_eq K hr.units) (pv 2) (pv 1) (nomark _)) pa_nil)) (pa_cons pe_int pa_nil))))) pa_nil)))), by walk_at "rd"⟩
theorem ok__law_all_cells {f : Addr} {fd : FuncData} (F : Fun K "_law_all_cells" "_law_all_cells" s__law_all_cells f fd) (T : Tx mg) : FnOk P w K mg base (L2.CX P w) 1 f fd ["spec"] (spW K 1 (wp__law_all_cells K a)) :=
  fn_e (k := 0) F sc__law_all_cells (b__law_all_cells K a) (by decide) fun cdv A outer s H E W hr tk => ⟨_,
    (pss_one (ps_ret (pe_op (k_plus K) (pe_callB (k_len K) rfl T.len (by decide +kernel) (pa_cons (pe_ix (k_ix K) (pv 0) pe_int (fun _ _ => rfl)) pa_nil)) (pe_ix (k_ix K) (pv 0) pe_int (fun _ _ => rfl))))), by walk_at "rd"⟩
theorem ok__law_wished {f : Addr} {fd : FuncData} (F : Fun K "_law_wished" "_law_wished" s__law_wished f fd) (T : Tx mg) : FnOk P w K mg base (L2.CX P w) 1 f fd ["spec"] (spW K 1 (wp__law_wished K a)) :=
  fn_e (k := 0) F sc__law_wished (b__law_wished K a) (by decide) fun cdv A outer s H E W hr tk => ⟨_,
    (pss_one (ps_ret (pe_lc (own := [("cell", 1)]) rfl sc__law_wished.nd (pi_range1 rfl T.range (pa_cons (pe_callB (k_len K) rfl T.len (by decide +kernel) (pa_cons (pe_ix (k_ix K) (pv 0) pe_int (fun _ _ => rfl)) pa_nil)) pa_nil)) (blkOk_by (own := [("cell", 1)]) (N := N__law_wished) (sc := defScope s__law_wished) (by decide +kernel))
        (fun _ _ _ _ _ => (pg_name (i := 1) sc__law_wished.nd rfl (Or.inl rfl))) (fun _ _ _ _ _ => (pts_one (pt_val (pe_callB (k_isi K) rfl T.isinstance (by decide +kernel) (pa_cons (pe_ix (k_ix K) (pe_ix (k_ix K) (pv 0) pe_int (fun _ _ => rfl)) (pv 1) (fun _ _ => rfl)) (pa_cons (pe_bltn (v := .ty "tuple") rfl T.tuple (by decide +kernel) rfl) pa_nil)))))) (fun _ _ _ _ _ => (pv 1))))), by walk_at "rd"⟩
theorem ok__law_is_int {f : Addr} {fd : FuncData} (F : Fun K "_law_is_int" "_law_is_int" s__law_is_int f fd) (T : Tx mg) : FnOk P w K mg base (L2.CX P w) 1 f fd ["thing", "least", "most"] (spW K 3 (wp__law_is_int K a)) :=
  fn_e (k := 0) F sc__law_is_int (b__law_is_int K a) (by decide) fun cdv A outer s H E W hr tk => ⟨_,
    (pss_one (ps_ret (pe_and (pe_callB (k_isi K) rfl T.isinstance (by decide +kernel) (pa_cons (pv 0) (pa_cons (pe_bltn (v := .ty "int") rfl T.int (by decide +kernel) rfl) pa_nil))) (pe_and (pe_not (pe_callB (k_isi K) rfl T.isinstance (by decide +kernel) (pa_cons (pv 0) (pa_cons (pe_bltn (v := .ty "bool") rfl T.bool (by decide +kernel) rfl) pa_nil)))) (pe_one (pe_chain op_le op_le (pv 1) (pv 0) (pv 2))))))), by walk_at "rd"⟩
theorem ok_is_from_to {f : Addr} {fd : FuncData} (F : Fun K "is_from_to" "is_from_to" s_is_from_to f fd) (T : Tx mg) (c_is_whole : DfnW P w K mg base "is_whole" 1 1 (wp_is_whole K a)) : FnOk P w K mg base (L2.CX P w) 2 f fd ["thing", "low", "high"] (spW K 3 (wp_is_from_to K a)) :=
  fn_e (k := 1) F sc_is_from_to (b_is_from_to K a) (by decide) fun cdv A outer s H E W hr tk => ⟨_,
    (pss_one (ps_ret (pe_and (kw_fn tk c_is_whole hr (by decide) ⟨rfl, rfl, rfl, rfl, rfl⟩ rfl (pa_cons (pv 0) pa_nil)) (pe_one (pe_chain op_le op_le (pv 1) (pv 0) (pv 2)))))), by walk_at "rd"⟩
theorem ok_is_number {f : Addr} {fd : FuncData} (F : Fun K "is_number" "is_number" s_is_number f fd) (T : Tx mg) (c_is_tuple_of : DfnW P w K mg base "is_tuple_of" 1 2 (wp_is_tuple_of K a)) (c_is_whole : DfnW P w K mg base "is_whole" 1 1 (wp_is_whole K a)) : FnOk P w K mg base (L2.CX P w) 2 f fd ["thing"] (spW K 1 (wp_is_number K a)) :=
  fn_e (k := 1) F sc_is_number (b_is_number K a) (by decide) fun cdv A outer s H E W hr tk => ⟨_,
    (pss_cons (ps_if (pt_not (pt_val (kw_fn tk c_is_tuple_of hr (by decide) ⟨rfl, rfl, rfl, rfl, rfl⟩ rfl (pa_cons (pv 0) (pa_cons pe_int pa_nil))))) (pss_one (ps_ret pe_bl)) pss_nil)
      (pss_cons (ps_asg (pv 0) (kg_tup (n := 2) K rfl (pgs_cons (pg_name (i := 1) sc_is_number.nd rfl (Or.inl rfl)) (pgs_cons (pg_name (i := 2) sc_is_number.nd rfl (Or.inl rfl)) pgs_nil))))
      (pss_one (ps_ret (pe_and (kw_fn tk c_is_whole hr (by decide) ⟨rfl, rfl, rfl, rfl, rfl⟩ rfl (pa_cons (pv 1) pa_nil)) (pe_and (kw_fn tk c_is_whole hr (by decide) ⟨rfl, rfl, rfl, rfl, rfl⟩ rfl (pa_cons (pv 2) pa_nil)) (pe_and (pe_cmpR op_ge (pv 2) pe_int (nomark _)) (pe_one (pe_cmpR (k_eq K hr.units) (pe_callBfun cr_gcd rfl T.gcd (pa_cons (pv 1) (pa_cons (pv 2) pa_nil))) pe_int (nomark _)))))))))), by walk_at "rd"⟩
theorem ok_cleared {f : Addr} {fd : FuncData} (F : Fun K "cleared" "cleared" s_cleared f fd) (T : Tx mg) (c_shortened : DfnW P w K mg base "shortened" 1 1 (wp_shortened K a)) : FnOk P w K mg base (L2.CX P w) 2 f fd ["span", "row"] (spW K 2 (wp_cleared K a)) :=
  fn_e (k := 1) F sc_cleared (b_cleared K a) (by decide) fun cdv A outer s H E W hr tk => ⟨_,
    (pss_cons (ps_set (i := 2) sc_cleared.nd rfl (Or.inl rfl) (pv 1))
      (pss_cons (ps_for (passes_of rfl) rfl (ki_seq K (pv 0)) (kg_tup (n := 2) K rfl (pgs_cons (pg_name (i := 3) sc_cleared.nd rfl (Or.inl rfl)) (pgs_cons (pg_name (i := 4) sc_cleared.nd rfl (Or.inl rfl)) pgs_nil)))
      (pss_cons (ps_asg (pe_tup (pa_cons (pe_ix (k_ix K) (pv 4) (pv 3) (fun _ _ => rfl)) (pa_cons (pe_ix (k_ix K) (pv 2) (pv 3) (fun _ _ => rfl)) pa_nil))) (kg_tup (n := 2) K rfl (pgs_cons (pg_name (i := 5) sc_cleared.nd rfl (Or.inr rfl)) (pgs_cons (pg_name (i := 6) sc_cleared.nd rfl (Or.inr rfl)) pgs_nil))))
      (pss_one (ps_if (pt_cmpR (k_ne K hr.units) (pv 6) pe_int (nomark _)) (pss_one (ps_set (i := 2) sc_cleared.nd rfl (Or.inl rfl) (kw_fn tk c_shortened hr (by decide) ⟨rfl, rfl, rfl, rfl, rfl⟩ rfl (pa_cons (pe_lc (own := [("item", 7), ("other", 8)]) rfl sc_cleared.nd (ki_zip K rfl T.zip (pa_cons (pv 2) (pa_cons (pv 4) pa_nil))) (blkOk_by (own := [("item", 7), ("other", 8)]) (N := N_cleared) (sc := defScope s_cleared) (by decide +kernel))
        (fun _ _ _ _ _ => (kg_tup (n := 2) K rfl (pgs_cons (pg_name (i := 7) sc_cleared.nd rfl (Or.inl rfl)) (pgs_cons (pg_name (i := 8) sc_cleared.nd rfl (Or.inl rfl)) pgs_nil)))) (fun _ _ _ _ _ => pts_nil) (fun _ _ _ _ _ => (pe_op op_sub (pe_op (k_times K) (pv 5) (pv 7)) (pe_op (k_times K) (pv 6) (pv 8))))) pa_nil)))) pss_nil))))
      (pss_one (ps_ret (pv 2))))), by walk_at "rd"⟩
theorem ok_stages_at {f : Addr} {fd : FuncData} (F : Fun K "stages_at" "stages_at" s_stages_at f fd) (T : Tx mg) (c_written_cells : DfnW P w K mg base "written_cells" 1 1 (wp_written_cells K a)) (c_wished_cells : DfnW P w K mg base "wished_cells" 1 1 (wp_wished_cells K a)) (c_count_cells : DfnW P w K mg base "count_cells" 1 1 (wp_count_cells K a)) : FnOk P w K mg base (L2.CX P w) 2 f fd ["wish", "ticks", "moment"] (spW K 3 (wp_stages_at K a)) :=
  fn_e (k := 1) F sc_stages_at (b_stages_at K a) (by decide) fun cdv A outer s H E W hr tk => ⟨_,
    (pss_cons (ps_set (i := 3) sc_stages_at.nd rfl (Or.inl rfl) (kw_fn tk c_written_cells hr (by decide) ⟨rfl, rfl, rfl, rfl, rfl⟩ rfl (pa_cons (pe_slice (k_sl K) (pv 1) po_none (po_some (pv 2))) pa_nil)))
      (pss_cons (ps_set (i := 4) sc_stages_at.nd rfl (Or.inl rfl) (kw_fn tk c_written_cells hr (by decide) ⟨rfl, rfl, rfl, rfl, rfl⟩ rfl (pa_cons (pe_slice (k_sl K) (pv 1) (po_some (pv 2)) po_none) pa_nil)))
      (pss_cons (ps_set (i := 5) sc_stages_at.nd rfl (Or.inl rfl) (kw_fn tk c_wished_cells hr (by decide) ⟨rfl, rfl, rfl, rfl, rfl⟩ rfl (pa_cons (pv 0) pa_nil)))
      (pss_cons (ps_set (i := 6) sc_stages_at.nd rfl (Or.inl rfl) (pe_lst pa_nil))
      (pss_cons (ps_for (passes_of rfl) rfl (pi_range1 rfl T.range (pa_cons (kw_fn tk c_count_cells hr (by decide) ⟨rfl, rfl, rfl, rfl, rfl⟩ rfl (pa_cons (pv 0) pa_nil)) pa_nil)) (pg_name (i := 7) sc_stages_at.nd rfl (Or.inl rfl))
      (pss_one (ps_if (pt_cmpR (k_nin K) (pv 7) (pv 3) rfl) (pss_one (ps_expr (pe_bm PySem.F.plainAttrs_list PySem.F.slot_list_append PySem.F.type_list_append mt_append (pv 6) (pa_cons (kg_c (v := .str "not begun") rfl T.c_NOT_BEGUN) pa_nil)))) (pss_one (ps_if (PW.pt (pw_and (pt_cmpR (k_in K) (pv 7) (pv 5) rfl) (pw_and1 (pt_cmpR (k_nin K) (pv 7) (pv 4) rfl)))) (pss_one (ps_expr (pe_bm PySem.F.plainAttrs_list PySem.F.slot_list_append PySem.F.type_list_append mt_append (pv 6) (pa_cons (kg_c (v := .str "done") rfl T.c_DONE) pa_nil)))) (pss_one (ps_expr (pe_bm PySem.F.plainAttrs_list PySem.F.slot_list_append PySem.F.type_list_append mt_append (pv 6) (pa_cons (kg_c (v := .str "amid") rfl T.c_AMID) pa_nil)))))))))
      (pss_one (ps_ret (pe_callTy (k_tupleX K) rfl T.tuple (by decide +kernel) (pa_cons (pv 6) pa_nil))))))))), by walk_at "rd"⟩
theorem ok__law_mixed {f : Addr} {fd : FuncData} (F : Fun K "_law_mixed" "_law_mixed" s__law_mixed f fd) (T : Tx mg) (c__law_draw : DfnW P w K mg base "_law_draw" 1 2 (wpS S_draw)) : FnOk P w K mg base (L2.CX P w) 2 f fd ["pool", "things"] (spW K 2 (wp__law_mixed K a)) :=
  fn_e (k := 1) F sc__law_mixed (b__law_mixed K a) (by decide) fun cdv A outer s H E W hr tk => ⟨_,
    (pss_cons (ps_set (i := 2) sc__law_mixed.nd rfl (Or.inl rfl) (pe_callTy (k_list K) rfl T.list (by decide +kernel) (pa_cons (pv 1) pa_nil)))
      (pss_cons (ps_set (i := 3) sc__law_mixed.nd rfl (Or.inl rfl) (pe_lst pa_nil))
      (pss_cons (ps_for (passes_of rfl) rfl (pi_range1 rfl T.range (pa_cons (pe_callB (k_len K) rfl T.len (by decide +kernel) (pa_cons (pv 1) pa_nil)) pa_nil)) (pg_name (i := 4) sc__law_mixed.nd rfl (Or.inl rfl))
      (pss_one (ps_expr (pe_bm PySem.F.plainAttrs_list PySem.F.slot_list_append PySem.F.type_list_append mt_append (pv 3) (pa_cons (pe_bm PySem.F.plainAttrs_list PySem.F.slot_list_pop PySem.F.type_list_pop mt_popAt (pv 2) (pa_cons (kw_fn tk c__law_draw hr (by decide) ⟨rfl, rfl, rfl, rfl, rfl⟩ rfl (pa_cons (pv 0) (pa_cons (pe_callB (k_len K) rfl T.len (by decide +kernel) (pa_cons (pv 2) pa_nil)) pa_nil))) pa_nil)) pa_nil)))))
      (pss_one (ps_ret (pv 3)))))), by walk_at "rd"⟩
theorem ok__law_add {f : Addr} {fd : FuncData} (F : Fun K "_law_add" "_law_add" s__law_add f fd) (T : Tx mg) (c__law_low : DfnW P w K mg base "_law_low" 1 2 (wp__law_low K a)) : FnOk P w K mg base (L2.CX P w) 2 f fd ["one", "other"] (spW K 2 (wp__law_add K a)) :=
  fn_e (k := 1) F sc__law_add (b__law_add K a) (by decide) fun cdv A outer s H E W hr tk => ⟨_,
    (pss_one (ps_ret (kw_fn tk c__law_low hr (by decide) ⟨rfl, rfl, rfl, rfl, rfl⟩ rfl (pa_cons (pe_op (k_plus K) (pe_op (k_times K) (pe_ix (k_ix K) (pv 0) pe_int (fun _ _ => rfl)) (pe_ix (k_ix K) (pv 1) pe_int (fun _ _ => rfl))) (pe_op (k_times K) (pe_ix (k_ix K) (pv 1) pe_int (fun _ _ => rfl)) (pe_ix (k_ix K) (pv 0) pe_int (fun _ _ => rfl)))) (pa_cons (pe_op (k_times K) (pe_ix (k_ix K) (pv 0) pe_int (fun _ _ => rfl)) (pe_ix (k_ix K) (pv 1) pe_int (fun _ _ => rfl))) pa_nil))))), by walk_at "rd"⟩
theorem ok__law_mul {f : Addr} {fd : FuncData} (F : Fun K "_law_mul" "_law_mul" s__law_mul f fd) (T : Tx mg) (c__law_low : DfnW P w K mg base "_law_low" 1 2 (wp__law_low K a)) : FnOk P w K mg base (L2.CX P w) 2 f fd ["one", "other"] (spW K 2 (wp__law_mul K a)) :=
  fn_e (k := 1) F sc__law_mul (b__law_mul K a) (by decide) fun cdv A outer s H E W hr tk => ⟨_,
    (pss_one (ps_ret (kw_fn tk c__law_low hr (by decide) ⟨rfl, rfl, rfl, rfl, rfl⟩ rfl (pa_cons (pe_op (k_times K) (pe_ix (k_ix K) (pv 0) pe_int (fun _ _ => rfl)) (pe_ix (k_ix K) (pv 1) pe_int (fun _ _ => rfl))) (pa_cons (pe_op (k_times K) (pe_ix (k_ix K) (pv 0) pe_int (fun _ _ => rfl)) (pe_ix (k_ix K) (pv 1) pe_int (fun _ _ => rfl))) pa_nil))))), by walk_at "rd"⟩
theorem ok__law_number {f : Addr} {fd : FuncData} (F : Fun K "_law_number" "_law_number" s__law_number f fd) (T : Tx mg) (c__law_draw : DfnW P w K mg base "_law_draw" 1 2 (wpS S_draw)) : FnOk P w K mg base (L2.CX P w) 2 f fd ["pool"] (spW K 1 (wp__law_number K a)) :=
  fn_e (k := 1) F sc__law_number (b__law_number K a) (by decide) fun cdv A outer s H E W hr tk => ⟨_,
    (pss_cons (ps_set (i := 1) sc__law_number.nd rfl (Or.inl rfl) (pe_lst (pa_cons (pe_tup (pa_cons pe_int (pa_cons pe_int pa_nil))) (pa_cons (pe_tup (pa_cons pe_int (pa_cons pe_int pa_nil))) (pa_cons (pe_tup (pa_cons (pe_un un_neg pe_int) (pa_cons pe_int pa_nil))) (pa_cons (pe_tup (pa_cons pe_int (pa_cons pe_int pa_nil))) (pa_cons (pe_tup (pa_cons pe_int (pa_cons pe_int pa_nil))) (pa_cons (pe_tup (pa_cons (pe_un un_neg pe_int) (pa_cons pe_int pa_nil))) (pa_cons (pe_tup (pa_cons pe_int (pa_cons pe_int pa_nil))) (pa_cons (pe_tup (pa_cons pe_int (pa_cons pe_int pa_nil))) (pa_cons (pe_tup (pa_cons pe_int (pa_cons pe_int pa_nil))) (pa_cons (pe_tup (pa_cons pe_int (pa_cons pe_int pa_nil))) pa_nil))))))))))))
      (pss_one (ps_ret (pe_ix (k_ix K) (pv 1) (kw_fn tk c__law_draw hr (by decide) ⟨rfl, rfl, rfl, rfl, rfl⟩ rfl (pa_cons (pv 0) (pa_cons pe_int pa_nil))) (fun _ _ => rfl))))), by walk_at "rd"⟩
theorem ok__law_stages {f : Addr} {fd : FuncData} (F : Fun K "_law_stages" "_law_stages" s__law_stages f fd) (T : Tx mg) (c__law_all_cells : DfnW P w K mg base "_law_all_cells" 1 1 (wp__law_all_cells K a)) : FnOk P w K mg base (L2.CX P w) 2 f fd ["spec", "order", "moment"] (spW K 3 (wp__law_stages K a)) :=
  fn_e (k := 1) F sc__law_stages (b__law_stages K a) (by decide) fun cdv A outer s H E W hr tk => ⟨_,
    (pss_cons (ps_set (i := 3) sc__law_stages.nd rfl (Or.inl rfl) (pe_lst pa_nil))
      (pss_cons (ps_for (passes_of rfl) rfl (pi_range1 rfl T.range (pa_cons (kw_fn tk c__law_all_cells hr (by decide) ⟨rfl, rfl, rfl, rfl, rfl⟩ rfl (pa_cons (pv 0) pa_nil)) pa_nil)) (pg_name (i := 4) sc__law_stages.nd rfl (Or.inl rfl))
      (pss_cons (ps_set (i := 5) sc__law_stages.nd rfl (Or.inl rfl) (pe_and (pe_cmpR op_lt (pv 4) (pe_callB (k_len K) rfl T.len (by decide +kernel) (pa_cons (pe_ix (k_ix K) (pv 0) pe_int (fun _ _ => rfl)) pa_nil)) (nomark _)) (pe_one (pe_callB (k_isi K) rfl T.isinstance (by decide +kernel) (pa_cons (pe_ix (k_ix K) (pe_ix (k_ix K) (pv 0) pe_int (fun _ _ => rfl)) (pv 4) (fun _ _ => rfl)) (pa_cons (pe_bltn (v := .ty "tuple") rfl T.tuple (by decide +kernel) rfl) pa_nil))))))
      (pss_cons (ps_set (i := 6) sc__law_stages.nd rfl (Or.inl rfl) pe_str)
      (pss_cons (ps_if (pt_cmpR (k_nin K) (pv 4) (pe_slice (k_sl K) (pv 1) po_none (po_some (pv 2))) rfl) (pss_one (ps_set (i := 6) sc__law_stages.nd rfl (Or.inl rfl) pe_str)) (pss_one (ps_if (PW.pt (pw_and (pt_val (pv 5)) (pw_and1 (pt_cmpR (k_nin K) (pv 4) (pe_slice (k_sl K) (pv 1) (po_some (pv 2)) po_none) rfl)))) (pss_one (ps_set (i := 6) sc__law_stages.nd rfl (Or.inl rfl) pe_str)) pss_nil)))
      (pss_one (ps_expr (pe_bm PySem.F.plainAttrs_list PySem.F.slot_list_append PySem.F.type_list_append mt_append (pv 3) (pa_cons (pv 6) pa_nil))))))))
      (pss_one (ps_ret (pe_callTy (k_tuple K) rfl T.tuple (by decide +kernel) (pa_cons (pv 3) pa_nil)))))), by walk_at "rd"⟩
theorem ok__law_safe {f : Addr} {fd : FuncData} (F : Fun K "_law_safe" "_law_safe" s__law_safe f fd) (T : Tx mg) (c__law_unit : DfnW P w K mg base "_law_unit" 1 2 (wp__law_unit K a)) : FnOk P w K mg base (L2.CX P w) 2 f fd ["spec", "words"] (spW K 2 (wp__law_safe K a)) :=
  fn_e (k := 1) F sc__law_safe (b__law_safe K a) (by decide) fun cdv A outer s H E W hr tk => ⟨_,
    (pss_cons (ps_set (i := 2) sc__law_safe.nd rfl (Or.inr rfl) (pe_callB (k_len K) rfl T.len (by decide +kernel) (pa_cons (pe_ix (k_ix K) (pv 0) pe_int (fun _ _ => rfl)) pa_nil)))
      (pss_cons (ps_setLc (i := 3) (own := [("cell", 4)]) rfl sc__law_safe.nd rfl rfl (sw_true rfl rfl rfl (by decide +kernel)) (pi_range1 rfl T.range (pa_cons (pv 2) pa_nil)) (blkOk_by (own := [("cell", 4)]) (N := N__law_safe) (sc := defScope s__law_safe) (by decide +kernel))
        (fun _ _ _ _ _ => (pg_name (i := 4) sc__law_safe.nd rfl (Or.inl rfl))) (fun _ _ _ _ _ => (pts_one (pt_cmpR (k_eq K hr.units) (pe_ix (k_ix K) (pv 1) (pv 4) (fun _ _ => rfl)) pe_str (nomark _)))) (fun _ _ _ _ _ => (kw_fn takes0 c__law_unit hr (by decide) ⟨rfl, rfl, rfl, rfl, rfl⟩ rfl (pa_cons (pv 2) (pa_cons (pv 4) pa_nil)))))
      (pss_one (ps_ret (pe_op (k_plus K) (pv 3) (pe_lc (own := [("cell", 4)]) rfl sc__law_safe.nd (pi_range1 rfl T.range (pa_cons (pv 2) pa_nil)) (blkOk_by (own := [("cell", 4)]) (N := N__law_safe) (sc := defScope s__law_safe) (by decide +kernel))
        (fun _ _ _ _ _ => (pg_name (i := 4) sc__law_safe.nd rfl (Or.inl rfl))) (fun _ _ _ _ _ => (pts_one (pt_cmpR (k_eq K hr.units) (pe_ix (k_ix K) (pv 1) (pv 4) (fun _ _ => rfl)) pe_str (nomark _)))) (fun _ _ _ _ _ => (pe_ix (k_ix K) (pe_ix (k_ix K) (pv 0) pe_int (fun _ _ => rfl)) (pv 4) (fun _ _ => rfl))))))))), by walk_at "rd"⟩
theorem ok__law_is_order {f : Addr} {fd : FuncData} (F : Fun K "_law_is_order" "_law_is_order" s__law_is_order f fd) (T : Tx mg) (c__law_is_int : DfnW P w K mg base "_law_is_int" 1 3 (wp__law_is_int K a)) (c__law_all_cells : DfnW P w K mg base "_law_all_cells" 1 1 (wp__law_all_cells K a)) : FnOk P w K mg base (L2.CX P w) 2 f fd ["spec", "thing"] (spW K 2 (wp__law_is_order K a)) :=
  fn_e (k := 1) F sc__law_is_order (b__law_is_order K a) (by decide) fun cdv A outer s H E W hr tk => ⟨_,
    (pss_cons (ps_if (PW.pt (pw_or (pt_not (pt_val (pe_callB (k_isi K) rfl T.isinstance (by decide +kernel) (pa_cons (pv 1) (pa_cons (pe_bltn (v := .ty "tuple") rfl T.tuple (by decide +kernel) rfl) pa_nil))))) (pw_or1 (pt_cmpR op_gt (pe_callB (k_len K) rfl T.len (by decide +kernel) (pa_cons (pv 1) pa_nil)) pe_int (nomark _))))) (pss_one (ps_ret pe_bl)) pss_nil)
      (pss_one (ps_ret (pe_callB (k_all K rfl) rfl T.all (by decide +kernel) (pa_cons (pe_lc (own := [("cell", 2)]) rfl sc__law_is_order.nd (ki_seq K (pv 1)) (blkOk_by (own := [("cell", 2)]) (N := N__law_is_order) (sc := defScope s__law_is_order) (by decide +kernel))
        (fun _ _ _ _ _ => (pg_name (i := 2) sc__law_is_order.nd rfl (Or.inl rfl))) (fun _ _ _ _ _ => pts_nil) (fun _ _ _ _ _ => (kw_fn takes0 c__law_is_int hr (by decide) ⟨rfl, rfl, rfl, rfl, rfl⟩ rfl (pa_cons (pv 2) (pa_cons pe_int (pa_cons (pe_op op_sub (kw_fn takes0 c__law_all_cells hr (by decide) ⟨rfl, rfl, rfl, rfl, rfl⟩ rfl (pa_cons (pv 0) pa_nil)) pe_int) pa_nil)))))) pa_nil))))), by walk_at "rd"⟩
theorem ok_is_row {f : Addr} {fd : FuncData} (F : Fun K "is_row" "is_row" s_is_row f fd) (T : Tx mg) (c_is_number : DfnW P w K mg base "is_number" 2 1 (wp_is_number K a)) (c_is_tuple_of : DfnW P w K mg base "is_tuple_of" 1 2 (wp_is_tuple_of K a)) : FnOk P w K mg base (L2.CX P w) 3 f fd ["thing", "many"] (spW K 2 (wp_is_row K a)) :=
  fn_e (k := 2) F sc_is_row (b_is_row K a) (by decide) fun cdv A outer s H E W hr tk => ⟨_,
    (pss_one (ps_ret (pe_and (kw_fn tk c_is_tuple_of hr (by decide) ⟨rfl, rfl, rfl, rfl, rfl⟩ rfl (pa_cons (pv 0) (pa_cons (pv 1) pa_nil))) (pe_one (pe_callB (k_all K rfl) rfl T.all (by decide +kernel) (pa_cons (pe_lc (own := [("item", 2)]) rfl sc_is_row.nd (ki_seq K (pv 0)) (blkOk_by (own := [("item", 2)]) (N := N_is_row) (sc := defScope s_is_row) (by decide +kernel))
        (fun _ _ _ _ _ => (pg_name (i := 2) sc_is_row.nd rfl (Or.inl rfl))) (fun _ _ _ _ _ => pts_nil) (fun _ _ _ _ _ => (kw_fn takes0 c_is_number hr (by decide) ⟨rfl, rfl, rfl, rfl, rfl⟩ rfl (pa_cons (pv 2) pa_nil)))) pa_nil)))))), by walk_at "rd"⟩
theorem ok_is_lot {f : Addr} {fd : FuncData} (F : Fun K "is_lot" "is_lot" s_is_lot f fd) (T : Tx mg) (c_is_from_to : DfnW P w K mg base "is_from_to" 2 3 (wp_is_from_to K a)) : FnOk P w K mg base (L2.CX P w) 3 f fd ["thing", "many"] (spW K 2 (wp_is_lot K a)) :=
  fn_e (k := 2) F sc_is_lot (b_is_lot K a) (by decide) fun cdv A outer s H E W hr tk => ⟨_,
    (pss_cons (ps_if (PW.pt (pw_or (pt_not (pt_val (pe_callB (k_isi K) rfl T.isinstance (by decide +kernel) (pa_cons (pv 0) (pa_cons (pe_bltn (v := .ty "tuple") rfl T.tuple (by decide +kernel) rfl) pa_nil))))) (pw_or1 (pt_not (pt_val (pe_callB (k_all K rfl) rfl T.all (by decide +kernel) (pa_cons (pe_lc (own := [("cell", 2)]) rfl sc_is_lot.nd (ki_seq K (pv 0)) (blkOk_by (own := [("cell", 2)]) (N := N_is_lot) (sc := defScope s_is_lot) (by decide +kernel))
        (fun _ _ _ _ _ => (pg_name (i := 2) sc_is_lot.nd rfl (Or.inl rfl))) (fun _ _ _ _ _ => pts_nil) (fun _ _ _ _ _ => (kw_fn takes0 c_is_from_to hr (by decide) ⟨rfl, rfl, rfl, rfl, rfl⟩ rfl (pa_cons (pv 2) (pa_cons pe_int (pa_cons (pe_op op_sub (pv 1) pe_int) pa_nil)))))) pa_nil))))))) (pss_one (ps_ret pe_bl)) pss_nil)
      (pss_one (ps_ret (pe_callB (k_all K rfl) rfl T.all (by decide +kernel) (pa_cons (pe_lc (own := [("cell", 2), ("after", 3)]) rfl sc_is_lot.nd (ki_zip K rfl T.zip (pa_cons (pv 0) (pa_cons (pe_slice (k_sl K) (pv 0) (po_some pe_int) po_none) pa_nil))) (blkOk_by (own := [("cell", 2), ("after", 3)]) (N := N_is_lot) (sc := defScope s_is_lot) (by decide +kernel))
        (fun _ _ _ _ _ => (kg_tup (n := 2) K rfl (pgs_cons (pg_name (i := 2) sc_is_lot.nd rfl (Or.inl rfl)) (pgs_cons (pg_name (i := 3) sc_is_lot.nd rfl (Or.inl rfl)) pgs_nil)))) (fun _ _ _ _ _ => pts_nil) (fun _ _ _ _ _ => (pe_cmpR op_lt (pv 2) (pv 3) (nomark _)))) pa_nil))))), by walk_at "rd"⟩
theorem ok_widened {f : Addr} {fd : FuncData} (F : Fun K "widened" "widened" s_widened f fd) (T : Tx mg) (c_cleared : DfnW P w K mg base "cleared" 2 2 (wp_cleared K a)) (c_whole_row : DfnW P w K mg base "whole_row" 1 1 (wp_whole_row K a)) (c_first_not_nought : DfnW P w K mg base "first_not_nought" 1 1 (wp_first_not_nought K a)) : FnOk P w K mg base (L2.CX P w) 3 f fd ["span", "row"] (spW K 2 (wp_widened K a)) :=
  fn_e (k := 2) F sc_widened (b_widened K a) (by decide) fun cdv A outer s H E W hr tk => ⟨_,
    (pss_cons (ps_set (i := 2) sc_widened.nd rfl (Or.inl rfl) (kw_fn tk c_cleared hr (by decide) ⟨rfl, rfl, rfl, rfl, rfl⟩ rfl (pa_cons (pv 0) (pa_cons (kw_fn tk c_whole_row hr (by decide) ⟨rfl, rfl, rfl, rfl, rfl⟩ rfl (pa_cons (pv 1) pa_nil)) pa_nil))))
      (pss_cons (ps_set (i := 3) sc_widened.nd rfl (Or.inl rfl) (kw_fn tk c_first_not_nought hr (by decide) ⟨rfl, rfl, rfl, rfl, rfl⟩ rfl (pa_cons (pv 2) pa_nil)))
      (pss_cons (ps_if (pt_cmp (pc_isN (pv 3))) (pss_one (ps_ret (pv 0))) pss_nil)
      (pss_one (ps_ret (pe_lst (ka_star K (pv 0) (pa_cons (pe_tup (pa_cons (pv 3) (pa_cons (pv 2) pa_nil))) pa_nil)))))))), by walk_at "rd"⟩
theorem ok_is_cell {f : Addr} {fd : FuncData} (F : Fun K "is_cell" "is_cell" s_is_cell f fd) (T : Tx mg) (c_is_from_to : DfnW P w K mg base "is_from_to" 2 3 (wp_is_from_to K a)) (c_count_cells : DfnW P w K mg base "count_cells" 1 1 (wp_count_cells K a)) : FnOk P w K mg base (L2.CX P w) 3 f fd ["wish", "thing"] (spW K 2 (wp_is_cell K a)) :=
  fn_e (k := 2) F sc_is_cell (b_is_cell K a) (by decide) fun cdv A outer s H E W hr tk => ⟨_,
    (pss_one (ps_ret (kw_fn tk c_is_from_to hr (by decide) ⟨rfl, rfl, rfl, rfl, rfl⟩ rfl (pa_cons (pv 1) (pa_cons pe_int (pa_cons (pe_op op_sub (kw_fn tk c_count_cells hr (by decide) ⟨rfl, rfl, rfl, rfl, rfl⟩ rfl (pa_cons (pv 0) pa_nil)) pe_int) pa_nil)))))), by walk_at "rd"⟩
theorem ok_check_moment {f : Addr} {fd : FuncData} (F : Fun K "check_moment" "check_moment" s_check_moment f fd) (T : Tx mg) (c_is_from_to : DfnW P w K mg base "is_from_to" 2 3 (wp_is_from_to K a)) (x_NoMoment : Exn0 P w K mg base "NoMoment" a.C_NoMoment) : FnOk P w K mg base (L2.CX P w) 3 f fd ["order", "moment"] (spW K 2 (wp_check_moment K a)) :=
  fn_e (k := 2) F sc_check_moment (b_check_moment K a) (by decide) fun cdv A outer s H E W hr tk => ⟨_,
    (pss_one (ps_if (pt_not (pt_val (kw_fn tk c_is_from_to hr (by decide) ⟨rfl, rfl, rfl, rfl, rfl⟩ rfl (pa_cons (pv 1) (pa_cons pe_int (pa_cons (pe_callB (k_len K) rfl T.len (by decide +kernel) (pa_cons (pv 0) pa_nil)) pa_nil)))))) (pss_one (ks_raise0 rfl tk x_NoMoment hr (by decide) ⟨rfl, rfl, rfl, rfl, rfl⟩ rfl)) pss_nil)), by walk_at "rd"⟩
theorem ok__law_left {f : Addr} {fd : FuncData} (F : Fun K "_law_left" "_law_left" s__law_left f fd) (T : Tx mg) (c__law_low : DfnW P w K mg base "_law_low" 1 2 (wp__law_low K a)) (c__law_add : DfnW P w K mg base "_law_add" 2 2 (wp__law_add K a)) (c__law_mul : DfnW P w K mg base "_law_mul" 2 2 (wp__law_mul K a)) : FnOk P w K mg base (L2.CX P w) 3 f fd ["found", "row"] (spN K 2 (wp__law_left K a)) :=
  fn_n (k := 2) F sc__law_left (b__law_left K a) (by decide) fun cdv A outer s H E W hr tk => ⟨_,
    (pss_cons (ps_set (i := 1) sc__law_left.nd rfl (Or.inl rfl) (pe_callTy (k_list K) rfl T.list (by decide +kernel) (pa_cons (pv 1) pa_nil)))
      (pss_cons (ps_for (passes_of rfl) rfl (ki_seq K (pv 0)) (kg_tup (n := 2) K rfl (pgs_cons (pg_name (i := 2) sc__law_left.nd rfl (Or.inl rfl)) (pgs_cons (pg_name (i := 3) sc__law_left.nd rfl (Or.inl rfl)) pgs_nil)))
      (pss_one (ps_if (pt_cmpR (k_ne K hr.units) (pe_ix (k_ix K) (pe_ix (k_ix K) (pv 1) (pv 2) (fun _ _ => rfl)) pe_int (fun _ _ => rfl)) pe_int (nomark _)) (pss_cons (ps_set (i := 4) sc__law_left.nd rfl (Or.inr rfl) (kw_fn tk c__law_low hr (by decide) ⟨rfl, rfl, rfl, rfl, rfl⟩ rfl (pa_cons (pe_op (k_times K) (pe_un un_neg (pe_ix (k_ix K) (pe_ix (k_ix K) (pv 1) (pv 2) (fun _ _ => rfl)) pe_int (fun _ _ => rfl))) (pe_ix (k_ix K) (pe_ix (k_ix K) (pv 3) (pv 2) (fun _ _ => rfl)) pe_int (fun _ _ => rfl))) (pa_cons (pe_op (k_times K) (pe_ix (k_ix K) (pe_ix (k_ix K) (pv 1) (pv 2) (fun _ _ => rfl)) pe_int (fun _ _ => rfl)) (pe_ix (k_ix K) (pe_ix (k_ix K) (pv 3) (pv 2) (fun _ _ => rfl)) pe_int (fun _ _ => rfl))) pa_nil))))
      (pss_one (ps_setLc (i := 1) (own := [("one", 5), ("other", 6)]) rfl sc__law_left.nd rfl rfl (sw_true rfl rfl rfl (by decide +kernel)) (ki_zip K rfl T.zip (pa_cons (pv 1) (pa_cons (pv 3) pa_nil))) (blkOk_by (own := [("one", 5), ("other", 6)]) (N := N__law_left) (sc := defScope s__law_left) (by decide +kernel))
        (fun _ _ _ _ _ => (kg_tup (n := 2) K rfl (pgs_cons (pg_name (i := 5) sc__law_left.nd rfl (Or.inl rfl)) (pgs_cons (pg_name (i := 6) sc__law_left.nd rfl (Or.inl rfl)) pgs_nil)))) (fun _ _ _ _ _ => pts_nil) (fun _ _ _ _ _ => (kw_fn takes0 c__law_add hr (by decide) ⟨rfl, rfl, rfl, rfl, rfl⟩ rfl (pa_cons (pv 5) (pa_cons (kw_fn takes0 c__law_mul hr (by decide) ⟨rfl, rfl, rfl, rfl, rfl⟩ rfl (pa_cons (pv 4) (pa_cons (pv 6) pa_nil))) pa_nil))))))) pss_nil)))
      (pss_one (ps_ret (pv 1))))), by walk_at "rd"⟩
theorem ok__law_some_row {f : Addr} {fd : FuncData} (F : Fun K "_law_some_row" "_law_some_row" s__law_some_row f fd) (T : Tx mg) (c__law_draw : DfnW P w K mg base "_law_draw" 1 2 (wpS S_draw)) (c__law_unit : DfnW P w K mg base "_law_unit" 1 2 (wp__law_unit K a)) (c__law_number : DfnW P w K mg base "_law_number" 2 1 (wp__law_number K a)) : FnOk P w K mg base (L2.CX P w) 3 f fd ["pool", "many", "cell"] (spW K 3 (wp__law_some_row K a)) :=
  fn_e (k := 2) F sc__law_some_row (b__law_some_row K a) (by decide) fun cdv A outer s H E W hr tk => ⟨_,
    (pss_cons (ps_set (i := 3) sc__law_some_row.nd rfl (Or.inl rfl) (kw_fn tk c__law_draw hr (by decide) ⟨rfl, rfl, rfl, rfl, rfl⟩ rfl (pa_cons (pv 0) (pa_cons pe_int pa_nil))))
      (pss_cons (ps_if (pt_cmpR (k_eq K hr.units) (pv 3) pe_int (nomark _)) (pss_one (ps_ret (kw_fn tk c__law_unit hr (by decide) ⟨rfl, rfl, rfl, rfl, rfl⟩ rfl (pa_cons (pv 1) (pa_cons (pv 2) pa_nil))))) pss_nil)
      (pss_cons (ps_set (i := 4) sc__law_some_row.nd rfl (Or.inl rfl) (pe_callTy (k_list K) rfl T.list (by decide +kernel) (pa_cons (kw_fn tk c__law_unit hr (by decide) ⟨rfl, rfl, rfl, rfl, rfl⟩ rfl (pa_cons (pv 1) (pa_cons (kw_fn tk c__law_draw hr (by decide) ⟨rfl, rfl, rfl, rfl, rfl⟩ rfl (pa_cons (pv 0) (pa_cons (pv 1) pa_nil))) pa_nil))) pa_nil)))
      (pss_cons (ps_if (pt_cmpR op_gt (pv 3) pe_int (nomark _)) (pss_one (ps_asg (kw_fn tk c__law_number hr (by decide) ⟨rfl, rfl, rfl, rfl, rfl⟩ rfl (pa_cons (pv 0) pa_nil)) (pg_sub (pv 4) (kw_fn tk c__law_draw hr (by decide) ⟨rfl, rfl, rfl, rfl, rfl⟩ rfl (pa_cons (pv 0) (pa_cons (pv 1) pa_nil))) set_list))) pss_nil)
      (pss_cons (ps_if (pt_cmpR (k_eq K hr.units) (pv 3) pe_int (nomark _)) (pss_one (ps_setLc (i := 4) (own := [("place", 5)]) rfl sc__law_some_row.nd rfl rfl (sw_true rfl rfl rfl (by decide +kernel)) (pi_range1 rfl T.range (pa_cons (pv 1) pa_nil)) (blkOk_by (own := [("place", 5)]) (N := N__law_some_row) (sc := defScope s__law_some_row) (by decide +kernel))
        (fun _ _ _ _ _ => (pg_name (i := 5) sc__law_some_row.nd rfl (Or.inl rfl))) (fun _ _ _ _ _ => pts_nil) (fun _ _ _ _ _ => (kw_fn takes0 c__law_number hr (by decide) ⟨rfl, rfl, rfl, rfl, rfl⟩ rfl (pa_cons (pv 0) pa_nil))))) pss_nil)
      (pss_one (ps_ret (pe_callTy (k_tuple K) rfl T.tuple (by decide +kernel) (pa_cons (pv 4) pa_nil))))))))), by walk_at "rd"⟩
theorem ok__law_order {f : Addr} {fd : FuncData} (F : Fun K "_law_order" "_law_order" s__law_order f fd) (T : Tx mg) (c__law_all_cells : DfnW P w K mg base "_law_all_cells" 1 1 (wp__law_all_cells K a)) (c__law_mixed : DfnW P w K mg base "_law_mixed" 2 2 (wp__law_mixed K a)) (c__law_draw : DfnW P w K mg base "_law_draw" 1 2 (wpS S_draw)) : FnOk P w K mg base (L2.CX P w) 3 f fd ["pool", "spec"] (spW K 2 (wp__law_order K a)) :=
  fn_e (k := 2) F sc__law_order (b__law_order K a) (by decide) fun cdv A outer s H E W hr tk => ⟨_,
    (pss_cons (ps_set (i := 2) sc__law_order.nd rfl (Or.inr rfl) (kw_fn tk c__law_all_cells hr (by decide) ⟨rfl, rfl, rfl, rfl, rfl⟩ rfl (pa_cons (pv 1) pa_nil)))
      (pss_cons (ps_setLc (i := 3) (own := [("cell", 6)]) rfl sc__law_order.nd rfl rfl (sw_true rfl rfl rfl (by decide +kernel)) (ki_seq K (kw_fn tk c__law_mixed hr (by decide) ⟨rfl, rfl, rfl, rfl, rfl⟩ rfl (pa_cons (pv 0) (pa_cons (pe_listRg rfl rfl T.list (prg_1 rfl T.range (pv 2))) pa_nil)))) (blkOk_by (own := [("cell", 6)]) (N := N__law_order) (sc := defScope s__law_order) (by decide +kernel))
        (fun _ _ _ _ _ => (pg_name (i := 6) sc__law_order.nd rfl (Or.inl rfl))) (fun _ _ _ _ _ => (pts_one (pt_cmpR (k_nin K) (pv 6) (pe_ix (k_ix K) (pv 1) pe_int (fun _ _ => rfl)) rfl))) (fun _ _ _ _ _ => (pv 6)))
      (pss_cons (ps_set (i := 4) sc__law_order.nd rfl (Or.inl rfl) (pe_op (k_plus K) (pv 3) (pe_slice (k_sl K) (k_rev K (pv 3)) (po_some pe_int) po_none)))
      (pss_cons (ps_set (i := 5) sc__law_order.nd rfl (Or.inl rfl) (kw_fn tk c__law_draw hr (by decide) ⟨rfl, rfl, rfl, rfl, rfl⟩ rfl (pa_cons (pv 0) (pa_cons pe_int pa_nil))))
      (pss_cons (ps_if (pt_cmpR (k_eq K hr.units) (pv 5) pe_int (nomark _)) (pss_one (ps_setLc (i := 4) (own := [("turn", 7)]) rfl sc__law_order.nd rfl rfl (sw_true rfl rfl rfl (by decide +kernel)) (pi_range1 rfl T.range (pa_cons (kw_fn tk c__law_draw hr (by decide) ⟨rfl, rfl, rfl, rfl, rfl⟩ rfl (pa_cons (pv 0) (pa_cons pe_int pa_nil))) pa_nil)) (blkOk_by (own := [("turn", 7)]) (N := N__law_order) (sc := defScope s__law_order) (by decide +kernel))
        (fun _ _ _ _ _ => (pg_name (i := 7) sc__law_order.nd rfl (Or.inl rfl))) (fun _ _ _ _ _ => pts_nil) (fun _ _ _ _ _ => (kw_fn takes0 c__law_draw hr (by decide) ⟨rfl, rfl, rfl, rfl, rfl⟩ rfl (pa_cons (pv 0) (pa_cons (pv 2) pa_nil)))))) pss_nil)
      (pss_cons (ps_if (pt_cmpR (k_eq K hr.units) (pv 5) pe_int (nomark _)) (pss_one (ps_setLc (i := 4) (own := [("cell", 6)]) rfl sc__law_order.nd rfl rfl (sw_true rfl rfl rfl (by decide +kernel)) (ki_seq K (pv 4)) (blkOk_by (own := [("cell", 6)]) (N := N__law_order) (sc := defScope s__law_order) (by decide +kernel))
        (fun _ _ _ _ _ => (pg_name (i := 6) sc__law_order.nd rfl (Or.inl rfl))) (fun _ _ _ _ _ => (pts_one (pt_cmpR op_gt (kw_fn takes0 c__law_draw hr (by decide) ⟨rfl, rfl, rfl, rfl, rfl⟩ rfl (pa_cons (pv 0) (pa_cons pe_int pa_nil))) pe_int (nomark _)))) (fun _ _ _ _ _ => (pv 6)))) pss_nil)
      (pss_cons (ps_if (pt_cmpR (k_eq K hr.units) (pv 5) pe_int (nomark _)) (pss_one (ps_set (i := 4) sc__law_order.nd rfl (Or.inl rfl) (pe_op (k_plus K) (pv 3) (pe_slice (k_sl K) (pv 3) po_none (po_some (kw_fn tk c__law_draw hr (by decide) ⟨rfl, rfl, rfl, rfl, rfl⟩ rfl (pa_cons (pv 0) (pa_cons (pe_op (k_plus K) (pe_callB (k_len K) rfl T.len (by decide +kernel) (pa_cons (pv 3) pa_nil)) pe_int) pa_nil)))))))) pss_nil)
      (pss_cons (ps_if (pt_cmpR (k_eq K hr.units) (pv 5) pe_int (nomark _)) (pss_one (ps_set (i := 4) sc__law_order.nd rfl (Or.inl rfl) (pe_op (k_plus K) (pe_slice (k_sl K) (pv 3) po_none (po_some pe_int)) (k_rev K (pv 3))))) pss_nil)
      (pss_one (ps_ret (pe_callTy (k_tuple K) rfl T.tuple (by decide +kernel) (pa_cons (pv 4) pa_nil)))))))))))), by walk_at "rd"⟩
theorem ok_span_of {f : Addr} {fd : FuncData} (F : Fun K "span_of" "span_of" s_span_of f fd) (T : Tx mg) (c_widened : DfnW P w K mg base "widened" 3 2 (wp_widened K a)) : FnOk P w K mg base (L2.CX P w) 4 f fd ["rows"] (spW K 1 (wp_span_of K a)) :=
  fn_e (k := 3) F sc_span_of (b_span_of K a) (by decide) fun cdv A outer s H E W hr tk => ⟨_,
    (pss_cons (ps_set (i := 1) sc_span_of.nd rfl (Or.inl rfl) (pe_lst pa_nil))
      (pss_cons (ps_for (passes_of rfl) rfl (ki_seq K (pv 0)) (pg_name (i := 2) sc_span_of.nd rfl (Or.inl rfl))
      (pss_one (ps_set (i := 1) sc_span_of.nd rfl (Or.inl rfl) (kw_fn tk c_widened hr (by decide) ⟨rfl, rfl, rfl, rfl, rfl⟩ rfl (pa_cons (pv 1) (pa_cons (pv 2) pa_nil))))))
      (pss_one (ps_ret (pv 1))))), by walk_at "rd"⟩
theorem ok_check_rows {f : Addr} {fd : FuncData} (F : Fun K "check_rows" "check_rows" s_check_rows f fd) (T : Tx mg) (c_is_row : DfnW P w K mg base "is_row" 3 2 (wp_is_row K a)) (x_BadWish : Exn1 P w K mg base "BadWish" a.C_BadWish "part") : FnOk P w K mg base (L2.CX P w) 4 f fd ["rows"] (spW K 1 (wp_check_rows K a)) :=
  fn_e (k := 3) F sc_check_rows (b_check_rows K a) (by decide) fun cdv A outer s H E W hr tk => ⟨_,
    (pss_cons (ps_if (PW.pt (pw_or (pt_not (pt_val (pe_callB (k_isi K) rfl T.isinstance (by decide +kernel) (pa_cons (pv 0) (pa_cons (pe_bltn (v := .ty "tuple") rfl T.tuple (by decide +kernel) rfl) pa_nil))))) (pw_or1 (pt_not (pt_chain op_le op_le pe_int (pe_callB (k_len K) rfl T.len (by decide +kernel) (pa_cons (pv 0) pa_nil)) (kg_c (v := .int 6) rfl T.c_MOST_CELLS)))))) (pss_one (ks_raise rfl tk x_BadWish hr (by decide) ⟨rfl, rfl, rfl, rfl, rfl⟩ rfl (pa_cons (pe_tup (pa_cons pe_str pa_nil)) pa_nil))) pss_nil)
      (pss_one (ps_for (passes_of rfl) rfl (ki_enum K rfl T.enumerate (pa_cons (pv 0) pa_nil)) (kg_tup (n := 2) K rfl (pgs_cons (pg_name (i := 1) sc_check_rows.nd rfl (Or.inl rfl)) (pgs_cons (pg_name (i := 2) sc_check_rows.nd rfl (Or.inl rfl)) pgs_nil)))
      (pss_one (ps_if (PW.pt (pw_and (pt_cmp (pc_notN (pv 2))) (pw_and1 (pt_not (pt_val (kw_fn tk c_is_row hr (by decide) ⟨rfl, rfl, rfl, rfl, rfl⟩ rfl (pa_cons (pv 2) (pa_cons (pe_callB (k_len K) rfl T.len (by decide +kernel) (pa_cons (pv 0) pa_nil)) pa_nil)))))))) (pss_one (ks_raise rfl tk x_BadWish hr (by decide) ⟨rfl, rfl, rfl, rfl, rfl⟩ rfl (pa_cons (pe_tup (pa_cons pe_str (pa_cons (pv 1) pa_nil))) pa_nil))) pss_nil))))), by walk_at "rd"⟩
theorem ok_is_order {f : Addr} {fd : FuncData} (F : Fun K "is_order" "is_order" s_is_order f fd) (T : Tx mg) (c_is_cell : DfnW P w K mg base "is_cell" 3 2 (wp_is_cell K a)) : FnOk P w K mg base (L2.CX P w) 4 f fd ["wish", "thing"] (spW K 2 (wp_is_order K a)) :=
  fn_e (k := 3) F sc_is_order (b_is_order K a) (by decide) fun cdv A outer s H E W hr tk => ⟨_,
    (pss_cons (ps_if (PW.pt (pw_or (pt_not (pt_val (pe_callB (k_isi K) rfl T.isinstance (by decide +kernel) (pa_cons (pv 1) (pa_cons (pe_bltn (v := .ty "tuple") rfl T.tuple (by decide +kernel) rfl) pa_nil))))) (pw_or1 (pt_cmpR op_gt (pe_callB (k_len K) rfl T.len (by decide +kernel) (pa_cons (pv 1) pa_nil)) (kg_c (v := .int 60) rfl T.c_MOST_TICKS) (nomark _))))) (pss_one (ps_ret pe_bl)) pss_nil)
      (pss_one (ps_ret (pe_callB (k_all K rfl) rfl T.all (by decide +kernel) (pa_cons (pe_lc (own := [("cell", 2)]) rfl sc_is_order.nd (ki_seq K (pv 1)) (blkOk_by (own := [("cell", 2)]) (N := N_is_order) (sc := defScope s_is_order) (by decide +kernel))
        (fun _ _ _ _ _ => (pg_name (i := 2) sc_is_order.nd rfl (Or.inl rfl))) (fun _ _ _ _ _ => pts_nil) (fun _ _ _ _ _ => (kw_fn takes0 c_is_cell hr (by decide) ⟨rfl, rfl, rfl, rfl, rfl⟩ rfl (pa_cons (pv 0) (pa_cons (pv 2) pa_nil))))) pa_nil))))), by walk_at "rd"⟩
theorem ok__law_steps {f : Addr} {fd : FuncData} (F : Fun K "_law_steps" "_law_steps" s__law_steps f fd) (T : Tx mg) (c__law_left : DfnN P w K mg base "_law_left" 3 2 (wp__law_left K a)) : FnOk P w K mg base (L2.CX P w) 4 f fd ["rows"] (spW K 1 (wp__law_steps K a)) :=
  fn_e (k := 3) F sc__law_steps (b__law_steps K a) (by decide) fun cdv A outer s H E W hr tk => ⟨_,
    (pss_cons (ps_set (i := 1) sc__law_steps.nd rfl (Or.inl rfl) (pe_lst pa_nil))
      (pss_cons (ps_for (passes_of rfl) rfl (ki_seq K (pv 0)) (pg_name (i := 2) sc__law_steps.nd rfl (Or.inl rfl))
      (pss_cons (ps_set (i := 3) sc__law_steps.nd rfl (Or.inr rfl) (kn_fn tk c__law_left hr (by decide) ⟨rfl, rfl, rfl, rfl, rfl⟩ rfl (pa_cons (pv 1) (pa_cons (pv 2) pa_nil))))
      (pss_cons (ps_setLc (i := 4) (own := [("place", 5)]) rfl sc__law_steps.nd rfl rfl (sw_true rfl rfl rfl (by decide +kernel)) (pi_range1 rfl T.range (pa_cons (pe_callB (k_len K) rfl T.len (by decide +kernel) (pa_cons (pv 3) pa_nil)) pa_nil)) (blkOk_by (own := [("place", 5)]) (N := N__law_steps) (sc := defScope s__law_steps) (by decide +kernel))
        (fun _ _ _ _ _ => (pg_name (i := 5) sc__law_steps.nd rfl (Or.inl rfl))) (fun _ _ _ _ _ => (pts_one (pt_cmpR (k_ne K hr.units) (pe_ix (k_ix K) (pe_ix (k_ix K) (pv 3) (pv 5) (fun _ _ => rfl)) pe_int (fun _ _ => rfl)) pe_int (nomark _)))) (fun _ _ _ _ _ => (pv 5)))
      (pss_one (ps_if (pt_cmpR op_gt (pe_callB (k_len K) rfl T.len (by decide +kernel) (pa_cons (pv 4) pa_nil)) pe_int (nomark _)) (pss_one (ps_expr (pe_bm PySem.F.plainAttrs_list PySem.F.slot_list_append PySem.F.type_list_append mt_append (pv 1) (pa_cons (pe_tup (pa_cons (pe_ix (k_ix K) (pv 4) pe_int (fun _ _ => rfl)) (pa_cons (pv 3) pa_nil))) pa_nil)))) pss_nil)))))
      (pss_one (ps_ret (pv 1))))), by walk_at "rd"⟩
theorem ok__law_wish {f : Addr} {fd : FuncData} (F : Fun K "_law_wish" "_law_wish" s__law_wish f fd) (T : Tx mg) (c__law_draw : DfnW P w K mg base "_law_draw" 1 2 (wpS S_draw)) (c__law_some_row : DfnW P w K mg base "_law_some_row" 3 3 (wp__law_some_row K a)) (c__law_mixed : DfnW P w K mg base "_law_mixed" 2 2 (wp__law_mixed K a)) (c__law_unit : DfnW P w K mg base "_law_unit" 1 2 (wp__law_unit K a)) : FnOk P w K mg base (L2.CX P w) 4 f fd ["pool", "most"] (spW K 2 (wp__law_wish K a)) :=
  fn_e (k := 3) F sc__law_wish (b__law_wish K a) (by decide) fun cdv A outer s H E W hr tk => ⟨_,
    (pss_cons (ps_set (i := 2) sc__law_wish.nd rfl (Or.inr rfl) (pe_op (k_plus K) pe_int (kw_fn tk c__law_draw hr (by decide) ⟨rfl, rfl, rfl, rfl, rfl⟩ rfl (pa_cons (pv 0) (pa_cons (pv 1) pa_nil)))))
      (pss_cons (ps_set (i := 3) sc__law_wish.nd rfl (Or.inl rfl) (kw_fn tk c__law_draw hr (by decide) ⟨rfl, rfl, rfl, rfl, rfl⟩ rfl (pa_cons (pv 0) (pa_cons pe_int pa_nil))))
      (pss_cons (ps_set (i := 4) sc__law_wish.nd rfl (Or.inr rfl) (pe_lc (own := [("cell", 6)]) rfl sc__law_wish.nd (pi_range1 rfl T.range (pa_cons (pv 2) pa_nil)) (blkOk_by (own := [("cell", 6)]) (N := N__law_wish) (sc := defScope s__law_wish) (by decide +kernel))
        (fun _ _ _ _ _ => (pg_name (i := 6) sc__law_wish.nd rfl (Or.inl rfl))) (fun _ _ _ _ _ => pts_nil) (fun _ _ _ _ _ => (kw_fn takes0 c__law_some_row hr (by decide) ⟨rfl, rfl, rfl, rfl, rfl⟩ rfl (pa_cons (pv 0) (pa_cons (pv 2) (pa_cons (pv 6) pa_nil)))))))
      (pss_cons (ps_if (pt_cmpR (k_eq K hr.units) (pv 3) pe_int (nomark _)) (pss_one (ps_set (i := 4) sc__law_wish.nd rfl (Or.inr rfl) (pe_lc (own := [("source", 7)]) rfl sc__law_wish.nd (ki_seq K (kw_fn tk c__law_mixed hr (by decide) ⟨rfl, rfl, rfl, rfl, rfl⟩ rfl (pa_cons (pv 0) (pa_cons (pe_listRg rfl rfl T.list (prg_1 rfl T.range (pv 2))) pa_nil)))) (blkOk_by (own := [("source", 7)]) (N := N__law_wish) (sc := defScope s__law_wish) (by decide +kernel))
        (fun _ _ _ _ _ => (pg_name (i := 7) sc__law_wish.nd rfl (Or.inl rfl))) (fun _ _ _ _ _ => pts_nil) (fun _ _ _ _ _ => (kw_fn takes0 c__law_unit hr (by decide) ⟨rfl, rfl, rfl, rfl, rfl⟩ rfl (pa_cons (pv 2) (pa_cons (pv 7) pa_nil))))))) pss_nil)
      (pss_cons (ps_if (pt_cmpR (k_eq K hr.units) (pv 3) pe_int (nomark _)) (pss_one (ps_set (i := 4) sc__law_wish.nd rfl (Or.inr rfl) (pe_lc (own := [("cell", 6)]) rfl sc__law_wish.nd (pi_range1 rfl T.range (pa_cons (pv 2) pa_nil)) (blkOk_by (own := [("cell", 6)]) (N := N__law_wish) (sc := defScope s__law_wish) (by decide +kernel))
        (fun _ _ _ _ _ => (pg_name (i := 6) sc__law_wish.nd rfl (Or.inl rfl))) (fun _ _ _ _ _ => pts_nil) (fun _ _ _ _ _ => (kw_fn takes0 c__law_unit hr (by decide) ⟨rfl, rfl, rfl, rfl, rfl⟩ rfl (pa_cons (pv 2) (pa_cons (kw_fn takes0 c__law_draw hr (by decide) ⟨rfl, rfl, rfl, rfl, rfl⟩ rfl (pa_cons (pv 0) (pa_cons (pv 2) pa_nil))) pa_nil))))))) pss_nil)
      (pss_cons (ps_if (pt_cmpR op_gt (pv 3) pe_int (nomark _)) (pss_one (ps_set (i := 4) sc__law_wish.nd rfl (Or.inr rfl) (pe_lc (own := [("row", 8)]) rfl sc__law_wish.nd (ki_seq K (pv 4)) (blkOk_by (own := [("row", 8)]) (N := N__law_wish) (sc := defScope s__law_wish) (by decide +kernel))
        (fun _ _ _ _ _ => (pg_name (i := 8) sc__law_wish.nd rfl (Or.inl rfl))) (fun _ _ _ _ _ => pts_nil) (fun _ _ _ _ _ => (pe_ifExp (pt_cmpR (k_eq K hr.units) (kw_fn takes0 c__law_draw hr (by decide) ⟨rfl, rfl, rfl, rfl, rfl⟩ rfl (pa_cons (pv 0) (pa_cons pe_int pa_nil))) pe_int (nomark _)) pe_non (pv 8)))))) pss_nil)
      (pss_cons (ps_set (i := 5) sc__law_wish.nd rfl (Or.inr rfl) (pe_lst pa_nil))
      (pss_cons (ps_if (pt_cmpR (k_eq K hr.units) (kw_fn tk c__law_draw hr (by decide) ⟨rfl, rfl, rfl, rfl, rfl⟩ rfl (pa_cons (pv 0) (pa_cons pe_int pa_nil))) pe_int (nomark _)) (pss_cons (ps_set (i := 5) sc__law_wish.nd rfl (Or.inr rfl) (pe_lc (own := [("cell", 6)]) rfl sc__law_wish.nd (pi_range1 rfl T.range (pa_cons (pv 2) pa_nil)) (blkOk_by (own := [("cell", 6)]) (N := N__law_wish) (sc := defScope s__law_wish) (by decide +kernel))
        (fun _ _ _ _ _ => (pg_name (i := 6) sc__law_wish.nd rfl (Or.inl rfl))) (fun _ _ _ _ _ => (pts_one (pt_cmpR (k_eq K hr.units) (kw_fn takes0 c__law_draw hr (by decide) ⟨rfl, rfl, rfl, rfl, rfl⟩ rfl (pa_cons (pv 0) (pa_cons pe_int pa_nil))) pe_int (nomark _)))) (fun _ _ _ _ _ => (pv 6))))
      (pss_one (ps_set (i := 4) sc__law_wish.nd rfl (Or.inr rfl) (pe_lc (own := [("cell", 6)]) rfl sc__law_wish.nd (pi_range1 rfl T.range (pa_cons (pv 2) pa_nil)) (blkOk_by (own := [("cell", 6)]) (N := N__law_wish) (sc := defScope s__law_wish) (by decide +kernel))
        (fun _ _ _ _ _ => (pg_name (i := 6) sc__law_wish.nd rfl (Or.inl rfl))) (fun _ _ _ _ _ => pts_nil) (fun _ _ _ _ _ => (pe_ifExp (PW.pt (pw_and (pt_cmpR (k_in K) (pv 6) (pv 5) rfl) (pw_and1 (pt_cmpR op_gt (kw_fn takes0 c__law_draw hr (by decide) ⟨rfl, rfl, rfl, rfl, rfl⟩ rfl (pa_cons (pv 0) (pa_cons pe_int pa_nil))) pe_int (nomark _))))) (kw_fn takes0 c__law_unit hr (by decide) ⟨rfl, rfl, rfl, rfl, rfl⟩ rfl (pa_cons (pv 2) (pa_cons (pv 6) pa_nil))) (pe_ix (k_ix K) (pv 4) (pv 6) (fun _ _ => rfl)))))))) pss_nil)
      (pss_one (ps_ret (pe_tup (pa_cons (pe_callTy (k_tuple K) rfl T.tuple (by decide +kernel) (pa_cons (pv 4) pa_nil)) (pa_cons (pe_callTy (k_tuple K) rfl T.tuple (by decide +kernel) (pa_cons (pv 5) pa_nil)) (pa_cons (pe_ix (k_ix K) (pe_lst (pa_cons pe_int (pa_cons pe_int (pa_cons pe_int (pa_cons pe_int (pa_cons pe_int pa_nil)))))) (kw_fn tk c__law_draw hr (by decide) ⟨rfl, rfl, rfl, rfl, rfl⟩ rfl (pa_cons (pv 0) (pa_cons pe_int pa_nil))) (fun _ _ => rfl)) pa_nil)))))))))))))), by walk_at "rd"⟩
theorem ok_Wish_init {f : Addr} {fd : FuncData} (F : Fun K "__init__" "Wish.__init__" s_Wish_init f fd) (T : Tx mg) (c_check_rows : DfnW P w K mg base "check_rows" 4 1 (wp_check_rows K a)) (c_is_lot : DfnW P w K mg base "is_lot" 3 2 (wp_is_lot K a)) (c_is_from_to : DfnW P w K mg base "is_from_to" 2 3 (wp_is_from_to K a)) (x_BadWish : Exn1 P w K mg base "BadWish" a.C_BadWish "part") : FnOk P w K mg base (L2.CX P w) 5 f fd ["self", "rows", "locked", "spare"] (spIW K a.C_Wish 3 ["rows", "locked", "spare"] (bodyI (b_Wish_init K a) a.C_Wish ["rows", "locked", "spare"] 4)) :=
  init_e (k := 4) F sc_Wish_init ["rows", "locked", "spare"] (b_Wish_init K a) (by decide) rfl fun cdv A outer s H E W hr tk => ⟨_,
    (pss_cons (ps_expr (kw_fn tk c_check_rows hr (by decide) ⟨rfl, rfl, rfl, rfl, rfl⟩ rfl (pa_cons (pv 1) pa_nil)))
      (pss_cons (ps_if (pt_not (pt_val (kw_fn tk c_is_lot hr (by decide) ⟨rfl, rfl, rfl, rfl, rfl⟩ rfl (pa_cons (pv 2) (pa_cons (pe_callB (k_len K) rfl T.len (by decide +kernel) (pa_cons (pv 1) pa_nil)) pa_nil))))) (pss_one (ks_raise rfl tk x_BadWish hr (by decide) ⟨rfl, rfl, rfl, rfl, rfl⟩ rfl (pa_cons (pe_tup (pa_cons pe_str pa_nil)) pa_nil))) pss_nil)
      (pss_cons (ps_if (pt_not (pt_val (kw_fn tk c_is_from_to hr (by decide) ⟨rfl, rfl, rfl, rfl, rfl⟩ rfl (pa_cons (pv 3) (pa_cons pe_int (pa_cons (kg_c (v := .int 2) rfl T.c_MOST_SPARE) pa_nil)))))) (pss_one (ks_raise rfl tk x_BadWish hr (by decide) ⟨rfl, rfl, rfl, rfl, rfl⟩ rfl (pa_cons (pe_tup (pa_cons pe_str pa_nil)) pa_nil))) pss_nil)
      (pss_cons (ks_fld K (pv 0) (pv 1))
      (pss_cons (ks_fld K (pv 0) (pv 2))
      (pss_one (ks_fld K (pv 0) (pv 3)))))))), by walk_at "rd"⟩
theorem ok_check_order {f : Addr} {fd : FuncData} (F : Fun K "check_order" "check_order" s_check_order f fd) (T : Tx mg) (c_is_order : DfnW P w K mg base "is_order" 4 2 (wp_is_order K a)) (x_NoOrder : Exn0 P w K mg base "NoOrder" a.C_NoOrder) : FnOk P w K mg base (L2.CX P w) 5 f fd ["wish", "order"] (spW K 2 (wp_check_order K a)) :=
  fn_e (k := 4) F sc_check_order (b_check_order K a) (by decide) fun cdv A outer s H E W hr tk => ⟨_,
    (pss_one (ps_if (pt_not (pt_val (kw_fn tk c_is_order hr (by decide) ⟨rfl, rfl, rfl, rfl, rfl⟩ rfl (pa_cons (pv 0) (pa_cons (pv 1) pa_nil))))) (pss_one (ks_raise0 rfl tk x_NoOrder hr (by decide) ⟨rfl, rfl, rfl, rfl, rfl⟩ rfl)) pss_nil)), by walk_at "rd"⟩
theorem ok_safe_span {f : Addr} {fd : FuncData} (F : Fun K "safe_span" "safe_span" s_safe_span f fd) (T : Tx mg) (c_unit_row : DfnW P w K mg base "unit_row" 1 2 (wp_unit_row K a)) (c_span_of : DfnW P w K mg base "span_of" 4 1 (wp_span_of K a)) : FnOk P w K mg base (L2.CX P w) 5 f fd ["wish", "words"] (spW K 2 (wp_safe_span K a)) :=
  fn_e (k := 4) F sc_safe_span (b_safe_span K a) (by decide) fun cdv A outer s H E W hr tk => ⟨_,
    (pss_cons (ps_set (i := 2) sc_safe_span.nd rfl (Or.inl rfl) (pe_lst pa_nil))
      (pss_cons (ps_for (passes_of rfl) rfl (ki_enum K rfl T.enumerate (pa_cons (k_fld K (pv 0)) pa_nil)) (kg_tup (n := 2) K rfl (pgs_cons (pg_name (i := 3) sc_safe_span.nd rfl (Or.inl rfl)) (pgs_cons (pg_name (i := 4) sc_safe_span.nd rfl (Or.inl rfl)) pgs_nil)))
      (pss_one (ps_if (pt_cmpR (k_eq K hr.units) (pe_ix (k_ix K) (pv 1) (pv 3) (fun _ _ => rfl)) (kg_c (v := .str "not begun") rfl T.c_NOT_BEGUN) (nomark _)) (pss_one (ps_expr (pe_bm PySem.F.plainAttrs_list PySem.F.slot_list_append PySem.F.type_list_append mt_append (pv 2) (pa_cons (kw_fn tk c_unit_row hr (by decide) ⟨rfl, rfl, rfl, rfl, rfl⟩ rfl (pa_cons (pv 3) (pa_cons (pe_callB (k_len K) rfl T.len (by decide +kernel) (pa_cons (k_fld K (pv 0)) pa_nil)) pa_nil))) pa_nil)))) (pss_one (ps_if (pt_cmpR (k_eq K hr.units) (pe_ix (k_ix K) (pv 1) (pv 3) (fun _ _ => rfl)) (kg_c (v := .str "done") rfl T.c_DONE) (nomark _)) (pss_one (ps_expr (pe_bm PySem.F.plainAttrs_list PySem.F.slot_list_append PySem.F.type_list_append mt_append (pv 2) (pa_cons (pv 4) pa_nil)))) pss_nil)))))
      (pss_one (ps_ret (kw_fn tk c_span_of hr (by decide) ⟨rfl, rfl, rfl, rfl, rfl⟩ rfl (pa_cons (pv 2) pa_nil)))))), by walk_at "rd"⟩
theorem ok__law_rank {f : Addr} {fd : FuncData} (F : Fun K "_law_rank" "_law_rank" s__law_rank f fd) (T : Tx mg) (c__law_steps : DfnW P w K mg base "_law_steps" 4 1 (wp__law_steps K a)) : FnOk P w K mg base (L2.CX P w) 5 f fd ["rows"] (spW K 1 (wp__law_rank K a)) :=
  fn_e (k := 4) F sc__law_rank (b__law_rank K a) (by decide) fun cdv A outer s H E W hr tk => ⟨_,
    (pss_one (ps_ret (pe_callB (k_len K) rfl T.len (by decide +kernel) (pa_cons (kw_fn tk c__law_steps hr (by decide) ⟨rfl, rfl, rfl, rfl, rfl⟩ rfl (pa_cons (pv 0) pa_nil)) pa_nil)))), by walk_at "rd"⟩
theorem ok_lack_of {f : Addr} {fd : FuncData} (F : Fun K "lack_of" "lack_of" s_lack_of f fd) (T : Tx mg) (c_safe_span : DfnW P w K mg base "safe_span" 5 2 (wp_safe_span K a)) (c_wished_cells : DfnW P w K mg base "wished_cells" 1 1 (wp_wished_cells K a)) (c_widened : DfnW P w K mg base "widened" 3 2 (wp_widened K a)) : FnOk P w K mg base (L2.CX P w) 6 f fd ["wish", "words"] (spW K 2 (wp_lack_of K a)) :=
  fn_e (k := 5) F sc_lack_of (b_lack_of K a) (by decide) fun cdv A outer s H E W hr tk => ⟨_,
    (pss_cons (ps_set (i := 2) sc_lack_of.nd rfl (Or.inl rfl) (kw_fn tk c_safe_span hr (by decide) ⟨rfl, rfl, rfl, rfl, rfl⟩ rfl (pa_cons (pv 0) (pa_cons (pv 1) pa_nil))))
      (pss_cons (ps_set (i := 3) sc_lack_of.nd rfl (Or.inl rfl) (pv 2))
      (pss_cons (ps_for (passes_of rfl) rfl (ki_seq K (kw_fn tk c_wished_cells hr (by decide) ⟨rfl, rfl, rfl, rfl, rfl⟩ rfl (pa_cons (pv 0) pa_nil))) (pg_name (i := 4) sc_lack_of.nd rfl (Or.inl rfl))
      (pss_one (ps_set (i := 3) sc_lack_of.nd rfl (Or.inl rfl) (kw_fn tk c_widened hr (by decide) ⟨rfl, rfl, rfl, rfl, rfl⟩ rfl (pa_cons (pv 3) (pa_cons (pe_ix (k_ix K) (k_fld K (pv 0)) (pv 4) (fun _ _ => rfl)) pa_nil))))))
      (pss_one (ps_ret (pe_op op_sub (pe_callB (k_len K) rfl T.len (by decide +kernel) (pa_cons (pv 3) pa_nil)) (pe_callB (k_len K) rfl T.len (by decide +kernel) (pa_cons (pv 2) pa_nil)))))))), by walk_at "rd"⟩
theorem ok_stages {f : Addr} {fd : FuncData} (F : Fun K "stages" "stages" s_stages f fd) (T : Tx mg) (c_check_order : DfnW P w K mg base "check_order" 5 2 (wp_check_order K a)) (c_check_moment : DfnW P w K mg base "check_moment" 3 2 (wp_check_moment K a)) (c_stages_at : DfnW P w K mg base "stages_at" 2 3 (wp_stages_at K a)) (c_single_ticks : DfnW P w K mg base "single_ticks" 1 1 (wp_single_ticks K a)) : FnOk P w K mg base (L2.CX P w) 6 f fd ["wish", "order", "moment"] (spW K 3 (wp_stages K a)) :=
  fn_e (k := 5) F sc_stages (b_stages K a) (by decide) fun cdv A outer s H E W hr tk => ⟨_,
    (pss_cons (ps_expr (kw_fn tk c_check_order hr (by decide) ⟨rfl, rfl, rfl, rfl, rfl⟩ rfl (pa_cons (pv 0) (pa_cons (pv 1) pa_nil))))
      (pss_cons (ps_expr (kw_fn tk c_check_moment hr (by decide) ⟨rfl, rfl, rfl, rfl, rfl⟩ rfl (pa_cons (pv 1) (pa_cons (pv 2) pa_nil))))
      (pss_one (ps_ret (kw_fn tk c_stages_at hr (by decide) ⟨rfl, rfl, rfl, rfl, rfl⟩ rfl (pa_cons (pv 0) (pa_cons (kw_fn tk c_single_ticks hr (by decide) ⟨rfl, rfl, rfl, rfl, rfl⟩ rfl (pa_cons (pv 1) pa_nil)) (pa_cons (pv 2) pa_nil)))))))), by walk_at "rd"⟩
theorem ok__law_lack {f : Addr} {fd : FuncData} (F : Fun K "_law_lack" "_law_lack" s__law_lack f fd) (T : Tx mg) (c__law_safe : DfnW P w K mg base "_law_safe" 2 2 (wp__law_safe K a)) (c__law_wished : DfnW P w K mg base "_law_wished" 1 1 (wp__law_wished K a)) (c__law_rank : DfnW P w K mg base "_law_rank" 5 1 (wp__law_rank K a)) : FnOk P w K mg base (L2.CX P w) 6 f fd ["spec", "words"] (spW K 2 (wp__law_lack K a)) :=
  fn_e (k := 5) F sc__law_lack (b__law_lack K a) (by decide) fun cdv A outer s H E W hr tk => ⟨_,
    (pss_cons (ps_set (i := 2) sc__law_lack.nd rfl (Or.inl rfl) (kw_fn tk c__law_safe hr (by decide) ⟨rfl, rfl, rfl, rfl, rfl⟩ rfl (pa_cons (pv 0) (pa_cons (pv 1) pa_nil))))
      (pss_cons (ps_setLc (i := 3) (own := [("cell", 4)]) rfl sc__law_lack.nd rfl rfl (sw_true rfl rfl rfl (by decide +kernel)) (ki_seq K (kw_fn tk c__law_wished hr (by decide) ⟨rfl, rfl, rfl, rfl, rfl⟩ rfl (pa_cons (pv 0) pa_nil))) (blkOk_by (own := [("cell", 4)]) (N := N__law_lack) (sc := defScope s__law_lack) (by decide +kernel))
        (fun _ _ _ _ _ => (pg_name (i := 4) sc__law_lack.nd rfl (Or.inl rfl))) (fun _ _ _ _ _ => pts_nil) (fun _ _ _ _ _ => (pe_ix (k_ix K) (pe_ix (k_ix K) (pv 0) pe_int (fun _ _ => rfl)) (pv 4) (fun _ _ => rfl))))
      (pss_one (ps_ret (pe_tup (pa_cons (pe_op op_sub (kw_fn tk c__law_rank hr (by decide) ⟨rfl, rfl, rfl, rfl, rfl⟩ rfl (pa_cons (pe_op (k_plus K) (pv 2) (pv 3)) pa_nil)) (kw_fn tk c__law_rank hr (by decide) ⟨rfl, rfl, rfl, rfl, rfl⟩ rfl (pa_cons (pv 2) pa_nil))) (pa_cons (pe_callB (k_len K) rfl T.len (by decide +kernel) (pa_cons (pe_lc (own := [("word", 5)]) rfl sc__law_lack.nd (ki_seq K (pv 1)) (blkOk_by (own := [("word", 5)]) (N := N__law_lack) (sc := defScope s__law_lack) (by decide +kernel))
        (fun _ _ _ _ _ => (pg_name (i := 5) sc__law_lack.nd rfl (Or.inl rfl))) (fun _ _ _ _ _ => (pts_one (pt_cmpR (k_eq K hr.units) (pv 5) pe_str (nomark _)))) (fun _ _ _ _ _ => (pv 5))) pa_nil)) pa_nil))))))), by walk_at "rd"⟩
theorem ok_lack_at {f : Addr} {fd : FuncData} (F : Fun K "lack_at" "lack_at" s_lack_at f fd) (T : Tx mg) (c_stages_at : DfnW P w K mg base "stages_at" 2 3 (wp_stages_at K a)) (c_lack_of : DfnW P w K mg base "lack_of" 6 2 (wp_lack_of K a)) : FnOk P w K mg base (L2.CX P w) 7 f fd ["wish", "ticks", "moment"] (spW K 3 (wp_lack_at K a)) :=
  fn_e (k := 6) F sc_lack_at (b_lack_at K a) (by decide) fun cdv A outer s H E W hr tk => ⟨_,
    (pss_cons (ps_set (i := 3) sc_lack_at.nd rfl (Or.inl rfl) (kw_fn tk c_stages_at hr (by decide) ⟨rfl, rfl, rfl, rfl, rfl⟩ rfl (pa_cons (pv 0) (pa_cons (pv 1) (pa_cons (pv 2) pa_nil)))))
      (pss_one (ps_ret (pe_tup (pa_cons (kw_fn tk c_lack_of hr (by decide) ⟨rfl, rfl, rfl, rfl, rfl⟩ rfl (pa_cons (pv 0) (pa_cons (pv 3) pa_nil))) (pa_cons (k_countX K (pv 3) (pa_cons (kg_c (v := .str "amid") rfl T.c_AMID) pa_nil)) pa_nil)))))), by walk_at "rd"⟩
theorem ok__law_made_wish {f : Addr} {fd : FuncData} (F : Fun K "_law_made_wish" "_law_made_wish" s__law_made_wish f fd) (T : Tx mg) (m_Wish : MakW P w K mg base "Wish" a.C_Wish 5 3 ["rows", "locked", "spare"] (bodyI (b_Wish_init K a) a.C_Wish ["rows", "locked", "spare"] 4)) : FnOk P w K mg base (L2.CX P w) 7 f fd ["spec"] (spW K 1 (wp__law_made_wish K a)) :=
  fn_e (k := 6) F sc__law_made_wish (b__law_made_wish K a) (by decide) fun cdv A outer s H E W hr tk => ⟨_,
    (pss_one (ps_ret (kw_mk tk m_Wish hr (by decide) ⟨rfl, rfl, rfl, rfl, rfl⟩ rfl (pa_cons (pe_ix (k_ix K) (pv 0) pe_int (fun _ _ => rfl)) (pa_cons (pe_ix (k_ix K) (pv 0) pe_int (fun _ _ => rfl)) (pa_cons (pe_ix (k_ix K) (pv 0) pe_int (fun _ _ => rfl)) pa_nil)))))), by walk_at "rd"⟩
theorem ok_lack {f : Addr} {fd : FuncData} (F : Fun K "lack" "lack" s_lack f fd) (T : Tx mg) (c_check_order : DfnW P w K mg base "check_order" 5 2 (wp_check_order K a)) (c_check_moment : DfnW P w K mg base "check_moment" 3 2 (wp_check_moment K a)) (c_lack_at : DfnW P w K mg base "lack_at" 7 3 (wp_lack_at K a)) (c_single_ticks : DfnW P w K mg base "single_ticks" 1 1 (wp_single_ticks K a)) : FnOk P w K mg base (L2.CX P w) 8 f fd ["wish", "order", "moment"] (spW K 3 (wp_lack K a)) :=
  fn_e (k := 7) F sc_lack (b_lack K a) (by decide) fun cdv A outer s H E W hr tk => ⟨_,
    (pss_cons (ps_expr (kw_fn tk c_check_order hr (by decide) ⟨rfl, rfl, rfl, rfl, rfl⟩ rfl (pa_cons (pv 0) (pa_cons (pv 1) pa_nil))))
      (pss_cons (ps_expr (kw_fn tk c_check_moment hr (by decide) ⟨rfl, rfl, rfl, rfl, rfl⟩ rfl (pa_cons (pv 1) (pa_cons (pv 2) pa_nil))))
      (pss_one (ps_ret (kw_fn tk c_lack_at hr (by decide) ⟨rfl, rfl, rfl, rfl, rfl⟩ rfl (pa_cons (pv 0) (pa_cons (kw_fn tk c_single_ticks hr (by decide) ⟨rfl, rfl, rfl, rfl, rfl⟩ rfl (pa_cons (pv 1) pa_nil)) (pa_cons (pv 2) pa_nil)))))))), by walk_at "rd"⟩
theorem ok__law_word {f : Addr} {fd : FuncData} (F : Fun K "_law_word" "_law_word" s__law_word f fd) (T : Tx mg) (c_stages : DfnW P w K mg base "stages" 6 3 (wp_stages K a)) (c_lack : DfnW P w K mg base "lack" 8 3 (wp_lack K a)) (k_NoMoment : mg "NoMoment" = some (.ref a.C_NoMoment)) (k_NoOrder : mg "NoOrder" = some (.ref a.C_NoOrder)) (x_CellError : HasM mg "CellError" a.C_CellError) : FnOk P w K mg base (L2.CX P w) 9 f fd ["which", "wish", "order", "moment"] (spW K 4 (wp__law_word K a)) :=
  fn_e (k := 8) F sc__law_word (b__law_word K a) (by decide) fun cdv A outer s H E W hr tk => ⟨_,
    (pss_cons (ps_set (i := 4) sc__law_word.nd rfl (Or.inl rfl) pe_str)
      (pss_cons (ks_try_as (i := 5) K rfl rfl sc__law_word.nd rfl rfl ⟨rfl, by decide, Or.inl x_CellError.m⟩ tk
   (fun W pn xe tk po => (pss_one (ps_if (pt_cmpR (k_eq K hr.units) (pv 0) pe_int (nomark _)) (pss_one (ps_expr (kw_fn tk c_stages hr (by decide) ⟨rfl, rfl, rfl, rfl, rfl⟩ rfl (pa_cons (pv 1) (pa_cons (pv 2) (pa_cons (pv 3) pa_nil)))))) (pss_one (ps_expr (kw_fn tk c_lack hr (by decide) ⟨rfl, rfl, rfl, rfl, rfl⟩ rfl (pa_cons (pv 1) (pa_cons (pv 2) (pa_cons (pv 3) pa_nil)))))))))
   (fun ax oe cls d pn hz hf => (pss_cons (ps_set (i := 6) sc__law_word.nd rfl (Or.inl rfl) (pe_lst (pa_cons (kx_isx K hz hf rfl T.isinstance (by decide +kernel) (pa_cons (pv 5) (pa_cons (pe_glob (v := .ref a.C_NoOrder) rfl k_NoOrder rfl) pa_nil))) (pa_cons (kx_isx K hz hf rfl T.isinstance (by decide +kernel) (pa_cons (pv 5) (pa_cons (pe_glob (v := .ref a.C_NoMoment) rfl k_NoMoment rfl) pa_nil))) pa_nil))))
      (pss_one (ps_set (i := 4) sc__law_word.nd rfl (Or.inl rfl) (pe_ifExp (pt_cmpR (k_eq K hr.units) (k_countL K (pv 6) (pa_cons pe_bl pa_nil)) pe_int (nomark _)) (pe_ix (k_ix K) (pe_lst (pa_cons pe_str (pa_cons pe_str pa_nil))) (k_indexL K (pv 6) (pa_cons pe_bl pa_nil)) (fun _ _ => rfl)) pe_str))))))
      (pss_one (ps_ret (pv 4))))), by walk_at "rd"⟩
theorem ok__law_refused_right {f : Addr} {fd : FuncData} (F : Fun K "_law_refused_right" "_law_refused_right" s__law_refused_right f fd) (T : Tx mg) (c__law_all_cells : DfnW P w K mg base "_law_all_cells" 1 1 (wp__law_all_cells K a)) (c__law_deep : DfnW P w K mg base "_law_deep" 1 0 (wp__law_deep K a)) (c__law_draw : DfnW P w K mg base "_law_draw" 1 2 (wpS S_draw)) (c__law_is_order : DfnW P w K mg base "_law_is_order" 2 2 (wp__law_is_order K a)) (c__law_is_int : DfnW P w K mg base "_law_is_int" 1 3 (wp__law_is_int K a)) (c__law_word : DfnW P w K mg base "_law_word" 9 4 (wp__law_word K a)) : FnOk P w K mg base (L2.CX P w) 10 f fd ["pool", "spec", "wish", "order"] (spW K 4 (wp__law_refused_right K a)) :=
  fn_e (k := 9) F sc__law_refused_right (b__law_refused_right K a) (by decide) fun cdv A outer s H E W hr tk => ⟨_,
    (pss_cons (ps_set (i := 4) sc__law_refused_right.nd rfl (Or.inl rfl) (kw_fn tk c__law_all_cells hr (by decide) ⟨rfl, rfl, rfl, rfl, rfl⟩ rfl (pa_cons (pv 1) pa_nil)))
      (pss_cons (ps_set (i := 5) sc__law_refused_right.nd rfl (Or.inl rfl) (pe_lst (pa_cons (pv 3) (pa_cons (pe_op (k_plus K) (pv 3) (pe_tup (pa_cons (pv 4) pa_nil))) (pa_cons (pe_op (k_plus K) (pv 3) (pe_tup (pa_cons (pe_un un_neg pe_int) pa_nil))) (pa_cons (pe_op (k_plus K) (pv 3) (pe_tup (pa_cons pe_bl pa_nil))) (pa_cons (pe_callTy (k_list K) rfl T.list (by decide +kernel) (pa_cons (pv 3) pa_nil)) (pa_cons pe_non (pa_cons (pe_op (k_times K) (pe_tup (pa_cons pe_int pa_nil)) pe_int) (pa_cons (pe_op (k_times K) (pe_tup (pa_cons pe_int pa_nil)) pe_int) (pa_cons pe_str (pa_cons pe_dnewK (pa_cons (kw_fn0 c__law_deep hr (by decide) ⟨rfl, rfl, rfl, rfl, rfl⟩ rfl) (pa_cons (pe_tup (pa_cons (pe_tup (pa_cons pe_int pa_nil)) pa_nil)) pa_nil))))))))))))))
      (pss_cons (ps_set (i := 6) sc__law_refused_right.nd rfl (Or.inr rfl) (pe_ix (k_ix K) (pv 5) (kw_fn tk c__law_draw hr (by decide) ⟨rfl, rfl, rfl, rfl, rfl⟩ rfl (pa_cons (pv 0) (pa_cons pe_int pa_nil))) (fun _ _ => rfl)))
      (pss_cons (ps_set (i := 7) sc__law_refused_right.nd rfl (Or.inr rfl) (pe_ix (k_ix K) (pe_lst (pa_cons pe_int (pa_cons pe_int (pa_cons (pe_callB (k_len K) rfl T.len (by decide +kernel) (pa_cons (pv 3) pa_nil)) (pa_cons (pe_op (k_plus K) (pe_callB (k_len K) rfl T.len (by decide +kernel) (pa_cons (pv 3) pa_nil)) pe_int) (pa_cons (pe_un un_neg pe_int) (pa_cons pe_bl (pa_cons pe_non (pa_cons pe_str (pa_cons (pe_tup (pa_cons pe_int pa_nil)) (pa_cons (pe_op op_pow pe_int pe_int) (pa_cons (kw_fn0 c__law_deep hr (by decide) ⟨rfl, rfl, rfl, rfl, rfl⟩ rfl) (pa_cons pe_int pa_nil))))))))))))) (kw_fn tk c__law_draw hr (by decide) ⟨rfl, rfl, rfl, rfl, rfl⟩ rfl (pa_cons (pv 0) (pa_cons pe_int pa_nil))) (fun _ _ => rfl)))
      (pss_cons (ps_set (i := 8) sc__law_refused_right.nd rfl (Or.inl rfl) pe_str)
      (pss_cons (ps_if (pt_val (kw_fn tk c__law_is_order hr (by decide) ⟨rfl, rfl, rfl, rfl, rfl⟩ rfl (pa_cons (pv 1) (pa_cons (pv 6) pa_nil)))) (pss_one (ps_set (i := 8) sc__law_refused_right.nd rfl (Or.inl rfl) (pe_ifExp (pt_val (kw_fn tk c__law_is_int hr (by decide) ⟨rfl, rfl, rfl, rfl, rfl⟩ rfl (pa_cons (pv 7) (pa_cons pe_int (pa_cons (pe_callB (k_len K) rfl T.len (by decide +kernel) (pa_cons (pv 6) pa_nil)) pa_nil))))) pe_str pe_str))) pss_nil)
      (pss_one (ps_ret (pe_cmpR (k_eq K hr.units) (pe_lc (own := [("which", 9)]) rfl sc__law_refused_right.nd (pi_range1 rfl T.range (pa_cons pe_int pa_nil)) (blkOk_by (own := [("which", 9)]) (N := N__law_refused_right) (sc := defScope s__law_refused_right) (by decide +kernel))
        (fun _ _ _ _ _ => (pg_name (i := 9) sc__law_refused_right.nd rfl (Or.inl rfl))) (fun _ _ _ _ _ => pts_nil) (fun _ _ _ _ _ => (kw_fn takes0 c__law_word hr (by decide) ⟨rfl, rfl, rfl, rfl, rfl⟩ rfl (pa_cons (pv 9) (pa_cons (pv 2) (pa_cons (pv 6) (pa_cons (pv 7) pa_nil))))))) (pe_lst (pa_cons (pv 8) (pa_cons (pv 8) pa_nil))) (nomark _)))))))))), by walk_at "rd"⟩
end
end My
namespace My
open PySem L2 Ab Cc
def b_rest (K : PySem.W.Frag) (a : Ad) : S K := (seq (fors (irg1 (ac (int 3) a0)) (nm 2)
      (seq (asg (call 2 (wp__law_wish K a) (ac (v 1) (ac (int 5) a0))) (nm 3))
      (seq (asg (call 1 (wp__law_made_wish K a) (ac (v 3) a0)) (nm 4))
      (seq (asg (call 2 (wp__law_order K a) (ac (v 1) (ac (v 3) a0))) (nm 5))
      (seq (ifs (tand (tst (op eq (v 2) (int 0))) (tst (op eq (call 2 (wpS S_draw) (ac (v 1) (ac (int 24) a0))) (int 0)))) (asg (bi tuple (ac (ofL (lc (irg1 (ac (op add (int 55) (call 2 (wpS S_draw) (ac (v 1) (ac (int 6) a0)))) a0)) (nm 9) tyes (call 2 (wpS S_draw) (ac (v 1) (ac (call 1 (wp__law_all_cells K a) (ac (v 3) a0)) a0))) [9] (vsub rfl))) a0)) (nm 5)) nil)
      (seq (fors (irg1 (ac (op add (bi len (ac (v 5) a0)) (int 1)) a0)) (nm 6)
      (seq (asg (call 3 (wp__law_stages K a) (ac (v 3) (ac (v 5) (ac (v 6) a0)))) (nm 7))
      (ifs (tor (tnot (tB' (callG 2 S_is (ac (call 3 (wp_stages K a) (ac (v 4) (ac (v 5) (ac (v 6) a0)))) (ac (v 7) a0))))) (tnot (tB' (callG 2 S_is (ac (call 3 (wp_lack K a) (ac (v 4) (ac (v 5) (ac (v 6) a0)))) (ac (call 2 (wp__law_lack K a) (ac (v 3) (ac (v 7) a0))) a0)))))) (ret (bl false)) nil)))
      (fors (irg1 (ac (int 3) a0)) (nm 8)
      (ifs (tnot (tB' (call 4 (wp__law_refused_right K a) (ac (v 1) (ac (v 3) (ac (v 4) (ac (v 5) a0))))))) (ret (bl false)) nil))))))))
      (ret (bl true)))
def sp_law (K : PySem.W.Frag) : Sp := fun vs H Q _ => ∃ (p : Addr) (ns : List Int), vs = [.ref p] ∧ SqL K H p (ns.map V.int) ∧ ns.length ≤ 63 ∧ Only H ∧ ∀ H', Q (.bl true) H'
local macro_rules | `(tactic| walk_at "rd") => `(tactic| (simp only [e_te_v, e_te_vr, e_te_wk, e_te_int, e_te_bl, e_te_non, e_te_str, e_te_ty, e_te_cls, e_te_con, e_te_a0, e_te_ac, e_te_tup, e_te_dic, e_te_lst, e_te_ofL, e_te_op, e_te_nt, e_te_and, e_te_or, e_te_chain, e_te_neg, e_te_isN, e_te_notN, e_te_tst, e_te_tB', e_te_tand, e_te_tor, e_te_tnot, e_te_tyes, e_te_ife, e_te_bi, e_te_o0, e_te_o1, e_te_sl, e_te_fld, e_g_nm, e_vs_nm, e_g_g0, e_vs_g0, e_g_gc, e_vs_gc, e_g_gt, e_vs_gt, e_te_iseq, e_te_irg1, e_te_irg2, e_te_ienum, e_te_izip, e_te_bor, e_te_borL, e_te_app, e_te_ext, e_te_popAt, e_te_lc, e_te_dct1, e_te_call, e_te_call0, e_te_nil, e_te_seq, e_te_brk, e_te_cnt, e_te_drop, e_te_ret, e_te_retN, e_te_ifs, e_te_asg, e_te_own, e_te_par, e_te_fors, e_te_whs, e_te_aug, e_te_setO, e_te_rai, e_te_rai0, e_te_tryAs, e_r_add, e_r_mul, e_r_sub, e_r_lt, e_r_le, e_r_gt', e_r_ge, e_r_fdiv, e_r_mod, e_r_pow, e_r_eq, e_r_ne, e_r_inn, e_r_nin, e_r_ix, e_r_len, e_r_abs, e_r_toInt, e_r_gcd, e_r_all, e_r_any, e_r_sum, e_r_tuple, e_r_isT, e_r_isC, e_te_list, e_te_listRg, e_te_addL, e_te_retO, e_te_retL, e_te_callL, e_te_mk, e_te_setf, e_te_mcountT, e_r_tupleX, e_te_mcount, e_te_mindex, e_r_lcm, e_te_astar, e_te_revL, e_te_lc2, e_te_callG, e_te_isX, e_te_xf, e_r_fdivM, b_is_whole, b_is_tuple_of, b_unit_row, b_whole_row, b_shortened, b_first_not_nought, b_count_cells, b_wished_cells, b_single_ticks, b_written_cells, b__law_deep, b__law_low, b__law_unit, b__law_all_cells, b__law_wished, b__law_is_int, b_is_from_to, b_is_number, b_cleared, b_stages_at, b__law_mixed, b__law_add, b__law_mul, b__law_number, b__law_stages, b__law_safe, b__law_is_order, b_is_row, b_is_lot, b_widened, b_is_cell, b_check_moment, b__law_left, b__law_some_row, b__law_order, b_span_of, b_check_rows, b_is_order, b__law_steps, b__law_wish, b_Wish_init, b_check_order, b_safe_span, b__law_rank, b_lack_of, b_stages, b__law_lack, b_lack_at, b__law_made_wish, b_lack, b__law_word, b__law_refused_right, b_rest, rev, W0_eq, List.map_cons, List.map_nil] <;> rfl))
section
variable {P : Program} {w : World} {K : PySem.W.Frag} {mg : Str → Option Value} {base : Heap} {a : Ad}
theorem ok_law {f : Addr} {fd : FuncData} (F : Fun K "law" "law" s_law f fd) (T : Tx mg) (c__law_pool : Dfn P w K mg base "_law_pool" 1 1 S_pool) (c__law_wish : DfnW P w K mg base "_law_wish" 4 2 (wp__law_wish K a)) (c__law_made_wish : DfnW P w K mg base "_law_made_wish" 7 1 (wp__law_made_wish K a)) (c__law_order : DfnW P w K mg base "_law_order" 3 2 (wp__law_order K a)) (c__law_draw : DfnW P w K mg base "_law_draw" 1 2 (wpS S_draw)) (c__law_all_cells : DfnW P w K mg base "_law_all_cells" 1 1 (wp__law_all_cells K a)) (c__law_stages : DfnW P w K mg base "_law_stages" 2 3 (wp__law_stages K a)) (c__law_is : DfnG P w K mg base "_law_is" 1 2 S_is) (c__law_lack : DfnW P w K mg base "_law_lack" 6 2 (wp__law_lack K a)) (c_lack : DfnW P w K mg base "lack" 8 3 (wp_lack K a)) (c_stages : DfnW P w K mg base "stages" 6 3 (wp_stages K a)) (c__law_refused_right : DfnW P w K mg base "_law_refused_right" 10 4 (wp__law_refused_right K a))
    (wish : ∀ ns : List Int, ns.length ≤ 63 → (b_rest K a).wp (B.d (.scr ns) :: .d .pool :: List.replicate 8 .un) ⟨fun _ => False, ⟨fun x => x = .bl true, fun _ => False⟩, fun _ => False, fun _ => False⟩ (fun _ _ => False)) : FnOkG P w K mg base (L2.CX P w) 11 f fd ["script"] (sp_law K) := by
  refine fnG_of F sc_law (fun vs H Q E h => by obtain ⟨p, ns, rfl, _⟩ := h; rfl) fun cdv A outer s H vs Q E hg0 hr h => ?_
  have tk : Takes (cxOf (L2.CX P w) P w K mg base N_law "law" (defScope s_law) f cdv A outer s H E) W0 := takes0
  obtain ⟨t2, h2, e2⟩ : ∃ t, PSs (cxOf (L2.CX P w) P w K mg base N_law "law" (defScope s_law) f cdv A outer s H E) (defBody s_law).tail t ∧ t = (b_rest K a).ts W0 := ⟨_,
    (pss_cons (ps_for (passes_of rfl) rfl (pi_range1 rfl T.range (pa_cons pe_int pa_nil)) (pg_name (i := 2) sc_law.nd rfl (Or.inl rfl))
      (pss_cons (ps_set (i := 3) sc_law.nd rfl (Or.inr rfl) (kw_fn tk c__law_wish hr (by decide) ⟨rfl, rfl, rfl, rfl, rfl⟩ rfl (pa_cons (pv 1) (pa_cons pe_int pa_nil))))
      (pss_cons (ps_set (i := 4) sc_law.nd rfl (Or.inl rfl) (kw_fn tk c__law_made_wish hr (by decide) ⟨rfl, rfl, rfl, rfl, rfl⟩ rfl (pa_cons (pv 3) pa_nil)))
      (pss_cons (ps_set (i := 5) sc_law.nd rfl (Or.inl rfl) (kw_fn tk c__law_order hr (by decide) ⟨rfl, rfl, rfl, rfl, rfl⟩ rfl (pa_cons (pv 1) (pa_cons (pv 3) pa_nil))))
      (pss_cons (ps_if (PW.pt (pw_and (pt_cmpR (k_eq K hr.units) (pv 2) pe_int (nomark _)) (pw_and1 (pt_cmpR (k_eq K hr.units) (kw_fn tk c__law_draw hr (by decide) ⟨rfl, rfl, rfl, rfl, rfl⟩ rfl (pa_cons (pv 1) (pa_cons pe_int pa_nil))) pe_int (nomark _))))) (pss_one (ps_set (i := 5) sc_law.nd rfl (Or.inl rfl) (pe_callTy (k_tuple K) rfl T.tuple (by decide +kernel) (pa_cons (pe_lc (own := [("place", 9)]) rfl sc_law.nd (pi_range1 rfl T.range (pa_cons (pe_op (k_plus K) pe_int (kw_fn tk c__law_draw hr (by decide) ⟨rfl, rfl, rfl, rfl, rfl⟩ rfl (pa_cons (pv 1) (pa_cons pe_int pa_nil)))) pa_nil)) (blkOk_by (own := [("place", 9)]) (N := N_law) (sc := defScope s_law) (by decide +kernel))
        (fun _ _ _ _ _ => (pg_name (i := 9) sc_law.nd rfl (Or.inl rfl))) (fun _ _ _ _ _ => pts_nil) (fun _ _ _ _ _ => (kw_fn takes0 c__law_draw hr (by decide) ⟨rfl, rfl, rfl, rfl, rfl⟩ rfl (pa_cons (pv 1) (pa_cons (kw_fn takes0 c__law_all_cells hr (by decide) ⟨rfl, rfl, rfl, rfl, rfl⟩ rfl (pa_cons (pv 3) pa_nil)) pa_nil))))) pa_nil)))) pss_nil)
      (pss_cons (ps_for (passes_of rfl) rfl (pi_range1 rfl T.range (pa_cons (pe_op (k_plus K) (pe_callB (k_len K) rfl T.len (by decide +kernel) (pa_cons (pv 5) pa_nil)) pe_int) pa_nil)) (pg_name (i := 6) sc_law.nd rfl (Or.inl rfl))
      (pss_cons (ps_set (i := 7) sc_law.nd rfl (Or.inl rfl) (kw_fn tk c__law_stages hr (by decide) ⟨rfl, rfl, rfl, rfl, rfl⟩ rfl (pa_cons (pv 3) (pa_cons (pv 5) (pa_cons (pv 6) pa_nil)))))
      (pss_one (ps_if (PW.pt (pw_or (pt_not (pt_val (kc_fnG hg0 c__law_is hr (by decide) ⟨rfl, rfl, rfl, rfl, rfl⟩ rfl (pa_cons (kw_fn tk c_stages hr (by decide) ⟨rfl, rfl, rfl, rfl, rfl⟩ rfl (pa_cons (pv 4) (pa_cons (pv 5) (pa_cons (pv 6) pa_nil)))) (pa_cons (pv 7) pa_nil))))) (pw_or1 (pt_not (pt_val (kc_fnG hg0 c__law_is hr (by decide) ⟨rfl, rfl, rfl, rfl, rfl⟩ rfl (pa_cons (kw_fn tk c_lack hr (by decide) ⟨rfl, rfl, rfl, rfl, rfl⟩ rfl (pa_cons (pv 4) (pa_cons (pv 5) (pa_cons (pv 6) pa_nil)))) (pa_cons (kw_fn tk c__law_lack hr (by decide) ⟨rfl, rfl, rfl, rfl, rfl⟩ rfl (pa_cons (pv 3) (pa_cons (pv 7) pa_nil))) pa_nil)))))))) (pss_one (ps_ret pe_bl)) pss_nil))))
      (pss_one (ps_for (passes_of rfl) rfl (pi_range1 rfl T.range (pa_cons pe_int pa_nil)) (pg_name (i := 8) sc_law.nd rfl (Or.inl rfl))
      (pss_one (ps_if (pt_not (pt_val (kw_fn tk c__law_refused_right hr (by decide) ⟨rfl, rfl, rfl, rfl, rfl⟩ rfl (pa_cons (pv 1) (pa_cons (pv 3) (pa_cons (pv 4) (pa_cons (pv 5) pa_nil))))))) (pss_one (ps_ret pe_bl)) pss_nil))))))))))
      (pss_one (ps_ret pe_bl))), by walk_at "rd"⟩
  subst e2
  refine ⟨_, pss_cons (ps_set (i := 1) sc_law.nd rfl (Or.inr rfl) (kc_fn c__law_pool hr (by decide) ⟨rfl, rfl, rfl, rfl, rfl⟩ rfl (pa_cons (pv 0) pa_nil))) h2, ?_⟩
  obtain ⟨p, ns, rfl, hS, hlen, hO, hQ⟩ := h
  refine lawpool_start (S := S_pool) (N := N_law) hS hlen hO (fun d ⟨seed, cs, h⟩ => ⟨seed, cs, h⟩) ⟨ns, rfl, hlen⟩ (fun _ z => z) (by decide) (fun Z hZ hW hX => ?_) hQ rfl
  have := (b_rest K a).ok Z (B.d (.scr ns) :: .d .pool :: List.replicate 8 .un) ⟨fun _ => False, ⟨fun x => x = .bl true, fun _ => False⟩, fun _ => False, fun _ => False⟩ hZ (by rw [hX]; exact wish ns hlen)
  rw [hW] at this
  exact this
end
end My
namespace LA
abbrev Vc := Nat → Rat
def comb (x : Vc) (c : Rat) (v : Vc) : Vc := fun i => x i - c * v i
def Sp : List Vc → Vc → Prop
  | [], x => ∀ i, x i = 0
  | v :: vs, x => ∃ c : Rat, Sp vs (fun i => x i - c * v i)
def Ind : List Vc → Prop
  | [] => True
  | w :: ws => ¬ Sp ws w ∧ Ind ws
theorem Sp.congr : ∀ {vs : List Vc} {x y : Vc}, (∀ i, x i = y i) → Sp vs x → Sp vs y
  | vs, x, y, h, s => by
    have : x = y := funext h
    rw [← this]; exact s
theorem Sp.zero : ∀ (vs : List Vc) {x : Vc}, (∀ i, x i = 0) → Sp vs x
  | [], x, h => h
  | v :: vs, x, h => ⟨0, Sp.zero vs fun i => by rw [h]; grind⟩
theorem Sp.add : ∀ {vs : List Vc} {x y : Vc}, Sp vs x → Sp vs y → Sp vs (fun i => x i + y i)
  | [], x, y, h, g => fun i => by have h1 := h i; have h2 := g i; grind
  | v :: vs, x, y, ⟨c, h⟩, ⟨d, g⟩ => ⟨c + d, (Sp.add h g).congr fun i => by grind⟩
theorem Sp.smul : ∀ {vs : List Vc} {x : Vc} (k : Rat), Sp vs x → Sp vs (fun i => k * x i)
  | [], x, k, h => fun i => by have h1 := h i; grind
  | v :: vs, x, k, ⟨c, h⟩ => ⟨k * c, (Sp.smul k h).congr fun i => by grind⟩
theorem Sp.cons {v : Vc} {vs : List Vc} {x : Vc} (h : Sp vs x) : Sp (v :: vs) x := ⟨0, h.congr fun i => by grind⟩
theorem Sp.mem : ∀ {vs : List Vc} {v : Vc}, v ∈ vs → Sp vs v
  | w :: vs, v, h => by
    rcases List.mem_cons.mp h with rfl | h
    · exact ⟨1, Sp.zero vs fun i => by grind⟩
    · exact (Sp.mem h).cons
theorem Sp.trans : ∀ {vs ws : List Vc} {x : Vc}, (∀ v ∈ vs, Sp ws v) → Sp vs x → Sp ws x
  | [], ws, x, _, h => Sp.zero ws h
  | v :: vs, ws, x, hv, ⟨c, h⟩ => by
    have h1 := Sp.trans (fun u m => hv u (List.mem_cons_of_mem _ m)) h
    have h2 := (hv v List.mem_cons_self).smul c
    exact (h1.add h2).congr fun i => by grind
/-- exchange -/
theorem stein {v : Vc} {vs : List Vc} : ∀ {ws : List Vc}, Ind ws → (∀ w ∈ ws, Sp (v :: vs) w) →
    (∀ w ∈ ws, Sp vs w) ∨ ∃ w0 ∈ ws, ∃ c u, c ≠ 0 ∧ Sp vs u ∧ (∀ i, w0 i = c * v i + u i) ∧ ∃ ws', Ind ws' ∧ (∀ w ∈ ws', Sp vs w) ∧ ws'.length + 1 = ws.length ∧ ∀ x, Sp ws' x → Sp ws x
  | [], _, _ => .inl fun _ m => by cases m
  | a :: ws, hi, hs => by
    obtain ⟨ca, ha⟩ := hs a List.mem_cons_self
    rcases stein hi.2 (fun w m => hs w (List.mem_cons_of_mem _ m)) with h | ⟨w0, hw0, c, u, hc, hu, he, ws', i1, i2, i3, i4⟩
    · by_cases z : Sp vs a
      · exact .inl fun w m => by
          rcases List.mem_cons.mp m with rfl | m
          · exact z
          · exact h w m
      · refine .inr ⟨a, List.mem_cons_self, ca, fun i => a i - ca * v i, fun e => z (ha.congr fun i => by rw [e]; grind), ha, fun i => by grind, ws, hi.2, h, rfl, fun x hx => hx.cons⟩
    · refine .inr ⟨w0, List.mem_cons_of_mem _ hw0, c, u, hc, hu, he, (fun i => a i - (ca / c) * w0 i) :: ws', ⟨fun z => hi.1 ?_, i1⟩, ?_, by simp [i3], ?_⟩
      · have z2 := i4 _ z
        exact (z2.add ((Sp.mem hw0).smul (ca / c))).congr fun i => by grind
      · intro w m
        rcases List.mem_cons.mp m with rfl | m
        · refine (ha.add (hu.smul (-(ca / c)))).congr fun i => ?_
          rw [he]
          have : (ca / c) * c = ca := by grind
          grind
        · exact i2 w m
      · rintro x ⟨k, hx⟩
        have z2 := i4 _ hx
        have h1 : Sp (a :: ws) (fun i => k * a i) := (Sp.mem List.mem_cons_self).smul k
        have h2 : Sp (a :: ws) (fun i => (-(k * (ca / c))) * w0 i) := ((Sp.mem hw0).cons).smul _
        exact ((z2.cons).add (h1.add h2)).congr fun i => by grind
theorem steinitz : ∀ {vs ws : List Vc}, Ind ws → (∀ w ∈ ws, Sp vs w) → ws.length ≤ vs.length
  | [], ws, hi, hs => by
    cases ws with
    | nil => exact Nat.le_refl _
    | cons w ws => exact absurd (Sp.zero ws (hs w List.mem_cons_self)) hi.1
  | v :: vs, ws, hi, hs => by
    rcases stein hi hs with h | ⟨_, _, _, _, _, _, _, ws', i1, i2, i3, _⟩
    · exact Nat.le_succ_of_le (steinitz hi h)
    · have := steinitz i1 i2
      simp only [List.length_cons]; omega
/-- echelon bases: pairs of a pivot and a row -/
def Ech : List (Nat × Vc) → Prop
  | [] => True
  | (p, b) :: bs => b p ≠ 0 ∧ (∀ q ∈ bs, q.2 p = 0) ∧ Ech bs
def rows (bs : List (Nat × Vc)) : List Vc := bs.map (·.2)
theorem Sp.at : ∀ {bs : List Vc} {x : Vc} {p : Nat}, (∀ q ∈ bs, q p = 0) → Sp bs x → x p = 0
  | [], x, p, _, h => h p
  | b :: bs, x, p, hq, ⟨c, h⟩ => by
    have := Sp.at (fun q m => hq q (List.mem_cons_of_mem _ m)) h
    have := hq b List.mem_cons_self
    grind
theorem ech_zero : ∀ {bs : List (Nat × Vc)} {x : Vc}, Ech bs → Sp (rows bs) x → (∀ q ∈ bs, x q.1 = 0) → ∀ i, x i = 0
  | [], x, _, h, _ => h
  | (p, b) :: bs, x, ⟨h1, h2, h3⟩, ⟨c, h⟩, hz => by
    have a1 : x p - c * b p = 0 := Sp.at (p := p) (fun q m => by
      obtain ⟨r, hr, rfl⟩ := List.mem_map.mp m
      exact h2 r hr) h
    have a2 := hz (p, b) List.mem_cons_self
    have c0 : c = 0 := by
      have : c * b p = 0 := by
        have : x p = 0 := a2
        grind
      rcases Rat.mul_eq_zero.mp this with h | h
      · exact h
      · exact absurd h h1
    subst c0
    refine ech_zero h3 (h.congr fun i => by grind) fun q m => hz q (List.mem_cons_of_mem _ m)
theorem ech_ind : ∀ {bs : List (Nat × Vc)}, Ech bs → Ind (rows bs)
  | [], _ => trivial
  | (p, b) :: bs, ⟨h1, h2, h3⟩ => ⟨fun z => h1 (Sp.at (fun q m => by
      obtain ⟨r, hr, rfl⟩ := List.mem_map.mp m
      exact h2 r hr) z), ech_ind h3⟩
theorem ech_len {bs cs : List (Nat × Vc)} (h : Ech bs) (g : ∀ b ∈ rows bs, Sp (rows cs) b) : bs.length ≤ cs.length := by
  have := steinitz (ech_ind h) g
  simpa [rows] using this
theorem ech_snoc : ∀ {bs : List (Nat × Vc)} {p : Nat} {y : Vc}, Ech bs → y p ≠ 0 → (∀ q ∈ bs, y q.1 = 0) → Ech (bs ++ [(p, y)])
  | [], p, y, _, h, _ => ⟨h, by simp, trivial⟩
  | (q, b) :: bs, p, y, ⟨h1, h2, h3⟩, h, hz => ⟨h1, fun r m => by
      rcases List.mem_append.mp m with m | m
      · exact h2 r m
      · rw [List.mem_singleton.mp m]; exact hz (q, b) List.mem_cons_self, ech_snoc h3 h fun r m => hz r (List.mem_cons_of_mem _ m)⟩
/-- what clearing a row by bases, one behind another, does -/
inductive Clr : List (Nat × Vc) → Vc → Vc → Prop
  | nil {x : Vc} : Clr [] x x
  | cons {p : Nat} {b : Vc} {bs : List (Nat × Vc)} {x x' y : Vc} (α β γ : Rat) : α ≠ 0 → β ≠ 0 → (∀ i, x' i = α * (β * x i - γ * b i)) → x' p = 0 → Clr bs x' y → Clr ((p, b) :: bs) x y
theorem clr_spec : ∀ {bs : List (Nat × Vc)} {x y : Vc}, Ech bs → Clr bs x y → (∃ m : Rat, m ≠ 0 ∧ Sp (rows bs) (fun i => y i - m * x i)) ∧ (∀ q ∈ bs, y q.1 = 0) ∧ ∀ q, x q = 0 → (∀ b ∈ bs, b.2 q = 0) → y q = 0
  | [], x, _, _, .nil => ⟨⟨1, by decide, fun i => by grind⟩, by simp, fun q h _ => h⟩
  | (p, b) :: bs, x, y, ⟨h1, h2, h3⟩, .cons α β γ ha hb he hp hc => by
    obtain ⟨⟨m, hm, hs⟩, hz, hq⟩ := clr_spec h3 hc
    refine ⟨⟨m * (α * β), ?_, -(m * α * γ), hs.congr fun i => ?_⟩, fun q mq => ?_, fun q hx hb' => ?_⟩
    · intro z
      rcases Rat.mul_eq_zero.mp z with z | z
      · exact hm z
      · rcases Rat.mul_eq_zero.mp z with z | z
        · exact ha z
        · exact hb z
    · rw [he]; grind
    · rcases List.mem_cons.mp mq with rfl | mq
      · exact hq p hp h2
      · exact hz q mq
    · refine hq q ?_ fun r mr => hb' r (List.mem_cons_of_mem _ mr)
      have h5 := hb' (p, b) List.mem_cons_self
      have h6 := he q
      simp only at h5
      rw [h6, hx, h5]; grind
/-- bases made row by row -/
inductive Bas : List Vc → List (Nat × Vc) → Prop
  | nil : Bas [] []
  | skip {rs : List Vc} {bs : List (Nat × Vc)} {x y : Vc} : Bas rs bs → Clr bs x y → (∀ i, y i = 0) → Bas (rs ++ [x]) bs
  | add {rs : List Vc} {bs : List (Nat × Vc)} {x y : Vc} {p : Nat} : Bas rs bs → Clr bs x y → y p ≠ 0 → Bas (rs ++ [x]) (bs ++ [(p, y)])
theorem Sp.mono {vs ws : List Vc} {x : Vc} (h : ∀ v ∈ vs, v ∈ ws) (s : Sp vs x) : Sp ws x := s.trans fun v m => Sp.mem (h v m)
theorem bas_spec {rs : List Vc} {bs : List (Nat × Vc)} (h : Bas rs bs) : Ech bs ∧ (∀ r ∈ rs, Sp (rows bs) r) ∧ ∀ b ∈ rows bs, Sp rs b := by
  induction h with
  | nil => exact ⟨trivial, by simp, by simp [rows]⟩
  | @skip rs bs x y hb hc hz ih =>
    obtain ⟨e, i1, i2⟩ := ih
    obtain ⟨⟨m, hm, hs⟩, _, _⟩ := clr_spec e hc
    refine ⟨e, fun r mr => ?_, fun b mb => (i2 b mb).mono fun v mv => List.mem_append_left _ mv⟩
    rcases List.mem_append.mp mr with mr | mr
    · exact i1 r mr
    · rw [List.mem_singleton.mp mr]
      refine (hs.smul (-(1 / m))).congr fun i => ?_
      rw [hz i]; grind
  | @add rs bs x y p hb hc hp ih =>
    obtain ⟨e, i1, i2⟩ := ih
    obtain ⟨⟨m, hm, hs⟩, hz, _⟩ := clr_spec e hc
    have er : rows (bs ++ [(p, y)]) = rows bs ++ [y] := by simp [rows]
    refine ⟨ech_snoc e hp hz, fun r mr => ?_, fun b mb => ?_⟩
    · rw [er]
      rcases List.mem_append.mp mr with mr | mr
      · exact (i1 r mr).mono fun v mv => List.mem_append_left _ mv
      · rw [List.mem_singleton.mp mr]
        have h1 : Sp (rows bs ++ [y]) (fun i => (-(1 / m)) * (y i - m * x i)) := (hs.smul _).mono fun v mv => List.mem_append_left _ mv
        have h2 : Sp (rows bs ++ [y]) (fun i => (1 / m) * y i) := (Sp.mem (by simp)).smul _
        exact (h1.add h2).congr fun i => by grind
    · rw [er] at mb
      rcases List.mem_append.mp mb with mb | mb
      · exact (i2 b mb).mono fun v mv => List.mem_append_left _ mv
      · rw [List.mem_singleton.mp mb]
        have h1 : Sp (rs ++ [x]) (fun i => y i - m * x i) := (hs.trans i2).mono fun v mv => List.mem_append_left _ mv
        have h2 : Sp (rs ++ [x]) (fun i => m * x i) := (Sp.mem (by simp)).smul _
        exact (h1.add h2).congr fun i => by grind
/-- THE RANK: bases of rows that are the same, in whatever order, are as many -/
theorem bas_len {rs ss : List Vc} {bs cs : List (Nat × Vc)} (h : Bas rs bs) (g : Bas ss cs) (e : ∀ x, x ∈ rs ↔ x ∈ ss) : bs.length = cs.length := by
  obtain ⟨e1, i1, i2⟩ := bas_spec h
  obtain ⟨e2, j1, j2⟩ := bas_spec g
  exact Nat.le_antisymm (ech_len e1 fun b m => (i2 b m).trans fun v mv => j1 v ((e v).mp mv)) (ech_len e2 fun b m => (j2 b m).trans fun v mv => i1 v ((e v).mpr mv))
end LA
namespace My
open PySem L2 Ab Cc
local macro_rules | `(tactic| walk_at "wp") => `(tactic| (try simp -implicitDefEqProofs only [e_wp_v, e_wp_vr, e_wp_wk, e_wp_int, e_wp_bl, e_wp_non, e_wp_str, e_wp_ty, e_wp_cls, e_wp_con, e_wp_a0, e_wp_ac, e_wp_tup, e_wp_dic, e_wp_lst, e_wp_ofL, e_wp_op, e_wp_nt, e_wp_and, e_wp_or, e_wp_chain, e_wp_neg, e_wp_isN, e_wp_notN, e_wp_tst, e_wp_tB', e_wp_tand, e_wp_tor, e_wp_tnot, e_wp_tyes, e_wp_ife, e_wp_bi, e_wp_o0, e_wp_o1, e_wp_sl, e_wp_fld, e_wp_nm, e_wp_g0, e_wp_gc, e_wp_gt, e_wp_iseq, e_wp_irg1, e_wp_irg2, e_wp_ienum, e_wp_izip, e_wp_bor, e_wp_borL, e_wp_app, e_wp_ext, e_wp_popAt, e_wp_lc, e_wp_dct1, e_wp_call, e_wp_call0, e_wp_nil, e_wp_seq, e_wp_brk, e_wp_cnt, e_wp_drop, e_wp_ret, e_wp_retN, e_wp_ifs, e_wp_asg, e_wp_own, e_wp_par, e_wp_fors, e_wp_whs, e_wp_aug, e_wp_setO, e_wp_rai, e_wp_rai0, e_wp_tryAs, e_wp_add, e_wp_mul, e_wp_sub, e_wp_lt, e_wp_le, e_wp_gt', e_wp_ge, e_wp_fdiv, e_wp_mod, e_wp_pow, e_wp_eq, e_wp_ne, e_wp_inn, e_wp_nin, e_wp_ix, e_wp_len, e_wp_abs, e_wp_toInt, e_wp_gcd, e_wp_all, e_wp_any, e_wp_sum, e_wp_tuple, e_wp_isT, e_wp_isC, e_wp_list, e_wp_listRg, e_wp_addL, e_wp_retO, e_wp_retL, e_wp_callL, e_wp_mk, e_wp_setf, e_wp_mcountT, e_wp_tupleX, e_wp_mcount, e_wp_mindex, e_wp_lcm, e_wp_astar, e_wp_revL, e_wp_lc2, e_wp_callG, e_wp_isX, e_wp_xf, e_wp_fdivM, r_get0, r_getS, r_put0, r_putS, r_var, r_vd, r_vown, r_isBl, r_isI, r_isSqT, r_isSqL, r_two, r_isOwn, r_no, r_noU, r_unxI, r_unxT, r_unxX, r_unxO, r_addI, r_addT, r_addL, r_mulI, r_mulT, r_ii, r_ci, r_eqI, r_eqS, r_eqB, r_inT, r_inL, r_ixT, r_ixL, r_lenT, r_lenL, r_abs, r_intI, r_intB, r_gcd, r_all, r_sum, r_tupL, r_tupT, r_sqT, r_sqL, r_rg1, r_en, r_zipT, r_zipL, r_slT, r_slL, r_noOwn0, r_noOwnS, r_wip0, r_wipS, r_start, r_bodyN, r_body, r_lt, r_isN0, r_isNT, r_isNI, r_isNL, r_okU, r_okD, r_noOb0, r_noObU, r_noObD, r_noObO, r_frz0, r_frzU, r_frzD, r_frzO, r_noLi, r_noLb, r_noLs, r_noLn, rev, List.map_cons, List.map_nil, List.length_cons, List.length_nil, List.replicate, List.nil_append, List.cons_append, Nat.sub_self, Nat.reduceAdd, Nat.reduceSub, not_false_eq_true, and_self, true_and, and_true, if_true, if_false, Bool.not_true, Bool.not_false, Bool.false_eq_true, and_false, false_and, reduceIte, ite_self, Nat.zero_add, decide_eq_true_eq]))
local macro_rules | `(tactic| walk_at "ws") => `(tactic| simp_all [r_get0, r_getS, r_put0, r_putS, r_var, r_vd, r_vown, r_isBl, r_isI, r_isSqT, r_isSqL, r_two, r_isOwn, r_no, r_noU, r_unxI, r_unxT, r_unxX, r_unxO, r_addI, r_addT, r_addL, r_mulI, r_mulT, r_ii, r_ci, r_eqI, r_eqS, r_eqB, r_inT, r_inL, r_ixT, r_ixL, r_lenT, r_lenL, r_abs, r_intI, r_intB, r_gcd, r_all, r_sum, r_tupL, r_tupT, r_sqT, r_sqL, r_rg1, r_en, r_zipT, r_zipL, r_slT, r_slL, r_noOwn0, r_noOwnS, r_wip0, r_wipS, r_start, r_bodyN, r_body, r_lt, r_isN0, r_isNT, r_isNI, r_isNL, r_okU, r_okD, r_noOb0, r_noObU, r_noObD, r_noObO, r_frz0, r_frzU, r_frzD, r_frzO, r_noLi, r_noLb, r_noLs, r_noLn, isTy, taggedD, tagD])
def pr (p : Int × Int) : D := .tup [.int p.1, .int p.2]
abbrev Rw := List (Int × Int)
def rD (r : Rw) : D := .tup (r.map pr)
def oD : Option Rw → D
  | none => .non
  | some r => rD r
def sm (p : Int × Int) : Prop := 1 ≤ p.2 ∧ p.2 ≤ 7 ∧ p.1.natAbs ≤ 101 ∧ Nat.gcd p.1.natAbs p.2.natAbs = 1
def okR (n : Nat) (r : Rw) : Prop := r.length = n ∧ ∀ p ∈ r, sm p
def isWhole : D → Bool
  | .int _ => true
  | _ => false
def fromTo (lo hi : Int) : D → Bool
  | .int i => decide (lo ≤ i) && decide (i ≤ hi)
  | _ => false
def tupOf (n : Int) : D → Bool
  | .tup xs => decide ((xs.length : Int) = n)
  | _ => false
theorem map_bl {α : Type} {f : α → D} {g : α → Bool} {xs : List α} (h : ∀ x ∈ xs, f x = .bl (g x)) : xs.map f = (xs.map g).map D.bl := by
  rw [List.map_map]
  exact List.map_congr_left h
section
variable {K : PySem.W.Frag} {a : Ad} {Q : D → Prop} {E : Er → Prop}
theorem w_is_whole {x : D} (hx : taggedD x = true) (q : Q (.bl (isWhole x))) : wp_is_whole K a [x] Q E := by
  unfold wp_is_whole b_is_whole
  walk_at "wp"
  cases x <;> simp_all [isTy, isWhole, taggedD, tagD]
theorem w_is_from_to {x : D} {lo hi : Int} (hx : taggedD x = true) (q : Q (.bl (fromTo lo hi x))) : wp_is_from_to K a [x, .int lo, .int hi] Q E := by
  unfold wp_is_from_to b_is_from_to
  walk_at "wp"
  refine w_is_whole hx ?_
  walk_at "wp"
  cases x <;> simp_all [isWhole, fromTo, r_ii, r_isBl]
  split <;> simp_all
theorem w_is_tuple_of {x : D} {n : Int} (hx : taggedD x = true) (q : Q (.bl (tupOf n x))) : wp_is_tuple_of K a [x, .int n] Q E := by
  unfold wp_is_tuple_of b_is_tuple_of
  walk_at "wp"
  cases x <;> simp_all [isTy, tupOf, taggedD, tagD, r_lenT, r_eqI]
theorem w_is_number {p : Int × Int} (hp : sm p) (q : Q (.bl true)) : wp_is_number K a [pr p] Q E := by
  obtain ⟨h1, h2, h3, h4⟩ := hp
  unfold wp_is_number b_is_number pr
  walk_at "wp"
  refine w_is_tuple_of (by simp [taggedD, tagD]) ?_
  simp only [tupOf, List.length_cons, List.length_nil, Nat.zero_add, Nat.reduceAdd]
  walk_at "wp"
  simp only [show (decide (((2 : Nat) : Int) = 2)) = true by decide, Bool.not_true, if_false, Bool.false_eq_true]
  refine w_is_whole (by simp [taggedD, tagD]) ?_
  simp only [isWhole]
  walk_at "wp"
  refine w_is_whole (by simp [taggedD, tagD]) ?_
  simp only [isWhole]
  walk_at "wp"
  simp [h1, h4, q]
theorem w_is_row {n : Nat} {r : Rw} (hr : okR n r) (hn : n < 1000) (q : Q (.bl true)) : wp_is_row K a [rD r, .int n] Q E := by
  obtain ⟨h1, h2⟩ := hr
  unfold wp_is_row b_is_row rD
  walk_at "wp"
  refine w_is_tuple_of (by simp [taggedD, tagD]) ?_
  simp only [tupOf, List.length_map, h1, decide_true, r_isBl, if_true]
  refine ⟨by omega, lcS_map (f := fun _ => .bl true) (fun d hd k hk => ?_) ?_⟩
  · obtain ⟨p, hp, rfl⟩ := List.mem_map.mp hd
    simp only [elW]
    walk_at "wp"
    refine w_is_number (h2 p hp) ?_
    exact hk
  · refine ⟨_, map_bl (g := fun _ => true) fun _ _ => rfl, ?_⟩
    have e : (List.map (fun _ => true) (r.map pr)).all id = true := by simp [List.all_eq_true]
    rw [e]; exact q
end
end My
namespace My
open PySem L2 Ab Cc
local macro_rules | `(tactic| walk_at "wp") => `(tactic| (try simp -implicitDefEqProofs only [e_wp_v, e_wp_vr, e_wp_wk, e_wp_int, e_wp_bl, e_wp_non, e_wp_str, e_wp_ty, e_wp_cls, e_wp_con, e_wp_a0, e_wp_ac, e_wp_tup, e_wp_dic, e_wp_lst, e_wp_ofL, e_wp_op, e_wp_nt, e_wp_and, e_wp_or, e_wp_chain, e_wp_neg, e_wp_isN, e_wp_notN, e_wp_tst, e_wp_tB', e_wp_tand, e_wp_tor, e_wp_tnot, e_wp_tyes, e_wp_ife, e_wp_bi, e_wp_o0, e_wp_o1, e_wp_sl, e_wp_fld, e_wp_nm, e_wp_g0, e_wp_gc, e_wp_gt, e_wp_iseq, e_wp_irg1, e_wp_irg2, e_wp_ienum, e_wp_izip, e_wp_bor, e_wp_borL, e_wp_app, e_wp_ext, e_wp_popAt, e_wp_lc, e_wp_dct1, e_wp_call, e_wp_call0, e_wp_nil, e_wp_seq, e_wp_brk, e_wp_cnt, e_wp_drop, e_wp_ret, e_wp_retN, e_wp_ifs, e_wp_asg, e_wp_own, e_wp_par, e_wp_fors, e_wp_whs, e_wp_aug, e_wp_setO, e_wp_rai, e_wp_rai0, e_wp_tryAs, e_wp_add, e_wp_mul, e_wp_sub, e_wp_lt, e_wp_le, e_wp_gt', e_wp_ge, e_wp_fdiv, e_wp_mod, e_wp_pow, e_wp_eq, e_wp_ne, e_wp_inn, e_wp_nin, e_wp_ix, e_wp_len, e_wp_abs, e_wp_toInt, e_wp_gcd, e_wp_all, e_wp_any, e_wp_sum, e_wp_tuple, e_wp_isT, e_wp_isC, e_wp_list, e_wp_listRg, e_wp_addL, e_wp_retO, e_wp_retL, e_wp_callL, e_wp_mk, e_wp_setf, e_wp_mcountT, e_wp_tupleX, e_wp_mcount, e_wp_mindex, e_wp_lcm, e_wp_astar, e_wp_revL, e_wp_lc2, e_wp_callG, e_wp_isX, e_wp_xf, e_wp_fdivM, r_get0, r_getS, r_put0, r_putS, r_var, r_vd, r_vown, r_isBl, r_isI, r_isSqT, r_isSqL, r_two, r_isOwn, r_no, r_noU, r_unxI, r_unxT, r_unxX, r_unxO, r_addI, r_addT, r_addL, r_mulI, r_mulT, r_ii, r_ci, r_eqI, r_eqS, r_eqB, r_inT, r_inL, r_ixT, r_ixL, r_lenT, r_lenL, r_abs, r_intI, r_intB, r_gcd, r_all, r_sum, r_tupL, r_tupT, r_sqT, r_sqL, r_rg1, r_en, r_zipT, r_zipL, r_slT, r_slL, r_noOwn0, r_noOwnS, r_wip0, r_wipS, r_start, r_bodyN, r_body, r_lt, r_isN0, r_isNT, r_isNI, r_isNL, r_okU, r_okD, r_noOb0, r_noObU, r_noObD, r_noObO, r_frz0, r_frzU, r_frzD, r_frzO, r_noLi, r_noLb, r_noLs, r_noLn, rev, List.map_cons, List.map_nil, List.length_cons, List.length_nil, List.replicate, List.nil_append, List.cons_append, Nat.sub_self, Nat.reduceAdd, Nat.reduceSub, not_false_eq_true, and_self, true_and, and_true, if_true, if_false, Bool.not_true, Bool.not_false, Bool.false_eq_true, and_false, false_and, reduceIte, ite_self, Nat.zero_add, decide_eq_true_eq]))
local macro_rules | `(tactic| walk_at "ws") => `(tactic| simp_all [r_get0, r_getS, r_put0, r_putS, r_var, r_vd, r_vown, r_isBl, r_isI, r_isSqT, r_isSqL, r_two, r_isOwn, r_no, r_noU, r_unxI, r_unxT, r_unxX, r_unxO, r_addI, r_addT, r_addL, r_mulI, r_mulT, r_ii, r_ci, r_eqI, r_eqS, r_eqB, r_inT, r_inL, r_ixT, r_ixL, r_lenT, r_lenL, r_abs, r_intI, r_intB, r_gcd, r_all, r_sum, r_tupL, r_tupT, r_sqT, r_sqL, r_rg1, r_en, r_zipT, r_zipL, r_slT, r_slL, r_noOwn0, r_noOwnS, r_wip0, r_wipS, r_start, r_bodyN, r_body, r_lt, r_isN0, r_isNT, r_isNI, r_isNL, r_okU, r_okD, r_noOb0, r_noObU, r_noObD, r_noObO, r_frz0, r_frzU, r_frzD, r_frzO, r_noLi, r_noLb, r_noLs, r_noLn, isTy, taggedD, tagD])
def asc (n : Nat) (ls : List Int) : Prop := ls.Pairwise (· < ·) ∧ ∀ c ∈ ls, 0 ≤ c ∧ c < n
structure okW (rows : List (Option Rw)) (lk : List Int) (sp : Int) : Prop where
  n1 : 1 ≤ rows.length
  n6 : rows.length ≤ 6
  r : ∀ x ∈ rows, ∀ r, x = some r → okR rows.length r
  l : asc rows.length lk
  s0 : 0 ≤ sp
  s2 : sp ≤ 2
abbrev fsW : List Str := ["rows", "locked", "spare"]
def wO (a : Ad) (rows : List (Option Rw)) (lk : List Int) (sp : Int) : D := .obj a.C_Wish fsW [.tup (rows.map oD), .tup (lk.map D.int), .int sp]
def sD (rows : List (Option Rw)) (lk : List Int) (sp : Int) : D := .tup [.tup (rows.map oD), .tup (lk.map D.int), .int sp]
theorem asc_len {n : Nat} {ls : List Int} (h : asc n ls) : ls.length ≤ n := by
  obtain ⟨h1, h2⟩ := h
  have key : ∀ (m : Nat) (ls : List Int), ls.Pairwise (· < ·) → (∀ c ∈ ls, 0 ≤ c ∧ c < m) → ls.length ≤ m := by
    intro m
    induction m with
    | zero => intro ls _ h; cases ls with
      | nil => simp
      | cons c _ => have := h c List.mem_cons_self; omega
    | succ m ih =>
      intro ls hp hb
      by_cases z : ∃ c ∈ ls, c = (m : Int)
      · obtain ⟨c, hc, rfl⟩ := z
        obtain ⟨pre, post, rfl⟩ := List.append_of_mem hc
        have : post = [] := by
          cases post with
          | nil => rfl
          | cons d post =>
            have h3 := (List.pairwise_append.mp hp).2.1
            have h4 := (List.pairwise_cons.mp h3).1 d List.mem_cons_self
            have h5 := (hb d (by simp)).2
            omega
        subst this
        have := ih pre (List.pairwise_append.mp hp).1 fun c hc' => by
          have h3 := (List.pairwise_append.mp hp).2.2 c hc' (m : Int) List.mem_cons_self
          exact ⟨(hb c (by simp [hc'])).1, h3⟩
        simp; omega
      · have := ih ls hp fun c hc => ⟨(hb c hc).1, by
          have h3 := (hb c hc).2
          have h4 : c ≠ m := fun e => z ⟨c, hc, e⟩
          omega⟩
        omega
  exact key n ls h1 h2
section
variable {K : PySem.W.Frag} {a : Ad} {Q : D → Prop} {E : Er → Prop}
theorem tag_int {i : Int} : taggedD (.int i) = true := rfl
theorem tag_tup {xs : List D} : taggedD (.tup xs) = true := rfl
theorem w_is_lot {n : Nat} {ls : List Int} (h : asc n ls) (hn : n ≤ 100) (q : Q (.bl true)) : wp_is_lot K a [.tup (ls.map D.int), .int n] Q E := by
  have hl := asc_len h
  obtain ⟨h1, h2⟩ := h
  unfold wp_is_lot b_is_lot
  walk_at "wp"
  refine ⟨rfl, ?_⟩
  simp only [isTy, show ("tuple" == "tuple") = true by decide, Bool.not_true, Bool.false_eq_true, if_false]
  refine ⟨by simp; omega, lcS_map (f := fun _ => .bl true) (fun d hd k hk => ?_) ?_⟩
  · obtain ⟨c, hc, rfl⟩ := List.mem_map.mp hd
    simp only [elW]
    walk_at "wp"
    refine w_is_from_to rfl ?_
    have := h2 c hc
    have e : fromTo 0 ((n : Int) - 1) (.int c) = true := by simp [fromTo]; omega
    rw [e]; exact hk
  · refine ⟨_, map_bl (g := fun _ => true) fun _ _ => rfl, ?_⟩
    have e : (List.map (fun _ => true) (ls.map D.int)).all id = true := by simp [List.all_eq_true]
    rw [e]
    simp only [Bool.not_true, Bool.false_eq_true, if_false]
    refine ⟨by rw [zipD_len]; simp; omega, lcS_map (f := fun _ => .bl true) (fun d hd k hk => ?_) ?_⟩
    · obtain ⟨i, x, y, hx, hy, rfl⟩ := mem_zip hd
      simp only [elW]
      have ec : cutD (ls.map D.int) (some 1) none = (ls.map D.int).drop 1 := cut_from _ 1
      rw [ec, List.getElem?_drop, List.getElem?_map] at hy
      rw [List.getElem?_map] at hx
      cases h3 : ls[i]? with
      | none => rw [h3] at hx; cases hx
      | some u =>
        cases h4 : ls[1 + i]? with
        | none => rw [h4] at hy; cases hy
        | some w =>
          rw [h3] at hx; rw [h4] at hy; cases hx; cases hy
          obtain ⟨g1, g2⟩ := List.getElem?_eq_some_iff.mp h3
          obtain ⟨g3, g4⟩ := List.getElem?_eq_some_iff.mp h4
          have := List.pairwise_iff_getElem.mp h1 i (1 + i) g1 g3 (by omega)
          rw [g2, g4] at this
          walk_at "wp"
          simp only [this, decide_true]
          exact hk
    · refine ⟨_, map_bl (g := fun _ => true) fun _ _ => rfl, ?_⟩
      have e : (List.map (fun _ => true) (zipD (ls.map D.int) (cutD (ls.map D.int) (some 1) none))).all id = true := by simp [List.all_eq_true]
      rw [e]; exact q
theorem w_check_rows {rows : List (Option Rw)} (h1 : 1 ≤ rows.length) (h6 : rows.length ≤ 6) (hr : ∀ x ∈ rows, ∀ r, x = some r → okR rows.length r) (q : Q .non) : wp_check_rows K a [.tup (rows.map oD)] Q E := by
  unfold wp_check_rows b_check_rows
  walk_at "wp"
  refine ⟨rfl, ?_⟩
  simp only [isTy, List.length_map]
  simp only [show ("tuple" == "tuple") = true by decide, Bool.not_true, Bool.false_eq_true, if_false]
  rw [if_pos (by omega), show decide ((rows.length : Int) ≤ 6) = true by simp; omega]
  simp only [Bool.not_true, Bool.false_eq_true, if_false]
  refine forW_keep (fun Γ => ∃ b1 b2, Γ = [.d (.tup (rows.map oD)), b1, b2]) (fun Γ ⟨b1, b2, e⟩ => q) ⟨_, _, rfl⟩ ?_
  rintro d hd Γ ⟨b1, b2, rfl⟩ N hN
  obtain ⟨i, x, hx, rfl⟩ := mem_enum hd
  rw [List.getElem?_map] at hx
  cases h3 : rows[i]? with
  | none => rw [h3] at hx; cases hx
  | some o =>
    rw [h3] at hx; cases hx
    walk_at "wp"
    cases o with
    | none => 
      simp only [oD, r_isN0]
      walk_at "wp"
      exact hN _ ⟨_, _, rfl⟩
    | some r =>
      simp only [oD, rD, r_isNT]
      walk_at "wp"
      rw [List.length_map]
      refine w_is_row (hr _ (List.mem_of_getElem? h3) r rfl) (by omega) ?_
      exact hN _ ⟨_, _, rfl⟩
end
structure WC (K : PySem.W.Frag) (a : Ad) : Prop where
  c : Cls K a.C_Wish
  r : NoAttr K a.C_Wish "rows"
  l : NoAttr K a.C_Wish "locked"
  s : NoAttr K a.C_Wish "spare"
section
variable {K : PySem.W.Frag} {a : Ad} {Q : D → Prop} {E : Er → Prop} {rows : List (Option Rw)} {lk : List Int} {sp : Int} {P : D → Prop}
theorem f_rows (w : WC K a) (h : P (.tup (rows.map oD))) : Cls K a.C_Wish ∧ NoAttr K a.C_Wish "rows" ∧ ∃ d, List.lookup ("rows" : Str) (fsW.zip [D.tup (rows.map oD), D.tup (lk.map D.int), D.int sp]) = some d ∧ P d := ⟨w.c, w.r, _, rfl, h⟩
theorem f_locked (w : WC K a) (h : P (.tup (lk.map D.int))) : Cls K a.C_Wish ∧ NoAttr K a.C_Wish "locked" ∧ ∃ d, List.lookup ("locked" : Str) (fsW.zip [D.tup (rows.map oD), D.tup (lk.map D.int), D.int sp]) = some d ∧ P d := ⟨w.c, w.l, _, rfl, h⟩
theorem f_spare (w : WC K a) (h : P (.int sp)) : Cls K a.C_Wish ∧ NoAttr K a.C_Wish "spare" ∧ ∃ d, List.lookup ("spare" : Str) (fsW.zip [D.tup (rows.map oD), D.tup (lk.map D.int), D.int sp]) = some d ∧ P d := ⟨w.c, w.s, _, rfl, h⟩
theorem w_count_cells (w : WC K a) (q : Q (.int (rows.length + sp))) : wp_count_cells K a [wO a rows lk sp] Q E := by
  unfold wp_count_cells b_count_cells wO
  walk_at "wp"
  refine f_rows w ?_
  walk_at "wp"
  refine f_spare w ?_
  walk_at "wp"
  simpa using q
theorem w_is_cell {x : D} (w : WC K a) (hx : taggedD x = true) (q : Q (.bl (fromTo 0 (rows.length + sp - 1) x))) : wp_is_cell K a [wO a rows lk sp, x] Q E := by
  unfold wp_is_cell b_is_cell
  walk_at "wp"
  refine w_count_cells w ?_
  walk_at "wp"
  exact w_is_from_to hx q
theorem w_Wish (w : WC K a) (h : okW rows lk sp) {QF : List D → Prop} (q : QF [.tup (rows.map oD), .tup (lk.map D.int), .int sp]) : bodyI (b_Wish_init K a) a.C_Wish fsW 4 [.tup (rows.map oD), .tup (lk.map D.int), .int sp] QF E := by
  unfold bodyI b_Wish_init
  intro x
  walk_at "wp"
  refine w_check_rows h.n1 h.n6 h.r ?_
  walk_at "wp"
  rw [List.length_map]
  refine w_is_lot h.l (by have := h.n6; omega) ?_
  walk_at "wp"
  refine w_is_from_to rfl ?_
  have e : fromTo 0 2 (.int sp) = true := by have := h.s0; have := h.s2; simp [fromTo]; omega
  rw [e]
  walk_at "wp"
  exact ⟨w.c, w.r, by simp, by simp, w.c, w.l, by decide, by simp, w.c, w.s, by decide, by simp, _, q, rfl⟩
theorem fm_filter {α β : Type} {f : α → Option β} {p : α → Bool} {g : α → β} : ∀ {l : List α}, (∀ i ∈ l, f i = if p i = true then some (g i) else none) → l.filterMap f = (l.filter p).map g
  | [], _ => rfl
  | x :: l, h => by
    have h1 := h x List.mem_cons_self
    have h2 := fm_filter (l := l) fun i m => h i (List.mem_cons_of_mem _ m)
    cases e : p x
    · rw [e] at h1; simp at h1; simp [List.filterMap_cons, h1, e, h2]
    · rw [e] at h1; simp at h1; simp [List.filterMap_cons, h1, e, h2]
/-- which cells have a wish -/
def wI (rows : List (Option Rw)) : List Int := ((List.range rows.length).filter fun i => (rows.getD i none).isSome).map fun i => ((i : Nat) : Int)
theorem enum_eq (xs : List D) : enumD xs = (List.range xs.length).map fun i => .tup [.int (i : Nat), xs.getD i .non] := by
  unfold enumD
  apply List.ext_getElem?
  intro i
  by_cases h : i < xs.length
  · simp [h, List.getD]
  · simp [h]
theorem mem_wI {i : Int} : i ∈ wI rows ↔ ∃ (n : Nat) (r : Rw), rows[n]? = some (some r) ∧ i = n := by
  simp only [wI, List.mem_map, List.mem_filter, List.mem_range]
  constructor
  · rintro ⟨n, ⟨h1, h2⟩, rfl⟩
    cases e : rows[n]? with
    | none => simp at e; omega
    | some o =>
      cases o with
      | none => simp [List.getD, e] at h2
      | some r => exact ⟨n, r, e, rfl⟩
  · rintro ⟨n, r, h, rfl⟩
    exact ⟨n, ⟨(List.getElem?_eq_some_iff.mp h).1, by simp [List.getD, h]⟩, rfl⟩
theorem w_wished_cells (w : WC K a) (hn : rows.length ≤ 6) (q : Q (.lst ((wI rows).map D.int))) : wp_wished_cells K a [wO a rows lk sp] Q E := by
  unfold wp_wished_cells b_wished_cells wO
  walk_at "wp"
  refine f_rows w ?_
  walk_at "wp"
  refine ⟨by rw [enumD_len]; simp; omega, lcS_fm (f := fun d => match d with
    | .tup [i, x] => if isNon x = true then none else some i
    | _ => none) (fun d hd k hk => ?_) ?_⟩
  · obtain ⟨i, x, hx, rfl⟩ := mem_enum hd
    simp only [elW]
    walk_at "wp"
    simp only at hk
    cases h : isNon x
    · rw [h] at hk; simpa using hk
    · rw [h] at hk; simpa using hk
  · have e : (enumD (rows.map oD)).filterMap (fun d => match d with
      | .tup [i, x] => if isNon x = true then none else some i
      | _ => none) = (wI rows).map D.int := by
      rw [enum_eq, List.filterMap_map, wI, List.map_map, List.length_map]
      refine fm_filter fun i hi => ?_
      have hi := List.mem_range.mp hi
      simp only [Function.comp_def]
      have e1 : (rows.map oD).getD i .non = oD (rows.getD i none) := by simp [List.getD, hi]
      rw [e1]
      cases rows.getD i none with
      | none => simp [oD, Cc.isNon]
      | some r => simp [oD, rD, Cc.isNon]
    rw [e]; exact q
end
end My
namespace My
open PySem L2 Ab Cc
local macro_rules | `(tactic| walk_at "wp") => `(tactic| (try simp -implicitDefEqProofs only [e_wp_v, e_wp_vr, e_wp_wk, e_wp_int, e_wp_bl, e_wp_non, e_wp_str, e_wp_ty, e_wp_cls, e_wp_con, e_wp_a0, e_wp_ac, e_wp_tup, e_wp_dic, e_wp_lst, e_wp_ofL, e_wp_op, e_wp_nt, e_wp_and, e_wp_or, e_wp_chain, e_wp_neg, e_wp_isN, e_wp_notN, e_wp_tst, e_wp_tB', e_wp_tand, e_wp_tor, e_wp_tnot, e_wp_tyes, e_wp_ife, e_wp_bi, e_wp_o0, e_wp_o1, e_wp_sl, e_wp_fld, e_wp_nm, e_wp_g0, e_wp_gc, e_wp_gt, e_wp_iseq, e_wp_irg1, e_wp_irg2, e_wp_ienum, e_wp_izip, e_wp_bor, e_wp_borL, e_wp_app, e_wp_ext, e_wp_popAt, e_wp_lc, e_wp_dct1, e_wp_call, e_wp_call0, e_wp_nil, e_wp_seq, e_wp_brk, e_wp_cnt, e_wp_drop, e_wp_ret, e_wp_retN, e_wp_ifs, e_wp_asg, e_wp_own, e_wp_par, e_wp_fors, e_wp_whs, e_wp_aug, e_wp_setO, e_wp_rai, e_wp_rai0, e_wp_tryAs, e_wp_add, e_wp_mul, e_wp_sub, e_wp_lt, e_wp_le, e_wp_gt', e_wp_ge, e_wp_fdiv, e_wp_mod, e_wp_pow, e_wp_eq, e_wp_ne, e_wp_inn, e_wp_nin, e_wp_ix, e_wp_len, e_wp_abs, e_wp_toInt, e_wp_gcd, e_wp_all, e_wp_any, e_wp_sum, e_wp_tuple, e_wp_isT, e_wp_isC, e_wp_list, e_wp_listRg, e_wp_addL, e_wp_retO, e_wp_retL, e_wp_callL, e_wp_mk, e_wp_setf, e_wp_mcountT, e_wp_tupleX, e_wp_mcount, e_wp_mindex, e_wp_lcm, e_wp_astar, e_wp_revL, e_wp_lc2, e_wp_callG, e_wp_isX, e_wp_xf, e_wp_fdivM, r_get0, r_getS, r_put0, r_putS, r_var, r_vd, r_vown, r_isBl, r_isI, r_isSqT, r_isSqL, r_two, r_isOwn, r_no, r_noU, r_unxI, r_unxT, r_unxX, r_unxO, r_addI, r_addT, r_addL, r_mulI, r_mulT, r_ii, r_ci, r_eqI, r_eqS, r_eqB, r_inT, r_inL, r_ixT, r_ixL, r_lenT, r_lenL, r_abs, r_intI, r_intB, r_gcd, r_all, r_sum, r_tupL, r_tupT, r_sqT, r_sqL, r_rg1, r_en, r_zipT, r_zipL, r_slT, r_slL, r_noOwn0, r_noOwnS, r_wip0, r_wipS, r_start, r_bodyN, r_body, r_lt, r_isN0, r_isNT, r_isNI, r_isNL, r_okU, r_okD, r_noOb0, r_noObU, r_noObD, r_noObO, r_frz0, r_frzU, r_frzD, r_frzO, r_noLi, r_noLb, r_noLs, r_noLn, rev, List.map_cons, List.map_nil, List.length_cons, List.length_nil, List.replicate, List.nil_append, List.cons_append, Nat.sub_self, Nat.reduceAdd, Nat.reduceSub, not_false_eq_true, and_self, true_and, and_true, if_true, if_false, Bool.not_true, Bool.not_false, Bool.false_eq_true, and_false, false_and, reduceIte, ite_self, Nat.zero_add, decide_eq_true_eq]))
local macro_rules | `(tactic| walk_at "ws") => `(tactic| simp_all [r_get0, r_getS, r_put0, r_putS, r_var, r_vd, r_vown, r_isBl, r_isI, r_isSqT, r_isSqL, r_two, r_isOwn, r_no, r_noU, r_unxI, r_unxT, r_unxX, r_unxO, r_addI, r_addT, r_addL, r_mulI, r_mulT, r_ii, r_ci, r_eqI, r_eqS, r_eqB, r_inT, r_inL, r_ixT, r_ixL, r_lenT, r_lenL, r_abs, r_intI, r_intB, r_gcd, r_all, r_sum, r_tupL, r_tupT, r_sqT, r_sqL, r_rg1, r_en, r_zipT, r_zipL, r_slT, r_slL, r_noOwn0, r_noOwnS, r_wip0, r_wipS, r_start, r_bodyN, r_body, r_lt, r_isN0, r_isNT, r_isNI, r_isNL, r_okU, r_okD, r_noOb0, r_noObU, r_noObD, r_noObO, r_frz0, r_frzU, r_frzD, r_frzO, r_noLi, r_noLb, r_noLs, r_noLn, isTy, taggedD, tagD])
section
variable {K : PySem.W.Frag} {a : Ad} {Q : D → Prop} {E : Er → Prop} {rows : List (Option Rw)} {lk : List Int} {sp : Int}
def oks (os : List Int) : D := .tup (os.map D.int)
/-- whether a thing is an order -/
def isOrd (n : Int) : D → Bool
  | .tup xs => decide (xs.length ≤ 60) && xs.all (fromTo 0 (n - 1))
  | _ => false
theorem w_is_order {x : D} (w : WC K a) (hx : kD x = true) (q : Q (.bl (isOrd (rows.length + sp) x))) : wp_is_order K a [wO a rows lk sp, x] Q E := by
  unfold wp_is_order b_is_order
  have ht : taggedD x = true := by
    obtain ⟨t, h⟩ := kD_tag hx
    simp [taggedD, h]
  walk_at "wp"
  refine ⟨ht, ?_⟩
  cases hT : isTy "tuple" x
  · simp only [Bool.not_false, if_true]
    have e : isOrd (rows.length + sp) x = false := by cases x <;> simp_all [isTy, isOrd]
    rw [e] at q; simpa using q
  · obtain ⟨xs, rfl⟩ : ∃ xs, x = .tup xs := by cases x <;> simp_all [isTy]
    have hl := kD_len hx
    walk_at "wp"
    by_cases h60 : (60 : Int) < xs.length
    · simp only [h60, decide_true, if_true]
      have e : isOrd (rows.length + sp) (.tup xs) = false := by simp [isOrd]; omega
      rw [e] at q; simpa using q
    · simp only [h60, decide_false, Bool.false_eq_true, if_false]
      refine ⟨by omega, lcS_map (f := fun d => .bl (fromTo 0 (rows.length + sp - 1) d)) (fun d hd k hk => ?_) ?_⟩
      · simp only [elW]
        walk_at "wp"
        refine w_is_cell w ?_ ?_
        · obtain ⟨t, h⟩ := kD_tag (kD_tup hx d hd)
          simp [taggedD, h]
        · exact hk
      · refine ⟨_, map_bl (g := fun d => fromTo 0 (rows.length + sp - 1) d) fun _ _ => rfl, ?_⟩
        have e : (List.map (fun d => fromTo 0 (rows.length + sp - 1) d) xs).all id = isOrd (rows.length + sp) (.tup xs) := by
          simp [isOrd, List.all_map, Function.comp_def]; omega
        rw [e]; exact q
theorem w_check_order {x : D} (w : WC K a) (hx : kD x = true) (q : if isOrd (rows.length + sp) x = true then Q .non else E ⟨a.C_NoOrder, [], []⟩) : wp_check_order K a [wO a rows lk sp, x] Q E := by
  unfold wp_check_order b_check_order
  walk_at "wp"
  refine w_is_order w hx ?_
  walk_at "wp"
  cases h : isOrd (rows.length + sp) x <;> simp_all
theorem w_single_ticks {os : List Int} (hn : os.length ≤ 1000) (q : Q (.tup (os.map fun c => .tup [.int c]))) : wp_single_ticks K a [oks os] Q E := by
  unfold wp_single_ticks b_single_ticks oks
  walk_at "wp"
  refine ⟨by simp; omega, lcS_map (f := fun d => .tup [d]) (fun d hd k hk => ?_) ?_⟩
  · simp only [elW]
    walk_at "wp"
    exact ⟨by omega, hk⟩
  · rw [List.map_map]; exact q
def tks (os : List Int) : List D := os.map fun c => .tup [.int c]
theorem w_written_cells {os : List Int} (hn : os.length ≤ 1000) (q : Q (.lst (os.map D.int))) : wp_written_cells K a [.tup (tks os)] Q E := by
  unfold wp_written_cells b_written_cells
  walk_at "wp"
  have e : ((tks os).flatMap fun d => (sqOf d).map ((fun _ e => e) d)) = os.map D.int := by
    simp only [tks, List.flatMap_map, sqOf]
    clear q hn
    induction os with
    | nil => rfl
    | cons c os ih => simp_all [List.flatMap_cons]
  refine ⟨sqOf, fun _ e => e, ?_, ?_, ?_⟩
  · rw [e]; simp; omega
  · intro d hd
    obtain ⟨c, hc, rfl⟩ := List.mem_map.mp hd
    walk_at "wp"
    refine ⟨rfl, fun e he => ?_⟩
    trivial
  · rw [e]; exact q
/-- the word of a cell at a moment -/
def wrd (rows : List (Option Rw)) (os : List Int) (m : Nat) (c : Int) : Str :=
  if c ∉ os.take m then "not begun" else if c ∈ wI rows ∧ c ∉ os.drop m then "done" else "amid"
def wrds (rows : List (Option Rw)) (n : Nat) (os : List Int) (m : Nat) : List Str := (List.range n).map fun c => wrd rows os m (c : Nat)
theorem w_stages_at {os : List Int} {n m : Nat} (w : WC K a) (h : okW rows lk sp) (hn : (rows.length : Int) + sp = n) (ho : os.length ≤ 60) (hm : m ≤ os.length) (q : Q (.xtup ((wrds rows n os m).map D.str))) : wp_stages_at K a [wO a rows lk sp, .tup (tks os), .int m] Q E := by
  unfold wp_stages_at b_stages_at
  have t1 : cutD (tks os) none (some (m : Int)) = tks (os.take m) := by rw [cut_to, tks, tks, List.map_take]
  have t2 : cutD (tks os) (some (m : Int)) none = tks (os.drop m) := by rw [cut_from, tks, tks, List.map_drop]
  walk_at "wp"
  rw [t1]
  refine w_written_cells (by simp; omega) ?_
  walk_at "wp"
  rw [t2]
  refine w_written_cells (by simp; omega) ?_
  walk_at "wp"
  refine w_wished_cells w h.n6 ?_
  walk_at "wp"
  refine ⟨by omega, w_count_cells w ?_⟩
  rw [hn]
  walk_at "wp"
  have n8 : n ≤ 8 := by have := h.n6; have := h.s2; omega
  refine ⟨by omega, by omega, ?_⟩
  refine forW_by (fun pre Γ => ∃ b, okB b ∧ Γ = [.d (wO a rows lk sp), .d (.tup (tks os)), .d (.int m), .d (.lst ((os.take m).map D.int)), .d (.lst ((os.drop m).map D.int)), .d (.lst ((wI rows).map D.int)), .own ((wrds rows pre.length os m).map D.str), b]) ⟨.un, trivial, rfl⟩ ?_ ?_
  · rintro Γ ⟨b, hb, rfl⟩
    have hx : noL (.xtup ((wrds rows n os m).map D.str)) = true := noL_xtup fun x hx => by
      obtain ⟨y, _, rfl⟩ := List.mem_map.mp hx; rfl
    rcases okB_cases hb with rfl | ⟨x, rfl⟩
    · walk_at "wp"
      rw [rg_len]
      exact ⟨hx, q⟩
    · walk_at "wp"
      rw [rg_len]
      exact ⟨hx, q⟩
  · rintro pre d post e Γ ⟨b, hb, rfl⟩ N hN
    have hd : d ∈ rgAt 0 (n : Int).toNat := by rw [e]; simp
    have hd2 : (rgAt 0 (n : Int).toNat)[pre.length]? = some d := by rw [e]; simp
    have hlt : pre.length < n := by
      have := congrArg List.length e
      rw [rg_len] at this
      simp at this; omega
    have ed : d = .int (pre.length : Nat) := by
      rw [rgAt, List.getElem?_map, List.getElem?_range (by simpa using hlt)] at hd2
      simpa using hd2.symm
    subst ed
    have ew : (wrds rows (pre ++ [D.int (pre.length : Nat)]).length os m).map D.str = (wrds rows pre.length os m).map D.str ++ [.str (wrd rows os m (pre.length : Nat))] := by
      simp [wrds, List.range_succ]
    have fin := hN _ ⟨.d (.int (pre.length : Nat)), trivial, rfl⟩
    rw [ew] at fin
    have hl : ((wrds rows pre.length os m).map D.str).length < 100000 := by simp [wrds]; omega
    walk_at "wp"
    refine ⟨_, rfl, ?_⟩
    by_cases h1 : ((pre.length : Nat) : Int) ∈ os.take m
    · simp only [h1, decide_true, Bool.not_true, Bool.false_eq_true, if_false]
      walk_at "wp"
      refine ⟨_, rfl, ?_⟩
      by_cases h2 : ((pre.length : Nat) : Int) ∈ wI rows
      · simp only [h2, decide_true, if_true]
        refine ⟨_, rfl, ?_⟩
        by_cases h3 : ((pre.length : Nat) : Int) ∈ os.drop m
        · simp only [h3, decide_true, Bool.not_true, Bool.false_eq_true, if_false]
          refine ⟨hl, ?_⟩
          simpa [wrd, h1, h2, h3] using fin
        · simp only [h3, decide_false, Bool.not_false, if_true]
          refine ⟨hl, ?_⟩
          simpa [wrd, h1, h2, h3] using fin
      · simp only [h2, decide_false, Bool.false_eq_true, if_false]
        refine ⟨hl, ?_⟩
        simpa [wrd, h1, h2] using fin
    · simp only [h1, decide_false, Bool.not_false, if_true]
      refine ⟨hl, ?_⟩
      simpa [wrd, h1] using fin
end
end My
namespace My
open PySem L2 Ab Cc
local macro_rules | `(tactic| walk_at "wp") => `(tactic| (try simp -implicitDefEqProofs only [e_wp_v, e_wp_vr, e_wp_wk, e_wp_int, e_wp_bl, e_wp_non, e_wp_str, e_wp_ty, e_wp_cls, e_wp_con, e_wp_a0, e_wp_ac, e_wp_tup, e_wp_dic, e_wp_lst, e_wp_ofL, e_wp_op, e_wp_nt, e_wp_and, e_wp_or, e_wp_chain, e_wp_neg, e_wp_isN, e_wp_notN, e_wp_tst, e_wp_tB', e_wp_tand, e_wp_tor, e_wp_tnot, e_wp_tyes, e_wp_ife, e_wp_bi, e_wp_o0, e_wp_o1, e_wp_sl, e_wp_fld, e_wp_nm, e_wp_g0, e_wp_gc, e_wp_gt, e_wp_iseq, e_wp_irg1, e_wp_irg2, e_wp_ienum, e_wp_izip, e_wp_bor, e_wp_borL, e_wp_app, e_wp_ext, e_wp_popAt, e_wp_lc, e_wp_dct1, e_wp_call, e_wp_call0, e_wp_nil, e_wp_seq, e_wp_brk, e_wp_cnt, e_wp_drop, e_wp_ret, e_wp_retN, e_wp_ifs, e_wp_asg, e_wp_own, e_wp_par, e_wp_fors, e_wp_whs, e_wp_aug, e_wp_setO, e_wp_rai, e_wp_rai0, e_wp_tryAs, e_wp_add, e_wp_mul, e_wp_sub, e_wp_lt, e_wp_le, e_wp_gt', e_wp_ge, e_wp_fdiv, e_wp_mod, e_wp_pow, e_wp_eq, e_wp_ne, e_wp_inn, e_wp_nin, e_wp_ix, e_wp_len, e_wp_abs, e_wp_toInt, e_wp_gcd, e_wp_all, e_wp_any, e_wp_sum, e_wp_tuple, e_wp_isT, e_wp_isC, e_wp_list, e_wp_listRg, e_wp_addL, e_wp_retO, e_wp_retL, e_wp_callL, e_wp_mk, e_wp_setf, e_wp_mcountT, e_wp_tupleX, e_wp_mcount, e_wp_mindex, e_wp_lcm, e_wp_astar, e_wp_revL, e_wp_lc2, e_wp_callG, e_wp_isX, e_wp_xf, e_wp_fdivM, r_get0, r_getS, r_put0, r_putS, r_var, r_vd, r_vown, r_isBl, r_isI, r_isSqT, r_isSqL, r_two, r_isOwn, r_no, r_noU, r_unxI, r_unxT, r_unxX, r_unxO, r_addI, r_addT, r_addL, r_mulI, r_mulT, r_ii, r_ci, r_eqI, r_eqS, r_eqB, r_inT, r_inL, r_ixT, r_ixL, r_lenT, r_lenL, r_abs, r_intI, r_intB, r_gcd, r_all, r_sum, r_tupL, r_tupT, r_sqT, r_sqL, r_rg1, r_en, r_zipT, r_zipL, r_slT, r_slL, r_noOwn0, r_noOwnS, r_wip0, r_wipS, r_start, r_bodyN, r_body, r_lt, r_isN0, r_isNT, r_isNI, r_isNL, r_okU, r_okD, r_noOb0, r_noObU, r_noObD, r_noObO, r_frz0, r_frzU, r_frzD, r_frzO, r_noLi, r_noLb, r_noLs, r_noLn, rev, List.map_cons, List.map_nil, List.length_cons, List.length_nil, List.replicate, List.nil_append, List.cons_append, Nat.sub_self, Nat.reduceAdd, Nat.reduceSub, not_false_eq_true, and_self, true_and, and_true, if_true, if_false, Bool.not_true, Bool.not_false, Bool.false_eq_true, and_false, false_and, reduceIte, ite_self, Nat.zero_add, decide_eq_true_eq]))
local macro_rules | `(tactic| walk_at "ws") => `(tactic| simp_all [r_get0, r_getS, r_put0, r_putS, r_var, r_vd, r_vown, r_isBl, r_isI, r_isSqT, r_isSqL, r_two, r_isOwn, r_no, r_noU, r_unxI, r_unxT, r_unxX, r_unxO, r_addI, r_addT, r_addL, r_mulI, r_mulT, r_ii, r_ci, r_eqI, r_eqS, r_eqB, r_inT, r_inL, r_ixT, r_ixL, r_lenT, r_lenL, r_abs, r_intI, r_intB, r_gcd, r_all, r_sum, r_tupL, r_tupT, r_sqT, r_sqL, r_rg1, r_en, r_zipT, r_zipL, r_slT, r_slL, r_noOwn0, r_noOwnS, r_wip0, r_wipS, r_start, r_bodyN, r_body, r_lt, r_isN0, r_isNT, r_isNI, r_isNL, r_okU, r_okD, r_noOb0, r_noObU, r_noObD, r_noObO, r_frz0, r_frzU, r_frzD, r_frzO, r_noLi, r_noLb, r_noLs, r_noLn, isTy, taggedD, tagD])
structure KC (K : PySem.W.Frag) (a : Ad) : Prop where
  one : KRp K a.A_ONE (.tup [.int 1, .int 1])
  nought : KRp K a.A_NOUGHT (.tup [.int 0, .int 1])
def unit (n k : Nat) : Rw := (List.range n).map fun i => if i = k then (1, 1) else (0, 1)
def lcmI (m b : Int) : Int := (Nat.lcm m.natAbs b.natAbs : Nat)
def gcdI (m b : Int) : Int := (Nat.gcd m.natAbs b.natAbs : Nat)
def lcmAll (r : Rw) : Int := r.foldl (fun m p => lcmI m p.2) 1
def wr (r : Rw) : List Int := r.map fun p => p.1 * (lcmAll r / p.2)
def gcdAll (r : List Int) : Int := r.foldl gcdI 0
def sh (r : List Int) : List Int := if 1 < gcdAll r then r.map fun x => x / gcdAll r else r
def iL (r : List Int) : D := .lst (r.map D.int)
theorem dvd_foldl_lcm : ∀ {r : Rw} {m : Int}, (m ∣ r.foldl (fun m p => lcmI m p.2) m) ∧ ∀ p ∈ r, p.2 ∣ r.foldl (fun m p => lcmI m p.2) m
  | [], m => ⟨Int.dvd_refl m, by simp⟩
  | p :: r, m => by
    obtain ⟨h1, h2⟩ := dvd_foldl_lcm (r := r) (m := lcmI m p.2)
    have d1 : m ∣ lcmI m p.2 := by
      unfold lcmI
      exact Int.natAbs_dvd.mp (Int.natCast_dvd_natCast.mpr (Nat.dvd_lcm_left _ _))
    have d2 : p.2 ∣ lcmI m p.2 := by
      unfold lcmI
      exact Int.natAbs_dvd.mp (Int.natCast_dvd_natCast.mpr (Nat.dvd_lcm_right _ _))
    refine ⟨Int.dvd_trans d1 h1, fun q hq => ?_⟩
    rcases List.mem_cons.mp hq with rfl | hq
    · exact Int.dvd_trans d2 h1
    · exact h2 q hq
/-- a common multiple of small bottoms stays small -/
theorem lcm_small : ∀ {r : Rw} {m : Int}, 0 < m → m ∣ 420 → (∀ p ∈ r, sm p) → 0 < r.foldl (fun m p => lcmI m p.2) m ∧ r.foldl (fun m p => lcmI m p.2) m ∣ 420
  | [], m, h, d, _ => ⟨h, d⟩
  | p :: r, m, h, d, hs => by
    obtain ⟨h1, h2, _, _⟩ := hs p List.mem_cons_self
    have p420 : p.2 ∣ 420 := by
      have : p.2 = 1 ∨ p.2 = 2 ∨ p.2 = 3 ∨ p.2 = 4 ∨ p.2 = 5 ∨ p.2 = 6 ∨ p.2 = 7 := by omega
      rcases this with e | e | e | e | e | e | e <;> rw [e] <;> decide
    refine lcm_small (m := lcmI m p.2) ?_ ?_ fun q m => hs q (List.mem_cons_of_mem _ m)
    · unfold lcmI
      have : 0 < Nat.lcm m.natAbs p.2.natAbs := Nat.lcm_pos (by omega) (by omega)
      omega
    · unfold lcmI
      have h3 : m.natAbs ∣ 420 := Int.natAbs_dvd_natAbs.mpr d
      have h4 : p.2.natAbs ∣ 420 := Int.natAbs_dvd_natAbs.mpr p420
      exact Int.natCast_dvd_natCast.mpr (Nat.lcm_dvd h3 h4)
theorem lowlog' {m : Int} (h0 : 0 ≤ m) (h : m < 2 ^ 30) : m.natAbs.log2 < 9000 := by
  have : m.natAbs < 2 ^ 30 := by omega
  by_cases z : m.natAbs = 0
  · rw [z]; decide
  · exact Nat.lt_trans ((Nat.log2_lt z).mpr this) (by decide)
theorem le420 {m : Int} (h : m ∣ 420) : m ≤ 420 := Int.le_of_dvd (by decide) h
section
variable {K : PySem.W.Frag} {a : Ad} {Q : D → Prop} {E : Er → Prop}
theorem w_unit_row {n k : Nat} (kc : KC K a) (hn : n ≤ 1000) (q : Q (rD (unit n k))) : wp_unit_row K a [.int k, .int n] Q E := by
  unfold wp_unit_row b_unit_row
  walk_at "wp"
  refine ⟨by omega, by omega, by rw [rg_len]; omega, lcS_map (f := fun d => match d with
    | .int i => if i = k then .tup [.int 1, .int 1] else .tup [.int 0, .int 1]
    | _ => .non) (fun d hd kk hk => ?_) ?_⟩
  · obtain ⟨i, hi, rfl⟩ := mem_rg hd
    simp only [elW]
    walk_at "wp"
    by_cases h : (0 : Int) + (i : Nat) = k
    · simp only [h, if_true] at hk ⊢
      exact ⟨kc.one, hk⟩
    · simp only [h, if_false] at hk ⊢
      exact ⟨kc.nought, hk⟩
  · have e : ((rgAt 0 (n : Int).toNat).map fun d => match d with
      | .int i => if i = (k : Int) then D.tup [.int 1, .int 1] else .tup [.int 0, .int 1]
      | _ => .non) = (unit n k).map pr := by
      simp only [rgAt, unit, List.map_map, Int.toNat_natCast]
      refine List.map_congr_left fun i _ => ?_
      simp only [Function.comp_def, Int.zero_add]
      by_cases h : i = k
      · subst h; simp [pr]
      · have : ¬ (i : Int) = k := by omega
        simp [h, this, pr]
    rw [e]; exact q
theorem w_whole_row {n : Nat} {r : Rw} (hr : okR n r) (hn : n ≤ 6) (q : Q (iL (wr r))) : wp_whole_row K a [rD r] Q E := by
  obtain ⟨h1, h2⟩ := hr
  unfold wp_whole_row b_whole_row rD
  walk_at "wp"
  refine forW_ix (fun i Γ => ∃ (b1 b2 : B), okB b1 ∧ okB b2 ∧ Γ = [.d (.tup (r.map pr)), .d (.int (lcmAll (r.take i))), b1, b2, .un]) ⟨.un, .un, trivial, trivial, rfl⟩ ?_ ?_
  · rintro Γ ⟨b1, b2, k1, k2, rfl⟩
    rw [List.length_map, List.take_length]
    obtain ⟨L0, L4⟩ := lcm_small (r := r) (m := 1) (by decide) (by decide) h2
    have L5 := (dvd_foldl_lcm (r := r) (m := 1)).2
    walk_at "wp"
    refine ⟨okB_no k2, by simp; omega, lcS_map (f := fun d => match d with
      | .tup [.int t, .int b] => .int (t * (lcmAll r / b))
      | _ => .non) (fun d hd kk hk => ?_) ?_⟩
    · obtain ⟨p, hp, rfl⟩ := List.mem_map.mp hd
      obtain ⟨g1, g2, g3, g4⟩ := h2 p hp
      have hq : (lcmAll r / p.2).natAbs < 2 ^ 64 := by
        have := le420 L4
        have a1 : 0 ≤ lcmAll r / p.2 := Int.ediv_nonneg (by unfold lcmAll; omega) (by omega)
        have a2 : lcmAll r / p.2 ≤ lcmAll r := Int.ediv_le_self _ (by unfold lcmAll; omega)
        unfold lcmAll at *; omega
      simp only [elW, pr]
      walk_at "wp"
      refine ⟨⟨by omega, ?_⟩, .inl (.inr ⟨by omega, by omega⟩), hk⟩
      exact lowlog' (by omega) (by omega)
    · rw [List.map_map]
      have e : (r.map ((fun d => match d with
        | .tup [.int t, .int b] => D.int (t * (lcmAll r / b))
        | _ => .non) ∘ pr)) = (wr r).map D.int := by
        unfold wr
        rw [List.map_map]
        exact List.map_congr_left fun p _ => rfl
      rw [e]; exact q
  · rintro i d hd Γ ⟨b1, b2, k1, k2, rfl⟩ N hN
    obtain ⟨p, hp, rfl⟩ := map_get hd
    obtain ⟨L0, L4⟩ := lcm_small (r := r.take i) (m := 1) (by decide) (by decide) fun q hq => h2 q (List.mem_of_mem_take hq)
    obtain ⟨g1, g2, g3, g4⟩ := h2 p (List.mem_of_getElem? hp)
    have L6 := le420 L4
    simp only [pr]
    walk_at "wp"
    refine ⟨by unfold lcmAll; omega, by omega, hN _ ⟨.d (.int p.1), .d (.int p.2), trivial, trivial, ?_⟩⟩
    rw [take_succ_get hp]
    simp [lcmAll, List.foldl_append, lcmI]
end
end My
namespace My
open PySem L2 Ab Cc
local macro_rules | `(tactic| walk_at "wp") => `(tactic| (try simp -implicitDefEqProofs only [e_wp_v, e_wp_vr, e_wp_wk, e_wp_int, e_wp_bl, e_wp_non, e_wp_str, e_wp_ty, e_wp_cls, e_wp_con, e_wp_a0, e_wp_ac, e_wp_tup, e_wp_dic, e_wp_lst, e_wp_ofL, e_wp_op, e_wp_nt, e_wp_and, e_wp_or, e_wp_chain, e_wp_neg, e_wp_isN, e_wp_notN, e_wp_tst, e_wp_tB', e_wp_tand, e_wp_tor, e_wp_tnot, e_wp_tyes, e_wp_ife, e_wp_bi, e_wp_o0, e_wp_o1, e_wp_sl, e_wp_fld, e_wp_nm, e_wp_g0, e_wp_gc, e_wp_gt, e_wp_iseq, e_wp_irg1, e_wp_irg2, e_wp_ienum, e_wp_izip, e_wp_bor, e_wp_borL, e_wp_app, e_wp_ext, e_wp_popAt, e_wp_lc, e_wp_dct1, e_wp_call, e_wp_call0, e_wp_nil, e_wp_seq, e_wp_brk, e_wp_cnt, e_wp_drop, e_wp_ret, e_wp_retN, e_wp_ifs, e_wp_asg, e_wp_own, e_wp_par, e_wp_fors, e_wp_whs, e_wp_aug, e_wp_setO, e_wp_rai, e_wp_rai0, e_wp_tryAs, e_wp_add, e_wp_mul, e_wp_sub, e_wp_lt, e_wp_le, e_wp_gt', e_wp_ge, e_wp_fdiv, e_wp_mod, e_wp_pow, e_wp_eq, e_wp_ne, e_wp_inn, e_wp_nin, e_wp_ix, e_wp_len, e_wp_abs, e_wp_toInt, e_wp_gcd, e_wp_all, e_wp_any, e_wp_sum, e_wp_tuple, e_wp_isT, e_wp_isC, e_wp_list, e_wp_listRg, e_wp_addL, e_wp_retO, e_wp_retL, e_wp_callL, e_wp_mk, e_wp_setf, e_wp_mcountT, e_wp_tupleX, e_wp_mcount, e_wp_mindex, e_wp_lcm, e_wp_astar, e_wp_revL, e_wp_lc2, e_wp_callG, e_wp_isX, e_wp_xf, e_wp_fdivM, r_get0, r_getS, r_put0, r_putS, r_var, r_vd, r_vown, r_isBl, r_isI, r_isSqT, r_isSqL, r_two, r_isOwn, r_no, r_noU, r_unxI, r_unxT, r_unxX, r_unxO, r_addI, r_addT, r_addL, r_mulI, r_mulT, r_ii, r_ci, r_eqI, r_eqS, r_eqB, r_inT, r_inL, r_ixT, r_ixL, r_lenT, r_lenL, r_abs, r_intI, r_intB, r_gcd, r_all, r_sum, r_tupL, r_tupT, r_sqT, r_sqL, r_rg1, r_en, r_zipT, r_zipL, r_slT, r_slL, r_noOwn0, r_noOwnS, r_wip0, r_wipS, r_start, r_bodyN, r_body, r_lt, r_isN0, r_isNT, r_isNI, r_isNL, r_okU, r_okD, r_noOb0, r_noObU, r_noObD, r_noObO, r_frz0, r_frzU, r_frzD, r_frzO, r_noLi, r_noLb, r_noLs, r_noLn, rev, List.map_cons, List.map_nil, List.length_cons, List.length_nil, List.replicate, List.nil_append, List.cons_append, Nat.sub_self, Nat.reduceAdd, Nat.reduceSub, not_false_eq_true, and_self, true_and, and_true, if_true, if_false, Bool.not_true, Bool.not_false, Bool.false_eq_true, and_false, false_and, reduceIte, ite_self, Nat.zero_add, decide_eq_true_eq]))
local macro_rules | `(tactic| walk_at "ws") => `(tactic| simp_all [r_get0, r_getS, r_put0, r_putS, r_var, r_vd, r_vown, r_isBl, r_isI, r_isSqT, r_isSqL, r_two, r_isOwn, r_no, r_noU, r_unxI, r_unxT, r_unxX, r_unxO, r_addI, r_addT, r_addL, r_mulI, r_mulT, r_ii, r_ci, r_eqI, r_eqS, r_eqB, r_inT, r_inL, r_ixT, r_ixL, r_lenT, r_lenL, r_abs, r_intI, r_intB, r_gcd, r_all, r_sum, r_tupL, r_tupT, r_sqT, r_sqL, r_rg1, r_en, r_zipT, r_zipL, r_slT, r_slL, r_noOwn0, r_noOwnS, r_wip0, r_wipS, r_start, r_bodyN, r_body, r_lt, r_isN0, r_isNT, r_isNI, r_isNL, r_okU, r_okD, r_noOb0, r_noObU, r_noObD, r_noObO, r_frz0, r_frzU, r_frzD, r_frzO, r_noLi, r_noLb, r_noLs, r_noLn, isTy, taggedD, tagD])
/-- bases: pivots and rows of integers -/
abbrev Bs := List (Nat × List Int)
def bD (x : Nat × List Int) : D := .tup [.int (x.1 : Nat), iL x.2]
def bL (bs : Bs) : D := .lst (bs.map bD)
def stp (p : Nat) (b r : List Int) : List Int :=
  if r.getD p 0 = 0 then r else sh (List.zipWith (fun x y => b.getD p 0 * x - r.getD p 0 * y) r b)
def cl : Bs → List Int → List Int
  | [], r => r
  | (p, b) :: bs, r => cl bs (stp p b r)
def bd (k : Nat) (r : List Int) : Prop := ∀ x ∈ r, x.natAbs < 2 ^ k
def szA (i : Nat) : Nat := 17 * 2 ^ i - 1
/-- bases of rows of n that grow by the rule, the first of them behind i others -/
def okB' (n : Nat) : Nat → Bs → Prop
  | _, [] => True
  | i, (p, b) :: bs => p < n ∧ b.length = n ∧ bd (szA i) b ∧ okB' n (i + 1) bs
theorem gcdAll_nonneg : ∀ {r : List Int} {m : Int}, 0 ≤ m → 0 ≤ r.foldl gcdI m
  | [], m, h => h
  | x :: r, m, h => gcdAll_nonneg (r := r) (m := gcdI m x) (by unfold gcdI; omega)
theorem gcdAll_dvd : ∀ {r : List Int} {m : Int}, (r.foldl gcdI m ∣ m) ∧ ∀ x ∈ r, r.foldl gcdI m ∣ x
  | [], m => ⟨Int.dvd_refl m, by simp⟩
  | y :: r, m => by
    obtain ⟨h1, h2⟩ := gcdAll_dvd (r := r) (m := gcdI m y)
    have d1 : gcdI m y ∣ m := by
      unfold gcdI
      exact Int.dvd_natAbs.mp (Int.natCast_dvd_natCast.mpr (Nat.gcd_dvd_left _ _))
    have d2 : gcdI m y ∣ y := by
      unfold gcdI
      exact Int.dvd_natAbs.mp (Int.natCast_dvd_natCast.mpr (Nat.gcd_dvd_right _ _))
    refine ⟨Int.dvd_trans h1 d1, fun x hx => ?_⟩
    rcases List.mem_cons.mp hx with rfl | hx
    · exact Int.dvd_trans h1 d2
    · exact h2 x hx
theorem gcdAll_zero : ∀ {r : List Int} {m : Int}, 0 ≤ m → (∀ x ∈ r, x = 0) → r.foldl gcdI m = m
  | [], m, _, _ => rfl
  | x :: r, m, h0, h => by
    have hx := h x List.mem_cons_self
    subst hx
    have : gcdI m 0 = m := by unfold gcdI; simp; omega
    simp only [List.foldl_cons, this]
    exact gcdAll_zero h0 fun y hy => h y (List.mem_cons_of_mem _ hy)
theorem gcdAll_bd {k : Nat} {r : List Int} (h : bd k r) : (gcdAll r).natAbs < 2 ^ k ∨ gcdAll r = 0 := by
  by_cases z : ∃ x ∈ r, x ≠ 0
  · obtain ⟨x, hx, hn⟩ := z
    have d := (gcdAll_dvd (r := r) (m := 0)).2 x hx
    have := Nat.le_of_dvd (by omega) (Int.natAbs_dvd_natAbs.mpr d)
    exact .inl (Nat.lt_of_le_of_lt this (h x hx))
  · exact .inr (gcdAll_zero (Int.le_refl 0) fun x hx => Classical.byContradiction fun n => z ⟨x, hx, n⟩)
theorem sh_len {r : List Int} : (sh r).length = r.length := by unfold sh; split <;> simp
theorem sh_bd {k : Nat} {r : List Int} (h : bd k r) : bd k (sh r) := by
  unfold sh
  split
  · rename_i g
    intro x hx
    obtain ⟨y, hy, rfl⟩ := List.mem_map.mp hx
    exact Nat.lt_of_le_of_lt (Int.natAbs_ediv_le_natAbs _ _) (h y hy)
  · exact h
theorem szA_lt {i : Nat} (h : i ≤ 7) : 0 < szA i ∧ szA i ≤ 2175 := by
  unfold szA
  have h1 : 2 ^ i ≤ 2 ^ 7 := Nat.pow_le_pow_right (by decide) h
  have h2 : 1 ≤ 2 ^ i := Nat.one_le_two_pow
  omega
theorem szA_succ (i : Nat) : szA (i + 1) = szA i + szA i + 1 := by
  unfold szA
  have h2 : 1 ≤ 2 ^ i := Nat.one_le_two_pow
  rw [Nat.pow_succ]; omega
theorem stp_len {p : Nat} {b r : List Int} (h : b.length = r.length) : (stp p b r).length = r.length := by
  unfold stp
  split
  · rfl
  · rw [sh_len]; simp [h]
theorem getD_bd {k p : Nat} {r : List Int} (hk : 0 < k) (h : bd k r) : (r.getD p 0).natAbs < 2 ^ k := by
  simp only [List.getD]
  cases e : r[p]? with
  | none => simp; exact Nat.two_pow_pos k
  | some x => simpa using h x (List.mem_of_getElem? e)
theorem stp_bd {i p : Nat} {b r : List Int} (hi : i ≤ 7) (hb : bd (szA i) b) (hr : bd (szA i) r) : bd (szA (i + 1)) (stp p b r) := by
  have s0 := (szA_lt hi).1
  unfold stp
  split
  · intro x hx
    refine Nat.lt_of_lt_of_le (hr x hx) (Nat.pow_le_pow_right (by decide) ?_)
    rw [szA_succ]; omega
  · refine sh_bd fun x hx => ?_
    rw [szA_succ]
    obtain ⟨j, hj⟩ := List.mem_iff_getElem?.mp hx
    rw [List.getElem?_zipWith] at hj
    cases e1 : r[j]? with
    | none => rw [e1] at hj; simp at hj
    | some u =>
      cases e2 : b[j]? with
      | none => rw [e1, e2] at hj; simp at hj
      | some w =>
        rw [e1, e2] at hj
        simp only [Option.some.injEq] at hj
        subst hj
        have m1 := wide_lt (getD_bd (p := p) s0 hb) (hr u (List.mem_of_getElem? e1))
        have m2 := wide_lt (getD_bd (p := p) s0 hr) (hb w (List.mem_of_getElem? e2))
        have e3 : (2 : Nat) ^ (szA i + szA i + 1) = 2 ^ (szA i + szA i) * 2 := Nat.pow_succ ..
        rw [e3]
        have := Int.natAbs_sub_le (b.getD p 0 * u) (r.getD p 0 * w)
        omega
section
variable {K : PySem.W.Frag} {a : Ad} {Q : D → Prop} {E : Er → Prop}
theorem w_shortened {k : Nat} {r : List Int} (hr : bd k r) (hk : 0 < k ∧ k ≤ 9000) (hl : r.length ≤ 1000) (q : Q (iL (sh r))) : wp_shortened K a [iL r] Q E := by
  unfold wp_shortened b_shortened iL
  walk_at "wp"
  refine forW_ix (fun i Γ => ∃ b, okB b ∧ Γ = [.d (.lst (r.map D.int)), .d (.int (gcdAll (r.take i))), b]) ⟨.un, trivial, rfl⟩ ?_ ?_
  · rintro Γ ⟨b, k1, rfl⟩
    rw [List.length_map, List.take_length]
    walk_at "wp"
    by_cases g : 1 < gcdAll r
    · simp only [g, decide_true, if_true]
      refine ⟨okB_no k1, by simp; omega, lcS_map (f := fun d => match d with
        | .int x => .int (x / gcdAll r)
        | _ => .non) (fun d hd kk hk' => ?_) ?_⟩
      · obtain ⟨x, hx, rfl⟩ := List.mem_map.mp hd
        simp only [elW]
        walk_at "wp"
        refine ⟨⟨by omega, ?_⟩, hk'⟩
        rcases gcdAll_bd hr with h | h
        · exact Nat.lt_of_lt_of_le (PySem.Flt.log2_lt_of hk.1 h) hk.2
        · omega
      · have e : (r.map D.int).map (fun d => match d with
          | .int x => D.int (x / gcdAll r)
          | _ => .non) = (sh r).map D.int := by
          simp only [sh, g, if_true, List.map_map]
          exact List.map_congr_left fun x _ => rfl
        rw [e]; exact q
    · simp only [g, decide_false, if_false, Bool.false_eq_true]
      simp only [sh, g, if_false] at q
      exact q
  · rintro i d hd Γ ⟨b, k1, rfl⟩ N hN
    obtain ⟨x, hx, rfl⟩ := map_get hd
    walk_at "wp"
    refine hN _ ⟨.d (.int x), trivial, ?_⟩
    rw [take_succ_get hx]
    simp [gcdAll, List.foldl_append, gcdI]
end
end My
namespace My
open PySem L2 Ab Cc
local macro_rules | `(tactic| walk_at "wp") => `(tactic| (try simp -implicitDefEqProofs only [e_wp_v, e_wp_vr, e_wp_wk, e_wp_int, e_wp_bl, e_wp_non, e_wp_str, e_wp_ty, e_wp_cls, e_wp_con, e_wp_a0, e_wp_ac, e_wp_tup, e_wp_dic, e_wp_lst, e_wp_ofL, e_wp_op, e_wp_nt, e_wp_and, e_wp_or, e_wp_chain, e_wp_neg, e_wp_isN, e_wp_notN, e_wp_tst, e_wp_tB', e_wp_tand, e_wp_tor, e_wp_tnot, e_wp_tyes, e_wp_ife, e_wp_bi, e_wp_o0, e_wp_o1, e_wp_sl, e_wp_fld, e_wp_nm, e_wp_g0, e_wp_gc, e_wp_gt, e_wp_iseq, e_wp_irg1, e_wp_irg2, e_wp_ienum, e_wp_izip, e_wp_bor, e_wp_borL, e_wp_app, e_wp_ext, e_wp_popAt, e_wp_lc, e_wp_dct1, e_wp_call, e_wp_call0, e_wp_nil, e_wp_seq, e_wp_brk, e_wp_cnt, e_wp_drop, e_wp_ret, e_wp_retN, e_wp_ifs, e_wp_asg, e_wp_own, e_wp_par, e_wp_fors, e_wp_whs, e_wp_aug, e_wp_setO, e_wp_rai, e_wp_rai0, e_wp_tryAs, e_wp_add, e_wp_mul, e_wp_sub, e_wp_lt, e_wp_le, e_wp_gt', e_wp_ge, e_wp_fdiv, e_wp_mod, e_wp_pow, e_wp_eq, e_wp_ne, e_wp_inn, e_wp_nin, e_wp_ix, e_wp_len, e_wp_abs, e_wp_toInt, e_wp_gcd, e_wp_all, e_wp_any, e_wp_sum, e_wp_tuple, e_wp_isT, e_wp_isC, e_wp_list, e_wp_listRg, e_wp_addL, e_wp_retO, e_wp_retL, e_wp_callL, e_wp_mk, e_wp_setf, e_wp_mcountT, e_wp_tupleX, e_wp_mcount, e_wp_mindex, e_wp_lcm, e_wp_astar, e_wp_revL, e_wp_lc2, e_wp_callG, e_wp_isX, e_wp_xf, e_wp_fdivM, r_get0, r_getS, r_put0, r_putS, r_var, r_vd, r_vown, r_isBl, r_isI, r_isSqT, r_isSqL, r_two, r_isOwn, r_no, r_noU, r_unxI, r_unxT, r_unxX, r_unxO, r_addI, r_addT, r_addL, r_mulI, r_mulT, r_ii, r_ci, r_eqI, r_eqS, r_eqB, r_inT, r_inL, r_ixT, r_ixL, r_lenT, r_lenL, r_abs, r_intI, r_intB, r_gcd, r_all, r_sum, r_tupL, r_tupT, r_sqT, r_sqL, r_rg1, r_en, r_zipT, r_zipL, r_slT, r_slL, r_noOwn0, r_noOwnS, r_wip0, r_wipS, r_start, r_bodyN, r_body, r_lt, r_isN0, r_isNT, r_isNI, r_isNL, r_okU, r_okD, r_noOb0, r_noObU, r_noObD, r_noObO, r_frz0, r_frzU, r_frzD, r_frzO, r_noLi, r_noLb, r_noLs, r_noLn, rev, List.map_cons, List.map_nil, List.length_cons, List.length_nil, List.replicate, List.nil_append, List.cons_append, Nat.sub_self, Nat.reduceAdd, Nat.reduceSub, not_false_eq_true, and_self, true_and, and_true, if_true, if_false, Bool.not_true, Bool.not_false, Bool.false_eq_true, and_false, false_and, reduceIte, ite_self, Nat.zero_add, decide_eq_true_eq]))
local macro_rules | `(tactic| walk_at "ws") => `(tactic| simp_all [r_get0, r_getS, r_put0, r_putS, r_var, r_vd, r_vown, r_isBl, r_isI, r_isSqT, r_isSqL, r_two, r_isOwn, r_no, r_noU, r_unxI, r_unxT, r_unxX, r_unxO, r_addI, r_addT, r_addL, r_mulI, r_mulT, r_ii, r_ci, r_eqI, r_eqS, r_eqB, r_inT, r_inL, r_ixT, r_ixL, r_lenT, r_lenL, r_abs, r_intI, r_intB, r_gcd, r_all, r_sum, r_tupL, r_tupT, r_sqT, r_sqL, r_rg1, r_en, r_zipT, r_zipL, r_slT, r_slL, r_noOwn0, r_noOwnS, r_wip0, r_wipS, r_start, r_bodyN, r_body, r_lt, r_isN0, r_isNT, r_isNI, r_isNL, r_okU, r_okD, r_noOb0, r_noObU, r_noObD, r_noObO, r_frz0, r_frzU, r_frzD, r_frzO, r_noLi, r_noLb, r_noLs, r_noLn, isTy, taggedD, tagD])
theorem cl_append : ∀ {xs ys : Bs} {r : List Int}, cl (xs ++ ys) r = cl ys (cl xs r)
  | [], _, _ => rfl
  | (p, b) :: xs, ys, r => by simp only [List.cons_append, cl]; exact cl_append
theorem okB_get : ∀ {bs : Bs} {n i0 i : Nat} {p : Nat} {b : List Int}, okB' n i0 bs → bs[i]? = some (p, b) → p < n ∧ b.length = n ∧ bd (szA (i0 + i)) b
  | [], _, _, _, _, _, _, h => by simp at h
  | (q, c) :: bs, n, i0, 0, p, b, h, e => by
    simp at e
    obtain ⟨rfl, rfl⟩ := e
    exact ⟨h.1, h.2.1, h.2.2.1⟩
  | (q, c) :: bs, n, i0, i + 1, p, b, h, e => by
    have := okB_get (i := i) h.2.2.2 (by simpa using e)
    rw [show i0 + 1 + i = i0 + (i + 1) by omega] at this
    exact this
theorem cl_facts {n i0 : Nat} {bs : Bs} {r : List Int} (hb : okB' n i0 bs) (hr : bd (szA i0) r) (hl : r.length = n) : ∀ i, i ≤ bs.length → i0 + i ≤ 8 → bd (szA (i0 + i)) (cl (bs.take i) r) ∧ (cl (bs.take i) r).length = n
  | 0, _, _ => by simpa [cl] using ⟨hr, hl⟩
  | i + 1, h, h8 => by
    obtain ⟨f1, f2⟩ := cl_facts hb hr hl i (by omega) (by omega)
    have hg : bs[i]? = some bs[i] := List.getElem?_eq_getElem (by omega)
    obtain ⟨p, b, hpb⟩ : ∃ p b, bs[i] = (p, b) := ⟨_, _, rfl⟩
    rw [hpb] at hg
    obtain ⟨g1, g2, g3⟩ := okB_get hb hg
    rw [take_succ_get hg, cl_append]
    simp only [cl]
    exact ⟨by rw [show i0 + (i + 1) = i0 + i + 1 by omega]; exact stp_bd (by omega) g3 f1, by rw [stp_len (by omega)]; exact f2⟩
def fnn (r : List Int) : Option Nat := r.findIdx? fun x => decide (x ≠ 0)
def wd (bs : Bs) (r : Rw) : Bs := match fnn (cl bs (wr r)) with
  | none => bs
  | some p => bs ++ [(p, cl bs (wr r))]
theorem wr_len {r : Rw} : (wr r).length = r.length := by simp [wr]
theorem wr_bd {n : Nat} {r : Rw} (h : okR n r) : bd (szA 0) (wr r) := by
  intro x hx
  obtain ⟨p, hp, rfl⟩ := List.mem_map.mp hx
  obtain ⟨g1, g2, g3, g4⟩ := h.2 p hp
  obtain ⟨L0, L4⟩ := lcm_small (r := r) (m := 1) (by decide) (by decide) h.2
  have L6 := le420 L4
  have a1 : 0 ≤ lcmAll r / p.2 := Int.ediv_nonneg (by unfold lcmAll; omega) (by omega)
  have a2 : lcmAll r / p.2 ≤ lcmAll r := Int.ediv_le_self _ (by unfold lcmAll; omega)
  rw [Int.natAbs_mul]
  have a3 : (lcmAll r / p.2).natAbs ≤ 420 := by unfold lcmAll at *; omega
  have : p.1.natAbs * (lcmAll r / p.2).natAbs ≤ 101 * 420 := Nat.mul_le_mul g3 a3
  have e : szA 0 = 16 := by decide
  rw [e]; omega
section
variable {K : PySem.W.Frag} {a : Ad} {Q : D → Prop} {E : Er → Prop}
theorem atI_get {α : Type} {f : α → D} {xs : List α} {p : Nat} {x : α} (h : xs[p]? = some x) : atI (xs.map f) (p : Nat) = some (f x) := by
  obtain ⟨hp, he⟩ := List.getElem?_eq_some_iff.mp h
  unfold atI ixN
  simp only [List.length_map]
  rw [if_pos (by omega), if_pos (by omega)]
  simp [h]
theorem w_cleared {n i0 : Nat} {bs : Bs} {r : List Int} (hb : okB' n i0 bs) (hr : bd (szA i0) r) (hl : r.length = n) (h7 : i0 + bs.length ≤ 7) (hn : n ≤ 6) (q : Q (iL (cl bs r))) : wp_cleared K a [bL bs, iL r] Q E := by
  unfold wp_cleared b_cleared bL
  walk_at "wp"
  refine forW_ix (fun i Γ => ∃ b3 b4 b5 b6, okB b3 ∧ okB b4 ∧ okB b5 ∧ okB b6 ∧ Γ = [.d (.lst (bs.map bD)), .d (iL r), .d (iL (cl (bs.take i) r)), b3, b4, b5, b6, .un, .un]) ⟨.un, .un, .un, .un, trivial, trivial, trivial, trivial, rfl⟩ ?_ ?_
  · rintro Γ ⟨b3, b4, b5, b6, k3, k4, k5, k6, rfl⟩
    rw [List.length_map, List.take_length]
    walk_at "wp"
    exact q
  · rintro i d hd Γ ⟨b3, b4, b5, b6, k3, k4, k5, k6, rfl⟩ N hN
    obtain ⟨⟨p, b⟩, hx, rfl⟩ := map_get hd
    have hi : i < bs.length := (List.getElem?_eq_some_iff.mp hx).1
    obtain ⟨g1, g2, g3⟩ := okB_get hb hx
    obtain ⟨f1, f2⟩ := cl_facts hb hr hl i (by omega) (by omega)
    have s0 := szA_lt (i := i0 + i) (by omega)
    have eb : b[p]? = some (b.getD p 0) := by simp [List.getD, List.getElem?_eq_getElem (show p < b.length by omega)]
    have el : (cl (bs.take i) r)[p]? = some ((cl (bs.take i) r).getD p 0) := by simp [List.getD, List.getElem?_eq_getElem (show p < (cl (bs.take i) r).length by omega)]
    have nx : iL (cl (bs.take (i + 1)) r) = iL (stp p b (cl (bs.take i) r)) := by rw [take_succ_get hx, cl_append]; rfl
    have bb := getD_bd (p := p) s0.1 g3
    have bl := getD_bd (p := p) s0.1 f1
    revert el f1 f2 nx bl hN
    generalize cl (bs.take i) r = L
    intro hN f1 f2 el nx bl
    simp only [bD, iL]
    walk_at "wp"
    refine ⟨_, atI_get eb, _, atI_get el, by omega, ?_⟩
    walk_at "wp"
    by_cases z : L.getD p 0 = 0
    · simp only [z, decide_true, Bool.not_true, Bool.false_eq_true, if_false]
      refine hN _ ⟨.d (.int p), .d (iL b), .d (.int (b.getD p 0)), .d (.int 0), trivial, trivial, trivial, trivial, ?_⟩
      rw [nx]; simp only [stp, z, if_true]; rfl
    · simp only [z, decide_false, Bool.not_false, if_true]
      refine ⟨by rw [zipD_len]; simp; omega, lcS_map (f := fun d => match d with
        | .tup [.int x, .int y] => .int (b.getD p 0 * x - L.getD p 0 * y)
        | _ => .non) (fun d hd kk hk => ?_) ?_⟩
      · obtain ⟨j, x, y, hx1, hy1, rfl⟩ := mem_zip hd
        obtain ⟨u, hu, rfl⟩ := map_get hx1
        obtain ⟨w, hw, rfl⟩ := map_get hy1
        simp only [elW]
        walk_at "wp"
        refine ⟨.inr (wide_mul bb (f1 u (List.mem_of_getElem? hu)) s0.1 s0.1 (by omega)), .inr (wide_mul bl (g3 w (List.mem_of_getElem? hw)) s0.1 s0.1 (by omega)), hk⟩
      · have e : (zipD (L.map D.int) (b.map D.int)).map (fun d => match d with
          | .tup [.int x, .int y] => D.int (b.getD p 0 * x - L.getD p 0 * y)
          | _ => .non) = (List.zipWith (fun x y => b.getD p 0 * x - L.getD p 0 * y) L b).map D.int := by
          unfold zipD
          rw [List.map_zipWith, List.map_zipWith, List.zipWith_map]
        rw [List.nil_append, e]
        have hz : bd (szA (i0 + i) + szA (i0 + i) + 1) (List.zipWith (fun x y => b.getD p 0 * x - L.getD p 0 * y) L b) := by
          intro x hx
          obtain ⟨j, hj⟩ := List.mem_iff_getElem?.mp hx
          rw [List.getElem?_zipWith] at hj
          cases e1 : L[j]? with
          | none => rw [e1] at hj; simp at hj
          | some u =>
            cases e2 : b[j]? with
            | none => rw [e1, e2] at hj; simp at hj
            | some w =>
              rw [e1, e2] at hj
              simp only [Option.some.injEq] at hj
              subst hj
              have m1 := wide_lt bb (f1 u (List.mem_of_getElem? e1))
              have m2 := wide_lt bl (g3 w (List.mem_of_getElem? e2))
              rw [Nat.pow_succ]
              have := Int.natAbs_sub_le (b.getD p 0 * u) (L.getD p 0 * w)
              omega
        refine w_shortened hz (by omega) (by simp; omega) ?_
        walk_at "wp"
        refine hN _ ⟨.d (.int p), .d (iL b), .d (.int (b.getD p 0)), .d (.int (L.getD p 0)), trivial, trivial, trivial, trivial, ?_⟩
        rw [nx]; simp only [stp, z, if_false]; rfl
theorem w_first_not_nought {r : List Int} (hl : r.length ≤ 1000) (q : Q (match fnn r with | none => .non | some p => .int (p : Nat))) : wp_first_not_nought K a [iL r] Q E := by
  unfold wp_first_not_nought b_first_not_nought iL
  walk_at "wp"
  refine forW_ix (fun i Γ => (∀ j < i, ∀ x, r[j]? = some x → x = 0) ∧ ∃ b1 b2, okB b1 ∧ okB b2 ∧ Γ = [.d (.lst (r.map D.int)), b1, b2]) ⟨by simp, .un, .un, trivial, trivial, rfl⟩ ?_ ?_
  · rintro Γ ⟨hz, b1, b2, k1, k2, rfl⟩
    walk_at "wp"
    have e : fnn r = none := by
      unfold fnn
      rw [List.findIdx?_eq_none_iff]
      intro x hx
      obtain ⟨j, hj⟩ := List.mem_iff_getElem?.mp hx
      have := hz j (by rw [enumD_len, List.length_map]; exact (List.getElem?_eq_some_iff.mp hj).1) x hj
      simp [this]
    rw [e] at q; exact q
  · rintro i d hd Γ ⟨hz, b1, b2, k1, k2, rfl⟩ N hN
    obtain ⟨d', h1, rfl⟩ := enumD_inv hd
    obtain ⟨x, hx, rfl⟩ := map_get h1
    walk_at "wp"
    by_cases z : x = 0
    · simp only [z, decide_true, Bool.not_true, Bool.false_eq_true, if_false]
      refine hN _ ⟨fun j hj y hy => ?_, .d (.int i), .d (.int 0), trivial, trivial, rfl⟩
      rcases Nat.lt_or_ge j i with h | h
      · exact hz j h y hy
      · obtain rfl : j = i := by omega
        rw [hx] at hy; cases hy; exact z
    · simp only [z, decide_false, Bool.not_false, if_true]
      have e : fnn r = some i := by
        unfold fnn
        obtain ⟨hi, he⟩ := List.getElem?_eq_some_iff.mp hx
        rw [List.findIdx?_eq_some_iff_getElem]
        refine ⟨hi, by simp [he, z], fun j hj => ?_⟩
        have := hz j hj r[j] (by simp)
        simp [this]
      rw [e] at q; exact q
theorem w_widened {n : Nat} {bs : Bs} {r : Rw} (hb : okB' n 0 bs) (hr : okR n r) (h7 : bs.length ≤ 7) (hn : n ≤ 6) (q : Q (bL (wd bs r))) : wp_widened K a [bL bs, rD r] Q E := by
  unfold wp_widened b_widened
  walk_at "wp"
  refine w_whole_row hr hn ?_
  have hl : (wr r).length = n := by rw [wr_len]; exact hr.1
  refine w_cleared hb (wr_bd hr) hl (by omega) hn ?_
  walk_at "wp"
  have hll : (cl bs (wr r)).length = n := by
    have := (cl_facts hb (wr_bd hr) hl bs.length (Nat.le_refl _) (by omega)).2
    simpa using this
  refine w_first_not_nought (by omega) ?_
  unfold wd at q
  cases e : fnn (cl bs (wr r)) with
  | none =>
    rw [e] at q
    simp only
    walk_at "wp"
    exact q
  | some p =>
    rw [e] at q
    simp only
    simp only [show Cc.isNon (.int (p : Nat)) = false from rfl, Bool.false_eq_true, if_false]
    simp only [bL]
    walk_at "wp"
    refine ⟨by omega, by simp; omega, ?_⟩
    have e2 : bs.map bD ++ [.tup [.int (p : Nat), iL (cl bs (wr r))]] = (bs ++ [(p, cl bs (wr r))]).map bD := by simp [bD]
    rw [e2]; exact q
end
end My
namespace My
open PySem L2 Ab Cc
local macro_rules | `(tactic| walk_at "wp") => `(tactic| (try simp -implicitDefEqProofs only [e_wp_v, e_wp_vr, e_wp_wk, e_wp_int, e_wp_bl, e_wp_non, e_wp_str, e_wp_ty, e_wp_cls, e_wp_con, e_wp_a0, e_wp_ac, e_wp_tup, e_wp_dic, e_wp_lst, e_wp_ofL, e_wp_op, e_wp_nt, e_wp_and, e_wp_or, e_wp_chain, e_wp_neg, e_wp_isN, e_wp_notN, e_wp_tst, e_wp_tB', e_wp_tand, e_wp_tor, e_wp_tnot, e_wp_tyes, e_wp_ife, e_wp_bi, e_wp_o0, e_wp_o1, e_wp_sl, e_wp_fld, e_wp_nm, e_wp_g0, e_wp_gc, e_wp_gt, e_wp_iseq, e_wp_irg1, e_wp_irg2, e_wp_ienum, e_wp_izip, e_wp_bor, e_wp_borL, e_wp_app, e_wp_ext, e_wp_popAt, e_wp_lc, e_wp_dct1, e_wp_call, e_wp_call0, e_wp_nil, e_wp_seq, e_wp_brk, e_wp_cnt, e_wp_drop, e_wp_ret, e_wp_retN, e_wp_ifs, e_wp_asg, e_wp_own, e_wp_par, e_wp_fors, e_wp_whs, e_wp_aug, e_wp_setO, e_wp_rai, e_wp_rai0, e_wp_tryAs, e_wp_add, e_wp_mul, e_wp_sub, e_wp_lt, e_wp_le, e_wp_gt', e_wp_ge, e_wp_fdiv, e_wp_mod, e_wp_pow, e_wp_eq, e_wp_ne, e_wp_inn, e_wp_nin, e_wp_ix, e_wp_len, e_wp_abs, e_wp_toInt, e_wp_gcd, e_wp_all, e_wp_any, e_wp_sum, e_wp_tuple, e_wp_isT, e_wp_isC, e_wp_list, e_wp_listRg, e_wp_addL, e_wp_retO, e_wp_retL, e_wp_callL, e_wp_mk, e_wp_setf, e_wp_mcountT, e_wp_tupleX, e_wp_mcount, e_wp_mindex, e_wp_lcm, e_wp_astar, e_wp_revL, e_wp_lc2, e_wp_callG, e_wp_isX, e_wp_xf, e_wp_fdivM, r_get0, r_getS, r_put0, r_putS, r_var, r_vd, r_vown, r_isBl, r_isI, r_isSqT, r_isSqL, r_two, r_isOwn, r_no, r_noU, r_unxI, r_unxT, r_unxX, r_unxO, r_addI, r_addT, r_addL, r_mulI, r_mulT, r_ii, r_ci, r_eqI, r_eqS, r_eqB, r_inT, r_inL, r_ixT, r_ixL, r_lenT, r_lenL, r_abs, r_intI, r_intB, r_gcd, r_all, r_sum, r_tupL, r_tupT, r_sqT, r_sqL, r_rg1, r_en, r_zipT, r_zipL, r_slT, r_slL, r_noOwn0, r_noOwnS, r_wip0, r_wipS, r_start, r_bodyN, r_body, r_lt, r_isN0, r_isNT, r_isNI, r_isNL, r_okU, r_okD, r_noOb0, r_noObU, r_noObD, r_noObO, r_frz0, r_frzU, r_frzD, r_frzO, r_noLi, r_noLb, r_noLs, r_noLn, rev, List.map_cons, List.map_nil, List.length_cons, List.length_nil, List.replicate, List.nil_append, List.cons_append, Nat.sub_self, Nat.reduceAdd, Nat.reduceSub, not_false_eq_true, and_self, true_and, and_true, if_true, if_false, Bool.not_true, Bool.not_false, Bool.false_eq_true, and_false, false_and, reduceIte, ite_self, Nat.zero_add, decide_eq_true_eq]))
local macro_rules | `(tactic| walk_at "ws") => `(tactic| simp_all [r_get0, r_getS, r_put0, r_putS, r_var, r_vd, r_vown, r_isBl, r_isI, r_isSqT, r_isSqL, r_two, r_isOwn, r_no, r_noU, r_unxI, r_unxT, r_unxX, r_unxO, r_addI, r_addT, r_addL, r_mulI, r_mulT, r_ii, r_ci, r_eqI, r_eqS, r_eqB, r_inT, r_inL, r_ixT, r_ixL, r_lenT, r_lenL, r_abs, r_intI, r_intB, r_gcd, r_all, r_sum, r_tupL, r_tupT, r_sqT, r_sqL, r_rg1, r_en, r_zipT, r_zipL, r_slT, r_slL, r_noOwn0, r_noOwnS, r_wip0, r_wipS, r_start, r_bodyN, r_body, r_lt, r_isN0, r_isNT, r_isNI, r_isNL, r_okU, r_okD, r_noOb0, r_noObU, r_noObD, r_noObO, r_frz0, r_frzU, r_frzD, r_frzO, r_noLi, r_noLb, r_noLs, r_noLn, isTy, taggedD, tagD])
def ech : Bs → Prop
  | [] => True
  | (p, b) :: bs => b.getD p 0 ≠ 0 ∧ (∀ x ∈ bs, x.1 ≠ p ∧ x.2.getD p 0 = 0) ∧ ech bs
theorem sh_zero {r : List Int} {p : Nat} (h : r.getD p 0 = 0) : (sh r).getD p 0 = 0 := by
  unfold sh
  split
  · simp only [List.getD, List.getElem?_map] at h ⊢
    cases e : r[p]? with
    | none => simp
    | some x =>
      rw [e] at h
      simp at h
      subst h
      simp
  · exact h
theorem zw_zero {r b : List Int} {u v : Int} {q : Nat} (h : u * r.getD q 0 - v * b.getD q 0 = 0) : (List.zipWith (fun x y => u * x - v * y) r b).getD q 0 = 0 := by
  simp only [List.getD, List.getElem?_zipWith] at h ⊢
  cases e1 : r[q]? with
  | none => simp
  | some x =>
    cases e2 : b[q]? with
    | none => simp
    | some y =>
      rw [e1, e2] at h
      simpa using h
theorem stp_zero {p : Nat} {b r : List Int} : (stp p b r).getD p 0 = 0 := by
  unfold stp
  split
  · rename_i h; exact h
  · exact sh_zero (zw_zero (by rw [Int.mul_comm]; omega))
theorem stp_keep {p q : Nat} {b r : List Int} (h1 : r.getD q 0 = 0) (h2 : b.getD q 0 = 0) : (stp p b r).getD q 0 = 0 := by
  unfold stp
  split
  · exact h1
  · exact sh_zero (zw_zero (by rw [h1, h2]; simp))
theorem cl_keep : ∀ {bs : Bs} {r : List Int} {q : Nat}, (∀ x ∈ bs, x.2.getD q 0 = 0) → r.getD q 0 = 0 → (cl bs r).getD q 0 = 0
  | [], _, _, _, h => h
  | (p, b) :: bs, r, q, h, h1 => by
    simp only [cl]
    exact cl_keep (fun x m => h x (List.mem_cons_of_mem _ m)) (stp_keep h1 (h (p, b) List.mem_cons_self))
theorem cl_zero : ∀ {bs : Bs} {r : List Int}, ech bs → ∀ x ∈ bs, (cl bs r).getD x.1 0 = 0
  | (p, b) :: bs, r, h, x, m => by
    simp only [cl]
    rcases List.mem_cons.mp m with rfl | m
    · exact cl_keep (fun y hy => (h.2.1 y hy).2) stp_zero
    · exact cl_zero h.2.2 x m
theorem ech_snoc : ∀ {bs : Bs} {p : Nat} {r : List Int}, ech bs → (∀ x ∈ bs, p ≠ x.1 ∧ r.getD x.1 0 = 0) → r.getD p 0 ≠ 0 → ech (bs ++ [(p, r)])
  | [], p, r, _, _, h => ⟨h, by simp, trivial⟩
  | (q, b) :: bs, p, r, h, hx, hr => by
    refine ⟨h.1, fun x m => ?_, ech_snoc h.2.2 (fun x m => hx x (List.mem_cons_of_mem _ m)) hr⟩
    rcases List.mem_append.mp m with m | m
    · exact h.2.1 x m
    · rw [List.mem_singleton.mp m]
      exact hx (q, b) List.mem_cons_self
theorem okB_snoc : ∀ {bs : Bs} {n i p : Nat} {r : List Int}, okB' n i bs → p < n → r.length = n → bd (szA (i + bs.length)) r → okB' n i (bs ++ [(p, r)])
  | [], n, i, p, r, _, h1, h2, h3 => ⟨h1, h2, by simpa using h3, trivial⟩
  | (q, b) :: bs, n, i, p, r, h, h1, h2, h3 => by
    refine ⟨h.1, h.2.1, h.2.2.1, okB_snoc h.2.2.2 h1 h2 ?_⟩
    rw [show i + 1 + bs.length = i + ((q, b) :: bs).length by simp; omega]
    exact h3
theorem nd_len : ∀ {n : Nat} {l : List Nat}, l.Nodup → (∀ x ∈ l, x < n) → l.length ≤ n
  | 0, l, _, h => by
    cases l with
    | nil => simp
    | cons x l => exact absurd (h x List.mem_cons_self) (by omega)
  | n + 1, l, nd, h => by
    by_cases m : n ∈ l
    · have := nd_len (n := n) (l := l.erase n) (nd.erase n) (fun x hx => by
        obtain ⟨h1, h2⟩ := (List.Nodup.mem_erase_iff nd).mp hx
        have := h x h2
        omega)
      rw [List.length_erase_of_mem m] at this
      omega
    · have := nd_len (n := n) nd (fun x hx => by
        have h1 := h x hx
        have h2 : x ≠ n := fun z => m (z ▸ hx)
        omega)
      omega
theorem ech_nd : ∀ {bs : Bs}, ech bs → (bs.map (·.1)).Nodup
  | [], _ => by simp
  | (p, b) :: bs, h => by
    rw [List.map_cons]
    refine List.nodup_cons.mpr ⟨fun m => ?_, ech_nd h.2.2⟩
    obtain ⟨x, hx, e⟩ := List.mem_map.mp m
    exact (h.2.1 x hx).1 e
theorem ech_len {n : Nat} {bs : Bs} (h : ech bs) (k : okB' n 0 bs) : bs.length ≤ n := by
  have := nd_len (n := n) (ech_nd h) (fun x hx => by
    obtain ⟨y, hy, rfl⟩ := List.mem_map.mp hx
    obtain ⟨i, hi⟩ := List.mem_iff_getElem?.mp hy
    exact (okB_get (p := y.1) (b := y.2) k hi).1)
  simpa using this
/-- a base as the program has it -/
structure Base (n : Nat) (bs : Bs) : Prop where
  ok : okB' n 0 bs
  ec : ech bs
theorem Base.len {n : Nat} {bs : Bs} (h : Base n bs) : bs.length ≤ n := ech_len h.ec h.ok
theorem base_nil {n : Nat} : Base n [] := ⟨trivial, trivial⟩
theorem fnn_some {r : List Int} {p : Nat} (h : fnn r = some p) : p < r.length ∧ r.getD p 0 ≠ 0 := by
  unfold fnn at h
  obtain ⟨h1, h2, _⟩ := List.findIdx?_eq_some_iff_getElem.mp h
  refine ⟨h1, ?_⟩
  simp only [List.getD, List.getElem?_eq_getElem h1, Option.getD_some]
  simpa using h2
theorem Base.wd {n : Nat} {bs : Bs} {r : Rw} (h : Base n bs) (hr : okR n r) (hn : n ≤ 6) : Base n (wd bs r) := by
  unfold My.wd
  cases e : fnn (cl bs (wr r)) with
  | none => exact h
  | some p =>
    have hl : (wr r).length = n := by rw [wr_len]; exact hr.1
    have h6 := h.len
    obtain ⟨f1, f2⟩ := cl_facts h.ok (wr_bd hr) hl bs.length (Nat.le_refl _) (by omega)
    rw [List.take_length] at f1 f2
    obtain ⟨g1, g2⟩ := fnn_some e
    refine ⟨okB_snoc h.ok (by omega) f2 f1, ech_snoc h.ec (fun x hx => ⟨fun z => ?_, cl_zero h.ec x hx⟩) g2⟩
    rw [z] at g2
    exact g2 (cl_zero h.ec x hx)
section
variable {K : PySem.W.Frag} {a : Ad} {Q : D → Prop} {E : Er → Prop}
theorem w_wd {n : Nat} {bs : Bs} {r : Rw} (h : Base n bs) (hr : okR n r) (hn : n ≤ 6) (q : Q (bL (wd bs r))) : wp_widened K a [bL bs, rD r] Q E := w_widened h.ok hr (by have := h.len; omega) hn q
def wds (bs : Bs) (rs : List Rw) : Bs := rs.foldl wd bs
theorem Base.wds {n : Nat} {rs : List Rw} : ∀ {bs : Bs}, Base n bs → (∀ r ∈ rs, okR n r) → n ≤ 6 → Base n (wds bs rs) := by
  induction rs with
  | nil => intro bs h _ _; exact h
  | cons r rs ih => intro bs h hr hn; exact ih (h.wd (hr r List.mem_cons_self) hn) (fun x m => hr x (List.mem_cons_of_mem _ m)) hn
theorem w_span_of {n : Nat} {rs : List Rw} (hr : ∀ r ∈ rs, okR n r) (hn : n ≤ 6) (q : Q (bL (wds [] rs))) : wp_span_of K a [.lst (rs.map rD)] Q E := by
  unfold wp_span_of b_span_of
  walk_at "wp"
  refine ⟨by decide, ?_⟩
  refine forW_ix (fun i Γ => ∃ b, okB b ∧ Γ = [.d (.lst (rs.map rD)), .d (bL (wds [] (rs.take i))), b]) ⟨.un, trivial, rfl⟩ ?_ ?_
  · rintro Γ ⟨b, kb, rfl⟩
    rw [List.length_map, List.take_length]
    walk_at "wp"
    exact q
  · rintro i d hd Γ ⟨b, kb, rfl⟩ N hN
    obtain ⟨r, hr1, rfl⟩ := map_get hd
    walk_at "wp"
    have hm := List.mem_of_getElem? hr1
    refine w_wd ((base_nil (n := n)).wds (fun x m => hr x (List.mem_of_mem_take m)) hn) (hr r hm) hn ?_
    refine hN _ ⟨.d (rD r), trivial, ?_⟩
    rw [take_succ_get hr1]
    simp [wds, List.foldl_append]
end
end My
namespace My
open PySem L2 Ab Cc
local macro_rules | `(tactic| walk_at "wp") => `(tactic| (try simp -implicitDefEqProofs only [e_wp_v, e_wp_vr, e_wp_wk, e_wp_int, e_wp_bl, e_wp_non, e_wp_str, e_wp_ty, e_wp_cls, e_wp_con, e_wp_a0, e_wp_ac, e_wp_tup, e_wp_dic, e_wp_lst, e_wp_ofL, e_wp_op, e_wp_nt, e_wp_and, e_wp_or, e_wp_chain, e_wp_neg, e_wp_isN, e_wp_notN, e_wp_tst, e_wp_tB', e_wp_tand, e_wp_tor, e_wp_tnot, e_wp_tyes, e_wp_ife, e_wp_bi, e_wp_o0, e_wp_o1, e_wp_sl, e_wp_fld, e_wp_nm, e_wp_g0, e_wp_gc, e_wp_gt, e_wp_iseq, e_wp_irg1, e_wp_irg2, e_wp_ienum, e_wp_izip, e_wp_bor, e_wp_borL, e_wp_app, e_wp_ext, e_wp_popAt, e_wp_lc, e_wp_dct1, e_wp_call, e_wp_call0, e_wp_nil, e_wp_seq, e_wp_brk, e_wp_cnt, e_wp_drop, e_wp_ret, e_wp_retN, e_wp_ifs, e_wp_asg, e_wp_own, e_wp_par, e_wp_fors, e_wp_whs, e_wp_aug, e_wp_setO, e_wp_rai, e_wp_rai0, e_wp_tryAs, e_wp_add, e_wp_mul, e_wp_sub, e_wp_lt, e_wp_le, e_wp_gt', e_wp_ge, e_wp_fdiv, e_wp_mod, e_wp_pow, e_wp_eq, e_wp_ne, e_wp_inn, e_wp_nin, e_wp_ix, e_wp_len, e_wp_abs, e_wp_toInt, e_wp_gcd, e_wp_all, e_wp_any, e_wp_sum, e_wp_tuple, e_wp_isT, e_wp_isC, e_wp_list, e_wp_listRg, e_wp_addL, e_wp_retO, e_wp_retL, e_wp_callL, e_wp_mk, e_wp_setf, e_wp_mcountT, e_wp_tupleX, e_wp_mcount, e_wp_mindex, e_wp_lcm, e_wp_astar, e_wp_revL, e_wp_lc2, e_wp_callG, e_wp_isX, e_wp_xf, e_wp_fdivM, r_get0, r_getS, r_put0, r_putS, r_var, r_vd, r_vown, r_isBl, r_isI, r_isSqT, r_isSqL, r_two, r_isOwn, r_no, r_noU, r_unxI, r_unxT, r_unxX, r_unxO, r_addI, r_addT, r_addL, r_mulI, r_mulT, r_ii, r_ci, r_eqI, r_eqS, r_eqB, r_inT, r_inL, r_ixT, r_ixL, r_lenT, r_lenL, r_abs, r_intI, r_intB, r_gcd, r_all, r_sum, r_tupL, r_tupT, r_sqT, r_sqL, r_rg1, r_en, r_zipT, r_zipL, r_slT, r_slL, r_noOwn0, r_noOwnS, r_wip0, r_wipS, r_start, r_bodyN, r_body, r_lt, r_isN0, r_isNT, r_isNI, r_isNL, r_okU, r_okD, r_noOb0, r_noObU, r_noObD, r_noObO, r_frz0, r_frzU, r_frzD, r_frzO, r_noLi, r_noLb, r_noLs, r_noLn, rev, List.map_cons, List.map_nil, List.length_cons, List.length_nil, List.replicate, List.nil_append, List.cons_append, Nat.sub_self, Nat.reduceAdd, Nat.reduceSub, not_false_eq_true, and_self, true_and, and_true, if_true, if_false, Bool.not_true, Bool.not_false, Bool.false_eq_true, and_false, false_and, reduceIte, ite_self, Nat.zero_add, decide_eq_true_eq]))
local macro_rules | `(tactic| walk_at "ws") => `(tactic| simp_all [r_get0, r_getS, r_put0, r_putS, r_var, r_vd, r_vown, r_isBl, r_isI, r_isSqT, r_isSqL, r_two, r_isOwn, r_no, r_noU, r_unxI, r_unxT, r_unxX, r_unxO, r_addI, r_addT, r_addL, r_mulI, r_mulT, r_ii, r_ci, r_eqI, r_eqS, r_eqB, r_inT, r_inL, r_ixT, r_ixL, r_lenT, r_lenL, r_abs, r_intI, r_intB, r_gcd, r_all, r_sum, r_tupL, r_tupT, r_sqT, r_sqL, r_rg1, r_en, r_zipT, r_zipL, r_slT, r_slL, r_noOwn0, r_noOwnS, r_wip0, r_wipS, r_start, r_bodyN, r_body, r_lt, r_isN0, r_isNT, r_isNI, r_isNL, r_okU, r_okD, r_noOb0, r_noObU, r_noObD, r_noObO, r_frz0, r_frzU, r_frzD, r_frzO, r_noLi, r_noLb, r_noLs, r_noLn, isTy, taggedD, tagD])
/-- the row that stands safe of a cell -/
def sfc (rows : List (Option Rw)) (os : List Int) (m c : Nat) : Option Rw :=
  if wrd rows os m (c : Nat) = "not begun" then some (unit rows.length c) else if wrd rows os m (c : Nat) = "done" then rows.getD c none else none
def sfR (rows : List (Option Rw)) (os : List Int) (m i : Nat) : List Rw := (List.range i).filterMap (sfc rows os m)
theorem sfR_succ {rows : List (Option Rw)} {os : List Int} {m i : Nat} : sfR rows os m (i + 1) = sfR rows os m i ++ (sfc rows os m i).toList := by
  unfold sfR
  rw [List.range_succ, List.filterMap_append]
  cases e : sfc rows os m i <;> simp [e]
theorem unit_ok {n k : Nat} : okR n (unit n k) := by
  refine ⟨by simp [unit], fun p hp => ?_⟩
  obtain ⟨i, _, rfl⟩ := List.mem_map.mp hp
  split <;> exact ⟨by decide, by decide, by decide, by decide⟩
theorem wI_mem {rows : List (Option Rw)} {i : Nat} (h : ((i : Nat) : Int) ∈ wI rows) : ∃ r, rows[i]? = some (some r) := by
  unfold wI at h
  obtain ⟨j, h1, h2⟩ := List.mem_map.mp h
  have e : j = i := by omega
  subst e
  have h3 := (List.mem_filter.mp h1).2
  simp only [List.getD] at h3
  cases e : rows[j]? with
  | none => rw [e] at h3; simp at h3
  | some x =>
    rw [e] at h3
    cases x with
    | none => simp at h3
    | some r => exact ⟨r, rfl⟩
theorem done_row {rows : List (Option Rw)} {os : List Int} {m i : Nat} (h1 : wrd rows os m (i : Nat) = "done") : ∃ r, rows[i]? = some (some r) := by
  unfold wrd at h1
  split at h1
  · exact absurd h1 (by decide)
  · split at h1
    · rename_i h; exact wI_mem h.1
    · exact absurd h1 (by decide)
section
variable {K : PySem.W.Frag} {a : Ad} {Q : D → Prop} {E : Er → Prop} {rows : List (Option Rw)} {lk : List Int} {sp : Int}
theorem sfR_ok (h : okW rows lk sp) {os : List Int} {m i : Nat} : ∀ r ∈ sfR rows os m i, okR rows.length r := fun r hr => by
  obtain ⟨c, _, hc⟩ := List.mem_filterMap.mp hr
  unfold sfc at hc
  split at hc
  · cases hc; exact unit_ok
  · split at hc
    · rename_i h1
      obtain ⟨r', e⟩ := done_row h1
      have e2 : rows.getD c none = some r' := by simp [List.getD, e]
      rw [e2] at hc
      cases hc
      exact h.r _ (List.mem_of_getElem? e) r rfl
    · cases hc
theorem sfR_len {os : List Int} {m i : Nat} : (sfR rows os m i).length ≤ i := by
  have := List.length_filterMap_le (sfc rows os m) (List.range i)
  simpa [sfR] using this
theorem w_safe_span {os : List Int} {n m : Nat} (w : WC K a) (kc : KC K a) (h : okW rows lk sp) (hn : (rows.length : Int) + sp = n) (q : Q (bL (wds [] (sfR rows os m rows.length)))) : wp_safe_span K a [wO a rows lk sp, .tup ((wrds rows n os m).map D.str)] Q E := by
  unfold wp_safe_span b_safe_span
  have n6 := h.n6
  have s0 := h.s0
  unfold wO
  walk_at "wp"
  refine ⟨by decide, ?_⟩
  refine f_rows w ?_
  walk_at "wp"
  refine forW_ix (fun i Γ => ∃ b3 b4, okB b3 ∧ okB b4 ∧ Γ = [.d (wO a rows lk sp), .d (.tup ((wrds rows n os m).map D.str)), .own ((sfR rows os m i).map rD), b3, b4]) ⟨.un, .un, trivial, trivial, rfl⟩ ?_ ?_
  · rintro Γ ⟨b3, b4, k3, k4, rfl⟩
    rw [enumD_len, List.length_map]
    walk_at "wp"
    exact w_span_of (sfR_ok h) n6 q
  · rintro i d hd Γ ⟨b3, b4, k3, k4, rfl⟩ N hN
    obtain ⟨d', h1, rfl⟩ := enumD_inv hd
    obtain ⟨x, hx, rfl⟩ := map_get h1
    have hi : i < rows.length := (List.getElem?_eq_some_iff.mp hx).1
    have ew : (wrds rows n os m)[i]? = some (wrd rows os m (i : Nat)) := by
      simp [wrds, List.getElem?_map, List.getElem?_range (show i < n by omega)]
    have hl : ((sfR rows os m i).map rD).length < 100000 := by
      have := sfR_len (rows := rows) (os := os) (m := m) (i := i)
      simp; omega
    have ei : atI ((wrds rows n os m).map D.str) (i : Nat) = some (.str (wrd rows os m (i : Nat))) := atI_get (f := D.str) ew
    have fin := hN [.d (wO a rows lk sp), .d (.tup ((wrds rows n os m).map D.str)), .own ((sfR rows os m (i + 1)).map rD), .d (.int (i : Nat)), .d (oD x)] ⟨.d (.int (i : Nat)), .d (oD x), trivial, trivial, rfl⟩
    rw [sfR_succ, List.map_append] at fin
    walk_at "wp"
    refine ⟨_, ei, ?_⟩
    walk_at "wp"
    by_cases e1 : wrd rows os m (i : Nat) = "not begun"
    · simp only [e1, decide_true, if_true]
      unfold wO
      walk_at "wp"
      refine f_rows w ?_
      walk_at "wp"
      rw [List.length_map]
      refine w_unit_row kc (by omega) ?_
      walk_at "wp"
      have ec : sfc rows os m i = some (unit rows.length i) := by unfold sfc; rw [if_pos e1]
      rw [ec] at fin
      exact ⟨hl, fin⟩
    · simp only [e1, decide_false, if_false, Bool.false_eq_true]
      refine ⟨_, ei, ?_⟩
      walk_at "wp"
      by_cases e2 : wrd rows os m (i : Nat) = "done"
      · simp only [e2, decide_true, if_true]
        walk_at "wp"
        obtain ⟨r, er⟩ := done_row e2
        rw [hx] at er
        cases er
        have ec : sfc rows os m i = some r := by unfold sfc; rw [if_neg e1, if_pos e2]; simp [List.getD, hx]
        rw [ec] at fin
        exact ⟨hl, fin⟩
      · simp only [e2, decide_false, if_false, Bool.false_eq_true]
        have ec : sfc rows os m i = none := by unfold sfc; rw [if_neg e1, if_neg e2]
        rw [ec] at fin
        simpa using fin
end
end My
namespace My
open PySem L2 Ab Cc
local macro_rules | `(tactic| walk_at "wp") => `(tactic| (try simp -implicitDefEqProofs only [e_wp_v, e_wp_vr, e_wp_wk, e_wp_int, e_wp_bl, e_wp_non, e_wp_str, e_wp_ty, e_wp_cls, e_wp_con, e_wp_a0, e_wp_ac, e_wp_tup, e_wp_dic, e_wp_lst, e_wp_ofL, e_wp_op, e_wp_nt, e_wp_and, e_wp_or, e_wp_chain, e_wp_neg, e_wp_isN, e_wp_notN, e_wp_tst, e_wp_tB', e_wp_tand, e_wp_tor, e_wp_tnot, e_wp_tyes, e_wp_ife, e_wp_bi, e_wp_o0, e_wp_o1, e_wp_sl, e_wp_fld, e_wp_nm, e_wp_g0, e_wp_gc, e_wp_gt, e_wp_iseq, e_wp_irg1, e_wp_irg2, e_wp_ienum, e_wp_izip, e_wp_bor, e_wp_borL, e_wp_app, e_wp_ext, e_wp_popAt, e_wp_lc, e_wp_dct1, e_wp_call, e_wp_call0, e_wp_nil, e_wp_seq, e_wp_brk, e_wp_cnt, e_wp_drop, e_wp_ret, e_wp_retN, e_wp_ifs, e_wp_asg, e_wp_own, e_wp_par, e_wp_fors, e_wp_whs, e_wp_aug, e_wp_setO, e_wp_rai, e_wp_rai0, e_wp_tryAs, e_wp_add, e_wp_mul, e_wp_sub, e_wp_lt, e_wp_le, e_wp_gt', e_wp_ge, e_wp_fdiv, e_wp_mod, e_wp_pow, e_wp_eq, e_wp_ne, e_wp_inn, e_wp_nin, e_wp_ix, e_wp_len, e_wp_abs, e_wp_toInt, e_wp_gcd, e_wp_all, e_wp_any, e_wp_sum, e_wp_tuple, e_wp_isT, e_wp_isC, e_wp_list, e_wp_listRg, e_wp_addL, e_wp_retO, e_wp_retL, e_wp_callL, e_wp_mk, e_wp_setf, e_wp_mcountT, e_wp_tupleX, e_wp_mcount, e_wp_mindex, e_wp_lcm, e_wp_astar, e_wp_revL, e_wp_lc2, e_wp_callG, e_wp_isX, e_wp_xf, e_wp_fdivM, r_get0, r_getS, r_put0, r_putS, r_var, r_vd, r_vown, r_isBl, r_isI, r_isSqT, r_isSqL, r_two, r_isOwn, r_no, r_noU, r_unxI, r_unxT, r_unxX, r_unxO, r_addI, r_addT, r_addL, r_mulI, r_mulT, r_ii, r_ci, r_eqI, r_eqS, r_eqB, r_inT, r_inL, r_ixT, r_ixL, r_lenT, r_lenL, r_abs, r_intI, r_intB, r_gcd, r_all, r_sum, r_tupL, r_tupT, r_sqT, r_sqL, r_rg1, r_en, r_zipT, r_zipL, r_slT, r_slL, r_noOwn0, r_noOwnS, r_wip0, r_wipS, r_start, r_bodyN, r_body, r_lt, r_isN0, r_isNT, r_isNI, r_isNL, r_okU, r_okD, r_noOb0, r_noObU, r_noObD, r_noObO, r_frz0, r_frzU, r_frzD, r_frzO, r_noLi, r_noLb, r_noLs, r_noLn, rev, List.map_cons, List.map_nil, List.length_cons, List.length_nil, List.replicate, List.nil_append, List.cons_append, Nat.sub_self, Nat.reduceAdd, Nat.reduceSub, not_false_eq_true, and_self, true_and, and_true, if_true, if_false, Bool.not_true, Bool.not_false, Bool.false_eq_true, and_false, false_and, reduceIte, ite_self, Nat.zero_add, decide_eq_true_eq]))
local macro_rules | `(tactic| walk_at "ws") => `(tactic| simp_all [r_get0, r_getS, r_put0, r_putS, r_var, r_vd, r_vown, r_isBl, r_isI, r_isSqT, r_isSqL, r_two, r_isOwn, r_no, r_noU, r_unxI, r_unxT, r_unxX, r_unxO, r_addI, r_addT, r_addL, r_mulI, r_mulT, r_ii, r_ci, r_eqI, r_eqS, r_eqB, r_inT, r_inL, r_ixT, r_ixL, r_lenT, r_lenL, r_abs, r_intI, r_intB, r_gcd, r_all, r_sum, r_tupL, r_tupT, r_sqT, r_sqL, r_rg1, r_en, r_zipT, r_zipL, r_slT, r_slL, r_noOwn0, r_noOwnS, r_wip0, r_wipS, r_start, r_bodyN, r_body, r_lt, r_isN0, r_isNT, r_isNI, r_isNL, r_okU, r_okD, r_noOb0, r_noObU, r_noObD, r_noObO, r_frz0, r_frzU, r_frzD, r_frzO, r_noLi, r_noLb, r_noLs, r_noLn, isTy, taggedD, tagD])
/-- the rows of the cells with wishes -/
def wRw (rows : List (Option Rw)) : List Rw := (wI rows).map fun c => (rows.getD c.toNat none).getD []
theorem wI_row {rows : List (Option Rw)} {c : Int} (h : c ∈ wI rows) : ∃ r, rows[c.toNat]? = some (some r) ∧ (rows.getD c.toNat none).getD [] = r ∧ c = (c.toNat : Nat) := by
  obtain ⟨j, h1, h2⟩ := List.mem_map.mp h
  subst h2
  obtain ⟨r, e⟩ := wI_mem h
  exact ⟨r, by simpa using e, by simp [List.getD, e], by simp⟩
def needR (rows : List (Option Rw)) (os : List Int) (m : Nat) : Bs := wds [] (sfR rows os m rows.length)
def lackN (rows : List (Option Rw)) (os : List Int) (m : Nat) : Int := ((wds (needR rows os m) (wRw rows)).length : Int) - ((needR rows os m).length : Nat)
section
variable {K : PySem.W.Frag} {a : Ad} {Q : D → Prop} {E : Er → Prop} {rows : List (Option Rw)} {lk : List Int} {sp : Int}
theorem wRw_ok (h : okW rows lk sp) : ∀ r ∈ wRw rows, okR rows.length r := fun r hr => by
  obtain ⟨c, hc, rfl⟩ := List.mem_map.mp hr
  obtain ⟨r', e1, e2, _⟩ := wI_row hc
  rw [e2]
  exact h.r _ (List.mem_of_getElem? e1) r' rfl
theorem w_lack_of {os : List Int} {n m : Nat} (w : WC K a) (kc : KC K a) (h : okW rows lk sp) (hn : (rows.length : Int) + sp = n) (q : Q (.int (lackN rows os m))) : wp_lack_of K a [wO a rows lk sp, .tup ((wrds rows n os m).map D.str)] Q E := by
  unfold wp_lack_of b_lack_of
  have n6 := h.n6
  have B0 : Base rows.length (needR rows os m) := (base_nil).wds (sfR_ok h) n6
  unfold wO
  walk_at "wp"
  refine w_safe_span w kc h hn ?_
  walk_at "wp"
  refine w_wished_cells w n6 ?_
  walk_at "wp"
  refine forW_ix (fun i Γ => ∃ b4, okB b4 ∧ Γ = [.d (wO a rows lk sp), .d (.tup ((wrds rows n os m).map D.str)), .d (bL (needR rows os m)), .d (bL (wds (needR rows os m) ((wRw rows).take i))), b4]) ⟨.un, trivial, rfl⟩ ?_ ?_
  · rintro Γ ⟨b4, k4, rfl⟩
    have el : ((wI rows).map D.int).length = (wRw rows).length := by simp [wRw]
    rw [el, List.take_length]
    unfold bL
    walk_at "wp"
    simpa [lackN] using q
  · rintro i d hd Γ ⟨b4, k4, rfl⟩ N hN
    obtain ⟨c, hc, rfl⟩ := map_get hd
    have hm := List.mem_of_getElem? hc
    obtain ⟨r, e1, e2, e3⟩ := wI_row hm
    have hr : (wRw rows)[i]? = some r := by simp [wRw, List.getElem?_map, hc]; simpa [List.getD] using e2
    have hrm := List.mem_of_getElem? hr
    unfold wO
    walk_at "wp"
    refine f_rows w ?_
    walk_at "wp"
    rw [e3]
    refine ⟨_, atI_get (f := oD) e1, ?_⟩
    walk_at "wp"
    refine w_wd (B0.wds (fun x m => wRw_ok h x (List.mem_of_mem_take m)) n6) (wRw_ok h r hrm) n6 ?_
    refine hN _ ⟨.d (.int c), trivial, ?_⟩
    rw [take_succ_get hr, ← e3]
    simp [wds, List.foldl_append, wO]
theorem w_lack_at {os : List Int} {n m : Nat} (w : WC K a) (kc : KC K a) (h : okW rows lk sp) (hn : (rows.length : Int) + sp = n) (ho : os.length ≤ 60) (hm : m ≤ os.length) (q : Q (.tup [.int (lackN rows os m), .int ((wrds rows n os m).count ("amid" : Str) : Nat)])) : wp_lack_at K a [wO a rows lk sp, .tup (tks os), .int m] Q E := by
  unfold wp_lack_at b_lack_at
  unfold wO
  walk_at "wp"
  refine w_stages_at w h hn ho hm ?_
  walk_at "wp"
  refine w_lack_of w kc h hn ?_
  walk_at "wp"
  exact ⟨_, rfl, by decide, q⟩
theorem w_check_moment {x y : D} {k : Nat} (hl : ∃ xs, x = .tup xs ∧ xs.length = k) (hy : taggedD y = true) (q : if fromTo 0 k y = true then Q .non else E ⟨a.C_NoMoment, [], []⟩) : wp_check_moment K a [x, y] Q E := by
  obtain ⟨xs, rfl, hl⟩ := hl
  unfold wp_check_moment b_check_moment
  walk_at "wp"
  rw [hl]
  refine w_is_from_to hy ?_
  cases e : fromTo 0 k y
  · rw [e] at q
    walk_at "wp"
    simpa using q
  · rw [e] at q
    walk_at "wp"
    simpa using q
end
end My
namespace My
open PySem L2 Ab Cc
local macro_rules | `(tactic| walk_at "wp") => `(tactic| (try simp -implicitDefEqProofs only [e_wp_v, e_wp_vr, e_wp_wk, e_wp_int, e_wp_bl, e_wp_non, e_wp_str, e_wp_ty, e_wp_cls, e_wp_con, e_wp_a0, e_wp_ac, e_wp_tup, e_wp_dic, e_wp_lst, e_wp_ofL, e_wp_op, e_wp_nt, e_wp_and, e_wp_or, e_wp_chain, e_wp_neg, e_wp_isN, e_wp_notN, e_wp_tst, e_wp_tB', e_wp_tand, e_wp_tor, e_wp_tnot, e_wp_tyes, e_wp_ife, e_wp_bi, e_wp_o0, e_wp_o1, e_wp_sl, e_wp_fld, e_wp_nm, e_wp_g0, e_wp_gc, e_wp_gt, e_wp_iseq, e_wp_irg1, e_wp_irg2, e_wp_ienum, e_wp_izip, e_wp_bor, e_wp_borL, e_wp_app, e_wp_ext, e_wp_popAt, e_wp_lc, e_wp_dct1, e_wp_call, e_wp_call0, e_wp_nil, e_wp_seq, e_wp_brk, e_wp_cnt, e_wp_drop, e_wp_ret, e_wp_retN, e_wp_ifs, e_wp_asg, e_wp_own, e_wp_par, e_wp_fors, e_wp_whs, e_wp_aug, e_wp_setO, e_wp_rai, e_wp_rai0, e_wp_tryAs, e_wp_add, e_wp_mul, e_wp_sub, e_wp_lt, e_wp_le, e_wp_gt', e_wp_ge, e_wp_fdiv, e_wp_mod, e_wp_pow, e_wp_eq, e_wp_ne, e_wp_inn, e_wp_nin, e_wp_ix, e_wp_len, e_wp_abs, e_wp_toInt, e_wp_gcd, e_wp_all, e_wp_any, e_wp_sum, e_wp_tuple, e_wp_isT, e_wp_isC, e_wp_list, e_wp_listRg, e_wp_addL, e_wp_retO, e_wp_retL, e_wp_callL, e_wp_mk, e_wp_setf, e_wp_mcountT, e_wp_tupleX, e_wp_mcount, e_wp_mindex, e_wp_lcm, e_wp_astar, e_wp_revL, e_wp_lc2, e_wp_callG, e_wp_isX, e_wp_xf, e_wp_fdivM, r_get0, r_getS, r_put0, r_putS, r_var, r_vd, r_vown, r_isBl, r_isI, r_isSqT, r_isSqL, r_two, r_isOwn, r_no, r_noU, r_unxI, r_unxT, r_unxX, r_unxO, r_addI, r_addT, r_addL, r_mulI, r_mulT, r_ii, r_ci, r_eqI, r_eqS, r_eqB, r_inT, r_inL, r_ixT, r_ixL, r_lenT, r_lenL, r_abs, r_intI, r_intB, r_gcd, r_all, r_sum, r_tupL, r_tupT, r_sqT, r_sqL, r_rg1, r_en, r_zipT, r_zipL, r_slT, r_slL, r_noOwn0, r_noOwnS, r_wip0, r_wipS, r_start, r_bodyN, r_body, r_lt, r_isN0, r_isNT, r_isNI, r_isNL, r_okU, r_okD, r_noOb0, r_noObU, r_noObD, r_noObO, r_frz0, r_frzU, r_frzD, r_frzO, r_noLi, r_noLb, r_noLs, r_noLn, rev, List.map_cons, List.map_nil, List.length_cons, List.length_nil, List.replicate, List.nil_append, List.cons_append, Nat.sub_self, Nat.reduceAdd, Nat.reduceSub, not_false_eq_true, and_self, true_and, and_true, if_true, if_false, Bool.not_true, Bool.not_false, Bool.false_eq_true, and_false, false_and, reduceIte, ite_self, Nat.zero_add, decide_eq_true_eq]))
local macro_rules | `(tactic| walk_at "ws") => `(tactic| simp_all [r_get0, r_getS, r_put0, r_putS, r_var, r_vd, r_vown, r_isBl, r_isI, r_isSqT, r_isSqL, r_two, r_isOwn, r_no, r_noU, r_unxI, r_unxT, r_unxX, r_unxO, r_addI, r_addT, r_addL, r_mulI, r_mulT, r_ii, r_ci, r_eqI, r_eqS, r_eqB, r_inT, r_inL, r_ixT, r_ixL, r_lenT, r_lenL, r_abs, r_intI, r_intB, r_gcd, r_all, r_sum, r_tupL, r_tupT, r_sqT, r_sqL, r_rg1, r_en, r_zipT, r_zipL, r_slT, r_slL, r_noOwn0, r_noOwnS, r_wip0, r_wipS, r_start, r_bodyN, r_body, r_lt, r_isN0, r_isNT, r_isNI, r_isNL, r_okU, r_okD, r_noOb0, r_noObU, r_noObD, r_noObO, r_frz0, r_frzU, r_frzD, r_frzO, r_noLi, r_noLb, r_noLs, r_noLn, isTy, taggedD, tagD])
theorem fromTo_int {lo hi : Int} {d : D} (h : fromTo lo hi d = true) : ∃ i, d = .int i ∧ lo ≤ i ∧ i ≤ hi := by
  cases d <;> simp [fromTo] at h
  rename_i i
  exact ⟨i, rfl, by omega, by omega⟩
theorem isOrd_os {n : Int} {x : D} (h : isOrd n x = true) : ∃ os : List Int, x = oks os ∧ os.length ≤ 60 ∧ ∀ c ∈ os, 0 ≤ c ∧ c < n := by
  cases x <;> simp [isOrd] at h
  rename_i xs
  obtain ⟨h1, h2⟩ := h
  have key : ∀ {xs : List D}, (∀ x ∈ xs, fromTo 0 (n - 1) x = true) → ∃ os : List Int, xs = os.map D.int ∧ ∀ c ∈ os, 0 ≤ c ∧ c < n := by
    intro xs
    induction xs with
    | nil => exact fun _ => ⟨[], rfl, by simp⟩
    | cons x xs ih =>
      intro h
      obtain ⟨os, e, ho⟩ := ih fun y m => h y (List.mem_cons_of_mem _ m)
      obtain ⟨i, rfl, i1, i2⟩ := fromTo_int (h x List.mem_cons_self)
      refine ⟨i :: os, by rw [e]; rfl, fun c hc => ?_⟩
      rcases List.mem_cons.mp hc with rfl | hc
      · omega
      · exact ho c hc
  obtain ⟨os, rfl, ho⟩ := key h2
  exact ⟨os, rfl, by simpa using h1, ho⟩
theorem oks_kD {os : List Int} (h : os.length ≤ 60) (hs : ∀ c ∈ os, c.natAbs < 2 ^ 1000) : kD (oks os) = true := kD_mk (fun x hx => by
  obtain ⟨c, hc, rfl⟩ := List.mem_map.mp hx
  simp [kD, hs c hc]) (by simp; omega)
theorem oks_ord {os : List Int} {n : Int} (h : os.length ≤ 60) (hs : ∀ c ∈ os, 0 ≤ c ∧ c < n) : isOrd n (oks os) = true := by
  simp only [oks, isOrd, List.length_map, List.all_eq_true, List.mem_map, Bool.and_eq_true, decide_eq_true_eq]
  refine ⟨h, ?_⟩
  rintro x ⟨c, hc, rfl⟩
  have := hs c hc
  simp [fromTo]; omega
section
variable {K : PySem.W.Frag} {a : Ad} {Q : D → Prop} {E : Er → Prop} {rows : List (Option Rw)} {lk : List Int} {sp : Int}
/-- what an order of a wish is -/
structure isO (N : Int) (os : List Int) : Prop where
  len : os.length ≤ 60
  cs : ∀ c ∈ os, 0 ≤ c ∧ c < N
theorem isO.kd {N : Int} {os : List Int} (h : isO N os) (hN : N ≤ 1000) : kD (oks os) = true := oks_kD h.len fun c hc => by
  have := h.cs c hc
  have : c.natAbs ≤ 1000 := by omega
  exact Nat.lt_of_le_of_lt this (by decide)
theorem w_stages {os : List Int} {n m : Nat} (w : WC K a) (h : okW rows lk sp) (hn : (rows.length : Int) + sp = n) (ho : isO (rows.length + sp) os) (hm : m ≤ os.length) (q : Q (.tup ((wrds rows n os m).map D.str))) : wp_stages K a [wO a rows lk sp, oks os, .int m] Q E := by
  unfold wp_stages b_stages
  have n6 := h.n6
  have s2 := h.s2
  unfold wO oks
  walk_at "wp"
  refine w_check_order w (ho.kd (by omega)) ?_
  rw [if_pos (show isOrd _ (D.tup (os.map D.int)) = true from oks_ord ho.len ho.cs)]
  walk_at "wp"
  refine w_check_moment ⟨_, rfl, rfl⟩ rfl ?_
  rw [if_pos (by simp [fromTo]; exact hm)]
  walk_at "wp"
  refine w_single_ticks (by have := ho.len; omega) ?_
  walk_at "wp"
  exact w_stages_at w h hn ho.len hm q
theorem w_lack {os : List Int} {n m : Nat} (w : WC K a) (kc : KC K a) (h : okW rows lk sp) (hn : (rows.length : Int) + sp = n) (ho : isO (rows.length + sp) os) (hm : m ≤ os.length) (q : Q (.tup [.int (lackN rows os m), .int ((wrds rows n os m).count ("amid" : Str) : Nat)])) : wp_lack K a [wO a rows lk sp, oks os, .int m] Q E := by
  unfold wp_lack b_lack
  have n6 := h.n6
  have s2 := h.s2
  unfold wO oks
  walk_at "wp"
  refine w_check_order w (ho.kd (by omega)) ?_
  rw [if_pos (show isOrd _ (D.tup (os.map D.int)) = true from oks_ord ho.len ho.cs)]
  walk_at "wp"
  refine w_check_moment ⟨_, rfl, rfl⟩ rfl ?_
  rw [if_pos (by simp [fromTo]; exact hm)]
  walk_at "wp"
  refine w_single_ticks (by have := ho.len; omega) ?_
  walk_at "wp"
  exact w_lack_at w kc h hn ho.len hm q
theorem w_stages_no {x y : D} (w : WC K a) (hx : kD x = true) (hb : isOrd (rows.length + sp) x = false) (q : E ⟨a.C_NoOrder, [], []⟩) : wp_stages K a [wO a rows lk sp, x, y] Q E := by
  unfold wp_stages b_stages wO
  walk_at "wp"
  refine w_check_order w hx ?_
  rw [hb]
  exact q
theorem w_lack_no {x y : D} (w : WC K a) (hx : kD x = true) (hb : isOrd (rows.length + sp) x = false) (q : E ⟨a.C_NoOrder, [], []⟩) : wp_lack K a [wO a rows lk sp, x, y] Q E := by
  unfold wp_lack b_lack wO
  walk_at "wp"
  refine w_check_order w hx ?_
  rw [hb]
  exact q
theorem w_stages_nm {os : List Int} {y : D} (w : WC K a) (h : okW rows lk sp) (ho : isO (rows.length + sp) os) (hy : taggedD y = true) (hb : fromTo 0 os.length y = false) (q : E ⟨a.C_NoMoment, [], []⟩) : wp_stages K a [wO a rows lk sp, oks os, y] Q E := by
  unfold wp_stages b_stages
  have n6 := h.n6
  have s2 := h.s2
  unfold wO oks
  walk_at "wp"
  refine w_check_order w (ho.kd (by omega)) ?_
  rw [if_pos (show isOrd _ (D.tup (os.map D.int)) = true from oks_ord ho.len ho.cs)]
  walk_at "wp"
  refine w_check_moment ⟨_, rfl, List.length_map _⟩ hy ?_
  rw [hb]
  exact q
theorem w_lack_nm {os : List Int} {y : D} (w : WC K a) (h : okW rows lk sp) (ho : isO (rows.length + sp) os) (hy : taggedD y = true) (hb : fromTo 0 os.length y = false) (q : E ⟨a.C_NoMoment, [], []⟩) : wp_lack K a [wO a rows lk sp, oks os, y] Q E := by
  unfold wp_lack b_lack
  have n6 := h.n6
  have s2 := h.s2
  unfold wO oks
  walk_at "wp"
  refine w_check_order w (ho.kd (by omega)) ?_
  rw [if_pos (show isOrd _ (D.tup (os.map D.int)) = true from oks_ord ho.len ho.cs)]
  walk_at "wp"
  refine w_check_moment ⟨_, rfl, List.length_map _⟩ hy ?_
  rw [hb]
  exact q
end
end My
namespace My
open PySem L2 Ab Cc
local macro_rules | `(tactic| walk_at "wp") => `(tactic| (try simp -implicitDefEqProofs only [e_wp_v, e_wp_vr, e_wp_wk, e_wp_int, e_wp_bl, e_wp_non, e_wp_str, e_wp_ty, e_wp_cls, e_wp_con, e_wp_a0, e_wp_ac, e_wp_tup, e_wp_dic, e_wp_lst, e_wp_ofL, e_wp_op, e_wp_nt, e_wp_and, e_wp_or, e_wp_chain, e_wp_neg, e_wp_isN, e_wp_notN, e_wp_tst, e_wp_tB', e_wp_tand, e_wp_tor, e_wp_tnot, e_wp_tyes, e_wp_ife, e_wp_bi, e_wp_o0, e_wp_o1, e_wp_sl, e_wp_fld, e_wp_nm, e_wp_g0, e_wp_gc, e_wp_gt, e_wp_iseq, e_wp_irg1, e_wp_irg2, e_wp_ienum, e_wp_izip, e_wp_bor, e_wp_borL, e_wp_app, e_wp_ext, e_wp_popAt, e_wp_lc, e_wp_dct1, e_wp_call, e_wp_call0, e_wp_nil, e_wp_seq, e_wp_brk, e_wp_cnt, e_wp_drop, e_wp_ret, e_wp_retN, e_wp_ifs, e_wp_asg, e_wp_own, e_wp_par, e_wp_fors, e_wp_whs, e_wp_aug, e_wp_setO, e_wp_rai, e_wp_rai0, e_wp_tryAs, e_wp_add, e_wp_mul, e_wp_sub, e_wp_lt, e_wp_le, e_wp_gt', e_wp_ge, e_wp_fdiv, e_wp_mod, e_wp_pow, e_wp_eq, e_wp_ne, e_wp_inn, e_wp_nin, e_wp_ix, e_wp_len, e_wp_abs, e_wp_toInt, e_wp_gcd, e_wp_all, e_wp_any, e_wp_sum, e_wp_tuple, e_wp_isT, e_wp_isC, e_wp_list, e_wp_listRg, e_wp_addL, e_wp_retO, e_wp_retL, e_wp_callL, e_wp_mk, e_wp_setf, e_wp_mcountT, e_wp_tupleX, e_wp_mcount, e_wp_mindex, e_wp_lcm, e_wp_astar, e_wp_revL, e_wp_lc2, e_wp_callG, e_wp_isX, e_wp_xf, e_wp_fdivM, r_get0, r_getS, r_put0, r_putS, r_var, r_vd, r_vown, r_isBl, r_isI, r_isSqT, r_isSqL, r_two, r_isOwn, r_no, r_noU, r_unxI, r_unxT, r_unxX, r_unxO, r_addI, r_addT, r_addL, r_mulI, r_mulT, r_ii, r_ci, r_eqI, r_eqS, r_eqB, r_inT, r_inL, r_ixT, r_ixL, r_lenT, r_lenL, r_abs, r_intI, r_intB, r_gcd, r_all, r_sum, r_tupL, r_tupT, r_sqT, r_sqL, r_rg1, r_en, r_zipT, r_zipL, r_slT, r_slL, r_noOwn0, r_noOwnS, r_wip0, r_wipS, r_start, r_bodyN, r_body, r_lt, r_isN0, r_isNT, r_isNI, r_isNL, r_okU, r_okD, r_noOb0, r_noObU, r_noObD, r_noObO, r_frz0, r_frzU, r_frzD, r_frzO, r_noLi, r_noLb, r_noLs, r_noLn, rev, List.map_cons, List.map_nil, List.length_cons, List.length_nil, List.replicate, List.nil_append, List.cons_append, Nat.sub_self, Nat.reduceAdd, Nat.reduceSub, not_false_eq_true, and_self, true_and, and_true, if_true, if_false, Bool.not_true, Bool.not_false, Bool.false_eq_true, and_false, false_and, reduceIte, ite_self, Nat.zero_add, decide_eq_true_eq]))
local macro_rules | `(tactic| walk_at "ws") => `(tactic| simp_all [r_get0, r_getS, r_put0, r_putS, r_var, r_vd, r_vown, r_isBl, r_isI, r_isSqT, r_isSqL, r_two, r_isOwn, r_no, r_noU, r_unxI, r_unxT, r_unxX, r_unxO, r_addI, r_addT, r_addL, r_mulI, r_mulT, r_ii, r_ci, r_eqI, r_eqS, r_eqB, r_inT, r_inL, r_ixT, r_ixL, r_lenT, r_lenL, r_abs, r_intI, r_intB, r_gcd, r_all, r_sum, r_tupL, r_tupT, r_sqT, r_sqL, r_rg1, r_en, r_zipT, r_zipL, r_slT, r_slL, r_noOwn0, r_noOwnS, r_wip0, r_wipS, r_start, r_bodyN, r_body, r_lt, r_isN0, r_isNT, r_isNI, r_isNL, r_okU, r_okD, r_noOb0, r_noObU, r_noObD, r_noObO, r_frz0, r_frzU, r_frzD, r_frzO, r_noLi, r_noLb, r_noLs, r_noLn, isTy, taggedD, tagD])
def deepD : Nat → D
  | 0 => .lst [.non]
  | n + 1 => .lst [deepD n]
theorem rg_get {n i : Nat} {d : D} (h : (rgAt 0 n)[i]? = some d) : i < n ∧ d = .int (i : Nat) := by
  unfold rgAt at h
  rw [List.getElem?_map] at h
  cases e : (List.range n)[i]? with
  | none => rw [e] at h; simp at h
  | some j =>
    rw [e] at h
    obtain ⟨h1, h2⟩ := List.getElem?_eq_some_iff.mp e
    simp at h1 h2 h
    subst h2
    exact ⟨h1, by rw [← h]⟩
theorem lcS_ix {el : El} {Q : List D → Prop} (r : Nat → D) : ∀ {ds acc : List D} {i0 : Nat}, (∀ i d, ds[i]? = some d → ∀ kk : Option D → Prop, kk (some (r (i0 + i))) → el d kk) → Q (acc ++ (List.range ds.length).map fun i => r (i0 + i)) → lcS el ds acc Q
  | [], acc, i0, _, q => by simpa [lcS] using q
  | d :: ds, acc, i0, h, q => by
    unfold lcS
    refine h 0 d rfl _ ?_
    refine lcS_ix (i0 := i0 + 1) r (fun i d' hd kk hk => h (i + 1) d' (by simpa using hd) kk (by rw [show i0 + (i + 1) = i0 + 1 + i by omega]; exact hk)) ?_
    have e : acc ++ [r (i0 + 0)] ++ (List.range ds.length).map (fun i => r (i0 + 1 + i)) = acc ++ (List.range (d :: ds).length).map fun i => r (i0 + i) := by
      rw [List.length_cons, List.range_succ_eq_map, List.map_cons, List.map_map, List.append_assoc, List.singleton_append]
      congr 2
      refine List.map_congr_left fun x _ => ?_
      show r (i0 + 1 + x) = r (i0 + (x + 1))
      congr 1
      omega
    rw [e]
    exact q
def nums : List (Int × Int) := [(0, 1), (1, 1), (-1, 1), (2, 1), (1, 2), (-2, 3), (3, 1), (0, 1), (1, 1), (101, 7)]
theorem nums_sm : ∀ p ∈ nums, sm p := by
  intro p hp
  simp only [nums, List.mem_cons, List.not_mem_nil, or_false] at hp
  rcases hp with rfl | rfl | rfl | rfl | rfl | rfl | rfl | rfl | rfl | rfl <;> exact ⟨by decide, by decide, by decide, by decide⟩
section
variable {K : PySem.W.Frag} {a : Ad} {Q : D → Prop} {E : Er → Prop} {rows : List (Option Rw)} {lk : List Int} {sp : Int}
theorem w_ldeep (q : Q (deepD 35)) : wp__law_deep K a [] Q E := by
  unfold wp__law_deep b__law_deep
  walk_at "wp"
  refine ⟨by decide, by decide, by decide, ?_⟩
  refine forW_ix (fun i Γ => ∃ b, okB b ∧ Γ = [.d (deepD i), b]) ⟨.un, trivial, rfl⟩ ?_ ?_
  · rintro Γ ⟨b, k1, rfl⟩
    walk_at "wp"
    exact q
  · rintro i d hd Γ ⟨b, k1, rfl⟩ N hN
    walk_at "wp"
    exact ⟨by decide, hN _ ⟨.d d, trivial, rfl⟩⟩
theorem w_lunit {n : Nat} {k : Nat} (hn : n ≤ 1000) (q : Q (rD (unit n k))) : wp__law_unit K a [.int n, .int k] Q E := by
  unfold wp__law_unit b__law_unit
  walk_at "wp"
  refine ⟨by omega, by omega, by rw [rg_len]; omega, lcS_ix (i0 := 0) (fun i => pr (if i = k then (1, 1) else (0, 1))) (fun i d hd kk hk => ?_) ?_⟩
  · obtain ⟨hi, rfl⟩ := rg_get hd
    simp only [elW]
    walk_at "wp"
    rw [Nat.zero_add] at hk
    by_cases e : i = k
    · subst e
      simp only [if_true, pr] at hk
      simpa using hk
    · rw [if_neg e] at hk
      have : ¬ ((i : Int) = (k : Int)) := by omega
      simpa [this, pr] using hk
  · rw [List.nil_append, rg_len]
    simpa [rD, unit, List.map_map, Function.comp_def] using q
theorem w_lall {n : Nat} (hn : (rows.length : Int) + sp = n) (q : Q (.int n)) : wp__law_all_cells K a [sD rows lk sp] Q E := by
  unfold wp__law_all_cells b__law_all_cells sD
  walk_at "wp"
  refine ⟨_, rfl, ?_⟩
  walk_at "wp"
  refine ⟨_, rfl, ?_⟩
  walk_at "wp"
  simpa [hn] using q
theorem dr {m : Nat} (h1 : 1 ≤ m) (h2 : m < 2 ^ 30) (q : ∀ i : Nat, i < m → Q (.int i)) : wpS S_draw [.pool, .int m] Q E := by
  refine ⟨⟨m, rfl, by omega, by omega⟩, fun d hd => ?_, fun _ z => z.elim⟩
  obtain ⟨m', i, e, rfl, h0, hi⟩ := hd
  cases e
  have := q i.toNat (by omega)
  rwa [show ((i.toNat : Nat) : Int) = i by omega] at this
theorem w_lnumber (q : ∀ p, sm p → Q (pr p)) : wp__law_number K a [.pool] Q E := by
  unfold wp__law_number b__law_number
  walk_at "wp"
  iterate 11 refine ⟨by decide, ?_⟩
  refine dr (m := 10) (by decide) (by decide) fun i hi => ?_
  walk_at "wp"
  obtain ⟨p, hp⟩ : ∃ p, nums[i]? = some p := ⟨_, List.getElem?_eq_getElem (show i < nums.length by simpa [nums] using hi)⟩
  exact ⟨_, atI_get (f := pr) hp, q p (nums_sm p (List.mem_of_getElem? hp))⟩
theorem noL_prs {r : Rw} : noL (.tup (r.map pr)) = true := by
  unfold noL
  refine noLs_all.mpr fun x hx => ?_
  obtain ⟨p, _, rfl⟩ := List.mem_map.mp hx
  rfl
theorem okR_set {n j : Nat} {r : Rw} {p : Int × Int} (h : okR n r) (hp : sm p) : okR n (r.set j p) := ⟨by simpa using h.1, fun x hx => by
  rcases List.mem_or_eq_of_mem_set hx with h' | h'
  · exact h.2 x h'
  · exact h' ▸ hp⟩
theorem ixN_nat {n i : Nat} (h : i < n) : ixN n (i : Nat) = some i := by
  unfold ixN
  rw [if_pos (by omega), if_pos (by omega)]
  simp
theorem each_sm : ∀ {ds ys : List D}, Each (fun _ y => ∃ p, sm p ∧ y = pr p) ds ys → ∃ r : Rw, ys = r.map pr ∧ r.length = ds.length ∧ ∀ p ∈ r, sm p
  | [], _, .nil => ⟨[], rfl, rfl, by simp⟩
  | d :: ds, y :: ys, .cons ⟨p, hp, e⟩ h => by
    obtain ⟨r, e1, e2, e3⟩ := each_sm h
    refine ⟨p :: r, by rw [e, e1]; rfl, by simp [e2], fun x hx => ?_⟩
    rcases List.mem_cons.mp hx with rfl | hx
    · exact hp
    · exact e3 x hx
theorem w_lsome_row {n k : Nat} (h1 : 1 ≤ n) (h6 : n ≤ 6) (hk : k < n) (q : ∀ r, okR n r → Q (rD r)) : wp__law_some_row K a [.pool, .int n, .int k] Q E := by
  unfold wp__law_some_row b__law_some_row
  walk_at "wp"
  refine dr (m := 6) (by decide) (by decide) fun c hc => ?_
  walk_at "wp"
  by_cases c0 : (c : Int) = 0
  · simp only [c0, decide_true, if_true]
    exact w_lunit (by omega) (q _ unit_ok)
  simp only [c0, decide_false, if_false, Bool.false_eq_true]
  refine dr (m := n) h1 (by omega) fun j hj => ?_
  walk_at "wp"
  refine w_lunit (by omega) ?_
  unfold rD
  walk_at "wp"
  by_cases c2 : (2 : Int) < c
  · simp only [c2, if_true]
    refine w_lnumber fun p hp => ?_
    refine dr (m := n) h1 (by omega) fun i hi => ?_
    rw [isI]
    refine ⟨i, ixN_nat (by simpa [unit] using hi), ?_⟩
    by_cases c5 : (c : Int) = 5
    · rw [if_pos c5]
      refine ⟨by omega, by omega, by rw [rg_len]; omega, lcS_rel (R := fun _ y => ∃ p, sm p ∧ y = pr p) (fun d hd kk hk => ?_) fun ys hys => ?_⟩
      · simp only [elW]
        walk_at "wp"
        exact w_lnumber fun p hp => hk _ ⟨p, hp, rfl⟩
      · obtain ⟨r, e1, e2, e3⟩ := each_sm hys
        rw [List.nil_append, e1]
        rw [rg_len] at e2
        exact ⟨noL_prs, q r ⟨by omega, e3⟩⟩
    · rw [if_neg c5, ← List.map_set]
      exact ⟨noL_prs, q _ (okR_set unit_ok hp)⟩
  · rw [if_neg c2, if_neg (by omega)]
    exact ⟨noL_prs, q _ unit_ok⟩
end
end My
namespace My
open PySem L2 Ab Cc
local macro_rules | `(tactic| walk_at "wp") => `(tactic| (try simp -implicitDefEqProofs only [e_wp_v, e_wp_vr, e_wp_wk, e_wp_int, e_wp_bl, e_wp_non, e_wp_str, e_wp_ty, e_wp_cls, e_wp_con, e_wp_a0, e_wp_ac, e_wp_tup, e_wp_dic, e_wp_lst, e_wp_ofL, e_wp_op, e_wp_nt, e_wp_and, e_wp_or, e_wp_chain, e_wp_neg, e_wp_isN, e_wp_notN, e_wp_tst, e_wp_tB', e_wp_tand, e_wp_tor, e_wp_tnot, e_wp_tyes, e_wp_ife, e_wp_bi, e_wp_o0, e_wp_o1, e_wp_sl, e_wp_fld, e_wp_nm, e_wp_g0, e_wp_gc, e_wp_gt, e_wp_iseq, e_wp_irg1, e_wp_irg2, e_wp_ienum, e_wp_izip, e_wp_bor, e_wp_borL, e_wp_app, e_wp_ext, e_wp_popAt, e_wp_lc, e_wp_dct1, e_wp_call, e_wp_call0, e_wp_nil, e_wp_seq, e_wp_brk, e_wp_cnt, e_wp_drop, e_wp_ret, e_wp_retN, e_wp_ifs, e_wp_asg, e_wp_own, e_wp_par, e_wp_fors, e_wp_whs, e_wp_aug, e_wp_setO, e_wp_rai, e_wp_rai0, e_wp_tryAs, e_wp_add, e_wp_mul, e_wp_sub, e_wp_lt, e_wp_le, e_wp_gt', e_wp_ge, e_wp_fdiv, e_wp_mod, e_wp_pow, e_wp_eq, e_wp_ne, e_wp_inn, e_wp_nin, e_wp_ix, e_wp_len, e_wp_abs, e_wp_toInt, e_wp_gcd, e_wp_all, e_wp_any, e_wp_sum, e_wp_tuple, e_wp_isT, e_wp_isC, e_wp_list, e_wp_listRg, e_wp_addL, e_wp_retO, e_wp_retL, e_wp_callL, e_wp_mk, e_wp_setf, e_wp_mcountT, e_wp_tupleX, e_wp_mcount, e_wp_mindex, e_wp_lcm, e_wp_astar, e_wp_revL, e_wp_lc2, e_wp_callG, e_wp_isX, e_wp_xf, e_wp_fdivM, r_get0, r_getS, r_put0, r_putS, r_var, r_vd, r_vown, r_isBl, r_isI, r_isSqT, r_isSqL, r_two, r_isOwn, r_no, r_noU, r_unxI, r_unxT, r_unxX, r_unxO, r_addI, r_addT, r_addL, r_mulI, r_mulT, r_ii, r_ci, r_eqI, r_eqS, r_eqB, r_inT, r_inL, r_ixT, r_ixL, r_lenT, r_lenL, r_abs, r_intI, r_intB, r_gcd, r_all, r_sum, r_tupL, r_tupT, r_sqT, r_sqL, r_rg1, r_en, r_zipT, r_zipL, r_slT, r_slL, r_noOwn0, r_noOwnS, r_wip0, r_wipS, r_start, r_bodyN, r_body, r_lt, r_isN0, r_isNT, r_isNI, r_isNL, r_okU, r_okD, r_noOb0, r_noObU, r_noObD, r_noObO, r_frz0, r_frzU, r_frzD, r_frzO, r_noLi, r_noLb, r_noLs, r_noLn, rev, List.map_cons, List.map_nil, List.length_cons, List.length_nil, List.replicate, List.nil_append, List.cons_append, Nat.sub_self, Nat.reduceAdd, Nat.reduceSub, not_false_eq_true, and_self, true_and, and_true, if_true, if_false, Bool.not_true, Bool.not_false, Bool.false_eq_true, and_false, false_and, reduceIte, ite_self, Nat.zero_add, decide_eq_true_eq]))
local macro_rules | `(tactic| walk_at "ws") => `(tactic| simp_all [r_get0, r_getS, r_put0, r_putS, r_var, r_vd, r_vown, r_isBl, r_isI, r_isSqT, r_isSqL, r_two, r_isOwn, r_no, r_noU, r_unxI, r_unxT, r_unxX, r_unxO, r_addI, r_addT, r_addL, r_mulI, r_mulT, r_ii, r_ci, r_eqI, r_eqS, r_eqB, r_inT, r_inL, r_ixT, r_ixL, r_lenT, r_lenL, r_abs, r_intI, r_intB, r_gcd, r_all, r_sum, r_tupL, r_tupT, r_sqT, r_sqL, r_rg1, r_en, r_zipT, r_zipL, r_slT, r_slL, r_noOwn0, r_noOwnS, r_wip0, r_wipS, r_start, r_bodyN, r_body, r_lt, r_isN0, r_isNT, r_isNI, r_isNL, r_okU, r_okD, r_noOb0, r_noObU, r_noObD, r_noObO, r_frz0, r_frzU, r_frzD, r_frzO, r_noLi, r_noLb, r_noLs, r_noLn, isTy, taggedD, tagD])
theorem erase_perm : ∀ {r : List D} {j : Nat} (h : j < r.length), (r[j] :: r.eraseIdx j).Perm r
  | x :: r, 0, _ => by simp
  | x :: r, j + 1, h => by
    have h' : j < r.length := by simpa using h
    simp only [List.getElem_cons_succ, List.eraseIdx_cons_succ]
    exact (List.Perm.swap _ _ _).trans ((erase_perm h').cons x)
section
variable {K : PySem.W.Frag} {a : Ad} {Q : D → Prop} {E : Er → Prop} {rows : List (Option Rw)} {lk : List Int} {sp : Int}
theorem w_lmixed {xs : List D} (hl : xs.length ≤ 100) (q : ∀ ys, ys.Perm xs → Q (.lst ys)) : wp__law_mixed K a [.pool, .lst xs] Q E := by
  unfold wp__law_mixed b__law_mixed
  walk_at "wp"
  refine ⟨by omega, by omega, by omega, ?_⟩
  refine forW_ix (fun i Γ => ∃ r o b4, okB b4 ∧ (o ++ r).Perm xs ∧ o.length = i ∧ Γ = [.d .pool, .d (.lst xs), .own r, .own o, b4]) ⟨xs, [], .un, trivial, by simp, rfl, rfl⟩ ?_ ?_
  · rintro Γ ⟨r, o, b4, k4, hp, ho, rfl⟩
    walk_at "wp"
    rw [rg_len] at ho
    have e := hp.length_eq
    simp at e ho
    have : r = [] := List.eq_nil_of_length_eq_zero (by omega)
    subst this
    exact q _ (by simpa using hp)
  · rintro i d hd Γ ⟨r, o, b4, k4, hp, ho, rfl⟩ N hN
    obtain ⟨hi, rfl⟩ := rg_get hd
    have e := hp.length_eq
    simp at e hi
    walk_at "wp"
    refine dr (m := r.length) (by omega) (by omega) fun j hj => ?_
    rw [isI]
    refine ⟨r[j], by omega, by simp [hj], by omega, by omega, hN _ ⟨r.eraseIdx j, o ++ [r[j]], .d (.int (i : Nat)), trivial, ?_, by simp [ho], by simp⟩⟩
    rw [List.append_assoc, List.singleton_append]
    exact ((erase_perm hj).append_left o).trans hp
theorem w_lis_int {x : D} {lo hi : Int} (hx : taggedD x = true) (q : Q (.bl (fromTo lo hi x))) : wp__law_is_int K a [x, .int lo, .int hi] Q E := by
  unfold wp__law_is_int b__law_is_int
  walk_at "wp"
  refine ⟨hx, ?_⟩
  cases x <;> simp_all [isTy, fromTo, r_ii, r_isBl, taggedD, tagD]
  split <;> simp_all
theorem w_lwished (hn : rows.length ≤ 6) (q : Q (.lst ((wI rows).map D.int))) : wp__law_wished K a [sD rows lk sp] Q E := by
  unfold wp__law_wished b__law_wished sD
  walk_at "wp"
  refine ⟨_, rfl, ?_⟩
  walk_at "wp"
  rw [List.length_map]
  refine ⟨by omega, by omega, by rw [rg_len]; omega, lcS_fm (f := fun d => match d with
    | .int i => if (rows.getD i.toNat none).isSome then some (.int i) else none
    | _ => none) (fun d hd kk hk => ?_) ?_⟩
  · obtain ⟨i, hi, rfl⟩ := mem_rg hd
    have hi : i < rows.length := by omega
    rw [Int.zero_add] at *
    simp only [elW]
    walk_at "wp"
    refine ⟨_, rfl, ?_⟩
    walk_at "wp"
    refine ⟨_, atI_get (f := oD) (List.getElem?_eq_getElem hi), ?_⟩
    have e1 : rows.getD i none = rows[i] := by simp [List.getD, hi]
    simp only [Int.toNat_natCast, e1] at hk
    cases h : rows[i] with
    | none =>
      rw [h] at hk
      simp only [oD]
      walk_at "wp"
      exact ⟨rfl, by simpa [isTy] using hk⟩
    | some r =>
      rw [h] at hk
      simp only [oD, rD]
      walk_at "wp"
      exact ⟨rfl, by simpa [isTy] using hk⟩
  · rw [List.nil_append]
    have e : (rgAt 0 ((rows.length : Int)).toNat).filterMap (fun d => match d with
      | .int i => if (rows.getD i.toNat none).isSome then some (D.int i) else none
      | _ => none) = (wI rows).map D.int := by
      rw [rgAt, List.filterMap_map, wI, List.map_map]
      refine fm_filter fun i hi => ?_
      simp
    rw [e]; exact q
end
end My
namespace My
open PySem L2 Ab Cc
local macro_rules | `(tactic| walk_at "wp") => `(tactic| (try simp -implicitDefEqProofs only [e_wp_v, e_wp_vr, e_wp_wk, e_wp_int, e_wp_bl, e_wp_non, e_wp_str, e_wp_ty, e_wp_cls, e_wp_con, e_wp_a0, e_wp_ac, e_wp_tup, e_wp_dic, e_wp_lst, e_wp_ofL, e_wp_op, e_wp_nt, e_wp_and, e_wp_or, e_wp_chain, e_wp_neg, e_wp_isN, e_wp_notN, e_wp_tst, e_wp_tB', e_wp_tand, e_wp_tor, e_wp_tnot, e_wp_tyes, e_wp_ife, e_wp_bi, e_wp_o0, e_wp_o1, e_wp_sl, e_wp_fld, e_wp_nm, e_wp_g0, e_wp_gc, e_wp_gt, e_wp_iseq, e_wp_irg1, e_wp_irg2, e_wp_ienum, e_wp_izip, e_wp_bor, e_wp_borL, e_wp_app, e_wp_ext, e_wp_popAt, e_wp_lc, e_wp_dct1, e_wp_call, e_wp_call0, e_wp_nil, e_wp_seq, e_wp_brk, e_wp_cnt, e_wp_drop, e_wp_ret, e_wp_retN, e_wp_ifs, e_wp_asg, e_wp_own, e_wp_par, e_wp_fors, e_wp_whs, e_wp_aug, e_wp_setO, e_wp_rai, e_wp_rai0, e_wp_tryAs, e_wp_add, e_wp_mul, e_wp_sub, e_wp_lt, e_wp_le, e_wp_gt', e_wp_ge, e_wp_fdiv, e_wp_mod, e_wp_pow, e_wp_eq, e_wp_ne, e_wp_inn, e_wp_nin, e_wp_ix, e_wp_len, e_wp_abs, e_wp_toInt, e_wp_gcd, e_wp_all, e_wp_any, e_wp_sum, e_wp_tuple, e_wp_isT, e_wp_isC, e_wp_list, e_wp_listRg, e_wp_addL, e_wp_retO, e_wp_retL, e_wp_callL, e_wp_mk, e_wp_setf, e_wp_mcountT, e_wp_tupleX, e_wp_mcount, e_wp_mindex, e_wp_lcm, e_wp_astar, e_wp_revL, e_wp_lc2, e_wp_callG, e_wp_isX, e_wp_xf, e_wp_fdivM, r_get0, r_getS, r_put0, r_putS, r_var, r_vd, r_vown, r_isBl, r_isI, r_isSqT, r_isSqL, r_two, r_isOwn, r_no, r_noU, r_unxI, r_unxT, r_unxX, r_unxO, r_addI, r_addT, r_addL, r_mulI, r_mulT, r_ii, r_ci, r_eqI, r_eqS, r_eqB, r_inT, r_inL, r_ixT, r_ixL, r_lenT, r_lenL, r_abs, r_intI, r_intB, r_gcd, r_all, r_sum, r_tupL, r_tupT, r_sqT, r_sqL, r_rg1, r_en, r_zipT, r_zipL, r_slT, r_slL, r_noOwn0, r_noOwnS, r_wip0, r_wipS, r_start, r_bodyN, r_body, r_lt, r_isN0, r_isNT, r_isNI, r_isNL, r_okU, r_okD, r_noOb0, r_noObU, r_noObD, r_noObO, r_frz0, r_frzU, r_frzD, r_frzO, r_noLi, r_noLb, r_noLs, r_noLn, rev, List.map_cons, List.map_nil, List.length_cons, List.length_nil, List.replicate, List.nil_append, List.cons_append, Nat.sub_self, Nat.reduceAdd, Nat.reduceSub, not_false_eq_true, and_self, true_and, and_true, if_true, if_false, Bool.not_true, Bool.not_false, Bool.false_eq_true, and_false, false_and, reduceIte, ite_self, Nat.zero_add, decide_eq_true_eq]))
local macro_rules | `(tactic| walk_at "ws") => `(tactic| simp_all [r_get0, r_getS, r_put0, r_putS, r_var, r_vd, r_vown, r_isBl, r_isI, r_isSqT, r_isSqL, r_two, r_isOwn, r_no, r_noU, r_unxI, r_unxT, r_unxX, r_unxO, r_addI, r_addT, r_addL, r_mulI, r_mulT, r_ii, r_ci, r_eqI, r_eqS, r_eqB, r_inT, r_inL, r_ixT, r_ixL, r_lenT, r_lenL, r_abs, r_intI, r_intB, r_gcd, r_all, r_sum, r_tupL, r_tupT, r_sqT, r_sqL, r_rg1, r_en, r_zipT, r_zipL, r_slT, r_slL, r_noOwn0, r_noOwnS, r_wip0, r_wipS, r_start, r_bodyN, r_body, r_lt, r_isN0, r_isNT, r_isNI, r_isNL, r_okU, r_okD, r_noOb0, r_noObU, r_noObD, r_noObO, r_frz0, r_frzU, r_frzD, r_frzO, r_noLi, r_noLb, r_noLs, r_noLn, isTy, taggedD, tagD])
theorem lcS_sub {el : El} : ∀ {ds acc : List D} {Q : List D → Prop}, (∀ d ∈ ds, ∀ k : Option D → Prop, k none → k (some d) → el d k) → (∀ ys : List D, ys.Sublist ds → Q (acc ++ ys)) → lcS el ds acc Q
  | [], acc, Q, _, q => by simpa [lcS] using q [] (List.Sublist.refl _)
  | d :: ds, acc, Q, h, q => by
    unfold lcS
    refine h d List.mem_cons_self _ ?_ ?_
    · exact lcS_sub (fun d' m => h d' (List.mem_cons_of_mem _ m)) fun ys hy => q ys (hy.cons d)
    · refine lcS_sub (fun d' m => h d' (List.mem_cons_of_mem _ m)) fun ys hy => ?_
      rw [List.append_assoc]
      exact q (d :: ys) (hy.cons₂ d)
/-- rows of a wish of n cells, as data -/
def RW (n : Nat) (ds : List D) : Prop := ∃ rows : List (Option Rw), ds = rows.map oD ∧ rows.length = n ∧ ∀ x ∈ rows, ∀ r, x = some r → okR n r
def RD (n : Nat) (d : D) : Prop := d = .non ∨ ∃ r, okR n r ∧ d = rD r
theorem rd_o {n : Nat} {d : D} (h : RD n d) : ∃ x : Option Rw, d = oD x ∧ ∀ r, x = some r → okR n r := by
  rcases h with rfl | ⟨r, hr, rfl⟩
  · exact ⟨none, rfl, fun r e => by cases e⟩
  · exact ⟨some r, rfl, fun r' e => by cases e; exact hr⟩
theorem rw_of {n : Nat} : ∀ {ds ys : List D}, Each (fun _ y => RD n y) ds ys → ∃ rows : List (Option Rw), ys = rows.map oD ∧ rows.length = ds.length ∧ ∀ x ∈ rows, ∀ r, x = some r → okR n r
  | [], _, .nil => ⟨[], rfl, rfl, by simp⟩
  | d :: ds, y :: ys, .cons h t => by
    obtain ⟨rows, e1, e2, e3⟩ := rw_of t
    obtain ⟨x, ex, hx⟩ := rd_o h
    refine ⟨x :: rows, by rw [ex, e1]; rfl, by simp [e2], fun z hz r e => ?_⟩
    rcases List.mem_cons.mp hz with rfl | hz
    · exact hx r e
    · exact e3 z hz r e
theorem RW.mk {n : Nat} {ds ys : List D} (h : Each (fun _ y => RD n y) ds ys) (hl : ds.length = n) : RW n ys := by
  obtain ⟨rows, e1, e2, e3⟩ := rw_of h
  exact ⟨rows, e1, by omega, e3⟩
theorem RW.get {n i : Nat} {ds : List D} (h : RW n ds) (hi : i < n) : ∃ d, ds[i]? = some d ∧ RD n d := by
  obtain ⟨rows, rfl, hl, hr⟩ := h
  have hi' : i < rows.length := by omega
  refine ⟨oD rows[i], by simp [hi'], ?_⟩
  cases e : rows[i] with
  | none => exact .inl rfl
  | some r => exact .inr ⟨r, hr _ (List.getElem_mem hi') r e, rfl⟩
theorem RW.len {n : Nat} {ds : List D} (h : RW n ds) : ds.length = n := by
  obtain ⟨rows, rfl, hl, _⟩ := h
  simpa using hl
theorem RW.mem {n : Nat} {ds : List D} (h : RW n ds) : ∀ d ∈ ds, RD n d := fun d hd => by
  obtain ⟨i, hi⟩ := List.mem_iff_getElem?.mp hd
  have hn : i < n := by
    have := (List.getElem?_eq_some_iff.mp hi).1
    rw [h.len] at this; exact this
  obtain ⟨d', e, r⟩ := h.get hn
  rw [hi] at e; cases e; exact r
theorem sub_asc {n : Nat} {ys : List D} (h : ys.Sublist (rgAt 0 n)) : ∃ ls : List Int, ys = ls.map D.int ∧ asc n ls := by
  unfold rgAt at h
  obtain ⟨l, h1, rfl⟩ := List.sublist_map_iff.mp h
  refine ⟨l.map (fun i : Nat => (i : Int)), by simp, ?_, fun c hc => ?_⟩
  · rw [List.pairwise_map]
    exact (List.Pairwise.sublist h1 List.pairwise_lt_range).imp fun h => by omega
  · obtain ⟨i, hi, rfl⟩ := List.mem_map.mp hc
    have := List.mem_range.mp (h1.mem hi)
    omega
section
variable {K : PySem.W.Frag} {a : Ad} {Q : D → Prop} {E : Er → Prop} {rows : List (Option Rw)} {lk : List Int} {sp : Int}
theorem w_lmade (w : WC K a) (h : okW rows lk sp) (q : Q (wO a rows lk sp)) : wp__law_made_wish K a [sD rows lk sp] Q E := by
  unfold wp__law_made_wish b__law_made_wish sD
  walk_at "wp"
  refine ⟨_, rfl, ?_⟩
  walk_at "wp"
  refine ⟨_, rfl, ?_⟩
  walk_at "wp"
  refine ⟨_, rfl, ?_⟩
  walk_at "wp"
  exact w_Wish w h q
theorem w_lwish (q : ∀ rows lk sp, okW rows lk sp → rows.length ≤ 5 → Q (sD rows lk sp)) : wp__law_wish K a [.pool, .int 5] Q E := by
  unfold wp__law_wish b__law_wish
  walk_at "wp"
  refine dr (m := 5) (by decide) (by decide) fun n0 hn0 => ?_
  walk_at "wp"
  refine dr (m := 5) (by decide) (by decide) fun c hc => ?_
  obtain ⟨n, hn⟩ : ∃ n : Nat, n = 1 + n0 := ⟨_, rfl⟩
  have en : (1 : Int) + (n0 : Int) = (n : Nat) := by omega
  rw [en]
  have n1 : 1 ≤ n := by omega
  have n5 : n ≤ 5 := by omega
  walk_at "wp"
  refine ⟨by omega, by omega, by rw [rg_len]; omega, lcS_rel (R := fun _ y => RD n y) (fun d hd kk hk => ?_) fun ys hys => ?_⟩
  · obtain ⟨i, hi, rfl⟩ := mem_rg hd
    have hi : i < n := by omega
    rw [Int.zero_add]
    simp only [elW]
    walk_at "wp"
    exact w_lsome_row n1 (by omega) hi fun r hr => hk _ (.inr ⟨r, hr, rfl⟩)
  rw [List.nil_append]
  have A := RW.mk hys (by rw [rg_len]; omega)
  clear hys
  have last : ∀ (rws : List D) (ls : List Int), RW n rws → asc n ls → 5 ≤ 100000 ∧ wpS S_draw [D.pool, D.int 5] (fun d => ixW (D.lst [D.int 0, D.int 0, D.int 0, D.int 1, D.int 2]) d fun d => 3 ≤ 100000 ∧ Q (D.tup [D.tup rws, D.tup (ls.map D.int), d])) fun er => E er := by
    intro rws ls C ha
    obtain ⟨rows, rfl, hl, hr⟩ := C
    refine ⟨by decide, dr (m := 5) (by decide) (by decide) fun j hj => ?_⟩
    have hj' : j = 0 ∨ j = 1 ∨ j = 2 ∨ j = 3 ∨ j = 4 := by omega
    have fin : ∀ s : Int, 0 ≤ s → s ≤ 2 → Q (D.tup [D.tup (rows.map oD), D.tup (ls.map D.int), .int s]) := fun s h0 h2 =>
      q rows ls s ⟨by omega, by omega, by rw [hl]; exact hr, by rw [hl]; exact ha, h0, h2⟩ (by omega)
    rcases hj' with rfl | rfl | rfl | rfl | rfl
    · exact ⟨_, rfl, by decide, fin 0 (by decide) (by decide)⟩
    · exact ⟨_, rfl, by decide, fin 0 (by decide) (by decide)⟩
    · exact ⟨_, rfl, by decide, fin 0 (by decide) (by decide)⟩
    · exact ⟨_, rfl, by decide, fin 1 (by decide) (by decide)⟩
    · exact ⟨_, rfl, by decide, fin 2 (by decide) (by decide)⟩
  have hcs : c = 0 ∨ c = 1 ∨ c = 2 ∨ c = 3 ∨ c = 4 := by omega
  rcases hcs with rfl | rfl | rfl | rfl | rfl
  · rw [if_pos (by decide)]
    refine ⟨by omega, by omega, w_lmixed (by simp; omega) fun zs hp => ?_⟩
    have hz : zs.length = n := by simpa using hp.length_eq
    simp only [isSq]
    refine ⟨by omega, lcS_rel (R := fun _ y => RD n y) (fun d hd kk hk => ?_) fun ac hac => ?_⟩
    · have hm := hp.mem_iff.mp hd
      simp only [List.map_map, List.mem_map, List.mem_range, Function.comp_def] at hm
      obtain ⟨i, hi, rfl⟩ := hm
      simp only [elW]
      walk_at "wp"
      exact w_lunit (by omega) (hk _ (.inr ⟨_, unit_ok, rfl⟩))
    have B := RW.mk hac hz
    rw [List.nil_append, if_neg (by decide), if_neg (by decide)]
    refine ⟨by decide, dr (m := 4) (by decide) (by decide) fun z hz' => ?_⟩
    rw [r_eqI]
    by_cases z0 : (z : Int) = 0
    · simp only [z0, decide_true, if_true]
      refine ⟨by omega, by omega, by rw [rg_len]; omega, lcS_sub (fun d hd kk h1 h2 => ?_) fun us hus => ?_⟩
      · obtain ⟨i, hi, rfl⟩ := mem_rg hd
        simp only [elW]
        walk_at "wp"
        refine dr (m := 3) (by decide) (by decide) fun j hj => ?_
        walk_at "wp"
        by_cases j0 : (j : Int) = 0
        · simp only [j0, decide_true, if_true]
          exact h2
        · simp only [j0, decide_false, if_false, Bool.false_eq_true]
          exact h1
      · rw [List.nil_append]
        have hus' : us.Sublist (rgAt 0 n) := by simpa using hus
        obtain ⟨ls, rfl, hasc⟩ := sub_asc hus'
        refine ⟨by omega, by omega, by rw [rg_len]; omega, lcS_rel (R := fun _ y => RD n y) (fun d hd kk hk => ?_) fun ad had => ?_⟩
        · obtain ⟨i, hi, rfl⟩ := mem_rg hd
          have hi : i < n := by omega
          rw [Int.zero_add]
          obtain ⟨dd, e1, e2⟩ := B.get hi
          have e3 : atI ac (i : Nat) = some dd := by
            have := atI_get (f := fun x : D => x) e1
            simpa using this
          simp only [elW]
          walk_at "wp"
          refine ⟨ls, rfl, ?_⟩
          by_cases m : (i : Int) ∈ ls
          · simp only [m, decide_true, if_true]
            refine dr (m := 4) (by decide) (by decide) fun j hj => ?_
            walk_at "wp"
            by_cases j0 : (0 : Int) < j
            · simp only [j0, decide_true, if_true]
              exact w_lunit (by omega) (hk _ (.inr ⟨_, unit_ok, rfl⟩))
            · simp only [j0, decide_false, if_false, Bool.false_eq_true]
              exact ⟨dd, e3, hk _ e2⟩
          · simp only [m, decide_false, if_false, Bool.false_eq_true]
            exact ⟨dd, e3, hk _ e2⟩
        · have C := RW.mk had (by rw [rg_len]; omega)
          rw [List.nil_append]
          exact last _ _ C hasc
    · simp only [z0, decide_false, if_false, Bool.false_eq_true]
      exact last _ [] B ⟨.nil, by simp⟩
  · rw [if_neg (by decide), if_pos (by decide)]
    refine ⟨by omega, by omega, by rw [rg_len]; omega, lcS_rel (R := fun _ y => RD n y) (fun d hd kk hk => ?_) fun ac hac => ?_⟩
    · obtain ⟨i, hi, rfl⟩ := mem_rg hd
      simp only [elW]
      walk_at "wp"
      refine dr (m := n) n1 (by omega) fun j hj => ?_
      walk_at "wp"
      exact w_lunit (by omega) (hk _ (.inr ⟨_, unit_ok, rfl⟩))
    have B := RW.mk hac (by rw [rg_len]; omega)
    rw [List.nil_append, if_neg (by decide)]
    refine ⟨by decide, dr (m := 4) (by decide) (by decide) fun z hz' => ?_⟩
    rw [r_eqI]
    by_cases z0 : (z : Int) = 0
    · simp only [z0, decide_true, if_true]
      refine ⟨by omega, by omega, by rw [rg_len]; omega, lcS_sub (fun d hd kk h1 h2 => ?_) fun us hus => ?_⟩
      · obtain ⟨i, hi, rfl⟩ := mem_rg hd
        simp only [elW]
        walk_at "wp"
        refine dr (m := 3) (by decide) (by decide) fun j hj => ?_
        walk_at "wp"
        by_cases j0 : (j : Int) = 0
        · simp only [j0, decide_true, if_true]
          exact h2
        · simp only [j0, decide_false, if_false, Bool.false_eq_true]
          exact h1
      · rw [List.nil_append]
        have hus' : us.Sublist (rgAt 0 n) := by simpa using hus
        obtain ⟨ls, rfl, hasc⟩ := sub_asc hus'
        refine ⟨by omega, by omega, by rw [rg_len]; omega, lcS_rel (R := fun _ y => RD n y) (fun d hd kk hk => ?_) fun ad had => ?_⟩
        · obtain ⟨i, hi, rfl⟩ := mem_rg hd
          have hi : i < n := by omega
          rw [Int.zero_add]
          obtain ⟨dd, e1, e2⟩ := B.get hi
          have e3 : atI ac (i : Nat) = some dd := by
            have := atI_get (f := fun x : D => x) e1
            simpa using this
          simp only [elW]
          walk_at "wp"
          refine ⟨ls, rfl, ?_⟩
          by_cases m : (i : Int) ∈ ls
          · simp only [m, decide_true, if_true]
            refine dr (m := 4) (by decide) (by decide) fun j hj => ?_
            walk_at "wp"
            by_cases j0 : (0 : Int) < j
            · simp only [j0, decide_true, if_true]
              exact w_lunit (by omega) (hk _ (.inr ⟨_, unit_ok, rfl⟩))
            · simp only [j0, decide_false, if_false, Bool.false_eq_true]
              exact ⟨dd, e3, hk _ e2⟩
          · simp only [m, decide_false, if_false, Bool.false_eq_true]
            exact ⟨dd, e3, hk _ e2⟩
        · have C := RW.mk had (by rw [rg_len]; omega)
          rw [List.nil_append]
          exact last _ _ C hasc
    · simp only [z0, decide_false, if_false, Bool.false_eq_true]
      exact last _ [] B ⟨.nil, by simp⟩
  · rw [if_neg (by decide), if_neg (by decide), if_neg (by decide)]
    refine ⟨by decide, dr (m := 4) (by decide) (by decide) fun z hz' => ?_⟩
    rw [r_eqI]
    by_cases z0 : (z : Int) = 0
    · simp only [z0, decide_true, if_true]
      refine ⟨by omega, by omega, by rw [rg_len]; omega, lcS_sub (fun d hd kk h1 h2 => ?_) fun us hus => ?_⟩
      · obtain ⟨i, hi, rfl⟩ := mem_rg hd
        simp only [elW]
        walk_at "wp"
        refine dr (m := 3) (by decide) (by decide) fun j hj => ?_
        walk_at "wp"
        by_cases j0 : (j : Int) = 0
        · simp only [j0, decide_true, if_true]
          exact h2
        · simp only [j0, decide_false, if_false, Bool.false_eq_true]
          exact h1
      · rw [List.nil_append]
        have hus' : us.Sublist (rgAt 0 n) := by simpa using hus
        obtain ⟨ls, rfl, hasc⟩ := sub_asc hus'
        refine ⟨by omega, by omega, by rw [rg_len]; omega, lcS_rel (R := fun _ y => RD n y) (fun d hd kk hk => ?_) fun ad had => ?_⟩
        · obtain ⟨i, hi, rfl⟩ := mem_rg hd
          have hi : i < n := by omega
          rw [Int.zero_add]
          obtain ⟨dd, e1, e2⟩ := A.get hi
          have e3 : atI ys (i : Nat) = some dd := by
            have := atI_get (f := fun x : D => x) e1
            simpa using this
          simp only [elW]
          walk_at "wp"
          refine ⟨ls, rfl, ?_⟩
          by_cases m : (i : Int) ∈ ls
          · simp only [m, decide_true, if_true]
            refine dr (m := 4) (by decide) (by decide) fun j hj => ?_
            walk_at "wp"
            by_cases j0 : (0 : Int) < j
            · simp only [j0, decide_true, if_true]
              exact w_lunit (by omega) (hk _ (.inr ⟨_, unit_ok, rfl⟩))
            · simp only [j0, decide_false, if_false, Bool.false_eq_true]
              exact ⟨dd, e3, hk _ e2⟩
          · simp only [m, decide_false, if_false, Bool.false_eq_true]
            exact ⟨dd, e3, hk _ e2⟩
        · have C := RW.mk had (by rw [rg_len]; omega)
          rw [List.nil_append]
          exact last _ _ C hasc
    · simp only [z0, decide_false, if_false, Bool.false_eq_true]
      exact last _ [] A ⟨.nil, by simp⟩
  all_goals
    rw [if_neg (by decide), if_neg (by decide), if_pos (by decide)]
    refine ⟨by rw [A.len]; omega, lcS_rel (R := fun _ y => RD n y) (fun d hd kk hk => ?_) fun ac hac => ?_⟩
    · have hd := A.mem d hd
      simp only [elW]
      walk_at "wp"
      refine dr (m := 5) (by decide) (by decide) fun j hj => ?_
      walk_at "wp"
      by_cases j0 : (j : Int) = 0
      · simp only [j0, decide_true, if_true]
        exact hk _ (.inl rfl)
      · simp only [j0, decide_false, if_false, Bool.false_eq_true]
        exact hk _ hd
    have B := RW.mk hac A.len
    rw [List.nil_append]
    refine ⟨by decide, dr (m := 4) (by decide) (by decide) fun z hz' => ?_⟩
    rw [r_eqI]
    by_cases z0 : (z : Int) = 0
    · simp only [z0, decide_true, if_true]
      refine ⟨by omega, by omega, by rw [rg_len]; omega, lcS_sub (fun d hd kk h1 h2 => ?_) fun us hus => ?_⟩
      · obtain ⟨i, hi, rfl⟩ := mem_rg hd
        simp only [elW]
        walk_at "wp"
        refine dr (m := 3) (by decide) (by decide) fun j hj => ?_
        walk_at "wp"
        by_cases j0 : (j : Int) = 0
        · simp only [j0, decide_true, if_true]
          exact h2
        · simp only [j0, decide_false, if_false, Bool.false_eq_true]
          exact h1
      · rw [List.nil_append]
        have hus' : us.Sublist (rgAt 0 n) := by simpa using hus
        obtain ⟨ls, rfl, hasc⟩ := sub_asc hus'
        refine ⟨by omega, by omega, by rw [rg_len]; omega, lcS_rel (R := fun _ y => RD n y) (fun d hd kk hk => ?_) fun ad had => ?_⟩
        · obtain ⟨i, hi, rfl⟩ := mem_rg hd
          have hi : i < n := by omega
          rw [Int.zero_add]
          obtain ⟨dd, e1, e2⟩ := B.get hi
          have e3 : atI ac (i : Nat) = some dd := by
            have := atI_get (f := fun x : D => x) e1
            simpa using this
          simp only [elW]
          walk_at "wp"
          refine ⟨ls, rfl, ?_⟩
          by_cases m : (i : Int) ∈ ls
          · simp only [m, decide_true, if_true]
            refine dr (m := 4) (by decide) (by decide) fun j hj => ?_
            walk_at "wp"
            by_cases j0 : (0 : Int) < j
            · simp only [j0, decide_true, if_true]
              exact w_lunit (by omega) (hk _ (.inr ⟨_, unit_ok, rfl⟩))
            · simp only [j0, decide_false, if_false, Bool.false_eq_true]
              exact ⟨dd, e3, hk _ e2⟩
          · simp only [m, decide_false, if_false, Bool.false_eq_true]
            exact ⟨dd, e3, hk _ e2⟩
        · have C := RW.mk had (by rw [rg_len]; omega)
          rw [List.nil_append]
          exact last _ _ C hasc
    · simp only [z0, decide_false, if_false, Bool.false_eq_true]
      exact last _ [] B ⟨.nil, by simp⟩
end
end My
namespace My
open PySem L2 Ab Cc
local macro_rules | `(tactic| walk_at "wp") => `(tactic| (try simp -implicitDefEqProofs only [e_wp_v, e_wp_vr, e_wp_wk, e_wp_int, e_wp_bl, e_wp_non, e_wp_str, e_wp_ty, e_wp_cls, e_wp_con, e_wp_a0, e_wp_ac, e_wp_tup, e_wp_dic, e_wp_lst, e_wp_ofL, e_wp_op, e_wp_nt, e_wp_and, e_wp_or, e_wp_chain, e_wp_neg, e_wp_isN, e_wp_notN, e_wp_tst, e_wp_tB', e_wp_tand, e_wp_tor, e_wp_tnot, e_wp_tyes, e_wp_ife, e_wp_bi, e_wp_o0, e_wp_o1, e_wp_sl, e_wp_fld, e_wp_nm, e_wp_g0, e_wp_gc, e_wp_gt, e_wp_iseq, e_wp_irg1, e_wp_irg2, e_wp_ienum, e_wp_izip, e_wp_bor, e_wp_borL, e_wp_app, e_wp_ext, e_wp_popAt, e_wp_lc, e_wp_dct1, e_wp_call, e_wp_call0, e_wp_nil, e_wp_seq, e_wp_brk, e_wp_cnt, e_wp_drop, e_wp_ret, e_wp_retN, e_wp_ifs, e_wp_asg, e_wp_own, e_wp_par, e_wp_fors, e_wp_whs, e_wp_aug, e_wp_setO, e_wp_rai, e_wp_rai0, e_wp_tryAs, e_wp_add, e_wp_mul, e_wp_sub, e_wp_lt, e_wp_le, e_wp_gt', e_wp_ge, e_wp_fdiv, e_wp_mod, e_wp_pow, e_wp_eq, e_wp_ne, e_wp_inn, e_wp_nin, e_wp_ix, e_wp_len, e_wp_abs, e_wp_toInt, e_wp_gcd, e_wp_all, e_wp_any, e_wp_sum, e_wp_tuple, e_wp_isT, e_wp_isC, e_wp_list, e_wp_listRg, e_wp_addL, e_wp_retO, e_wp_retL, e_wp_callL, e_wp_mk, e_wp_setf, e_wp_mcountT, e_wp_tupleX, e_wp_mcount, e_wp_mindex, e_wp_lcm, e_wp_astar, e_wp_revL, e_wp_lc2, e_wp_callG, e_wp_isX, e_wp_xf, e_wp_fdivM, r_get0, r_getS, r_put0, r_putS, r_var, r_vd, r_vown, r_isBl, r_isI, r_isSqT, r_isSqL, r_two, r_isOwn, r_no, r_noU, r_unxI, r_unxT, r_unxX, r_unxO, r_addI, r_addT, r_addL, r_mulI, r_mulT, r_ii, r_ci, r_eqI, r_eqS, r_eqB, r_inT, r_inL, r_ixT, r_ixL, r_lenT, r_lenL, r_abs, r_intI, r_intB, r_gcd, r_all, r_sum, r_tupL, r_tupT, r_sqT, r_sqL, r_rg1, r_en, r_zipT, r_zipL, r_slT, r_slL, r_noOwn0, r_noOwnS, r_wip0, r_wipS, r_start, r_bodyN, r_body, r_lt, r_isN0, r_isNT, r_isNI, r_isNL, r_okU, r_okD, r_noOb0, r_noObU, r_noObD, r_noObO, r_frz0, r_frzU, r_frzD, r_frzO, r_noLi, r_noLb, r_noLs, r_noLn, rev, List.map_cons, List.map_nil, List.length_cons, List.length_nil, List.replicate, List.nil_append, List.cons_append, Nat.sub_self, Nat.reduceAdd, Nat.reduceSub, not_false_eq_true, and_self, true_and, and_true, if_true, if_false, Bool.not_true, Bool.not_false, Bool.false_eq_true, and_false, false_and, reduceIte, ite_self, Nat.zero_add, decide_eq_true_eq]))
local macro_rules | `(tactic| walk_at "ws") => `(tactic| simp_all [r_get0, r_getS, r_put0, r_putS, r_var, r_vd, r_vown, r_isBl, r_isI, r_isSqT, r_isSqL, r_two, r_isOwn, r_no, r_noU, r_unxI, r_unxT, r_unxX, r_unxO, r_addI, r_addT, r_addL, r_mulI, r_mulT, r_ii, r_ci, r_eqI, r_eqS, r_eqB, r_inT, r_inL, r_ixT, r_ixL, r_lenT, r_lenL, r_abs, r_intI, r_intB, r_gcd, r_all, r_sum, r_tupL, r_tupT, r_sqT, r_sqL, r_rg1, r_en, r_zipT, r_zipL, r_slT, r_slL, r_noOwn0, r_noOwnS, r_wip0, r_wipS, r_start, r_bodyN, r_body, r_lt, r_isN0, r_isNT, r_isNI, r_isNL, r_okU, r_okD, r_noOb0, r_noObU, r_noObD, r_noObO, r_frz0, r_frzU, r_frzD, r_frzO, r_noLi, r_noLb, r_noLs, r_noLn, isTy, taggedD, tagD])
theorem wI_iff {rows : List (Option Rw)} {i : Nat} : ((i : Nat) : Int) ∈ wI rows ↔ ∃ r, rows[i]? = some (some r) := by
  refine ⟨wI_mem, fun ⟨r, e⟩ => ?_⟩
  unfold wI
  have hi := (List.getElem?_eq_some_iff.mp e).1
  refine List.mem_map.mpr ⟨i, List.mem_filter.mpr ⟨List.mem_range.mpr hi, by simp [List.getD, e]⟩, rfl⟩
section
variable {K : PySem.W.Frag} {a : Ad} {Q : D → Prop} {E : Er → Prop} {rows : List (Option Rw)} {lk : List Int} {sp : Int}
theorem isTup_o {x : Option Rw} : isTy "tuple" (oD x) = x.isSome := by cases x <;> rfl
theorem tag_o {x : Option Rw} : taggedD (oD x) = true := by cases x <;> rfl
theorem w_lstages {os : List Int} {n m : Nat} (h : okW rows lk sp) (hn : (rows.length : Int) + sp = n) (ho : os.length ≤ 60) (hm : m ≤ os.length) (q : Q (.tup ((wrds rows n os m).map D.str))) : wp__law_stages K a [sD rows lk sp, oks os, .int m] Q E := by
  unfold wp__law_stages b__law_stages
  have n6 := h.n6
  have s2 := h.s2
  unfold oks
  walk_at "wp"
  refine ⟨by decide, w_lall hn ?_⟩
  walk_at "wp"
  refine ⟨by omega, by omega, ?_⟩
  refine forW_ix (fun i Γ => ∃ b4 b5 b6, okB b4 ∧ okB b5 ∧ okB b6 ∧ Γ = [.d (sD rows lk sp), .d (.tup (os.map D.int)), .d (.int m), .own ((wrds rows i os m).map D.str), b4, b5, b6]) ⟨.un, .un, .un, trivial, trivial, trivial, rfl⟩ ?_ ?_
  · rintro Γ ⟨b4, b5, b6, k4, k5, k6, rfl⟩
    rw [rg_len, show ((n : Int)).toNat = n by omega]
    walk_at "wp"
    have hx : noL (.tup ((wrds rows n os m).map D.str)) = true := by
      unfold noL
      refine noLs_all.mpr fun x hx => ?_
      obtain ⟨y, _, rfl⟩ := List.mem_map.mp hx
      rfl
    refine ⟨?_, hx, q⟩
    rcases okB_cases k4 with rfl | ⟨x4, rfl⟩ <;> rcases okB_cases k5 with rfl | ⟨x5, rfl⟩ <;> rcases okB_cases k6 with rfl | ⟨x6, rfl⟩ <;> rfl
  · rintro i d hd Γ ⟨b4, b5, b6, k4, k5, k6, rfl⟩ N hN
    obtain ⟨hi, rfl⟩ := rg_get hd
    unfold sD
    walk_at "wp"
    refine ⟨_, rfl, ?_⟩
    walk_at "wp"
    have hi : i < n := by omega
    have t1 : cutD (os.map D.int) none (some (m : Int)) = (os.take m).map D.int := by rw [cut_to, List.map_take]
    have t2 : cutD (os.map D.int) (some (m : Int)) none = (os.drop m).map D.int := by rw [cut_from, List.map_drop]
    have fin : ∀ (b5 b6 : D) (s : Str), wrd rows os m (i : Nat) = s → ((wrds rows i os m).map D.str).length < 100000 ∧ N [.d (.tup [.tup (rows.map oD), .tup (lk.map D.int), .int sp]), .d (.tup (os.map D.int)), .d (.int m), .own ((wrds rows i os m).map D.str ++ [.str s]), .d (.int (i : Nat)), .d b5, .d b6] := by
      intro b5 b6 s e
      subst e
      refine ⟨by simp [wrds]; omega, hN _ ⟨.d (.int (i : Nat)), .d b5, .d b6, trivial, trivial, trivial, ?_⟩⟩
      have e2 : (wrds rows (i + 1) os m).map D.str = (wrds rows i os m).map D.str ++ [.str (wrd rows os m (i : Nat))] := by
        simp [wrds, List.range_succ]
      rw [e2]; rfl
    by_cases hr : i < rows.length
    · rw [List.length_map, if_pos (by omega)]
      refine ⟨_, rfl, ?_⟩
      walk_at "wp"
      refine ⟨_, atI_get (f := oD) (List.getElem?_eq_getElem hr), tag_o, _, t1, ?_⟩
      rw [isTup_o]
      by_cases h1 : ((i : Nat) : Int) ∈ os.take m
      · simp only [h1, decide_true, Bool.not_true, Bool.false_eq_true, if_false]
        cases hx : rows[i] with
        | none =>
          have hw : ((i : Nat) : Int) ∉ wI rows := fun z => by
            obtain ⟨r, e⟩ := wI_iff.mp z
            rw [List.getElem?_eq_getElem hr, hx] at e
            cases e
          simp only [Option.isSome_none, Bool.false_eq_true, if_false]
          exact fin _ _ _ (by simp [wrd, h1, hw])
        | some r =>
          have hw : ((i : Nat) : Int) ∈ wI rows := wI_iff.mpr ⟨r, by rw [List.getElem?_eq_getElem hr, hx]⟩
          simp only [Option.isSome_some, if_true]
          refine ⟨_, t2, ?_⟩
          by_cases h2 : ((i : Nat) : Int) ∈ os.drop m
          · simp only [h2, decide_true, Bool.not_true, Bool.false_eq_true, if_false]
            exact fin _ _ _ (by simp [wrd, h1, hw, h2])
          · simp only [h2, decide_false, Bool.not_false, if_true]
            exact fin _ _ _ (by simp [wrd, h1, hw, h2])
      · simp only [h1, decide_false, Bool.not_false, if_true]
        exact fin _ _ _ (by simp [wrd, h1])
    · rw [List.length_map, if_neg (by omega)]
      refine ⟨_, t1, ?_⟩
      have hw : ((i : Nat) : Int) ∉ wI rows := fun z => by
        obtain ⟨r, e⟩ := wI_iff.mp z
        exact hr (List.getElem?_eq_some_iff.mp e).1
      by_cases h1 : ((i : Nat) : Int) ∈ os.take m
      · simp only [h1, decide_true, Bool.not_true, Bool.false_eq_true, if_false]
        exact fin _ _ _ (by simp [wrd, h1, hw])
      · simp only [h1, decide_false, Bool.not_false, if_true]
        exact fin _ _ _ (by simp [wrd, h1])
theorem w_lis_order {x : D} {n : Nat} (hn : (rows.length : Int) + sp = n) (hx : kD x = true) (q : Q (.bl (isOrd n x))) : wp__law_is_order K a [sD rows lk sp, x] Q E := by
  unfold wp__law_is_order b__law_is_order
  have ht : taggedD x = true := by
    obtain ⟨t, h⟩ := kD_tag hx
    simp [taggedD, h]
  walk_at "wp"
  refine ⟨ht, ?_⟩
  cases hT : isTy "tuple" x
  · simp only [Bool.not_false, if_true]
    have e : isOrd n x = false := by cases x <;> simp_all [isTy, isOrd]
    rw [e] at q; exact q
  · obtain ⟨xs, rfl⟩ : ∃ xs, x = .tup xs := by cases x <;> simp_all [isTy]
    have hl := kD_len hx
    simp only [Bool.not_true, Bool.false_eq_true, if_false]
    walk_at "wp"
    by_cases h60 : (60 : Int) < xs.length
    · rw [if_pos h60]
      have e : isOrd n (.tup xs) = false := by simp [isOrd]; omega
      rw [e] at q; exact q
    · rw [if_neg h60]
      refine ⟨by omega, lcS_map (f := fun d => .bl (fromTo 0 (n - 1) d)) (fun d hd k hk => ?_) ?_⟩
      · simp only [elW]
        walk_at "wp"
        refine w_lall hn ?_
        walk_at "wp"
        refine w_lis_int ?_ hk
        obtain ⟨t, h⟩ := kD_tag (kD_tup hx d hd)
        simp [taggedD, h]
      · refine ⟨xs.map fun d => fromTo 0 (n - 1) d, by simp, ?_⟩
        have e : (List.map (fun d => fromTo 0 ((n : Int) - 1) d) xs).all id = isOrd n (.tup xs) := by
          simp [isOrd, List.all_map, Function.comp_def]; omega
        rw [e]; exact q
end
end My
namespace My
open PySem L2 Ab Cc
local macro_rules | `(tactic| walk_at "wp") => `(tactic| (try simp -implicitDefEqProofs only [e_wp_v, e_wp_vr, e_wp_wk, e_wp_int, e_wp_bl, e_wp_non, e_wp_str, e_wp_ty, e_wp_cls, e_wp_con, e_wp_a0, e_wp_ac, e_wp_tup, e_wp_dic, e_wp_lst, e_wp_ofL, e_wp_op, e_wp_nt, e_wp_and, e_wp_or, e_wp_chain, e_wp_neg, e_wp_isN, e_wp_notN, e_wp_tst, e_wp_tB', e_wp_tand, e_wp_tor, e_wp_tnot, e_wp_tyes, e_wp_ife, e_wp_bi, e_wp_o0, e_wp_o1, e_wp_sl, e_wp_fld, e_wp_nm, e_wp_g0, e_wp_gc, e_wp_gt, e_wp_iseq, e_wp_irg1, e_wp_irg2, e_wp_ienum, e_wp_izip, e_wp_bor, e_wp_borL, e_wp_app, e_wp_ext, e_wp_popAt, e_wp_lc, e_wp_dct1, e_wp_call, e_wp_call0, e_wp_nil, e_wp_seq, e_wp_brk, e_wp_cnt, e_wp_drop, e_wp_ret, e_wp_retN, e_wp_ifs, e_wp_asg, e_wp_own, e_wp_par, e_wp_fors, e_wp_whs, e_wp_aug, e_wp_setO, e_wp_rai, e_wp_rai0, e_wp_tryAs, e_wp_add, e_wp_mul, e_wp_sub, e_wp_lt, e_wp_le, e_wp_gt', e_wp_ge, e_wp_fdiv, e_wp_mod, e_wp_pow, e_wp_eq, e_wp_ne, e_wp_inn, e_wp_nin, e_wp_ix, e_wp_len, e_wp_abs, e_wp_toInt, e_wp_gcd, e_wp_all, e_wp_any, e_wp_sum, e_wp_tuple, e_wp_isT, e_wp_isC, e_wp_list, e_wp_listRg, e_wp_addL, e_wp_retO, e_wp_retL, e_wp_callL, e_wp_mk, e_wp_setf, e_wp_mcountT, e_wp_tupleX, e_wp_mcount, e_wp_mindex, e_wp_lcm, e_wp_astar, e_wp_revL, e_wp_lc2, e_wp_callG, e_wp_isX, e_wp_xf, e_wp_fdivM, r_get0, r_getS, r_put0, r_putS, r_var, r_vd, r_vown, r_isBl, r_isI, r_isSqT, r_isSqL, r_two, r_isOwn, r_no, r_noU, r_unxI, r_unxT, r_unxX, r_unxO, r_addI, r_addT, r_addL, r_mulI, r_mulT, r_ii, r_ci, r_eqI, r_eqS, r_eqB, r_inT, r_inL, r_ixT, r_ixL, r_lenT, r_lenL, r_abs, r_intI, r_intB, r_gcd, r_all, r_sum, r_tupL, r_tupT, r_sqT, r_sqL, r_rg1, r_en, r_zipT, r_zipL, r_slT, r_slL, r_noOwn0, r_noOwnS, r_wip0, r_wipS, r_start, r_bodyN, r_body, r_lt, r_isN0, r_isNT, r_isNI, r_isNL, r_okU, r_okD, r_noOb0, r_noObU, r_noObD, r_noObO, r_frz0, r_frzU, r_frzD, r_frzO, r_noLi, r_noLb, r_noLs, r_noLn, rev, List.map_cons, List.map_nil, List.length_cons, List.length_nil, List.replicate, List.nil_append, List.cons_append, Nat.sub_self, Nat.reduceAdd, Nat.reduceSub, not_false_eq_true, and_self, true_and, and_true, if_true, if_false, Bool.not_true, Bool.not_false, Bool.false_eq_true, and_false, false_and, reduceIte, ite_self, Nat.zero_add, decide_eq_true_eq]))
local macro_rules | `(tactic| walk_at "ws") => `(tactic| simp_all [r_get0, r_getS, r_put0, r_putS, r_var, r_vd, r_vown, r_isBl, r_isI, r_isSqT, r_isSqL, r_two, r_isOwn, r_no, r_noU, r_unxI, r_unxT, r_unxX, r_unxO, r_addI, r_addT, r_addL, r_mulI, r_mulT, r_ii, r_ci, r_eqI, r_eqS, r_eqB, r_inT, r_inL, r_ixT, r_ixL, r_lenT, r_lenL, r_abs, r_intI, r_intB, r_gcd, r_all, r_sum, r_tupL, r_tupT, r_sqT, r_sqL, r_rg1, r_en, r_zipT, r_zipL, r_slT, r_slL, r_noOwn0, r_noOwnS, r_wip0, r_wipS, r_start, r_bodyN, r_body, r_lt, r_isN0, r_isNT, r_isNI, r_isNL, r_okU, r_okD, r_noOb0, r_noObU, r_noObD, r_noObO, r_frz0, r_frzU, r_frzD, r_frzO, r_noLi, r_noLb, r_noLs, r_noLn, isTy, taggedD, tagD])
/-- what stands safe, as the law has it -/
def lsf (rows : List (Option Rw)) (os : List Int) (m : Nat) : List Rw :=
  ((List.range rows.length).filterMap fun c => if wrd rows os m (c : Nat) = "not begun" then some (unit rows.length c) else none) ++ ((List.range rows.length).filterMap fun c => if wrd rows os m (c : Nat) = "done" then rows.getD c none else none)
theorem lsf_mem {rows : List (Option Rw)} {os : List Int} {m : Nat} {r : Rw} : r ∈ lsf rows os m ↔ r ∈ sfR rows os m rows.length := by
  unfold lsf sfR
  rw [List.mem_append, List.mem_filterMap, List.mem_filterMap, List.mem_filterMap]
  constructor
  · rintro (⟨c, hc, e⟩ | ⟨c, hc, e⟩)
    · refine ⟨c, hc, ?_⟩
      unfold sfc
      split at e
      · rename_i h; rw [if_pos h]; exact e
      · cases e
    · refine ⟨c, hc, ?_⟩
      unfold sfc
      split at e
      · rename_i h
        rw [if_neg (by rw [h]; decide), if_pos h]; exact e
      · cases e
  · rintro ⟨c, hc, e⟩
    unfold sfc at e
    split at e
    · rename_i h
      exact .inl ⟨c, hc, by rw [if_pos h]; exact e⟩
    · split at e
      · rename_i h
        exact .inr ⟨c, hc, by rw [if_pos h]; exact e⟩
      · cases e
section
variable {K : PySem.W.Frag} {a : Ad} {Q : D → Prop} {E : Er → Prop} {rows : List (Option Rw)} {lk : List Int} {sp : Int}
theorem w_lsafe {os : List Int} {n m : Nat} (h : okW rows lk sp) (hn : (rows.length : Int) + sp = n) (q : Q (.lst ((lsf rows os m).map rD))) : wp__law_safe K a [sD rows lk sp, .tup ((wrds rows n os m).map D.str)] Q E := by
  unfold wp__law_safe b__law_safe
  have n6 := h.n6
  have s0 := h.s0
  unfold sD
  have ew : ∀ i, i < rows.length → atI ((wrds rows n os m).map D.str) (i : Nat) = some (.str (wrd rows os m (i : Nat))) := fun i hi =>
    atI_get (f := D.str) (by simp [wrds, List.getElem?_range (show i < n by omega)])
  walk_at "wp"
  refine ⟨_, rfl, ?_⟩
  walk_at "wp"
  rw [List.length_map]
  refine ⟨by omega, by omega, by rw [rg_len]; omega, lcS_fm (f := fun d => match d with
    | .int i => if wrd rows os m i = "not begun" then some (rD (unit rows.length i.toNat)) else none
    | _ => none) (fun d hd kk hk => ?_) ?_⟩
  · obtain ⟨i, hi, rfl⟩ := mem_rg hd
    have hi : i < rows.length := by omega
    rw [Int.zero_add] at *
    simp only [elW]
    walk_at "wp"
    refine ⟨_, ew i hi, ?_⟩
    walk_at "wp"
    simp only [Int.toNat_natCast] at hk
    by_cases h1 : wrd rows os m (i : Nat) = "not begun"
    · rw [if_pos h1] at hk
      simp only [h1, decide_true, if_true]
      exact w_lunit (by omega) hk
    · rw [if_neg h1] at hk
      simp only [h1, decide_false, if_false, Bool.false_eq_true]
      exact hk
  rw [List.nil_append]
  walk_at "wp"
  refine ⟨by omega, by omega, by rw [rg_len]; omega, lcS_fm (f := fun d => match d with
    | .int i => if wrd rows os m i = "done" then (rows.getD i.toNat none).map rD else none
    | _ => none) (fun d hd kk hk => ?_) ?_⟩
  · obtain ⟨i, hi, rfl⟩ := mem_rg hd
    have hi : i < rows.length := by omega
    rw [Int.zero_add] at *
    simp only [elW]
    walk_at "wp"
    refine ⟨_, ew i hi, ?_⟩
    walk_at "wp"
    simp only [Int.toNat_natCast] at hk
    by_cases h1 : wrd rows os m (i : Nat) = "done"
    · rw [if_pos h1] at hk
      simp only [h1, decide_true, if_true]
      obtain ⟨r, e⟩ := done_row h1
      refine ⟨_, rfl, ?_⟩
      walk_at "wp"
      refine ⟨_, atI_get (f := oD) e, ?_⟩
      have e2 : rows.getD i none = some r := by simp [List.getD, e]
      rw [e2] at hk
      exact hk
    · rw [if_neg h1] at hk
      simp only [h1, decide_false, if_false, Bool.false_eq_true]
      exact hk
  rw [List.nil_append]
  have e1 : (rgAt 0 ((rows.length : Int)).toNat).filterMap (fun d => match d with
      | .int i => if wrd rows os m i = "not begun" then some (rD (unit rows.length i.toNat)) else none
      | _ => none) = ((List.range rows.length).filterMap fun c => if wrd rows os m (c : Nat) = "not begun" then some (unit rows.length c) else none).map rD := by
    rw [rgAt, List.filterMap_map, List.map_filterMap]
    simp only [Function.comp_def, Int.toNat_natCast, Int.zero_add]
    congr 1
    funext c
    split <;> rfl
  have e2 : (rgAt 0 ((rows.length : Int)).toNat).filterMap (fun d => match d with
      | .int i => if wrd rows os m i = "done" then (rows.getD i.toNat none).map rD else none
      | _ => none) = ((List.range rows.length).filterMap fun c => if wrd rows os m (c : Nat) = "done" then rows.getD c none else none).map rD := by
    rw [rgAt, List.filterMap_map, List.map_filterMap]
    simp only [Function.comp_def, Int.toNat_natCast, Int.zero_add]
    congr 1
    funext c
    split <;> rfl
  rw [e1, e2]
  refine ⟨?_, ?_⟩
  · have l1 := List.length_filterMap_le (fun c : Nat => if wrd rows os m (c : Nat) = "not begun" then some (unit rows.length c) else none) (List.range rows.length)
    have l2 := List.length_filterMap_le (fun c : Nat => if wrd rows os m (c : Nat) = "done" then rows.getD c none else none) (List.range rows.length)
    simp only [List.length_map, List.length_range] at *
    omega
  · rw [← List.map_append]
    exact q
end
end My
namespace My
open PySem L2 Ab Cc
local macro_rules | `(tactic| walk_at "wp") => `(tactic| (try simp -implicitDefEqProofs only [e_wp_v, e_wp_vr, e_wp_wk, e_wp_int, e_wp_bl, e_wp_non, e_wp_str, e_wp_ty, e_wp_cls, e_wp_con, e_wp_a0, e_wp_ac, e_wp_tup, e_wp_dic, e_wp_lst, e_wp_ofL, e_wp_op, e_wp_nt, e_wp_and, e_wp_or, e_wp_chain, e_wp_neg, e_wp_isN, e_wp_notN, e_wp_tst, e_wp_tB', e_wp_tand, e_wp_tor, e_wp_tnot, e_wp_tyes, e_wp_ife, e_wp_bi, e_wp_o0, e_wp_o1, e_wp_sl, e_wp_fld, e_wp_nm, e_wp_g0, e_wp_gc, e_wp_gt, e_wp_iseq, e_wp_irg1, e_wp_irg2, e_wp_ienum, e_wp_izip, e_wp_bor, e_wp_borL, e_wp_app, e_wp_ext, e_wp_popAt, e_wp_lc, e_wp_dct1, e_wp_call, e_wp_call0, e_wp_nil, e_wp_seq, e_wp_brk, e_wp_cnt, e_wp_drop, e_wp_ret, e_wp_retN, e_wp_ifs, e_wp_asg, e_wp_own, e_wp_par, e_wp_fors, e_wp_whs, e_wp_aug, e_wp_setO, e_wp_rai, e_wp_rai0, e_wp_tryAs, e_wp_add, e_wp_mul, e_wp_sub, e_wp_lt, e_wp_le, e_wp_gt', e_wp_ge, e_wp_fdiv, e_wp_mod, e_wp_pow, e_wp_eq, e_wp_ne, e_wp_inn, e_wp_nin, e_wp_ix, e_wp_len, e_wp_abs, e_wp_toInt, e_wp_gcd, e_wp_all, e_wp_any, e_wp_sum, e_wp_tuple, e_wp_isT, e_wp_isC, e_wp_list, e_wp_listRg, e_wp_addL, e_wp_retO, e_wp_retL, e_wp_callL, e_wp_mk, e_wp_setf, e_wp_mcountT, e_wp_tupleX, e_wp_mcount, e_wp_mindex, e_wp_lcm, e_wp_astar, e_wp_revL, e_wp_lc2, e_wp_callG, e_wp_isX, e_wp_xf, e_wp_fdivM, r_get0, r_getS, r_put0, r_putS, r_var, r_vd, r_vown, r_isBl, r_isI, r_isSqT, r_isSqL, r_two, r_isOwn, r_no, r_noU, r_unxI, r_unxT, r_unxX, r_unxO, r_addI, r_addT, r_addL, r_mulI, r_mulT, r_ii, r_ci, r_eqI, r_eqS, r_eqB, r_inT, r_inL, r_ixT, r_ixL, r_lenT, r_lenL, r_abs, r_intI, r_intB, r_gcd, r_all, r_sum, r_tupL, r_tupT, r_sqT, r_sqL, r_rg1, r_en, r_zipT, r_zipL, r_slT, r_slL, r_noOwn0, r_noOwnS, r_wip0, r_wipS, r_start, r_bodyN, r_body, r_lt, r_isN0, r_isNT, r_isNI, r_isNL, r_okU, r_okD, r_noOb0, r_noObU, r_noObD, r_noObO, r_frz0, r_frzU, r_frzD, r_frzO, r_noLi, r_noLb, r_noLs, r_noLn, rev, List.map_cons, List.map_nil, List.length_cons, List.length_nil, List.replicate, List.nil_append, List.cons_append, Nat.sub_self, Nat.reduceAdd, Nat.reduceSub, not_false_eq_true, and_self, true_and, and_true, if_true, if_false, Bool.not_true, Bool.not_false, Bool.false_eq_true, and_false, false_and, reduceIte, ite_self, Nat.zero_add, decide_eq_true_eq]))
local macro_rules | `(tactic| walk_at "ws") => `(tactic| simp_all [r_get0, r_getS, r_put0, r_putS, r_var, r_vd, r_vown, r_isBl, r_isI, r_isSqT, r_isSqL, r_two, r_isOwn, r_no, r_noU, r_unxI, r_unxT, r_unxX, r_unxO, r_addI, r_addT, r_addL, r_mulI, r_mulT, r_ii, r_ci, r_eqI, r_eqS, r_eqB, r_inT, r_inL, r_ixT, r_ixL, r_lenT, r_lenL, r_abs, r_intI, r_intB, r_gcd, r_all, r_sum, r_tupL, r_tupT, r_sqT, r_sqL, r_rg1, r_en, r_zipT, r_zipL, r_slT, r_slL, r_noOwn0, r_noOwnS, r_wip0, r_wipS, r_start, r_bodyN, r_body, r_lt, r_isN0, r_isNT, r_isNI, r_isNL, r_okU, r_okD, r_noOb0, r_noObU, r_noObD, r_noObO, r_frz0, r_frzU, r_frzD, r_frzO, r_noLi, r_noLb, r_noLs, r_noLn, isTy, taggedD, tagD])
section
variable {K : PySem.W.Frag} {a : Ad} {Q : D → Prop} {E : Er → Prop} {rows : List (Option Rw)} {lk : List Int} {sp : Int}
theorem w_lorder {n : Nat} (h : okW rows lk sp) (hn : (rows.length : Int) + sp = n) (q : ∀ os, isO n os → Q (oks os)) : wp__law_order K a [.pool, sD rows lk sp] Q E := by
  unfold wp__law_order b__law_order
  have n1 := h.n1
  have n6 := h.n6
  have s0 := h.s0
  have s2 := h.s2
  walk_at "wp"
  refine w_lall hn ?_
  walk_at "wp"
  refine ⟨by omega, by omega, w_lmixed (by simp; omega) fun zs hp => ?_⟩
  simp only [isSq]
  have hz : ∀ d ∈ zs, ∃ i : Nat, i < n ∧ d = .int (i : Nat) := fun d hd => by
    have hm := hp.mem_iff.mp hd
    simp only [List.map_map, List.mem_map, List.mem_range, Function.comp_def] at hm
    obtain ⟨i, hi, rfl⟩ := hm
    exact ⟨i, by omega, rfl⟩
  have hlz : zs.length = n := by simpa using hp.length_eq
  refine ⟨by omega, lcS_all (R := fun d => ∃ i : Nat, i < n ∧ d = .int (i : Nat)) (fun d hd kk hk => ?_) fun fs hfs hfl => ?_⟩
  · obtain ⟨i, hi, rfl⟩ := hz d hd
    simp only [elW]
    unfold sD
    walk_at "wp"
    refine ⟨_, rfl, ?_⟩
    walk_at "wp"
    refine ⟨lk, rfl, ?_⟩
    by_cases m : ((i : Nat) : Int) ∈ lk
    · simp only [m, decide_true, Bool.not_true, Bool.false_eq_true, if_false]
      exact hk none (fun y e => by cases e)
    · simp only [m, decide_false, Bool.not_false, if_true]
      exact hk (some _) (fun y e => by cases e; exact ⟨i, hi, rfl⟩)
  rw [List.nil_append]
  have fin : ∀ ds : List D, (∀ d ∈ ds, ∃ i : Nat, i < n ∧ d = .int (i : Nat)) → ds.length ≤ 60 → Q (.tup ds) := fun ds h1 h2 => by
    have key : ∀ {ds : List D}, (∀ d ∈ ds, ∃ i : Nat, i < n ∧ d = .int (i : Nat)) → ∃ os : List Int, ds = os.map D.int ∧ ∀ c ∈ os, 0 ≤ c ∧ c < n := by
      intro ds
      induction ds with
      | nil => exact fun _ => ⟨[], rfl, by simp⟩
      | cons x xs ih =>
        intro h
        obtain ⟨os, e, ho⟩ := ih fun y m => h y (List.mem_cons_of_mem _ m)
        obtain ⟨i, i1, rfl⟩ := h x List.mem_cons_self
        refine ⟨(i : Int) :: os, by rw [e]; rfl, fun c hc => ?_⟩
        rcases List.mem_cons.mp hc with rfl | hc
        · omega
        · exact ho c hc
    obtain ⟨os, rfl, ho⟩ := key h1
    exact q os ⟨by simpa using h2, ho⟩
  have hf8 : fs.length ≤ 8 := by omega
  have app : ∀ {us ws : List D}, (∀ d ∈ us, ∃ i : Nat, i < n ∧ d = .int (i : Nat)) → (∀ d ∈ ws, ∃ i : Nat, i < n ∧ d = .int (i : Nat)) → ∀ d ∈ us ++ ws, ∃ i : Nat, i < n ∧ d = .int (i : Nat) := fun h1 h2 d hd => (List.mem_append.mp hd).elim (h1 d) (h2 d)
  have cut : ∀ {us : List D} {lo hi : Option Int}, (∀ d ∈ us, ∃ i : Nat, i < n ∧ d = .int (i : Nat)) → ∀ d ∈ cutD us lo hi, ∃ i : Nat, i < n ∧ d = .int (i : Nat) := fun h1 d hd => h1 d (cutD_mem hd)
  have rv : ∀ d ∈ fs.reverse, ∃ i : Nat, i < n ∧ d = .int (i : Nat) := fun d hd => hfs d (List.mem_reverse.mp hd)
  have lcut : (cutD fs.reverse (some 1) none).length ≤ 8 := by
    have := cutD_len (xs := fs.reverse) (lo := some 1) (hi := none)
    simp at this; omega
  have l1 : (cutD fs none (some 1)).length ≤ 8 := by
    have := cutD_len (xs := fs) (lo := none) (hi := some 1)
    omega
  refine ⟨by omega, dr (m := 5) (by decide) (by decide) fun c hc => ?_⟩
  have hcs : c = 0 ∨ c = 1 ∨ c = 2 ∨ c = 3 ∨ c = 4 := by omega
  rcases hcs with rfl | rfl | rfl | rfl | rfl
  · rw [r_eqI, if_pos (by decide)]
    refine dr (m := 9) (by decide) (by decide) fun t ht => ?_
    rw [r_rg1]
    refine ⟨by omega, by omega, by rw [rg_len]; omega, lcS_all (R := fun d => ∃ i : Nat, i < n ∧ d = .int (i : Nat)) (fun d hd kk hk => ?_) fun ac hac hal => ?_⟩
    · simp only [elW]
      obtain ⟨i, hi, rfl⟩ := mem_rg hd
      walk_at "wp"
      exact dr (m := n) (by omega) (by omega) fun j hj => hk (some _) fun y e => by cases e; exact ⟨j, hj, rfl⟩
    · rw [List.nil_append, r_eqI, if_neg (by decide), r_eqI, if_neg (by decide), r_eqI, if_neg (by decide)]
      rw [rg_len] at hal
      exact fin _ hac (by omega)
  · rw [r_eqI, if_neg (by decide), r_eqI, if_pos (by decide)]
    refine ⟨by simp; omega, lcS_all (R := fun d => ∃ i : Nat, i < n ∧ d = .int (i : Nat)) (fun d hd kk hk => ?_) fun ac hac hal => ?_⟩
    · have hd := app hfs (cut rv) d hd
      simp only [elW]
      walk_at "wp"
      refine dr (m := 6) (by decide) (by decide) fun j hj => ?_
      walk_at "wp"
      by_cases j0 : (0 : Int) < j
      · simp only [j0, decide_true, if_true]
        exact hk (some _) fun y e => by cases e; exact hd
      · simp only [j0, decide_false, if_false, Bool.false_eq_true]
        exact hk none fun y e => by cases e
    · rw [List.nil_append, r_eqI, if_neg (by decide), r_eqI, if_neg (by decide)]
      refine fin _ hac ?_
      simp at hal
      omega
  · rw [r_eqI, if_neg (by decide), r_eqI, if_neg (by decide), r_eqI, if_pos (by decide)]
    rw [show (fs.length : Int) + 1 = ((fs.length + 1 : Nat) : Int) by omega]
    refine dr (m := fs.length + 1) (by omega) (by omega) fun j hj => ?_
    rw [isI]
    have l2 : (cutD fs none (some (j : Int))).length ≤ 8 := by
      have := cutD_len (xs := fs) (lo := none) (hi := some (j : Int))
      omega
    refine ⟨by omega, ?_⟩
    rw [r_eqI, if_neg (by decide)]
    exact fin _ (app hfs (cut hfs)) (by simp; omega)
  · rw [r_eqI, if_neg (by decide), r_eqI, if_neg (by decide), r_eqI, if_neg (by decide), r_eqI, if_pos (by decide)]
    exact ⟨by simp; omega, fin _ (app (cut hfs) rv) (by simp; omega)⟩
  · rw [r_eqI, if_neg (by decide), r_eqI, if_neg (by decide), r_eqI, if_neg (by decide), r_eqI, if_neg (by decide)]
    exact fin _ (app hfs (cut rv)) (by simp; omega)
end
end My
namespace My
open PySem L2 Ab Cc
local macro_rules | `(tactic| walk_at "wp") => `(tactic| (try simp -implicitDefEqProofs only [e_wp_v, e_wp_vr, e_wp_wk, e_wp_int, e_wp_bl, e_wp_non, e_wp_str, e_wp_ty, e_wp_cls, e_wp_con, e_wp_a0, e_wp_ac, e_wp_tup, e_wp_dic, e_wp_lst, e_wp_ofL, e_wp_op, e_wp_nt, e_wp_and, e_wp_or, e_wp_chain, e_wp_neg, e_wp_isN, e_wp_notN, e_wp_tst, e_wp_tB', e_wp_tand, e_wp_tor, e_wp_tnot, e_wp_tyes, e_wp_ife, e_wp_bi, e_wp_o0, e_wp_o1, e_wp_sl, e_wp_fld, e_wp_nm, e_wp_g0, e_wp_gc, e_wp_gt, e_wp_iseq, e_wp_irg1, e_wp_irg2, e_wp_ienum, e_wp_izip, e_wp_bor, e_wp_borL, e_wp_app, e_wp_ext, e_wp_popAt, e_wp_lc, e_wp_dct1, e_wp_call, e_wp_call0, e_wp_nil, e_wp_seq, e_wp_brk, e_wp_cnt, e_wp_drop, e_wp_ret, e_wp_retN, e_wp_ifs, e_wp_asg, e_wp_own, e_wp_par, e_wp_fors, e_wp_whs, e_wp_aug, e_wp_setO, e_wp_rai, e_wp_rai0, e_wp_tryAs, e_wp_add, e_wp_mul, e_wp_sub, e_wp_lt, e_wp_le, e_wp_gt', e_wp_ge, e_wp_fdiv, e_wp_mod, e_wp_pow, e_wp_eq, e_wp_ne, e_wp_inn, e_wp_nin, e_wp_ix, e_wp_len, e_wp_abs, e_wp_toInt, e_wp_gcd, e_wp_all, e_wp_any, e_wp_sum, e_wp_tuple, e_wp_isT, e_wp_isC, e_wp_list, e_wp_listRg, e_wp_addL, e_wp_retO, e_wp_retL, e_wp_callL, e_wp_mk, e_wp_setf, e_wp_mcountT, e_wp_tupleX, e_wp_mcount, e_wp_mindex, e_wp_lcm, e_wp_astar, e_wp_revL, e_wp_lc2, e_wp_callG, e_wp_isX, e_wp_xf, e_wp_fdivM, r_get0, r_getS, r_put0, r_putS, r_var, r_vd, r_vown, r_isBl, r_isI, r_isSqT, r_isSqL, r_two, r_isOwn, r_no, r_noU, r_unxI, r_unxT, r_unxX, r_unxO, r_addI, r_addT, r_addL, r_mulI, r_mulT, r_ii, r_ci, r_eqI, r_eqS, r_eqB, r_inT, r_inL, r_ixT, r_ixL, r_lenT, r_lenL, r_abs, r_intI, r_intB, r_gcd, r_all, r_sum, r_tupL, r_tupT, r_sqT, r_sqL, r_rg1, r_en, r_zipT, r_zipL, r_slT, r_slL, r_noOwn0, r_noOwnS, r_wip0, r_wipS, r_start, r_bodyN, r_body, r_lt, r_isN0, r_isNT, r_isNI, r_isNL, r_okU, r_okD, r_noOb0, r_noObU, r_noObD, r_noObO, r_frz0, r_frzU, r_frzD, r_frzO, r_noLi, r_noLb, r_noLs, r_noLn, rev, List.map_cons, List.map_nil, List.length_cons, List.length_nil, List.replicate, List.nil_append, List.cons_append, Nat.sub_self, Nat.reduceAdd, Nat.reduceSub, not_false_eq_true, and_self, true_and, and_true, if_true, if_false, Bool.not_true, Bool.not_false, Bool.false_eq_true, and_false, false_and, reduceIte, ite_self, Nat.zero_add, decide_eq_true_eq]))
local macro_rules | `(tactic| walk_at "ws") => `(tactic| simp_all [r_get0, r_getS, r_put0, r_putS, r_var, r_vd, r_vown, r_isBl, r_isI, r_isSqT, r_isSqL, r_two, r_isOwn, r_no, r_noU, r_unxI, r_unxT, r_unxX, r_unxO, r_addI, r_addT, r_addL, r_mulI, r_mulT, r_ii, r_ci, r_eqI, r_eqS, r_eqB, r_inT, r_inL, r_ixT, r_ixL, r_lenT, r_lenL, r_abs, r_intI, r_intB, r_gcd, r_all, r_sum, r_tupL, r_tupT, r_sqT, r_sqL, r_rg1, r_en, r_zipT, r_zipL, r_slT, r_slL, r_noOwn0, r_noOwnS, r_wip0, r_wipS, r_start, r_bodyN, r_body, r_lt, r_isN0, r_isNT, r_isNI, r_isNL, r_okU, r_okD, r_noOb0, r_noObU, r_noObD, r_noObO, r_frz0, r_frzU, r_frzD, r_frzO, r_noLi, r_noLb, r_noLs, r_noLn, isTy, taggedD, tagD])
def rq (x : Rat) : D := .tup [.int x.num, .int (x.den : Nat)]
theorem low_num {t b : Int} (hb : b ≠ 0) : t.fdiv (if 0 < b then ((Nat.gcd t.natAbs b.natAbs : Nat) : Int) else -((Nat.gcd t.natAbs b.natAbs : Nat) : Int)) = (Rat.divInt t b).num := by
  have e : ((b.gcd t : Nat) : Int) = ((Nat.gcd t.natAbs b.natAbs : Nat) : Int) := by rw [Int.gcd, Nat.gcd_comm]
  rw [Rat.num_divInt, e]
  split
  · rename_i h
    rw [Int.fdiv_eq_ediv_of_nonneg _ (by omega), Int.sign_eq_one_of_pos h, Int.one_mul]
  · have h : b < 0 := by omega
    rw [Int.sign_eq_neg_one_of_neg h]
    have e2 : t.fdiv (-((Nat.gcd t.natAbs b.natAbs : Nat) : Int)) = (-t).fdiv ((Nat.gcd t.natAbs b.natAbs : Nat) : Int) := by
      have := Int.neg_fdiv_neg (-t) (((Nat.gcd t.natAbs b.natAbs : Nat) : Int))
      rw [Int.neg_neg] at this
      exact this
    rw [e2, Int.fdiv_eq_ediv_of_nonneg _ (by omega)]
    simp
theorem low_den {t b : Int} (hb : b ≠ 0) : b.fdiv (if 0 < b then ((Nat.gcd t.natAbs b.natAbs : Nat) : Int) else -((Nat.gcd t.natAbs b.natAbs : Nat) : Int)) = ((Rat.divInt t b).den : Nat) := by
  have e : b.gcd t = Nat.gcd t.natAbs b.natAbs := by rw [Int.gcd, Nat.gcd_comm]
  rw [Rat.den_divInt, if_neg hb, e]
  split
  · rename_i h
    rw [Int.fdiv_eq_ediv_of_nonneg _ (by omega), Int.natCast_ediv]
    congr 1
    omega
  · have h : b < 0 := by omega
    have e2 : b.fdiv (-((Nat.gcd t.natAbs b.natAbs : Nat) : Int)) = (-b).fdiv ((Nat.gcd t.natAbs b.natAbs : Nat) : Int) := by
      have := Int.neg_fdiv_neg (-b) (((Nat.gcd t.natAbs b.natAbs : Nat) : Int))
      rw [Int.neg_neg] at this
      exact this
    rw [e2, Int.fdiv_eq_ediv_of_nonneg _ (by omega), Int.natCast_ediv]
    congr 1
    omega
section
variable {K : PySem.W.Frag} {a : Ad} {Q : D → Prop} {E : Er → Prop}
theorem w_llow {t b : Int} (hb : b ≠ 0) (hz : b.natAbs.log2 < 9000) (q : Q (rq (Rat.divInt t b))) : wp__law_low K a [.int t, .int b] Q E := by
  unfold wp__law_low b__law_low
  obtain ⟨g, hg⟩ : ∃ g, g = Nat.gcd t.natAbs b.natAbs := ⟨_, rfl⟩
  have g1 : 1 ≤ g := by
    have := Nat.gcd_pos_of_pos_right t.natAbs (show 0 < b.natAbs by omega)
    omega
  have gl : g ≤ b.natAbs := by
    have := Nat.gcd_le_right t.natAbs (show 0 < b.natAbs by omega)
    omega
  have gz : g.log2 < 9000 := by
    have : g.log2 ≤ b.natAbs.log2 := by
      by_cases h : g.log2 ≤ b.natAbs.log2
      · exact h
      · have h1 := Nat.log2_lt (n := b.natAbs) (k := g.log2) (by omega) |>.mp (by omega)
        have h2 := Nat.log2_self_le (n := g) (by omega)
        omega
    omega
  have et : (if t < 0 then -t else t) = (t.natAbs : Int) := by split <;> omega
  have eb : (if b < 0 then -b else b) = (b.natAbs : Int) := by split <;> omega
  walk_at "wp"
  rw [et, eb]
  refine ⟨b.natAbs + 1, whW_inv (fun y Γ => ∃ x : Nat, Nat.gcd x y = g ∧ Γ = [.d (.int t), .d (.int b), .d (.int (x : Nat)), .d (.int (y : Nat))]) (fun y Γ hI N hN => ?_) _ b.natAbs _ (by omega) ⟨t.natAbs, hg.symm, rfl⟩⟩
  obtain ⟨x, hxy, rfl⟩ := hI
  walk_at "wp"
  by_cases y0 : (0 : Int) < (y : Nat)
  · simp only [y0, decide_true, if_true]
    have hy : 0 < y := by omega
    refine ⟨trivial, hN _ (x % y) (Nat.mod_lt _ hy) ⟨y, ?_, ?_⟩⟩
    · rw [← hxy, Nat.gcd_comm y, ← Nat.gcd_rec, Nat.gcd_comm]
    · rw [Int.natCast_emod]
  · have : y = 0 := by omega
    subst this
    rw [Nat.gcd_zero_right] at hxy
    subst hxy
    simp only [y0, decide_false, if_false, Bool.false_eq_true]
    have n0 : x ≠ 0 := by omega
    have ln := low_num (t := t) hb
    have ld := low_den (t := t) hb
    rw [← hg] at ln ld
    by_cases b0 : 0 < b
    · rw [if_pos b0] at ln ld ⊢
      refine ⟨⟨by omega, by simpa using gz⟩, ⟨by omega, by simpa using gz⟩, by decide, ?_⟩
      rw [ln, ld]; exact q
    · rw [if_neg b0] at ln ld ⊢
      refine ⟨⟨by omega, by simpa using gz⟩, ⟨by omega, by simpa using gz⟩, by decide, ?_⟩
      rw [ln, ld]; exact q
end
end My
namespace My
open PySem L2 Ab Cc
local macro_rules | `(tactic| walk_at "wp") => `(tactic| (try simp -implicitDefEqProofs only [e_wp_v, e_wp_vr, e_wp_wk, e_wp_int, e_wp_bl, e_wp_non, e_wp_str, e_wp_ty, e_wp_cls, e_wp_con, e_wp_a0, e_wp_ac, e_wp_tup, e_wp_dic, e_wp_lst, e_wp_ofL, e_wp_op, e_wp_nt, e_wp_and, e_wp_or, e_wp_chain, e_wp_neg, e_wp_isN, e_wp_notN, e_wp_tst, e_wp_tB', e_wp_tand, e_wp_tor, e_wp_tnot, e_wp_tyes, e_wp_ife, e_wp_bi, e_wp_o0, e_wp_o1, e_wp_sl, e_wp_fld, e_wp_nm, e_wp_g0, e_wp_gc, e_wp_gt, e_wp_iseq, e_wp_irg1, e_wp_irg2, e_wp_ienum, e_wp_izip, e_wp_bor, e_wp_borL, e_wp_app, e_wp_ext, e_wp_popAt, e_wp_lc, e_wp_dct1, e_wp_call, e_wp_call0, e_wp_nil, e_wp_seq, e_wp_brk, e_wp_cnt, e_wp_drop, e_wp_ret, e_wp_retN, e_wp_ifs, e_wp_asg, e_wp_own, e_wp_par, e_wp_fors, e_wp_whs, e_wp_aug, e_wp_setO, e_wp_rai, e_wp_rai0, e_wp_tryAs, e_wp_add, e_wp_mul, e_wp_sub, e_wp_lt, e_wp_le, e_wp_gt', e_wp_ge, e_wp_fdiv, e_wp_mod, e_wp_pow, e_wp_eq, e_wp_ne, e_wp_inn, e_wp_nin, e_wp_ix, e_wp_len, e_wp_abs, e_wp_toInt, e_wp_gcd, e_wp_all, e_wp_any, e_wp_sum, e_wp_tuple, e_wp_isT, e_wp_isC, e_wp_list, e_wp_listRg, e_wp_addL, e_wp_retO, e_wp_retL, e_wp_callL, e_wp_mk, e_wp_setf, e_wp_mcountT, e_wp_tupleX, e_wp_mcount, e_wp_mindex, e_wp_lcm, e_wp_astar, e_wp_revL, e_wp_lc2, e_wp_callG, e_wp_isX, e_wp_xf, e_wp_fdivM, r_get0, r_getS, r_put0, r_putS, r_var, r_vd, r_vown, r_isBl, r_isI, r_isSqT, r_isSqL, r_two, r_isOwn, r_no, r_noU, r_unxI, r_unxT, r_unxX, r_unxO, r_addI, r_addT, r_addL, r_mulI, r_mulT, r_ii, r_ci, r_eqI, r_eqS, r_eqB, r_inT, r_inL, r_ixT, r_ixL, r_lenT, r_lenL, r_abs, r_intI, r_intB, r_gcd, r_all, r_sum, r_tupL, r_tupT, r_sqT, r_sqL, r_rg1, r_en, r_zipT, r_zipL, r_slT, r_slL, r_noOwn0, r_noOwnS, r_wip0, r_wipS, r_start, r_bodyN, r_body, r_lt, r_isN0, r_isNT, r_isNI, r_isNL, r_okU, r_okD, r_noOb0, r_noObU, r_noObD, r_noObO, r_frz0, r_frzU, r_frzD, r_frzO, r_noLi, r_noLb, r_noLs, r_noLn, rev, List.map_cons, List.map_nil, List.length_cons, List.length_nil, List.replicate, List.nil_append, List.cons_append, Nat.sub_self, Nat.reduceAdd, Nat.reduceSub, not_false_eq_true, and_self, true_and, and_true, if_true, if_false, Bool.not_true, Bool.not_false, Bool.false_eq_true, and_false, false_and, reduceIte, ite_self, Nat.zero_add, decide_eq_true_eq]))
local macro_rules | `(tactic| walk_at "ws") => `(tactic| simp_all [r_get0, r_getS, r_put0, r_putS, r_var, r_vd, r_vown, r_isBl, r_isI, r_isSqT, r_isSqL, r_two, r_isOwn, r_no, r_noU, r_unxI, r_unxT, r_unxX, r_unxO, r_addI, r_addT, r_addL, r_mulI, r_mulT, r_ii, r_ci, r_eqI, r_eqS, r_eqB, r_inT, r_inL, r_ixT, r_ixL, r_lenT, r_lenL, r_abs, r_intI, r_intB, r_gcd, r_all, r_sum, r_tupL, r_tupT, r_sqT, r_sqL, r_rg1, r_en, r_zipT, r_zipL, r_slT, r_slL, r_noOwn0, r_noOwnS, r_wip0, r_wipS, r_start, r_bodyN, r_body, r_lt, r_isN0, r_isNT, r_isNI, r_isNL, r_okU, r_okD, r_noOb0, r_noObU, r_noObD, r_noObO, r_frz0, r_frzU, r_frzD, r_frzO, r_noLi, r_noLb, r_noLs, r_noLn, isTy, taggedD, tagD])
/-- a number whose top and bottom are below 2^k -/
def sz (k : Nat) (x : Rat) : Prop := x.num.natAbs < 2 ^ k ∧ x.den < 2 ^ k
theorem rat_add (x y : Rat) : Rat.divInt (x.num * (y.den : Nat) + y.num * (x.den : Nat)) ((x.den : Nat) * (y.den : Nat)) = x + y := by
  have hx : ((x.den : Nat) : Int) ≠ 0 := by have := x.den_pos; omega
  have hy : ((y.den : Nat) : Int) ≠ 0 := by have := y.den_pos; omega
  rw [← Rat.divInt_add_divInt _ _ hx hy, Rat.num_divInt_den, Rat.num_divInt_den]
theorem rat_mul (x y : Rat) : Rat.divInt (x.num * y.num) ((x.den : Nat) * (y.den : Nat)) = x * y := by
  rw [← Rat.divInt_mul_divInt, Rat.num_divInt_den, Rat.num_divInt_den]
section
variable {K : PySem.W.Frag} {a : Ad} {Q : D → Prop} {E : Er → Prop}
theorem den_ne (x y : Rat) : ((x.den : Nat) : Int) * (y.den : Nat) ≠ 0 := by
  have := x.den_pos
  have := y.den_pos
  exact Int.mul_ne_zero (by omega) (by omega)
theorem den_log {x y : Rat} {j k : Nat} (hx : sz j x) (hy : sz k y) (j0 : 0 < j) (h0 : 0 < k) (hk : j + k ≤ 9000) : (((x.den : Nat) : Int) * (y.den : Nat)).natAbs.log2 < 9000 := by
  have h : (((x.den : Nat) : Int) * (y.den : Nat)).natAbs < 2 ^ (j + k) := wide_lt (by simpa using hx.2) (by simpa using hy.2)
  exact Nat.lt_of_lt_of_le (PySem.Flt.log2_lt_of (by omega) h) (by omega)
theorem w_ladd {x y : Rat} {j k : Nat} (hx : sz j x) (hy : sz k y) (j0 : 0 < j) (h0 : 0 < k) (hk : j + k ≤ 9000) (q : Q (rq (x + y))) : wp__law_add K a [rq x, rq y] Q E := by
  unfold wp__law_add b__law_add rq
  have m1 : ∀ {u v : Int}, u.natAbs < 2 ^ j → v.natAbs < 2 ^ k → CMulW u v := fun h1 h2 => wide_mul h1 h2 j0 h0 (by omega)
  have m2 : ∀ {u v : Int}, u.natAbs < 2 ^ k → v.natAbs < 2 ^ j → CMulW u v := fun h1 h2 => wide_mul h1 h2 h0 j0 (by omega)
  walk_at "wp"
  have xn := hx.1
  have yn := hy.1
  have xd : (((x.den : Nat) : Int)).natAbs < 2 ^ j := by simpa using hx.2
  have yd : (((y.den : Nat) : Int)).natAbs < 2 ^ k := by simpa using hy.2
  refine ⟨_, rfl, _, rfl, ?_⟩
  rw [r_mulI]
  refine ⟨.inr (m1 xn yd), _, rfl, _, rfl, ?_⟩
  rw [r_mulI]
  refine ⟨.inr (m2 yn xd), ?_⟩
  rw [r_addI]
  refine ⟨_, rfl, _, rfl, ?_⟩
  rw [r_mulI]
  refine ⟨.inr (m1 xd yd), w_llow (den_ne x y) (den_log hx hy j0 h0 hk) ?_⟩
  rw [rat_add]
  exact q
theorem w_lmul {x y : Rat} {j k : Nat} (hx : sz j x) (hy : sz k y) (j0 : 0 < j) (h0 : 0 < k) (hk : j + k ≤ 9000) (q : Q (rq (x * y))) : wp__law_mul K a [rq x, rq y] Q E := by
  unfold wp__law_mul b__law_mul rq
  have m1 : ∀ {u v : Int}, u.natAbs < 2 ^ j → v.natAbs < 2 ^ k → CMulW u v := fun h1 h2 => wide_mul h1 h2 j0 h0 (by omega)
  have m2 : ∀ {u v : Int}, u.natAbs < 2 ^ k → v.natAbs < 2 ^ j → CMulW u v := fun h1 h2 => wide_mul h1 h2 h0 j0 (by omega)
  walk_at "wp"
  have xn := hx.1
  have yn := hy.1
  have xd : (((x.den : Nat) : Int)).natAbs < 2 ^ j := by simpa using hx.2
  have yd : (((y.den : Nat) : Int)).natAbs < 2 ^ k := by simpa using hy.2
  refine ⟨_, rfl, _, rfl, ?_⟩
  rw [r_mulI]
  refine ⟨.inr (m1 xn yn), _, rfl, _, rfl, ?_⟩
  rw [r_mulI]
  refine ⟨.inr (m1 xd yd), w_llow (den_ne x y) (den_log hx hy j0 h0 hk) ?_⟩
  rw [rat_mul]
  exact q
end
end My
namespace My
open PySem L2 Ab Cc
local macro_rules | `(tactic| walk_at "wp") => `(tactic| (try simp -implicitDefEqProofs only [e_wp_v, e_wp_vr, e_wp_wk, e_wp_int, e_wp_bl, e_wp_non, e_wp_str, e_wp_ty, e_wp_cls, e_wp_con, e_wp_a0, e_wp_ac, e_wp_tup, e_wp_dic, e_wp_lst, e_wp_ofL, e_wp_op, e_wp_nt, e_wp_and, e_wp_or, e_wp_chain, e_wp_neg, e_wp_isN, e_wp_notN, e_wp_tst, e_wp_tB', e_wp_tand, e_wp_tor, e_wp_tnot, e_wp_tyes, e_wp_ife, e_wp_bi, e_wp_o0, e_wp_o1, e_wp_sl, e_wp_fld, e_wp_nm, e_wp_g0, e_wp_gc, e_wp_gt, e_wp_iseq, e_wp_irg1, e_wp_irg2, e_wp_ienum, e_wp_izip, e_wp_bor, e_wp_borL, e_wp_app, e_wp_ext, e_wp_popAt, e_wp_lc, e_wp_dct1, e_wp_call, e_wp_call0, e_wp_nil, e_wp_seq, e_wp_brk, e_wp_cnt, e_wp_drop, e_wp_ret, e_wp_retN, e_wp_ifs, e_wp_asg, e_wp_own, e_wp_par, e_wp_fors, e_wp_whs, e_wp_aug, e_wp_setO, e_wp_rai, e_wp_rai0, e_wp_tryAs, e_wp_add, e_wp_mul, e_wp_sub, e_wp_lt, e_wp_le, e_wp_gt', e_wp_ge, e_wp_fdiv, e_wp_mod, e_wp_pow, e_wp_eq, e_wp_ne, e_wp_inn, e_wp_nin, e_wp_ix, e_wp_len, e_wp_abs, e_wp_toInt, e_wp_gcd, e_wp_all, e_wp_any, e_wp_sum, e_wp_tuple, e_wp_isT, e_wp_isC, e_wp_list, e_wp_listRg, e_wp_addL, e_wp_retO, e_wp_retL, e_wp_callL, e_wp_mk, e_wp_setf, e_wp_mcountT, e_wp_tupleX, e_wp_mcount, e_wp_mindex, e_wp_lcm, e_wp_astar, e_wp_revL, e_wp_lc2, e_wp_callG, e_wp_isX, e_wp_xf, e_wp_fdivM, r_get0, r_getS, r_put0, r_putS, r_var, r_vd, r_vown, r_isBl, r_isI, r_isSqT, r_isSqL, r_two, r_isOwn, r_no, r_noU, r_unxI, r_unxT, r_unxX, r_unxO, r_addI, r_addT, r_addL, r_mulI, r_mulT, r_ii, r_ci, r_eqI, r_eqS, r_eqB, r_inT, r_inL, r_ixT, r_ixL, r_lenT, r_lenL, r_abs, r_intI, r_intB, r_gcd, r_all, r_sum, r_tupL, r_tupT, r_sqT, r_sqL, r_rg1, r_en, r_zipT, r_zipL, r_slT, r_slL, r_noOwn0, r_noOwnS, r_wip0, r_wipS, r_start, r_bodyN, r_body, r_lt, r_isN0, r_isNT, r_isNI, r_isNL, r_okU, r_okD, r_noOb0, r_noObU, r_noObD, r_noObO, r_frz0, r_frzU, r_frzD, r_frzO, r_noLi, r_noLb, r_noLs, r_noLn, rev, List.map_cons, List.map_nil, List.length_cons, List.length_nil, List.replicate, List.nil_append, List.cons_append, Nat.sub_self, Nat.reduceAdd, Nat.reduceSub, not_false_eq_true, and_self, true_and, and_true, if_true, if_false, Bool.not_true, Bool.not_false, Bool.false_eq_true, and_false, false_and, reduceIte, ite_self, Nat.zero_add, decide_eq_true_eq]))
local macro_rules | `(tactic| walk_at "ws") => `(tactic| simp_all [r_get0, r_getS, r_put0, r_putS, r_var, r_vd, r_vown, r_isBl, r_isI, r_isSqT, r_isSqL, r_two, r_isOwn, r_no, r_noU, r_unxI, r_unxT, r_unxX, r_unxO, r_addI, r_addT, r_addL, r_mulI, r_mulT, r_ii, r_ci, r_eqI, r_eqS, r_eqB, r_inT, r_inL, r_ixT, r_ixL, r_lenT, r_lenL, r_abs, r_intI, r_intB, r_gcd, r_all, r_sum, r_tupL, r_tupT, r_sqT, r_sqL, r_rg1, r_en, r_zipT, r_zipL, r_slT, r_slL, r_noOwn0, r_noOwnS, r_wip0, r_wipS, r_start, r_bodyN, r_body, r_lt, r_isN0, r_isNT, r_isNI, r_isNL, r_okU, r_okD, r_noOb0, r_noObU, r_noObD, r_noObO, r_frz0, r_frzU, r_frzD, r_frzO, r_noLi, r_noLb, r_noLs, r_noLn, isTy, taggedD, tagD])
def rL (r : List Rat) : D := .lst (r.map rq)
def tD (x : Nat × List Rat) : D := .tup [.int (x.1 : Nat), rL x.2]
/-- one row cleared by another at p -/
def stR (p : Nat) (b r : List Rat) : List Rat := if r.getD p 0 = 0 then r else List.zipWith (fun x y => x + (-(r.getD p 0) / b.getD p 0) * y) r b
theorem rat_fac (r b : Rat) : Rat.divInt (-r.num * (b.den : Nat)) ((r.den : Nat) * b.num) = -r / b := by
  rw [Rat.div_def, Rat.inv_def]
  have h : Rat.divInt (-r.num) (r.den : Nat) = -r := by
    have := Rat.num_divInt_den (-r)
    simpa using this
  rw [← h, Rat.divInt_mul_divInt]
theorem sz_div {t b : Int} {k : Nat} (hb : b ≠ 0) (h1 : t.natAbs < 2 ^ k) (h2 : b.natAbs < 2 ^ k) : sz k (Rat.divInt t b) := by
  constructor
  · rw [Rat.num_divInt]
    have a1 : (b.sign * t / ((b.gcd t : Nat) : Int)).natAbs ≤ (b.sign * t).natAbs := Int.natAbs_ediv_le_natAbs _ _
    have a2 : (b.sign * t).natAbs ≤ t.natAbs := by
      rw [Int.natAbs_mul, Int.natAbs_sign]
      split <;> omega
    omega
  · rw [Rat.den_divInt, if_neg hb]
    exact Nat.lt_of_le_of_lt (Nat.div_le_self _ _) h2
theorem sz_mul {x y : Rat} {j k : Nat} (hx : sz j x) (hy : sz k y) : sz (j + k) (x * y) := by
  rw [← rat_mul]
  exact sz_div (den_ne x y) (wide_lt hx.1 hy.1) (wide_lt (by simpa using hx.2) (by simpa using hy.2))
theorem sz_add {x y : Rat} {j k : Nat} (hx : sz j x) (hy : sz k y) : sz (j + k + 1) (x + y) := by
  rw [← rat_add]
  have m1 := wide_lt hx.1 (show (((y.den : Nat) : Int)).natAbs < 2 ^ k by simpa using hy.2)
  have m2 := wide_lt hy.1 (show (((x.den : Nat) : Int)).natAbs < 2 ^ j by simpa using hx.2)
  have m3 : (((x.den : Nat) : Int) * (y.den : Nat)).natAbs < 2 ^ (j + k) := wide_lt (by simpa using hx.2) (by simpa using hy.2)
  have e : (2 : Nat) ^ (j + k + 1) = 2 ^ (j + k) * 2 := Nat.pow_succ ..
  have e2 : (2 : Nat) ^ (k + j) = 2 ^ (j + k) := by rw [Nat.add_comm]
  refine sz_div (den_ne x y) ?_ (by omega)
  have := Int.natAbs_add_le (x.num * (y.den : Nat)) (y.num * (x.den : Nat))
  omega
theorem fac_ne {r b : Rat} (h0 : b ≠ 0) : ((r.den : Nat) : Int) * b.num ≠ 0 := by
  have := r.den_pos
  have hn : b.num ≠ 0 := fun z => h0 (Rat.num_eq_zero.mp z)
  exact Int.mul_ne_zero (by omega) hn
theorem sz_fac {r b : Rat} {k : Nat} (hr : sz k r) (hb : sz k b) (h0 : b ≠ 0) : sz (k + k) (-r / b) := by
  rw [← rat_fac]
  exact sz_div (fac_ne h0) (wide_lt (by simpa using hr.1) (by simpa using hb.2)) (wide_lt (by simpa using hr.2) hb.1)
end My
namespace My
open PySem L2 Ab Cc
local macro_rules | `(tactic| walk_at "wp") => `(tactic| (try simp -implicitDefEqProofs only [e_wp_v, e_wp_vr, e_wp_wk, e_wp_int, e_wp_bl, e_wp_non, e_wp_str, e_wp_ty, e_wp_cls, e_wp_con, e_wp_a0, e_wp_ac, e_wp_tup, e_wp_dic, e_wp_lst, e_wp_ofL, e_wp_op, e_wp_nt, e_wp_and, e_wp_or, e_wp_chain, e_wp_neg, e_wp_isN, e_wp_notN, e_wp_tst, e_wp_tB', e_wp_tand, e_wp_tor, e_wp_tnot, e_wp_tyes, e_wp_ife, e_wp_bi, e_wp_o0, e_wp_o1, e_wp_sl, e_wp_fld, e_wp_nm, e_wp_g0, e_wp_gc, e_wp_gt, e_wp_iseq, e_wp_irg1, e_wp_irg2, e_wp_ienum, e_wp_izip, e_wp_bor, e_wp_borL, e_wp_app, e_wp_ext, e_wp_popAt, e_wp_lc, e_wp_dct1, e_wp_call, e_wp_call0, e_wp_nil, e_wp_seq, e_wp_brk, e_wp_cnt, e_wp_drop, e_wp_ret, e_wp_retN, e_wp_ifs, e_wp_asg, e_wp_own, e_wp_par, e_wp_fors, e_wp_whs, e_wp_aug, e_wp_setO, e_wp_rai, e_wp_rai0, e_wp_tryAs, e_wp_add, e_wp_mul, e_wp_sub, e_wp_lt, e_wp_le, e_wp_gt', e_wp_ge, e_wp_fdiv, e_wp_mod, e_wp_pow, e_wp_eq, e_wp_ne, e_wp_inn, e_wp_nin, e_wp_ix, e_wp_len, e_wp_abs, e_wp_toInt, e_wp_gcd, e_wp_all, e_wp_any, e_wp_sum, e_wp_tuple, e_wp_isT, e_wp_isC, e_wp_list, e_wp_listRg, e_wp_addL, e_wp_retO, e_wp_retL, e_wp_callL, e_wp_mk, e_wp_setf, e_wp_mcountT, e_wp_tupleX, e_wp_mcount, e_wp_mindex, e_wp_lcm, e_wp_astar, e_wp_revL, e_wp_lc2, e_wp_callG, e_wp_isX, e_wp_xf, e_wp_fdivM, r_get0, r_getS, r_put0, r_putS, r_var, r_vd, r_vown, r_isBl, r_isI, r_isSqT, r_isSqL, r_two, r_isOwn, r_no, r_noU, r_unxI, r_unxT, r_unxX, r_unxO, r_addI, r_addT, r_addL, r_mulI, r_mulT, r_ii, r_ci, r_eqI, r_eqS, r_eqB, r_inT, r_inL, r_ixT, r_ixL, r_lenT, r_lenL, r_abs, r_intI, r_intB, r_gcd, r_all, r_sum, r_tupL, r_tupT, r_sqT, r_sqL, r_rg1, r_en, r_zipT, r_zipL, r_slT, r_slL, r_noOwn0, r_noOwnS, r_wip0, r_wipS, r_start, r_bodyN, r_body, r_lt, r_isN0, r_isNT, r_isNI, r_isNL, r_okU, r_okD, r_noOb0, r_noObU, r_noObD, r_noObO, r_frz0, r_frzU, r_frzD, r_frzO, r_noLi, r_noLb, r_noLs, r_noLn, rev, List.map_cons, List.map_nil, List.length_cons, List.length_nil, List.replicate, List.nil_append, List.cons_append, Nat.sub_self, Nat.reduceAdd, Nat.reduceSub, not_false_eq_true, and_self, true_and, and_true, if_true, if_false, Bool.not_true, Bool.not_false, Bool.false_eq_true, and_false, false_and, reduceIte, ite_self, Nat.zero_add, decide_eq_true_eq]))
local macro_rules | `(tactic| walk_at "ws") => `(tactic| simp_all [r_get0, r_getS, r_put0, r_putS, r_var, r_vd, r_vown, r_isBl, r_isI, r_isSqT, r_isSqL, r_two, r_isOwn, r_no, r_noU, r_unxI, r_unxT, r_unxX, r_unxO, r_addI, r_addT, r_addL, r_mulI, r_mulT, r_ii, r_ci, r_eqI, r_eqS, r_eqB, r_inT, r_inL, r_ixT, r_ixL, r_lenT, r_lenL, r_abs, r_intI, r_intB, r_gcd, r_all, r_sum, r_tupL, r_tupT, r_sqT, r_sqL, r_rg1, r_en, r_zipT, r_zipL, r_slT, r_slL, r_noOwn0, r_noOwnS, r_wip0, r_wipS, r_start, r_bodyN, r_body, r_lt, r_isN0, r_isNT, r_isNI, r_isNL, r_okU, r_okD, r_noOb0, r_noObU, r_noObD, r_noObO, r_frz0, r_frzU, r_frzD, r_frzO, r_noLi, r_noLb, r_noLs, r_noLn, isTy, taggedD, tagD])
/-- sizes of the law's rows behind i steps -/
def zs (i : Nat) : Nat := 7 * 4 ^ i + (4 ^ i - 1) / 3
def rzs (k : Nat) (r : List Rat) : Prop := ∀ x ∈ r, sz k x
theorem rzs_get {k p : Nat} {r : List Rat} (h : rzs k r) (hk : 0 < k) : sz k (r.getD p 0) := by
  simp only [List.getD]
  cases e : r[p]? with
  | none => exact ⟨by simp; exact Nat.two_pow_pos k, by show 1 < 2 ^ k; exact Nat.one_lt_two_pow (by omega)⟩
  | some x => simpa using h x (List.mem_of_getElem? e)
theorem stR_len {p : Nat} {b r : List Rat} (h : b.length = r.length) : (stR p b r).length = r.length := by
  unfold stR
  split
  · rfl
  · simp [h]
theorem stR_sz {p k : Nat} {b r : List Rat} (hk : 0 < k) (hb : rzs k b) (hr : rzs k r) (h0 : b.getD p 0 ≠ 0) : rzs (4 * k + 1) (stR p b r) := by
  unfold stR
  split
  · intro x hx
    have := hr x hx
    exact ⟨Nat.lt_of_lt_of_le this.1 (Nat.pow_le_pow_right (by decide) (by omega)), Nat.lt_of_lt_of_le this.2 (Nat.pow_le_pow_right (by decide) (by omega))⟩
  · intro x hx
    obtain ⟨j, hj⟩ := List.mem_iff_getElem?.mp hx
    rw [List.getElem?_zipWith] at hj
    cases e1 : r[j]? with
    | none => rw [e1] at hj; simp at hj
    | some u =>
      cases e2 : b[j]? with
      | none => rw [e1, e2] at hj; simp at hj
      | some w =>
        rw [e1, e2] at hj
        simp only [Option.some.injEq] at hj
        subst hj
        have s1 := sz_fac (rzs_get (p := p) hr hk) (rzs_get (p := p) hb hk) h0
        have s2 := sz_mul s1 (hb w (List.mem_of_getElem? e2))
        have s3 := sz_add (hr u (List.mem_of_getElem? e1)) s2
        rw [show 4 * k + 1 = k + (k + k + k) + 1 by omega]
        exact s3
def clR : List (Nat × List Rat) → List Rat → List Rat
  | [], r => r
  | (p, b) :: bs, r => clR bs (stR p b r)
theorem clR_append : ∀ {xs ys : List (Nat × List Rat)} {r : List Rat}, clR (xs ++ ys) r = clR ys (clR xs r)
  | [], _, _ => rfl
  | (p, b) :: xs, ys, r => by simp only [List.cons_append, clR]; exact clR_append
section
variable {K : PySem.W.Frag} {a : Ad} {Q : D → Prop} {E : Er → Prop}
theorem w_lleft1 {p n k : Nat} {b r : List Rat} {N : List B → Prop} {st rr : D} {b4 b5 b6 : B} (hk : 0 < k) (hk2 : 4 * k ≤ 9000) (hp : p < n) (hb : rzs k b) (hr : rzs k r) (lb : b.length = n) (lr : r.length = n) (hn : n ≤ 100) (h0 : b.getD p 0 ≠ 0) :
    wp__law_low K a [.int (-(r.getD p 0).num * ((b.getD p 0).den : Nat)), .int (((r.getD p 0).den : Nat) * (b.getD p 0).num)] (fun d => d = rq (-(r.getD p 0) / b.getD p 0)) E := by
  refine w_llow (fac_ne h0) ?_ (by rw [rat_fac])
  have h1 := (rzs_get (p := p) hr hk).2
  have h2 := (rzs_get (p := p) hb hk).1
  have h : ((((r.getD p 0).den : Nat) : Int) * (b.getD p 0).num).natAbs < 2 ^ (k + k) := wide_lt (by simpa using h1) h2
  exact Nat.lt_of_lt_of_le (PySem.Flt.log2_lt_of (by omega) h) (by omega)
end
end My
namespace My
open PySem L2 Ab Cc
local macro_rules | `(tactic| walk_at "wp") => `(tactic| (try simp -implicitDefEqProofs only [e_wp_v, e_wp_vr, e_wp_wk, e_wp_int, e_wp_bl, e_wp_non, e_wp_str, e_wp_ty, e_wp_cls, e_wp_con, e_wp_a0, e_wp_ac, e_wp_tup, e_wp_dic, e_wp_lst, e_wp_ofL, e_wp_op, e_wp_nt, e_wp_and, e_wp_or, e_wp_chain, e_wp_neg, e_wp_isN, e_wp_notN, e_wp_tst, e_wp_tB', e_wp_tand, e_wp_tor, e_wp_tnot, e_wp_tyes, e_wp_ife, e_wp_bi, e_wp_o0, e_wp_o1, e_wp_sl, e_wp_fld, e_wp_nm, e_wp_g0, e_wp_gc, e_wp_gt, e_wp_iseq, e_wp_irg1, e_wp_irg2, e_wp_ienum, e_wp_izip, e_wp_bor, e_wp_borL, e_wp_app, e_wp_ext, e_wp_popAt, e_wp_lc, e_wp_dct1, e_wp_call, e_wp_call0, e_wp_nil, e_wp_seq, e_wp_brk, e_wp_cnt, e_wp_drop, e_wp_ret, e_wp_retN, e_wp_ifs, e_wp_asg, e_wp_own, e_wp_par, e_wp_fors, e_wp_whs, e_wp_aug, e_wp_setO, e_wp_rai, e_wp_rai0, e_wp_tryAs, e_wp_add, e_wp_mul, e_wp_sub, e_wp_lt, e_wp_le, e_wp_gt', e_wp_ge, e_wp_fdiv, e_wp_mod, e_wp_pow, e_wp_eq, e_wp_ne, e_wp_inn, e_wp_nin, e_wp_ix, e_wp_len, e_wp_abs, e_wp_toInt, e_wp_gcd, e_wp_all, e_wp_any, e_wp_sum, e_wp_tuple, e_wp_isT, e_wp_isC, e_wp_list, e_wp_listRg, e_wp_addL, e_wp_retO, e_wp_retL, e_wp_callL, e_wp_mk, e_wp_setf, e_wp_mcountT, e_wp_tupleX, e_wp_mcount, e_wp_mindex, e_wp_lcm, e_wp_astar, e_wp_revL, e_wp_lc2, e_wp_callG, e_wp_isX, e_wp_xf, e_wp_fdivM, r_get0, r_getS, r_put0, r_putS, r_var, r_vd, r_vown, r_isBl, r_isI, r_isSqT, r_isSqL, r_two, r_isOwn, r_no, r_noU, r_unxI, r_unxT, r_unxX, r_unxO, r_addI, r_addT, r_addL, r_mulI, r_mulT, r_ii, r_ci, r_eqI, r_eqS, r_eqB, r_inT, r_inL, r_ixT, r_ixL, r_lenT, r_lenL, r_abs, r_intI, r_intB, r_gcd, r_all, r_sum, r_tupL, r_tupT, r_sqT, r_sqL, r_rg1, r_en, r_zipT, r_zipL, r_slT, r_slL, r_noOwn0, r_noOwnS, r_wip0, r_wipS, r_start, r_bodyN, r_body, r_lt, r_isN0, r_isNT, r_isNI, r_isNL, r_okU, r_okD, r_noOb0, r_noObU, r_noObD, r_noObO, r_frz0, r_frzU, r_frzD, r_frzO, r_noLi, r_noLb, r_noLs, r_noLn, rev, List.map_cons, List.map_nil, List.length_cons, List.length_nil, List.replicate, List.nil_append, List.cons_append, Nat.sub_self, Nat.reduceAdd, Nat.reduceSub, not_false_eq_true, and_self, true_and, and_true, if_true, if_false, Bool.not_true, Bool.not_false, Bool.false_eq_true, and_false, false_and, reduceIte, ite_self, Nat.zero_add, decide_eq_true_eq]))
local macro_rules | `(tactic| walk_at "ws") => `(tactic| simp_all [r_get0, r_getS, r_put0, r_putS, r_var, r_vd, r_vown, r_isBl, r_isI, r_isSqT, r_isSqL, r_two, r_isOwn, r_no, r_noU, r_unxI, r_unxT, r_unxX, r_unxO, r_addI, r_addT, r_addL, r_mulI, r_mulT, r_ii, r_ci, r_eqI, r_eqS, r_eqB, r_inT, r_inL, r_ixT, r_ixL, r_lenT, r_lenL, r_abs, r_intI, r_intB, r_gcd, r_all, r_sum, r_tupL, r_tupT, r_sqT, r_sqL, r_rg1, r_en, r_zipT, r_zipL, r_slT, r_slL, r_noOwn0, r_noOwnS, r_wip0, r_wipS, r_start, r_bodyN, r_body, r_lt, r_isN0, r_isNT, r_isNI, r_isNL, r_okU, r_okD, r_noOb0, r_noObU, r_noObD, r_noObO, r_frz0, r_frzU, r_frzD, r_frzO, r_noLi, r_noLb, r_noLs, r_noLn, isTy, taggedD, tagD])
/-- steps of the law: pivots and rows of n that grow by the rule -/
def okS (n : Nat) : Nat → List (Nat × List Rat) → Prop
  | _, [] => True
  | k, (p, b) :: bs => p < n ∧ b.length = n ∧ rzs k b ∧ b.getD p 0 ≠ 0 ∧ okS n (4 * k + 1) bs
def zk : Nat → Nat → Nat
  | k, 0 => k
  | k, i + 1 => 4 * zk k i + 1
theorem zk_succ (k i : Nat) : zk (4 * k + 1) i = zk k (i + 1) := by
  induction i with
  | zero => rfl
  | succ i ih => simp only [zk] at *; omega
theorem okS_get : ∀ {bs : List (Nat × List Rat)} {n k i p : Nat} {b : List Rat}, okS n k bs → bs[i]? = some (p, b) → p < n ∧ b.length = n ∧ rzs (zk k i) b ∧ b.getD p 0 ≠ 0
  | [], _, _, _, _, _, _, h => by simp at h
  | (q, c) :: bs, n, k, 0, p, b, h, e => by
    simp at e
    obtain ⟨rfl, rfl⟩ := e
    exact ⟨h.1, h.2.1, h.2.2.1, h.2.2.2.1⟩
  | (q, c) :: bs, n, k, i + 1, p, b, h, e => by
    have := okS_get (i := i) h.2.2.2.2 (by simpa using e)
    rw [zk_succ] at this
    exact this
theorem zk_pos {k i : Nat} (h : 0 < k) : 0 < zk k i := by cases i <;> simp [zk]; omega
theorem clR_facts {n k : Nat} {bs : List (Nat × List Rat)} {r : List Rat} (hk : 0 < k) (hb : okS n k bs) (hr : rzs k r) (hl : r.length = n) : ∀ i, i ≤ bs.length → rzs (zk k i) (clR (bs.take i) r) ∧ (clR (bs.take i) r).length = n
  | 0, _ => by simpa [clR, zk] using ⟨hr, hl⟩
  | i + 1, h => by
    obtain ⟨f1, f2⟩ := clR_facts hk hb hr hl i (by omega)
    have hg : bs[i]? = some bs[i] := List.getElem?_eq_getElem (by omega)
    obtain ⟨p, b, hpb⟩ : ∃ p b, bs[i] = (p, b) := ⟨_, _, rfl⟩
    rw [hpb] at hg
    obtain ⟨g1, g2, g3, g4⟩ := okS_get hb hg
    rw [take_succ_get hg, clR_append]
    simp only [clR]
    exact ⟨stR_sz (zk_pos hk) g3 f1 g4, by rw [stR_len (by omega)]; exact f2⟩
section
variable {K : PySem.W.Frag} {a : Ad} {Q : D → Prop} {E : Er → Prop}
theorem frz_ok {b : B} {r : List B} (h : okB b) : frz (b :: r) = b :: frz r := by rcases okB_cases h with rfl | ⟨x, rfl⟩ <;> rfl
theorem noOb_ok {b : B} {r : List B} (h : okB b) : noOb (b :: r) = noOb r := by rcases okB_cases h with rfl | ⟨x, rfl⟩ <;> rfl
theorem noL_rq {x : Rat} : noL (rq x) = true := rfl
theorem w_lleft {n : Nat} {bs : List (Nat × List Rat)} {r : List Rat} {QL : List D → Prop} (hb : okS n 7 bs) (hr : rzs 7 r) (hl : r.length = n) (h4 : bs.length ≤ 5) (hn : n ≤ 6) (q : QL ((clR bs r).map rq)) : wp__law_left K a [.lst (bs.map tD), .tup (r.map rq)] QL E := by
  unfold wp__law_left b__law_left
  rw [r_bodyN]
  walk_at "wp"
  refine ⟨noLs_all.mpr fun x hx => by
    obtain ⟨y, _, rfl⟩ := List.mem_map.mp hx
    rfl, ?_⟩
  refine forW_ix (fun i Γ => ∃ b2 b3 b4 b5 b6, okB b2 ∧ okB b3 ∧ okB b4 ∧ okB b5 ∧ okB b6 ∧ Γ = [.d (.lst (bs.map tD)), .own ((clR (bs.take i) r).map rq), b2, b3, b4, b5, b6]) ⟨.un, .un, .un, .un, .un, trivial, trivial, trivial, trivial, trivial, rfl⟩ ?_ ?_
  · rintro Γ ⟨b2, b3, b4, b5, b6, k2, k3, k4, k5, k6, rfl⟩
    rw [List.length_map, List.take_length]
    walk_at "wp"
    exact q
  · rintro i d hd Γ ⟨b2, b3, b4, b5, b6, k2, k3, k4, k5, k6, rfl⟩ N hN
    obtain ⟨⟨p, b⟩, hx, rfl⟩ := map_get hd
    have hi : i < bs.length := (List.getElem?_eq_some_iff.mp hx).1
    obtain ⟨g1, g2, g3, g4⟩ := okS_get hb hx
    obtain ⟨f1, f2⟩ := clR_facts (by decide) hb hr hl i (by omega)
    have nx : (clR (bs.take (i + 1)) r).map rq = (stR p b (clR (bs.take i) r)).map rq := by rw [take_succ_get hx, clR_append]; rfl
    have z0 : 0 < zk 7 i := zk_pos (by decide)
    have z4 : 4 * zk 7 i ≤ 9000 := by
      have : i = 0 ∨ i = 1 ∨ i = 2 ∨ i = 3 ∨ i = 4 := by omega
      rcases this with rfl | rfl | rfl | rfl | rfl <;> decide
    generalize zk 7 i = k at *
    revert f1 f2 nx hN
    generalize clR (bs.take i) r = L
    intro hN ln nxe szL
    have eb : b[p]? = some (b.getD p 0) := by simp [List.getD, List.getElem?_eq_getElem (show p < b.length by omega)]
    have el : L[p]? = some (L.getD p 0) := by simp [List.getD, List.getElem?_eq_getElem (show p < L.length by omega)]
    have ab := My.atI_get (f := rq) eb
    have al := My.atI_get (f := rq) el
    simp only [tD, rL]
    have fz : ∀ {x y : B}, okB x → okB y → frz [.d (.lst (bs.map tD)), .own (L.map rq), .d (.int p), x, y, b5, b6] = [.d (.lst (bs.map tD)), .d (.lst (L.map rq)), .d (.int p), x, y, b5, b6] := fun hx hy => by
      simp only [r_frzD, r_frzO, frz_ok hx, frz_ok hy, frz_ok k5, frz_ok k6, r_frz0]
    have no : ∀ {x y : B}, okB x → okB y → noOb [.d (.lst (bs.map tD)), .own (L.map rq), .d (.int p), x, y, b5, b6] = true := fun hx hy => by
      simp only [r_noObD, r_noObO, noOb_ok hx, noOb_ok hy, noOb_ok k5, noOb_ok k6, r_noOb0]
    walk_at "wp"
    simp only [noOb_ok k4, noOb_ok k5, noOb_ok k6, frz_ok k4, frz_ok k5, frz_ok k6, r_frz0, r_noOb0]
    walk_at "wp"
    refine ⟨_, al, ?_⟩
    simp only [rq]
    walk_at "wp"
    refine ⟨rfl, _, rfl, ?_⟩
    walk_at "wp"
    by_cases z : (L.getD p 0).num = 0
    · simp only [z, decide_true, Bool.not_true, Bool.false_eq_true, if_false]
      have z' : L.getD p 0 = 0 := Rat.num_eq_zero.mp z
      refine hN _ ⟨.d (.int p), .d (.lst (b.map rq)), b4, b5, b6, trivial, trivial, k4, k5, k6, ?_⟩
      rw [nxe]; simp only [stR, z', if_true]
    · simp only [z, decide_false, Bool.not_false, if_true]
      have z' : ¬ L.getD p 0 = 0 := fun e => z (by rw [e]; rfl)
      have sl := rzs_get (p := p) szL z0
      have sb := rzs_get (p := p) g3 z0
      refine ⟨_, al, rfl, ?_⟩
      simp only [rq]
      rw [r_ixT]
      refine ⟨_, rfl, ?_⟩
      simp only
      refine ⟨_, ab, ?_⟩
      simp only [rq]
      rw [r_ixT]
      refine ⟨_, rfl, ?_⟩
      rw [r_mulI]
      refine ⟨.inr (wide_mul (by simpa using sl.1) (by simpa using sb.2) z0 z0 (by omega)), ?_⟩
      refine ⟨_, al, rfl, ?_⟩
      simp only [rq]
      rw [r_ixT]
      refine ⟨_, rfl, ?_⟩
      refine ⟨_, ab, ?_⟩
      simp only [rq]
      rw [r_ixT]
      refine ⟨_, rfl, ?_⟩
      rw [r_mulI]
      refine ⟨.inr (wide_mul (by simpa using sl.2) sb.1 z0 z0 (by omega)), ?_⟩
      refine w_llow (fac_ne g4) (Nat.lt_of_lt_of_le (PySem.Flt.log2_lt_of (by omega) (wide_lt (by simpa using sl.2) sb.1 : _ < 2 ^ (k + k))) (by omega)) ?_
      rw [rat_fac]
      have sf := sz_fac sl sb g4
      generalize hf : -(L.getD p 0) / b.getD p 0 = f at *
      refine ⟨⟨okB_no k5, okB_no k6⟩, by rw [zipD_len]; simp; omega, lcS_ix (i0 := 0) (fun j => rq (L.getD j 0 + f * b.getD j 0)) (fun j d hd kk hk => ?_) ?_⟩
      · have hjl : j < n := by
          have h1 := (List.getElem?_eq_some_iff.mp hd).1
          rw [zipD_len] at h1
          simp at h1
          omega
        have e1 : L[j]? = some (L.getD j 0) := by simp [List.getD, List.getElem?_eq_getElem (show j < L.length by omega)]
        have e2 : b[j]? = some (b.getD j 0) := by simp [List.getD, List.getElem?_eq_getElem (show j < b.length by omega)]
        have ed : d = .tup [rq (L.getD j 0), rq (b.getD j 0)] := by
          unfold zipD at hd
          rw [List.getElem?_zipWith, List.getElem?_map, List.getElem?_map, e1, e2] at hd
          simpa using hd.symm
        subst ed
        rw [Nat.zero_add] at hk
        simp only [elW]
        walk_at "wp"
        refine w_lmul sf (rzs_get g3 z0) (by omega) z0 (by omega) ?_
        walk_at "wp"
        exact w_ladd (rzs_get szL z0) (sz_mul sf (rzs_get g3 z0)) z0 (by omega) (by omega) hk
      · have e : (List.range (zipD (L.map rq) (b.map rq)).length).map (fun j => rq (L.getD (0 + j) 0 + f * b.getD (0 + j) 0)) = (stR p b L).map rq := by
          simp only [stR, z', if_false, hf, zipD_len, List.length_map, Nat.zero_add]
          apply List.ext_getElem
          · simp [ln, g2]
          · intro j h1 h2
            simp at h1
            have j1 : j < L.length := by omega
            have j2 : j < b.length := by omega
            simp [List.getD, j1, j2]
        rw [List.nil_append, e]
        refine ⟨noLs_all.mpr fun x hx => by
          obtain ⟨y, _, rfl⟩ := List.mem_map.mp hx
          rfl, hN _ ⟨.d (.int p), .d (.lst (b.map rq)), .d (rq f), b5, b6, trivial, trivial, trivial, k5, k6, ?_⟩⟩
        rw [nxe]
end
end My
namespace My
open PySem L2 Ab Cc
local macro_rules | `(tactic| walk_at "wp") => `(tactic| (try simp -implicitDefEqProofs only [e_wp_v, e_wp_vr, e_wp_wk, e_wp_int, e_wp_bl, e_wp_non, e_wp_str, e_wp_ty, e_wp_cls, e_wp_con, e_wp_a0, e_wp_ac, e_wp_tup, e_wp_dic, e_wp_lst, e_wp_ofL, e_wp_op, e_wp_nt, e_wp_and, e_wp_or, e_wp_chain, e_wp_neg, e_wp_isN, e_wp_notN, e_wp_tst, e_wp_tB', e_wp_tand, e_wp_tor, e_wp_tnot, e_wp_tyes, e_wp_ife, e_wp_bi, e_wp_o0, e_wp_o1, e_wp_sl, e_wp_fld, e_wp_nm, e_wp_g0, e_wp_gc, e_wp_gt, e_wp_iseq, e_wp_irg1, e_wp_irg2, e_wp_ienum, e_wp_izip, e_wp_bor, e_wp_borL, e_wp_app, e_wp_ext, e_wp_popAt, e_wp_lc, e_wp_dct1, e_wp_call, e_wp_call0, e_wp_nil, e_wp_seq, e_wp_brk, e_wp_cnt, e_wp_drop, e_wp_ret, e_wp_retN, e_wp_ifs, e_wp_asg, e_wp_own, e_wp_par, e_wp_fors, e_wp_whs, e_wp_aug, e_wp_setO, e_wp_rai, e_wp_rai0, e_wp_tryAs, e_wp_add, e_wp_mul, e_wp_sub, e_wp_lt, e_wp_le, e_wp_gt', e_wp_ge, e_wp_fdiv, e_wp_mod, e_wp_pow, e_wp_eq, e_wp_ne, e_wp_inn, e_wp_nin, e_wp_ix, e_wp_len, e_wp_abs, e_wp_toInt, e_wp_gcd, e_wp_all, e_wp_any, e_wp_sum, e_wp_tuple, e_wp_isT, e_wp_isC, e_wp_list, e_wp_listRg, e_wp_addL, e_wp_retO, e_wp_retL, e_wp_callL, e_wp_mk, e_wp_setf, e_wp_mcountT, e_wp_tupleX, e_wp_mcount, e_wp_mindex, e_wp_lcm, e_wp_astar, e_wp_revL, e_wp_lc2, e_wp_callG, e_wp_isX, e_wp_xf, e_wp_fdivM, r_get0, r_getS, r_put0, r_putS, r_var, r_vd, r_vown, r_isBl, r_isI, r_isSqT, r_isSqL, r_two, r_isOwn, r_no, r_noU, r_unxI, r_unxT, r_unxX, r_unxO, r_addI, r_addT, r_addL, r_mulI, r_mulT, r_ii, r_ci, r_eqI, r_eqS, r_eqB, r_inT, r_inL, r_ixT, r_ixL, r_lenT, r_lenL, r_abs, r_intI, r_intB, r_gcd, r_all, r_sum, r_tupL, r_tupT, r_sqT, r_sqL, r_rg1, r_en, r_zipT, r_zipL, r_slT, r_slL, r_noOwn0, r_noOwnS, r_wip0, r_wipS, r_start, r_bodyN, r_body, r_lt, r_isN0, r_isNT, r_isNI, r_isNL, r_okU, r_okD, r_noOb0, r_noObU, r_noObD, r_noObO, r_frz0, r_frzU, r_frzD, r_frzO, r_noLi, r_noLb, r_noLs, r_noLn, rev, List.map_cons, List.map_nil, List.length_cons, List.length_nil, List.replicate, List.nil_append, List.cons_append, Nat.sub_self, Nat.reduceAdd, Nat.reduceSub, not_false_eq_true, and_self, true_and, and_true, if_true, if_false, Bool.not_true, Bool.not_false, Bool.false_eq_true, and_false, false_and, reduceIte, ite_self, Nat.zero_add, decide_eq_true_eq]))
local macro_rules | `(tactic| walk_at "ws") => `(tactic| simp_all [r_get0, r_getS, r_put0, r_putS, r_var, r_vd, r_vown, r_isBl, r_isI, r_isSqT, r_isSqL, r_two, r_isOwn, r_no, r_noU, r_unxI, r_unxT, r_unxX, r_unxO, r_addI, r_addT, r_addL, r_mulI, r_mulT, r_ii, r_ci, r_eqI, r_eqS, r_eqB, r_inT, r_inL, r_ixT, r_ixL, r_lenT, r_lenL, r_abs, r_intI, r_intB, r_gcd, r_all, r_sum, r_tupL, r_tupT, r_sqT, r_sqL, r_rg1, r_en, r_zipT, r_zipL, r_slT, r_slL, r_noOwn0, r_noOwnS, r_wip0, r_wipS, r_start, r_bodyN, r_body, r_lt, r_isN0, r_isNT, r_isNI, r_isNL, r_okU, r_okD, r_noOb0, r_noObU, r_noObD, r_noObO, r_frz0, r_frzU, r_frzD, r_frzO, r_noLi, r_noLb, r_noLs, r_noLn, isTy, taggedD, tagD])
/-- a number as a fraction -/
def rt (p : Int × Int) : Rat := Rat.divInt p.1 p.2
theorem rt_parts {p : Int × Int} (h : sm p) : (rt p).num = p.1 ∧ (((rt p).den : Nat) : Int) = p.2 := by
  obtain ⟨h1, _, _, h4⟩ := h
  have e : p.2.gcd p.1 = 1 := by rw [Int.gcd_comm]; exact h4
  unfold rt
  refine ⟨?_, ?_⟩
  · rw [Rat.num_divInt, e, Int.sign_eq_one_of_pos (by omega)]; simp
  · rw [Rat.den_divInt, if_neg (by omega), e]; simp; omega
theorem rq_rt {p : Int × Int} (h : sm p) : rq (rt p) = pr p := by
  obtain ⟨e1, e2⟩ := rt_parts h
  unfold rq pr
  rw [e1, e2]
theorem sz_rt {p : Int × Int} (h : sm p) : sz 7 (rt p) := by
  obtain ⟨e1, e2⟩ := rt_parts h
  obtain ⟨h1, h2, h3, h4⟩ := h
  refine ⟨by rw [e1]; omega, ?_⟩
  have : (((rt p).den : Nat) : Int) ≤ 7 := by rw [e2]; exact h2
  omega
def rtR (r : Rw) : List Rat := r.map rt
theorem rD_rt {n : Nat} {r : Rw} (h : okR n r) : rD r = .tup ((rtR r).map rq) := by
  unfold rD rtR
  rw [List.map_map]
  exact congrArg D.tup (List.map_congr_left fun p hp => (rq_rt (h.2 p hp)).symm)
theorem rtR_len {r : Rw} : (rtR r).length = r.length := by simp [rtR]
theorem rtR_sz {n : Nat} {r : Rw} (h : okR n r) : rzs 7 (rtR r) := fun x hx => by
  obtain ⟨p, hp, rfl⟩ := List.mem_map.mp hx
  exact sz_rt (h.2 p hp)
def vc (r : List Rat) : LA.Vc := fun i => r.getD i 0
abbrev LB := List (Nat × List Rat)
def vB' (bs : LB) : List (Nat × LA.Vc) := bs.map fun x => (x.1, vc x.2)
theorem getD_zip {f : Rat → Rat → Rat} {r b : List Rat} (hl : b.length = r.length) (h0 : f 0 0 = 0) (i : Nat) : (List.zipWith f r b).getD i 0 = f (r.getD i 0) (b.getD i 0) := by
  simp only [List.getD, List.getElem?_zipWith]
  by_cases h : i < r.length
  · have h2 : i < b.length := by omega
    simp [h, h2]
  · have h2 : ¬ i < b.length := by omega
    simp [h, h2, h0]
/-- clearing is what LA calls so -/
theorem clr_R : ∀ {bs : LB} {n k : Nat} {r : List Rat}, okS n k bs → r.length = n → LA.Clr (vB' bs) (vc r) (vc (clR bs r))
  | [], _, _, _, _, _ => .nil
  | (p, b) :: bs, n, k, r, h, hl => by
    have hb : b.length = r.length := by rw [h.2.1, hl]
    have hp : b.getD p 0 ≠ 0 := h.2.2.2.1
    simp only [clR, vB', List.map_cons]
    have e : ∀ i, vc (stR p b r) i = vc r i - (r.getD p 0 / b.getD p 0) * vc b i := fun i => by
      unfold stR vc
      split
      · rename_i z
        rw [z]; grind
      · rw [getD_zip hb (by grind)]; grind
    refine .cons (x' := vc (stR p b r)) 1 1 (r.getD p 0 / b.getD p 0) (by decide) (by decide) (fun i => by rw [e]; grind) ?_ (clr_R h.2.2.2.2 (by rw [stR_len hb]; exact hl))
    rw [e]
    show r.getD p 0 - r.getD p 0 / b.getD p 0 * b.getD p 0 = 0
    grind
theorem okS_snoc : ∀ {bs : LB} {n k p : Nat} {b : List Rat}, okS n k bs → p < n → b.length = n → rzs (zk k bs.length) b → b.getD p 0 ≠ 0 → okS n k (bs ++ [(p, b)])
  | [], n, k, p, b, _, h1, h2, h3, h4 => ⟨h1, h2, h3, h4, trivial⟩
  | (q, c) :: bs, n, k, p, b, h, h1, h2, h3, h4 => ⟨h.1, h.2.1, h.2.2.1, h.2.2.2.1, okS_snoc h.2.2.2.2 h1 h2 (by rw [zk_succ]; exact h3) h4⟩
def fnR (r : List Rat) : List Nat := (List.range r.length).filter fun i => decide (r.getD i 0 ≠ 0)
def stp1 (bs : LB) (r : Rw) : LB := match fnR (clR bs (rtR r)) with
  | [] => bs
  | p :: _ => bs ++ [(p, clR bs (rtR r))]
def stepsR (rs : List Rw) : LB := rs.foldl stp1 []
theorem fnR_nil {r : List Rat} (h : fnR r = []) : ∀ i, vc r i = 0 := fun i => by
  unfold vc
  by_cases hi : i < r.length
  · have := List.filter_eq_nil_iff.mp h i (List.mem_range.mpr hi)
    simpa using this
  · simp [List.getD, hi]
theorem fnR_cons {r : List Rat} {p : Nat} {ps : List Nat} (h : fnR r = p :: ps) : p < r.length ∧ r.getD p 0 ≠ 0 := by
  have : p ∈ fnR r := by rw [h]; exact List.mem_cons_self
  obtain ⟨h1, h2⟩ := List.mem_filter.mp this
  exact ⟨List.mem_range.mp h1, by simpa using h2⟩
theorem ech_ne : ∀ {bs : List (Nat × LA.Vc)}, LA.Ech bs → ∀ q ∈ bs, q.2 q.1 ≠ 0
  | [], _, _, m => by cases m
  | (p, b) :: bs, ⟨h1, h2, h3⟩, q, m => by
    rcases List.mem_cons.mp m with rfl | m
    · exact h1
    · exact ech_ne h3 q m
theorem ech_piv : ∀ {bs : List (Nat × LA.Vc)}, LA.Ech bs → (bs.map (·.1)).Nodup
  | [], _ => by simp
  | (p, b) :: bs, ⟨h1, h2, h3⟩ => by
    rw [List.map_cons]
    refine List.nodup_cons.mpr ⟨fun m => ?_, ech_piv h3⟩
    obtain ⟨q, hq, e⟩ := List.mem_map.mp m
    exact ech_ne h3 q hq (by rw [e]; exact h2 q hq)
theorem stepsR_snoc {rs : List Rw} {r : Rw} : stepsR (rs ++ [r]) = stp1 (stepsR rs) r := by simp [stepsR, List.foldl_append]
/-- the law's bases -/
structure LOk (n : Nat) (rs : List Rw) : Prop where
  s : okS n 7 (stepsR rs)
  b : LA.Bas (rs.map fun r => vc (rtR r)) (vB' (stepsR rs))
theorem LOk.len {n : Nat} {rs : List Rw} (h : LOk n rs) : (stepsR rs).length ≤ n := by
  have := nd_len (n := n) (ech_piv (LA.bas_spec h.b).1) (fun x hx => by
    obtain ⟨y, hy, rfl⟩ := List.mem_map.mp hx
    obtain ⟨z, hz, rfl⟩ := List.mem_map.mp hy
    obtain ⟨i, hi⟩ := List.mem_iff_getElem?.mp hz
    exact (okS_get (p := z.1) (b := z.2) h.s hi).1)
  simpa [vB'] using this
theorem lok_nil {n : Nat} : LOk n [] := ⟨trivial, .nil⟩
theorem LOk.snoc {n : Nat} {rs : List Rw} {r : Rw} (h : LOk n rs) (hr : okR n r) : LOk n (rs ++ [r]) := by
  have hl : (rtR r).length = n := by rw [rtR_len]; exact hr.1
  have hc := clr_R h.s hl
  obtain ⟨f1, f2⟩ := clR_facts (by decide) h.s (rtR_sz hr) hl _ (Nat.le_refl _)
  rw [List.take_length] at f1 f2
  unfold stp1 at *
  constructor
  · rw [stepsR_snoc]
    unfold stp1
    split
    · exact h.s
    · rename_i p ps e
      obtain ⟨g1, g2⟩ := fnR_cons e
      exact okS_snoc h.s (by omega) f2 f1 g2
  · rw [stepsR_snoc, List.map_append]
    unfold stp1
    split
    · rename_i e
      exact .skip h.b hc (fnR_nil e)
    · rename_i p ps e
      obtain ⟨g1, g2⟩ := fnR_cons e
      have : vB' (stepsR rs ++ [(p, clR (stepsR rs) (rtR r))]) = vB' (stepsR rs) ++ [(p, vc (clR (stepsR rs) (rtR r)))] := by simp [vB']
      rw [this]
      exact .add h.b hc g2
theorem lok_all {n : Nat} : ∀ {rs : List Rw}, (∀ r ∈ rs, okR n r) → LOk n rs := fun {rs} h => by
  suffices k : ∀ i, i ≤ rs.length → LOk n (rs.take i) by
    have := k rs.length (Nat.le_refl _)
    rwa [List.take_length] at this
  intro i
  induction i with
  | zero => intro _; exact lok_nil
  | succ i ih =>
    intro hi
    have hg : rs[i]? = some rs[i] := List.getElem?_eq_getElem (by omega)
    rw [take_succ_get hg]
    exact (ih (by omega)).snoc (h _ (List.getElem_mem _))
def vi (r : List Int) : LA.Vc := fun i => ((r.getD i 0 : Int) : Rat)
def vI (bs : Bs) : List (Nat × LA.Vc) := bs.map fun x => (x.1, vi x.2)
theorem vi_sh {r : List Int} : ∃ α : Rat, α ≠ 0 ∧ ∀ i, vi (sh r) i = α * vi r i := by
  unfold sh
  split
  · rename_i g
    have g0 : ((gcdAll r : Int) : Rat) ≠ 0 := by
      intro z
      have : gcdAll r = 0 := by exact_mod_cast z
      omega
    refine ⟨1 / ((gcdAll r : Int) : Rat), ?_, fun i => ?_⟩
    · intro z
      have : (1 : Rat) = 0 := by
        have := congrArg (fun t => t * ((gcdAll r : Int) : Rat)) z
        grind
      exact absurd this (by decide)
    · unfold vi
      simp only [List.getD, List.getElem?_map]
      cases e : r[i]? with
      | none => simp
      | some x =>
        obtain ⟨c, hc⟩ := (gcdAll_dvd (r := r) (m := 0)).2 x (List.mem_of_getElem? e)
        have hc' : x = gcdAll r * c := hc
        simp only [Option.map_some, Option.getD_some]
        rw [hc', Int.mul_ediv_cancel_left _ (by omega)]
        push_cast
        grind
  · exact ⟨1, by decide, fun i => by grind⟩
theorem getD_zipI {f : Int → Int → Int} {r b : List Int} (hl : b.length = r.length) (h0 : f 0 0 = 0) (i : Nat) : (List.zipWith f r b).getD i 0 = f (r.getD i 0) (b.getD i 0) := by
  simp only [List.getD, List.getElem?_zipWith]
  by_cases h : i < r.length
  · have h2 : i < b.length := by omega
    simp [h, h2]
  · have h2 : ¬ i < b.length := by omega
    simp [h, h2, h0]
theorem clr_I : ∀ {bs : Bs} {n i0 : Nat} {r : List Int}, okB' n i0 bs → ech bs → r.length = n → LA.Clr (vI bs) (vi r) (vi (cl bs r))
  | [], _, _, _, _, _, _ => .nil
  | (p, b) :: bs, n, i0, r, h, he, hl => by
    have hb : b.length = r.length := by rw [h.2.1, hl]
    have hp : b.getD p 0 ≠ 0 := he.1
    have hz : vi (stp p b r) p = 0 := by
      unfold vi
      rw [stp_zero]; rfl
    simp only [cl, vI, List.map_cons]
    have nx := clr_I h.2.2.2 he.2.2 (show (stp p b r).length = n by rw [stp_len hb]; exact hl)
    by_cases z : r.getD p 0 = 0
    · have e : stp p b r = r := by unfold stp; rw [if_pos z]
      refine .cons (x' := vi (stp p b r)) 1 1 0 (by decide) (by decide) (fun i => by rw [e]; grind) hz nx
    · have e : stp p b r = sh (List.zipWith (fun x y => b.getD p 0 * x - r.getD p 0 * y) r b) := by unfold stp; rw [if_neg z]
      obtain ⟨α, ha, h1⟩ := vi_sh (r := List.zipWith (fun x y => b.getD p 0 * x - r.getD p 0 * y) r b)
      refine .cons (x' := vi (stp p b r)) α ((b.getD p 0 : Int) : Rat) ((r.getD p 0 : Int) : Rat) ha (by exact_mod_cast hp) (fun i => ?_) hz nx
      rw [e, h1]
      unfold vi
      rw [getD_zipI hb (by omega)]
      push_cast
      rfl
end My
namespace My
open PySem L2 Ab Cc
local macro_rules | `(tactic| walk_at "wp") => `(tactic| (try simp -implicitDefEqProofs only [e_wp_v, e_wp_vr, e_wp_wk, e_wp_int, e_wp_bl, e_wp_non, e_wp_str, e_wp_ty, e_wp_cls, e_wp_con, e_wp_a0, e_wp_ac, e_wp_tup, e_wp_dic, e_wp_lst, e_wp_ofL, e_wp_op, e_wp_nt, e_wp_and, e_wp_or, e_wp_chain, e_wp_neg, e_wp_isN, e_wp_notN, e_wp_tst, e_wp_tB', e_wp_tand, e_wp_tor, e_wp_tnot, e_wp_tyes, e_wp_ife, e_wp_bi, e_wp_o0, e_wp_o1, e_wp_sl, e_wp_fld, e_wp_nm, e_wp_g0, e_wp_gc, e_wp_gt, e_wp_iseq, e_wp_irg1, e_wp_irg2, e_wp_ienum, e_wp_izip, e_wp_bor, e_wp_borL, e_wp_app, e_wp_ext, e_wp_popAt, e_wp_lc, e_wp_dct1, e_wp_call, e_wp_call0, e_wp_nil, e_wp_seq, e_wp_brk, e_wp_cnt, e_wp_drop, e_wp_ret, e_wp_retN, e_wp_ifs, e_wp_asg, e_wp_own, e_wp_par, e_wp_fors, e_wp_whs, e_wp_aug, e_wp_setO, e_wp_rai, e_wp_rai0, e_wp_tryAs, e_wp_add, e_wp_mul, e_wp_sub, e_wp_lt, e_wp_le, e_wp_gt', e_wp_ge, e_wp_fdiv, e_wp_mod, e_wp_pow, e_wp_eq, e_wp_ne, e_wp_inn, e_wp_nin, e_wp_ix, e_wp_len, e_wp_abs, e_wp_toInt, e_wp_gcd, e_wp_all, e_wp_any, e_wp_sum, e_wp_tuple, e_wp_isT, e_wp_isC, e_wp_list, e_wp_listRg, e_wp_addL, e_wp_retO, e_wp_retL, e_wp_callL, e_wp_mk, e_wp_setf, e_wp_mcountT, e_wp_tupleX, e_wp_mcount, e_wp_mindex, e_wp_lcm, e_wp_astar, e_wp_revL, e_wp_lc2, e_wp_callG, e_wp_isX, e_wp_xf, e_wp_fdivM, r_get0, r_getS, r_put0, r_putS, r_var, r_vd, r_vown, r_isBl, r_isI, r_isSqT, r_isSqL, r_two, r_isOwn, r_no, r_noU, r_unxI, r_unxT, r_unxX, r_unxO, r_addI, r_addT, r_addL, r_mulI, r_mulT, r_ii, r_ci, r_eqI, r_eqS, r_eqB, r_inT, r_inL, r_ixT, r_ixL, r_lenT, r_lenL, r_abs, r_intI, r_intB, r_gcd, r_all, r_sum, r_tupL, r_tupT, r_sqT, r_sqL, r_rg1, r_en, r_zipT, r_zipL, r_slT, r_slL, r_noOwn0, r_noOwnS, r_wip0, r_wipS, r_start, r_bodyN, r_body, r_lt, r_isN0, r_isNT, r_isNI, r_isNL, r_okU, r_okD, r_noOb0, r_noObU, r_noObD, r_noObO, r_frz0, r_frzU, r_frzD, r_frzO, r_noLi, r_noLb, r_noLs, r_noLn, rev, List.map_cons, List.map_nil, List.length_cons, List.length_nil, List.replicate, List.nil_append, List.cons_append, Nat.sub_self, Nat.reduceAdd, Nat.reduceSub, not_false_eq_true, and_self, true_and, and_true, if_true, if_false, Bool.not_true, Bool.not_false, Bool.false_eq_true, and_false, false_and, reduceIte, ite_self, Nat.zero_add, decide_eq_true_eq]))
local macro_rules | `(tactic| walk_at "ws") => `(tactic| simp_all [r_get0, r_getS, r_put0, r_putS, r_var, r_vd, r_vown, r_isBl, r_isI, r_isSqT, r_isSqL, r_two, r_isOwn, r_no, r_noU, r_unxI, r_unxT, r_unxX, r_unxO, r_addI, r_addT, r_addL, r_mulI, r_mulT, r_ii, r_ci, r_eqI, r_eqS, r_eqB, r_inT, r_inL, r_ixT, r_ixL, r_lenT, r_lenL, r_abs, r_intI, r_intB, r_gcd, r_all, r_sum, r_tupL, r_tupT, r_sqT, r_sqL, r_rg1, r_en, r_zipT, r_zipL, r_slT, r_slL, r_noOwn0, r_noOwnS, r_wip0, r_wipS, r_start, r_bodyN, r_body, r_lt, r_isN0, r_isNT, r_isNI, r_isNL, r_okU, r_okD, r_noOb0, r_noObU, r_noObD, r_noObO, r_frz0, r_frzU, r_frzD, r_frzO, r_noLi, r_noLb, r_noLs, r_noLn, isTy, taggedD, tagD])
theorem vi_wr {n : Nat} {r : Rw} (h : okR n r) : ∃ c : Rat, c ≠ 0 ∧ ∀ i, vi (wr r) i = c * vc (rtR r) i := by
  obtain ⟨L0, L4⟩ := lcm_small (r := r) (m := 1) (by decide) (by decide) h.2
  refine ⟨((lcmAll r : Int) : Rat), ?_, fun i => ?_⟩
  · have : lcmAll r ≠ 0 := by unfold lcmAll; omega
    exact_mod_cast this
  · unfold vi vc wr rtR
    simp only [List.getD, List.getElem?_map]
    cases e : r[i]? with
    | none => simp
    | some p =>
      have hm := List.mem_of_getElem? e
      obtain ⟨h1, _⟩ := h.2 p hm
      obtain ⟨c, hc⟩ := (dvd_foldl_lcm (r := r) (m := 1)).2 p hm
      have hc' : lcmAll r = p.2 * c := hc
      simp only [Option.map_some, Option.getD_some]
      rw [hc', Int.mul_ediv_cancel_left _ (by omega)]
      have hp : ((p.2 : Int) : Rat) ≠ 0 := by
        have : p.2 ≠ 0 := by omega
        exact_mod_cast this
      unfold rt
      rw [Rat.divInt_eq_div]
      push_cast
      grind
structure POk (n : Nat) (rs : List Rw) : Prop where
  b : Base n (wds [] rs)
  B : LA.Bas (rs.map fun r => vi (wr r)) (vI (wds [] rs))
theorem wds_snoc {rs : List Rw} {bs : Bs} {r : Rw} : wds bs (rs ++ [r]) = wd (wds bs rs) r := by simp [wds, List.foldl_append]
theorem wds_app {rs ss : List Rw} {bs : Bs} : wds bs (rs ++ ss) = wds (wds bs rs) ss := by simp [wds, List.foldl_append]
theorem vi_zero {r : List Int} (h : fnn r = none) : ∀ i, vi r i = 0 := fun i => by
  unfold fnn at h
  unfold vi
  simp only [List.getD]
  cases e : r[i]? with
  | none => simp
  | some x =>
    have := List.findIdx?_eq_none_iff.mp h x (List.mem_of_getElem? e)
    have : x = 0 := by simpa using this
    simp [this]
theorem POk.snoc {n : Nat} {rs : List Rw} {r : Rw} (h : POk n rs) (hr : okR n r) (hn : n ≤ 6) : POk n (rs ++ [r]) := by
  have hl : (wr r).length = n := by rw [wr_len]; exact hr.1
  have hc := clr_I h.b.ok h.b.ec hl
  refine ⟨by rw [wds_snoc]; exact h.b.wd hr hn, ?_⟩
  rw [wds_snoc, List.map_append]
  unfold My.wd
  cases e : fnn (cl (wds [] rs) (wr r)) with
  | none => exact .skip h.B hc (vi_zero e)
  | some p =>
    obtain ⟨g1, g2⟩ := fnn_some e
    have : vI (wds [] rs ++ [(p, cl (wds [] rs) (wr r))]) = vI (wds [] rs) ++ [(p, vi (cl (wds [] rs) (wr r)))] := by simp [vI]
    show LA.Bas _ (vI (wds [] rs ++ [(p, cl (wds [] rs) (wr r))]))
    rw [this]
    exact .add h.B hc (by unfold vi; exact_mod_cast g2)
theorem pok_all {n : Nat} {rs : List Rw} (h : ∀ r ∈ rs, okR n r) (hn : n ≤ 6) : POk n rs := by
  suffices k : ∀ i, i ≤ rs.length → POk n (rs.take i) by
    have := k rs.length (Nat.le_refl _)
    rwa [List.take_length] at this
  intro i
  induction i with
  | zero => intro _; exact ⟨base_nil, .nil⟩
  | succ i ih =>
    intro hi
    have hg : rs[i]? = some rs[i] := List.getElem?_eq_getElem (by omega)
    rw [take_succ_get hg]
    exact (ih (by omega)).snoc (h _ (List.getElem_mem _)) hn
theorem sp_scale {vs ws : List LA.Vc} {v : LA.Vc} (h : ∃ w ∈ ws, ∃ c : Rat, ∀ i, v i = c * w i) : LA.Sp ws v := by
  obtain ⟨w, hw, c, e⟩ := h
  exact ((LA.Sp.mem hw).smul c).congr fun i => (e i).symm
theorem bas_le {rs ss : List LA.Vc} {bs cs : List (Nat × LA.Vc)} (h : LA.Bas rs bs) (g : LA.Bas ss cs) (e : ∀ x ∈ rs, LA.Sp ss x) : bs.length ≤ cs.length := by
  obtain ⟨e1, i1, i2⟩ := LA.bas_spec h
  obtain ⟨e2, j1, j2⟩ := LA.bas_spec g
  exact LA.ech_len e1 fun b m => ((i2 b m).trans e).trans j1
/-- both sides' bases are as many -/
theorem same_rank {n : Nat} {rs ss : List Rw} (hr : ∀ r ∈ rs, okR n r) (hn : n ≤ 6) (e : ∀ r, r ∈ rs ↔ r ∈ ss) : (wds [] rs).length = (stepsR ss).length := by
  have hs : ∀ r ∈ ss, okR n r := fun r m => hr r ((e r).mpr m)
  have p := pok_all hr hn
  have l := lok_all hs
  have h1 := bas_le p.B l.b fun x hx => by
    obtain ⟨r, m, rfl⟩ := List.mem_map.mp hx
    obtain ⟨c, _, hc⟩ := vi_wr (hr r m)
    exact sp_scale (vs := []) ⟨_, List.mem_map.mpr ⟨r, (e r).mp m, rfl⟩, c, hc⟩
  have h2 := bas_le l.b p.B fun x hx => by
    obtain ⟨r, m, rfl⟩ := List.mem_map.mp hx
    obtain ⟨c, h0, hc⟩ := vi_wr (hs r m)
    refine sp_scale (vs := []) ⟨_, List.mem_map.mpr ⟨r, (e r).mpr m, rfl⟩, 1 / c, fun i => ?_⟩
    rw [hc]; grind
  simp only [vI, vB', List.length_map] at h1 h2
  omega
theorem lackN_eq {rows : List (Option Rw)} {lk : List Int} {sp : Int} {os : List Int} {m : Nat} (h : okW rows lk sp) : lackN rows os m = ((stepsR (lsf rows os m ++ wRw rows)).length : Int) - ((stepsR (lsf rows os m)).length : Nat) := by
  have h1 := same_rank (rs := sfR rows os m rows.length) (ss := lsf rows os m) (sfR_ok h) h.n6 fun r => lsf_mem.symm
  have h2 := same_rank (rs := sfR rows os m rows.length ++ wRw rows) (ss := lsf rows os m ++ wRw rows) (n := rows.length) (fun r m => (List.mem_append.mp m).elim (sfR_ok h r) (wRw_ok h r)) h.n6 fun r => by
    rw [List.mem_append, List.mem_append, lsf_mem]
  unfold lackN needR
  rw [← wds_app, h1, h2]
end My
namespace My
open PySem L2 Ab Cc
local macro_rules | `(tactic| walk_at "wp") => `(tactic| (try simp -implicitDefEqProofs only [e_wp_v, e_wp_vr, e_wp_wk, e_wp_int, e_wp_bl, e_wp_non, e_wp_str, e_wp_ty, e_wp_cls, e_wp_con, e_wp_a0, e_wp_ac, e_wp_tup, e_wp_dic, e_wp_lst, e_wp_ofL, e_wp_op, e_wp_nt, e_wp_and, e_wp_or, e_wp_chain, e_wp_neg, e_wp_isN, e_wp_notN, e_wp_tst, e_wp_tB', e_wp_tand, e_wp_tor, e_wp_tnot, e_wp_tyes, e_wp_ife, e_wp_bi, e_wp_o0, e_wp_o1, e_wp_sl, e_wp_fld, e_wp_nm, e_wp_g0, e_wp_gc, e_wp_gt, e_wp_iseq, e_wp_irg1, e_wp_irg2, e_wp_ienum, e_wp_izip, e_wp_bor, e_wp_borL, e_wp_app, e_wp_ext, e_wp_popAt, e_wp_lc, e_wp_dct1, e_wp_call, e_wp_call0, e_wp_nil, e_wp_seq, e_wp_brk, e_wp_cnt, e_wp_drop, e_wp_ret, e_wp_retN, e_wp_ifs, e_wp_asg, e_wp_own, e_wp_par, e_wp_fors, e_wp_whs, e_wp_aug, e_wp_setO, e_wp_rai, e_wp_rai0, e_wp_tryAs, e_wp_add, e_wp_mul, e_wp_sub, e_wp_lt, e_wp_le, e_wp_gt', e_wp_ge, e_wp_fdiv, e_wp_mod, e_wp_pow, e_wp_eq, e_wp_ne, e_wp_inn, e_wp_nin, e_wp_ix, e_wp_len, e_wp_abs, e_wp_toInt, e_wp_gcd, e_wp_all, e_wp_any, e_wp_sum, e_wp_tuple, e_wp_isT, e_wp_isC, e_wp_list, e_wp_listRg, e_wp_addL, e_wp_retO, e_wp_retL, e_wp_callL, e_wp_mk, e_wp_setf, e_wp_mcountT, e_wp_tupleX, e_wp_mcount, e_wp_mindex, e_wp_lcm, e_wp_astar, e_wp_revL, e_wp_lc2, e_wp_callG, e_wp_isX, e_wp_xf, e_wp_fdivM, r_get0, r_getS, r_put0, r_putS, r_var, r_vd, r_vown, r_isBl, r_isI, r_isSqT, r_isSqL, r_two, r_isOwn, r_no, r_noU, r_unxI, r_unxT, r_unxX, r_unxO, r_addI, r_addT, r_addL, r_mulI, r_mulT, r_ii, r_ci, r_eqI, r_eqS, r_eqB, r_inT, r_inL, r_ixT, r_ixL, r_lenT, r_lenL, r_abs, r_intI, r_intB, r_gcd, r_all, r_sum, r_tupL, r_tupT, r_sqT, r_sqL, r_rg1, r_en, r_zipT, r_zipL, r_slT, r_slL, r_noOwn0, r_noOwnS, r_wip0, r_wipS, r_start, r_bodyN, r_body, r_lt, r_isN0, r_isNT, r_isNI, r_isNL, r_okU, r_okD, r_noOb0, r_noObU, r_noObD, r_noObO, r_frz0, r_frzU, r_frzD, r_frzO, r_noLi, r_noLb, r_noLs, r_noLn, rev, List.map_cons, List.map_nil, List.length_cons, List.length_nil, List.replicate, List.nil_append, List.cons_append, Nat.sub_self, Nat.reduceAdd, Nat.reduceSub, not_false_eq_true, and_self, true_and, and_true, if_true, if_false, Bool.not_true, Bool.not_false, Bool.false_eq_true, and_false, false_and, reduceIte, ite_self, Nat.zero_add, decide_eq_true_eq]))
local macro_rules | `(tactic| walk_at "ws") => `(tactic| simp_all [r_get0, r_getS, r_put0, r_putS, r_var, r_vd, r_vown, r_isBl, r_isI, r_isSqT, r_isSqL, r_two, r_isOwn, r_no, r_noU, r_unxI, r_unxT, r_unxX, r_unxO, r_addI, r_addT, r_addL, r_mulI, r_mulT, r_ii, r_ci, r_eqI, r_eqS, r_eqB, r_inT, r_inL, r_ixT, r_ixL, r_lenT, r_lenL, r_abs, r_intI, r_intB, r_gcd, r_all, r_sum, r_tupL, r_tupT, r_sqT, r_sqL, r_rg1, r_en, r_zipT, r_zipL, r_slT, r_slL, r_noOwn0, r_noOwnS, r_wip0, r_wipS, r_start, r_bodyN, r_body, r_lt, r_isN0, r_isNT, r_isNI, r_isNL, r_okU, r_okD, r_noOb0, r_noObU, r_noObD, r_noObO, r_frz0, r_frzU, r_frzD, r_frzO, r_noLi, r_noLb, r_noLs, r_noLn, isTy, taggedD, tagD])
theorem atIz {x : D} {xs : List D} : atI (x :: xs) 0 = some x := by
  unfold atI ixN
  rw [if_pos (by decide), if_pos (by simp)]; rfl
section
variable {K : PySem.W.Frag} {a : Ad} {Q : D → Prop} {E : Er → Prop} {rows : List (Option Rw)} {lk : List Int} {sp : Int}
theorem w_lsteps {n : Nat} {rs : List Rw} (hr : ∀ r ∈ rs, okR n r) (hn : n ≤ 5) (hl : rs.length ≤ 1000) (q : Q (.lst ((stepsR rs).map tD))) : wp__law_steps K a [.lst (rs.map rD)] Q E := by
  unfold wp__law_steps b__law_steps
  walk_at "wp"
  refine ⟨by decide, ?_⟩
  refine forW_ix (fun i Γ => ∃ b2 b3 b4 b5, okB b2 ∧ okB b3 ∧ okB b4 ∧ okB b5 ∧ Γ = [.d (.lst (rs.map rD)), .own ((stepsR (rs.take i)).map tD), b2, b3, b4, b5]) ⟨.un, .un, .un, .un, trivial, trivial, trivial, trivial, rfl⟩ ?_ ?_
  · rintro Γ ⟨b2, b3, b4, b5, k2, k3, k4, k5, rfl⟩
    rw [List.length_map, List.take_length]
    walk_at "wp"
    exact q
  · rintro i d hd Γ ⟨b2, b3, b4, b5, k2, k3, k4, k5, rfl⟩ N hN
    obtain ⟨r, hx, rfl⟩ := map_get hd
    have hm : ∀ s ∈ rs.take i, okR n s := fun s m => hr s (List.mem_of_mem_take m)
    have lk := lok_all hm
    have hok := hr r (List.mem_of_getElem? hx)
    rw [take_succ_get hx, stepsR_snoc] at hN
    have hlen := lk.len
    have lR : (rtR r).length = n := by rw [rtR_len]; exact hok.1
    obtain ⟨f1, f2⟩ := clR_facts (by decide) lk.s (rtR_sz hok) lR _ (Nat.le_refl _)
    rw [List.take_length] at f1 f2
    unfold stp1 at hN
    have ls := lk.s
    obtain ⟨bs, hbs⟩ : ∃ bs, stepsR (rs.take i) = bs := ⟨_, rfl⟩
    rw [hbs] at hN f1 f2 hlen ls
    rw [hbs]
    rw [rD_rt hok]
    walk_at "wp"
    simp only [noOb_ok k3, noOb_ok k4, noOb_ok k5, frz_ok k3, frz_ok k4, frz_ok k5, r_frz0, r_noOb0]
    walk_at "wp"
    refine w_lleft ls (rtR_sz hok) lR (by omega) (by omega) ?_
    obtain ⟨L, hL⟩ : ∃ L, clR bs (rtR r) = L := ⟨_, rfl⟩
    rw [hL] at hN f2
    rw [hL]
    have ln := f2
    have e0 : (((L.map rq).length : Nat) : Int).toNat = n := by simp [ln]
    rw [e0]
    refine ⟨noLs_all.mpr fun x hx => by
      obtain ⟨y, _, rfl⟩ := List.mem_map.mp hx
      rfl, by simp; omega, by simp, okB_no k5, by rw [rg_len]; omega, lcS_fm (f := fun d => match d with
      | .int j => if decide (L.getD j.toNat 0 ≠ 0) = true then some (.int j) else none
      | _ => none) (fun d hd kk hk => ?_) ?_⟩
    · obtain ⟨j, hj, rfl⟩ := mem_rg hd
      rw [Int.zero_add] at hk ⊢
      have el : L[j]? = some (L.getD j 0) := by simp [List.getD, List.getElem?_eq_getElem (show j < L.length by omega)]
      simp only [elW]
      walk_at "wp"
      refine ⟨_, My.atI_get (f := rq) el, ?_⟩
      simp only [rq]
      rw [r_ixT]
      refine ⟨_, rfl, ?_⟩
      walk_at "wp"
      simp only [Int.toNat_natCast] at hk
      by_cases z : L.getD j 0 = 0
      · simp only [z, ne_eq, not_true_eq_false, decide_false, Bool.false_eq_true, if_false] at hk ⊢
        simpa using hk
      · have z' : ¬ (L.getD j 0).num = 0 := fun e => z (Rat.num_eq_zero.mp e)
        simp only [z, ne_eq, not_false_eq_true, decide_true, if_true] at hk
        simp only [z', decide_false, Bool.not_false, if_true]
        exact hk
    · have e : (rgAt 0 n).filterMap (fun d => match d with
        | .int j => if decide (L.getD j.toNat 0 ≠ 0) = true then some (D.int j) else none
        | _ => none) = (fnR L).map fun j : Nat => D.int (j : Nat) := by
        unfold rgAt fnR
        rw [List.filterMap_map, ln]
        refine fm_filter fun j hj => ?_
        simp [Function.comp_def]
      rw [List.nil_append, e]
      cases hf : fnR L with
      | nil =>
        rw [hf] at hN
        simp only [List.map_nil, List.length_nil]
        rw [if_neg (by decide)]
        exact hN _ ⟨.d _, .d _, .d _, _, trivial, trivial, trivial, k5, rfl⟩
      | cons p ps =>
        rw [hf] at hN
        simp only [List.map_cons, List.length_cons]
        rw [if_pos (by omega)]
        refine ⟨_, atIz, by decide, by simp; omega, hN _ ⟨.d (.tup ((rtR r).map rq)), .d (.lst (L.map rq)), .d (.lst (D.int p :: ps.map fun j : Nat => D.int (j : Nat))), b5, trivial, trivial, trivial, k5, ?_⟩⟩
        simp [tD, rL]
theorem w_lrank {n : Nat} {rs : List Rw} (hr : ∀ r ∈ rs, okR n r) (hn : n ≤ 5) (hl : rs.length ≤ 1000) (q : Q (.int ((stepsR rs).length : Nat))) : wp__law_rank K a [.lst (rs.map rD)] Q E := by
  unfold wp__law_rank b__law_rank
  walk_at "wp"
  refine w_lsteps hr hn hl ?_
  walk_at "wp"
  simpa using q
theorem w_llack {os : List Int} {n m : Nat} (h : okW rows lk sp) (h5 : rows.length ≤ 5) (hn : (rows.length : Int) + sp = n) (q : Q (.tup [.int (lackN rows os m), .int ((wrds rows n os m).count ("amid" : Str) : Nat)])) : wp__law_lack K a [sD rows lk sp, .tup ((wrds rows n os m).map D.str)] Q E := by
  unfold wp__law_lack b__law_lack
  walk_at "wp"
  refine w_lsafe h hn ?_
  walk_at "wp"
  refine w_lwished h.n6 ?_
  unfold sD
  walk_at "wp"
  have lw : (wI rows).length ≤ 6 := by
    have := List.length_filter_le (fun i => (rows.getD i none).isSome) (List.range rows.length)
    simp [wI] at this ⊢; omega
  refine ⟨by simp; omega, lcS_map (f := fun d => match d with
    | .int c => rD ((rows.getD c.toNat none).getD [])
    | d => d) (fun d hd kk hk => ?_) ?_⟩
  · obtain ⟨c, hc, rfl⟩ := List.mem_map.mp hd
    obtain ⟨r, e1, e2, e3⟩ := wI_row hc
    simp only [elW]
    walk_at "wp"
    refine ⟨_, rfl, ?_⟩
    walk_at "wp"
    rw [e3]
    refine ⟨_, My.atI_get (f := oD) e1, ?_⟩
    simp only [e2] at hk
    exact hk
  · have e : ((wI rows).map D.int).map (fun d => match d with
      | .int c => rD ((rows.getD c.toNat none).getD [])
      | d => d) = (wRw rows).map rD := by
      unfold wRw
      rw [List.map_map, List.map_map]
      rfl
    rw [List.nil_append, e]
    have hs : ∀ r ∈ lsf rows os m, okR rows.length r := fun r mm => (sfR_ok (os := os) (m := m) (i := rows.length) h) r (lsf_mem.mp mm)
    have ls : (lsf rows os m).length ≤ 12 := by
      have h1 := List.length_filterMap_le (fun c => if wrd rows os m (c : Nat) = "not begun" then some (unit rows.length c) else none) (List.range rows.length)
      have h2 := List.length_filterMap_le (fun c => if wrd rows os m (c : Nat) = "done" then rows.getD c none else none) (List.range rows.length)
      unfold lsf
      rw [List.length_append]
      simp only [List.length_range] at h1 h2
      omega
    have lR : (wRw rows).length ≤ 6 := by unfold wRw; simpa using lw
    refine ⟨by simp; omega, ?_⟩
    rw [← List.map_append]
    refine w_lrank (fun r mm => (List.mem_append.mp mm).elim (hs r) (wRw_ok h r)) h5 (by simp; omega) ?_
    refine w_lrank hs h5 (by omega) ?_
    have s2 := h.s2
    have n6 := h.n6
    have lw2 : (wrds rows n os m).length = n := by simp [wrds]
    refine ⟨by rw [List.length_map]; omega, lcS_fm (f := fun d => match d with
      | .str x => if decide (x = "amid") = true then some (.str x) else none
      | _ => none) (fun d hd kk hk => ?_) ?_⟩
    · obtain ⟨x, hx, rfl⟩ := List.mem_map.mp hd
      simp only [elW]
      walk_at "wp"
      simp only at hk
      by_cases e : x = "amid"
      · subst e
        simpa using hk
      · simp only [e, decide_false, Bool.false_eq_true, if_false] at hk
        simpa [e] using hk
    · have e3 : ((wrds rows n os m).map D.str).filterMap (fun d => match d with
        | .str x => if decide (x = "amid") = true then some (D.str x) else none
        | _ => none) = ((wrds rows n os m).filter (fun x : Str => decide (x = ("amid" : Str)))).map D.str := by
        rw [List.filterMap_map]
        refine fm_filter fun x _ => ?_
        simp [Function.comp_def]
      rw [List.nil_append, e3]
      refine ⟨by decide, ?_⟩
      have e4 : ((wrds rows n os m).filter (fun x : Str => decide (x = ("amid" : Str)))).length = (wrds rows n os m).count ("amid" : Str) := by
        rw [List.count_eq_length_filter]
        congr 1
      rw [List.length_map, e4]
      rw [lackN_eq h] at q
      exact q
end
end My
namespace My
open PySem L2 Ab Cc
local macro_rules | `(tactic| walk_at "wp") => `(tactic| (try simp -implicitDefEqProofs only [e_wp_v, e_wp_vr, e_wp_wk, e_wp_int, e_wp_bl, e_wp_non, e_wp_str, e_wp_ty, e_wp_cls, e_wp_con, e_wp_a0, e_wp_ac, e_wp_tup, e_wp_dic, e_wp_lst, e_wp_ofL, e_wp_op, e_wp_nt, e_wp_and, e_wp_or, e_wp_chain, e_wp_neg, e_wp_isN, e_wp_notN, e_wp_tst, e_wp_tB', e_wp_tand, e_wp_tor, e_wp_tnot, e_wp_tyes, e_wp_ife, e_wp_bi, e_wp_o0, e_wp_o1, e_wp_sl, e_wp_fld, e_wp_nm, e_wp_g0, e_wp_gc, e_wp_gt, e_wp_iseq, e_wp_irg1, e_wp_irg2, e_wp_ienum, e_wp_izip, e_wp_bor, e_wp_borL, e_wp_app, e_wp_ext, e_wp_popAt, e_wp_lc, e_wp_dct1, e_wp_call, e_wp_call0, e_wp_nil, e_wp_seq, e_wp_brk, e_wp_cnt, e_wp_drop, e_wp_ret, e_wp_retN, e_wp_ifs, e_wp_asg, e_wp_own, e_wp_par, e_wp_fors, e_wp_whs, e_wp_aug, e_wp_setO, e_wp_rai, e_wp_rai0, e_wp_tryAs, e_wp_add, e_wp_mul, e_wp_sub, e_wp_lt, e_wp_le, e_wp_gt', e_wp_ge, e_wp_fdiv, e_wp_mod, e_wp_pow, e_wp_eq, e_wp_ne, e_wp_inn, e_wp_nin, e_wp_ix, e_wp_len, e_wp_abs, e_wp_toInt, e_wp_gcd, e_wp_all, e_wp_any, e_wp_sum, e_wp_tuple, e_wp_isT, e_wp_isC, e_wp_list, e_wp_listRg, e_wp_addL, e_wp_retO, e_wp_retL, e_wp_callL, e_wp_mk, e_wp_setf, e_wp_mcountT, e_wp_tupleX, e_wp_mcount, e_wp_mindex, e_wp_lcm, e_wp_astar, e_wp_revL, e_wp_lc2, e_wp_callG, e_wp_isX, e_wp_xf, e_wp_fdivM, r_get0, r_getS, r_put0, r_putS, r_var, r_vd, r_vown, r_isBl, r_isI, r_isSqT, r_isSqL, r_two, r_isOwn, r_no, r_noU, r_unxI, r_unxT, r_unxX, r_unxO, r_addI, r_addT, r_addL, r_mulI, r_mulT, r_ii, r_ci, r_eqI, r_eqS, r_eqB, r_inT, r_inL, r_ixT, r_ixL, r_lenT, r_lenL, r_abs, r_intI, r_intB, r_gcd, r_all, r_sum, r_tupL, r_tupT, r_sqT, r_sqL, r_rg1, r_en, r_zipT, r_zipL, r_slT, r_slL, r_noOwn0, r_noOwnS, r_wip0, r_wipS, r_start, r_bodyN, r_body, r_lt, r_isN0, r_isNT, r_isNI, r_isNL, r_okU, r_okD, r_noOb0, r_noObU, r_noObD, r_noObO, r_frz0, r_frzU, r_frzD, r_frzO, r_noLi, r_noLb, r_noLs, r_noLn, rev, List.map_cons, List.map_nil, List.length_cons, List.length_nil, List.replicate, List.nil_append, List.cons_append, Nat.sub_self, Nat.reduceAdd, Nat.reduceSub, not_false_eq_true, and_self, true_and, and_true, if_true, if_false, Bool.not_true, Bool.not_false, Bool.false_eq_true, and_false, false_and, reduceIte, ite_self, Nat.zero_add, decide_eq_true_eq]))
local macro_rules | `(tactic| walk_at "ws") => `(tactic| simp_all [r_get0, r_getS, r_put0, r_putS, r_var, r_vd, r_vown, r_isBl, r_isI, r_isSqT, r_isSqL, r_two, r_isOwn, r_no, r_noU, r_unxI, r_unxT, r_unxX, r_unxO, r_addI, r_addT, r_addL, r_mulI, r_mulT, r_ii, r_ci, r_eqI, r_eqS, r_eqB, r_inT, r_inL, r_ixT, r_ixL, r_lenT, r_lenL, r_abs, r_intI, r_intB, r_gcd, r_all, r_sum, r_tupL, r_tupT, r_sqT, r_sqL, r_rg1, r_en, r_zipT, r_zipL, r_slT, r_slL, r_noOwn0, r_noOwnS, r_wip0, r_wipS, r_start, r_bodyN, r_body, r_lt, r_isN0, r_isNT, r_isNI, r_isNL, r_okU, r_okD, r_noOb0, r_noObU, r_noObD, r_noObO, r_frz0, r_frzU, r_frzD, r_frzO, r_noLi, r_noLb, r_noLs, r_noLn, isTy, taggedD, tagD])
/-- what is known of the two error classes -/
structure KF (K : PySem.W.Frag) (a : Ad) : Prop where
  no : KitE K a.C_NoOrder
  nm : KitE K a.C_NoMoment
  no_c : PySem.W.exmOne K (.ref a.C_NoOrder) (.ref a.C_CellError) = some true
  nm_c : PySem.W.exmOne K (.ref a.C_NoMoment) (.ref a.C_CellError) = some true
  no_no : PySem.W.kitOne K (.ref a.C_NoOrder) (.ref a.C_NoOrder) = some true
  no_nm : PySem.W.kitOne K (.ref a.C_NoOrder) (.ref a.C_NoMoment) = some false
  nm_no : PySem.W.kitOne K (.ref a.C_NoMoment) (.ref a.C_NoOrder) = some false
  nm_nm : PySem.W.kitOne K (.ref a.C_NoMoment) (.ref a.C_NoMoment) = some true
/-- the word that is due -/
def dueS (n : Int) (x y : D) : Str := if isOrd n x = true then (match x with
  | .tup xs => if fromTo 0 xs.length y = true then "let" else "moment"
  | _ => "moment") else "order"
section
variable {K : PySem.W.Frag} {a : Ad} {Q : D → Prop} {E : Er → Prop} {rows : List (Option Rw)} {lk : List Int} {sp : Int}
theorem w_lword {x y : D} {n k : Nat} (w : WC K a) (kc : KC K a) (kf : KF K a) (h : okW rows lk sp) (hn : (rows.length : Int) + sp = n) (hx : kD x = true) (hy : taggedD y = true) (hk : k = 0 ∨ k = 1) (q : Q (.str (dueS n x y))) : wp__law_word K a [.int (k : Nat), wO a rows lk sp, x, y] Q E := by
  unfold wp__law_word b__law_word
  walk_at "wp"
  have hi : isO (rows.length + sp) = isO n := by rw [hn]
  have ek : ((k : Nat) : Int) = 0 ∨ ¬ ((k : Nat) : Int) = 0 := by omega
  have m1 : ∀ m, m < 1 → ([false, true] : List Bool)[m]? ≠ some true := fun m h => by
    obtain rfl : m = 0 := by omega
    simp
  cases hb : isOrd n x
  · have q1 : Q (.str "order") := by
      unfold dueS at q
      rw [hb, if_neg (by decide)] at q; exact q
    rcases ek with e | e
    · rw [if_pos e]
      refine w_stages_no w hx (by rw [hn]; exact hb) ⟨_, kf.no_c, ?_⟩
      rw [if_pos rfl]
      intro _ _
      refine ⟨kf.no, _, kf.no_no, kf.no, _, kf.no_nm, by decide, [true, false], rfl, ?_⟩
      rw [if_pos (by decide)]
      exact ⟨by decide, [true, false], rfl, 0, rfl, (fun m h => absurd h (Nat.not_lt_zero _)), _, rfl, q1⟩
    · rw [if_neg e]
      refine w_lack_no w hx (by rw [hn]; exact hb) ⟨_, kf.no_c, ?_⟩
      rw [if_pos rfl]
      intro _ _
      refine ⟨kf.no, _, kf.no_no, kf.no, _, kf.no_nm, by decide, [true, false], rfl, ?_⟩
      rw [if_pos (by decide)]
      exact ⟨by decide, [true, false], rfl, 0, rfl, (fun m h => absurd h (Nat.not_lt_zero _)), _, rfl, q1⟩
  · obtain ⟨os, rfl, o1, o2⟩ := isOrd_os hb
    have io : isO (rows.length + sp) os := ⟨o1, by rw [hn]; exact o2⟩
    unfold dueS at q
    rw [hb, if_pos rfl] at q
    simp only [oks, List.length_map] at q
    cases hm : fromTo 0 (os.length : Nat) y
    · rw [hm, if_neg (by decide)] at q
      rcases ek with e | e
      · rw [if_pos e]
        refine w_stages_nm w h io hy hm ⟨_, kf.nm_c, ?_⟩
        rw [if_pos rfl]
        intro _ _
        refine ⟨kf.nm, _, kf.nm_no, kf.nm, _, kf.nm_nm, by decide, [false, true], rfl, ?_⟩
        rw [if_pos (by decide)]
        exact ⟨by decide, [false, true], rfl, 1, rfl, m1, _, rfl, q⟩
      · rw [if_neg e]
        refine w_lack_nm w h io hy hm ⟨_, kf.nm_c, ?_⟩
        rw [if_pos rfl]
        intro _ _
        refine ⟨kf.nm, _, kf.nm_no, kf.nm, _, kf.nm_nm, by decide, [false, true], rfl, ?_⟩
        rw [if_pos (by decide)]
        exact ⟨by decide, [false, true], rfl, 1, rfl, m1, _, rfl, q⟩
    · rw [hm, if_pos rfl] at q
      obtain ⟨j, rfl, j0, j1⟩ := fromTo_int hm
      obtain ⟨m, rfl⟩ : ∃ m : Nat, j = m := ⟨j.toNat, by omega⟩
      rcases ek with e | e
      · rw [if_pos e]
        exact w_stages w h hn io (by omega) q
      · rw [if_neg e]
        exact w_lack w kc h hn io (by omega) q
theorem deep_kD : ∀ n, n ≤ 35 → kD (deepD n) = true
  | 0, _ => rfl
  | n + 1, h => by
    have := deep_kD n (by omega)
    simp [deepD, kD, ksD, this]
theorem taggedK {x : D} (h : kD x = true) : taggedD x = true := by
  obtain ⟨t, e⟩ := kD_tag h
  simp [taggedD, e]
theorem ix_mem {T : List D} {i : Nat} {Q : D → Prop} (hi : i < T.length) (h : ∀ x ∈ T, Q x) : ixW (.lst T) (.int (i : Nat)) Q := by
  rw [r_ixL]
  refine ⟨T[i], ?_, h _ (List.getElem_mem _)⟩
  unfold atI ixN
  rw [if_pos (by omega), if_pos (by omega)]
  simp [hi]
theorem kD_int' {i : Int} (h : i.natAbs ≤ 1000) : kD (.int i) = true := by
  simp only [kD, decide_eq_true_eq]
  exact Nat.lt_of_le_of_lt h (by decide)
theorem kD_os {n : Nat} {os : List Int} (ho : isO n os) (hn : n ≤ 8) : ∀ x ∈ os.map D.int, kD x = true := fun x hx => by
  obtain ⟨c, hc, rfl⟩ := List.mem_map.mp hx
  have := ho.cs c hc
  exact kD_int' (by omega)
theorem kD_app {xs : List D} {y : D} (h : ∀ x ∈ xs, kD x = true) (hy : kD y = true) (hl : xs.length ≤ 100) : kD (.tup (xs ++ [y])) = true := kD_mk (fun x hx => (List.mem_append.mp hx).elim (h x) fun m => by rw [List.mem_singleton.mp m]; exact hy) (by simp; omega)
theorem eqv_two {x : Str} : eqvD (.lst [.str x, .str x]) (.lst [.str x, .str x]) = true := by
  unfold eqvD; simp [pyD, pysD, PyData.eqv, PyData.eqvAll]
theorem w_lref_end {os : List Int} {x y l5 : D} {n : Nat} {S : Str} (w : WC K a) (kc : KC K a) (kf : KF K a) (h : okW rows lk sp) (hn : (rows.length : Int) + sp = n) (hx : kD x = true) (hy : taggedD y = true) (hS : dueS n x y = S) (ok : PyData.strOk S = true) (q : Q (.bl true)) :
    (2 : Int) < 2 ^ 62 ∧ -2 ^ 62 ≤ (2 : Int) ∧ (rgAt 0 (Int.toNat 2)).length < 100000 ∧
        lcS (elW (K := K) (nm 9) tyes (Cc.call 4 (wp__law_word K a) (ac (v 9) (ac (v 2) (ac (v 6) (ac (v 7) a0))))) [9]
            [B.d D.pool, B.d (sD rows lk sp), B.d (wO a rows lk sp), B.d (D.tup (List.map D.int os)), B.d (D.int n), B.d l5, B.d x, B.d y, B.d (D.str S), B.un])
          (rgAt 0 (Int.toNat 2)) [] fun acc => 2 ≤ 100000 ∧ eqW (D.lst acc) (D.lst [D.str S, D.str S]) fun b => Q (D.bl b) := by
  refine ⟨by decide, by decide, by decide, lcS_map (f := fun _ => .str S) (fun d hd kk hk => ?_) ?_⟩
  · obtain ⟨i, hi, rfl⟩ := mem_rg hd
    rw [Int.zero_add]
    simp only [elW]
    walk_at "wp"
    refine w_lword w kc kf h hn hx hy (by have : i < 2 := hi; omega) ?_
    rw [hS]; exact hk
  · refine ⟨by decide, ?_⟩
    have e : [] ++ (rgAt 0 (Int.toNat 2)).map (fun _ => D.str S) = [D.str S, D.str S] := rfl
    rw [e]
    unfold eqW
    simp only [scalD]
    have k1 : ∀ x ∈ [D.str S, D.str S], eqD 0 x := fun x hx => by
      have : x = D.str S := by simpa using hx
      rw [this]; exact eqD_str ok
    exact ⟨(eqD_lst k1).mono (by decide), (eqD_lst k1).mono (by decide), by rw [eqv_two]; exact q⟩
theorem w_lrefused {os : List Int} {n : Nat} (w : WC K a) (kc : KC K a) (kf : KF K a) (h : okW rows lk sp) (hn : (rows.length : Int) + sp = n) (ho : isO n os) (q : Q (.bl true)) : wp__law_refused_right K a [.pool, sD rows lk sp, wO a rows lk sp, oks os] Q E := by
  unfold wp__law_refused_right b__law_refused_right
  have n6 := h.n6
  have s0 := h.s0
  have s2 := h.s2
  have o60 := ho.len
  have n8 : n ≤ 8 := by omega
  have l1 : (os.map D.int).length + 1 ≤ 100000 := by simp; omega
  walk_at "wp"
  refine w_lall hn ?_
  unfold oks
  walk_at "wp"
  refine ⟨by decide, l1, by decide, l1, by decide, l1, by decide, ⟨by simp, by decide, by decide, by decide⟩, by decide, ⟨by simp, by decide, by decide, by decide⟩, w_ldeep ?_⟩
  refine ⟨by decide, by decide, by decide, dr (m := 12) (by decide) (by decide) fun i hi => ix_mem (by simpa using hi) fun x hx => ?_⟩
  have ko := kD_os ho n8
  have hl : (os.map D.int).length ≤ 100 := by simp; omega
  have kx : kD x = true := by
    simp only [List.mem_cons, List.not_mem_nil, or_false] at hx
    rcases hx with rfl | rfl | rfl | rfl | rfl | rfl | rfl | rfl | rfl | rfl | rfl | rfl
    · exact kD_mk ko (by simp; omega)
    · exact kD_app ko (kD_int' (by omega)) hl
    · exact kD_app ko rfl hl
    · exact kD_app ko rfl hl
    · exact kD_mkL ko (by simp; omega)
    · rfl
    · decide +kernel
    · decide +kernel
    · rfl
    · rfl
    · exact deep_kD 35 (Nat.le_refl _)
    · rfl
  clear hx
  refine ⟨by decide, by unfold CPow; decide, w_ldeep ⟨by decide, dr (m := 12) (by decide) (by decide) fun j hj => ix_mem (by simpa using hj) fun y hy => ?_⟩⟩
  have ky : taggedD y = true := by
    simp only [List.mem_cons, List.not_mem_nil, or_false] at hy
    rcases hy with rfl | rfl | rfl | rfl | rfl | rfl | rfl | rfl | rfl | rfl | rfl | rfl <;> first | rfl | exact taggedK (deep_kD 35 (Nat.le_refl _))
  clear hy
  refine w_lis_order hn kx ?_
  rw [r_isBl]
  cases hb : isOrd n x
  · rw [if_neg (by decide)]
    exact w_lref_end w kc kf h hn kx ky (by unfold dueS; rw [hb, if_neg (by decide)]) (by decide +kernel) q
  · rw [if_pos rfl]
    obtain ⟨os', rfl, o1, o2⟩ := isOrd_os hb
    unfold oks at *
    rw [r_lenT]
    refine w_lis_int ky ?_
    rw [r_isBl]
    have e0 : ((os'.map D.int).length : Int) = ((os'.map D.int).length : Nat) := rfl
    cases hm : fromTo 0 ((os'.map D.int).length : Nat) y
    · rw [if_neg (by decide)]
      exact w_lref_end w kc kf h hn kx ky (by unfold dueS; rw [hb, if_pos rfl]; simp only; rw [hm]; rfl) (by decide +kernel) q
    · rw [if_pos rfl]
      exact w_lref_end w kc kf h hn kx ky (by unfold dueS; rw [hb, if_pos rfl]; simp only; rw [hm]; rfl) (by decide +kernel) q
end
end My
namespace My
open PySem L2 Ab Cc
local macro_rules | `(tactic| walk_at "wp") => `(tactic| (try simp -implicitDefEqProofs only [e_wp_v, e_wp_vr, e_wp_wk, e_wp_int, e_wp_bl, e_wp_non, e_wp_str, e_wp_ty, e_wp_cls, e_wp_con, e_wp_a0, e_wp_ac, e_wp_tup, e_wp_dic, e_wp_lst, e_wp_ofL, e_wp_op, e_wp_nt, e_wp_and, e_wp_or, e_wp_chain, e_wp_neg, e_wp_isN, e_wp_notN, e_wp_tst, e_wp_tB', e_wp_tand, e_wp_tor, e_wp_tnot, e_wp_tyes, e_wp_ife, e_wp_bi, e_wp_o0, e_wp_o1, e_wp_sl, e_wp_fld, e_wp_nm, e_wp_g0, e_wp_gc, e_wp_gt, e_wp_iseq, e_wp_irg1, e_wp_irg2, e_wp_ienum, e_wp_izip, e_wp_bor, e_wp_borL, e_wp_app, e_wp_ext, e_wp_popAt, e_wp_lc, e_wp_dct1, e_wp_call, e_wp_call0, e_wp_nil, e_wp_seq, e_wp_brk, e_wp_cnt, e_wp_drop, e_wp_ret, e_wp_retN, e_wp_ifs, e_wp_asg, e_wp_own, e_wp_par, e_wp_fors, e_wp_whs, e_wp_aug, e_wp_setO, e_wp_rai, e_wp_rai0, e_wp_tryAs, e_wp_add, e_wp_mul, e_wp_sub, e_wp_lt, e_wp_le, e_wp_gt', e_wp_ge, e_wp_fdiv, e_wp_mod, e_wp_pow, e_wp_eq, e_wp_ne, e_wp_inn, e_wp_nin, e_wp_ix, e_wp_len, e_wp_abs, e_wp_toInt, e_wp_gcd, e_wp_all, e_wp_any, e_wp_sum, e_wp_tuple, e_wp_isT, e_wp_isC, e_wp_list, e_wp_listRg, e_wp_addL, e_wp_retO, e_wp_retL, e_wp_callL, e_wp_mk, e_wp_setf, e_wp_mcountT, e_wp_tupleX, e_wp_mcount, e_wp_mindex, e_wp_lcm, e_wp_astar, e_wp_revL, e_wp_lc2, e_wp_callG, e_wp_isX, e_wp_xf, e_wp_fdivM, r_get0, r_getS, r_put0, r_putS, r_var, r_vd, r_vown, r_isBl, r_isI, r_isSqT, r_isSqL, r_two, r_isOwn, r_no, r_noU, r_unxI, r_unxT, r_unxX, r_unxO, r_addI, r_addT, r_addL, r_mulI, r_mulT, r_ii, r_ci, r_eqI, r_eqS, r_eqB, r_inT, r_inL, r_ixT, r_ixL, r_lenT, r_lenL, r_abs, r_intI, r_intB, r_gcd, r_all, r_sum, r_tupL, r_tupT, r_sqT, r_sqL, r_rg1, r_en, r_zipT, r_zipL, r_slT, r_slL, r_noOwn0, r_noOwnS, r_wip0, r_wipS, r_start, r_bodyN, r_body, r_lt, r_isN0, r_isNT, r_isNI, r_isNL, r_okU, r_okD, r_noOb0, r_noObU, r_noObD, r_noObO, r_frz0, r_frzU, r_frzD, r_frzO, r_noLi, r_noLb, r_noLs, r_noLn, rev, List.map_cons, List.map_nil, List.length_cons, List.length_nil, List.replicate, List.nil_append, List.cons_append, Nat.sub_self, Nat.reduceAdd, Nat.reduceSub, not_false_eq_true, and_self, true_and, and_true, if_true, if_false, Bool.not_true, Bool.not_false, Bool.false_eq_true, and_false, false_and, reduceIte, ite_self, Nat.zero_add, decide_eq_true_eq]))
local macro_rules | `(tactic| walk_at "ws") => `(tactic| simp_all [r_get0, r_getS, r_put0, r_putS, r_var, r_vd, r_vown, r_isBl, r_isI, r_isSqT, r_isSqL, r_two, r_isOwn, r_no, r_noU, r_unxI, r_unxT, r_unxX, r_unxO, r_addI, r_addT, r_addL, r_mulI, r_mulT, r_ii, r_ci, r_eqI, r_eqS, r_eqB, r_inT, r_inL, r_ixT, r_ixL, r_lenT, r_lenL, r_abs, r_intI, r_intB, r_gcd, r_all, r_sum, r_tupL, r_tupT, r_sqT, r_sqL, r_rg1, r_en, r_zipT, r_zipL, r_slT, r_slL, r_noOwn0, r_noOwnS, r_wip0, r_wipS, r_start, r_bodyN, r_body, r_lt, r_isN0, r_isNT, r_isNI, r_isNL, r_okU, r_okD, r_noOb0, r_noObU, r_noObD, r_noObO, r_frz0, r_frzU, r_frzD, r_frzO, r_noLi, r_noLb, r_noLs, r_noLn, isTy, taggedD, tagD])
def b_tail (K : PySem.W.Frag) (a : Ad) : S K := (seq (fors (irg1 (ac (op add (bi len (ac (v 5) a0)) (int 1)) a0)) (nm 6)
      (seq (asg (call 3 (wp__law_stages K a) (ac (v 3) (ac (v 5) (ac (v 6) a0)))) (nm 7))
      (ifs (tor (tnot (tB' (callG 2 S_is (ac (call 3 (wp_stages K a) (ac (v 4) (ac (v 5) (ac (v 6) a0)))) (ac (v 7) a0))))) (tnot (tB' (callG 2 S_is (ac (call 3 (wp_lack K a) (ac (v 4) (ac (v 5) (ac (v 6) a0)))) (ac (call 2 (wp__law_lack K a) (ac (v 3) (ac (v 7) a0))) a0)))))) (ret (bl false)) nil)))
      (fors (irg1 (ac (int 3) a0)) (nm 8)
      (ifs (tnot (tB' (call 4 (wp__law_refused_right K a) (ac (v 1) (ac (v 3) (ac (v 4) (ac (v 5) a0))))))) (ret (bl false)) nil)))
theorem b_rest_eq {K : PySem.W.Frag} {a : Ad} : b_rest K a = (seq (fors (irg1 (ac (int 3) a0)) (nm 2)
      (seq (asg (call 2 (wp__law_wish K a) (ac (v 1) (ac (int 5) a0))) (nm 3))
      (seq (asg (call 1 (wp__law_made_wish K a) (ac (v 3) a0)) (nm 4))
      (seq (asg (call 2 (wp__law_order K a) (ac (v 1) (ac (v 3) a0))) (nm 5))
      (seq (ifs (tand (tst (op eq (v 2) (int 0))) (tst (op eq (call 2 (wpS S_draw) (ac (v 1) (ac (int 24) a0))) (int 0)))) (asg (bi tuple (ac (ofL (lc (irg1 (ac (op add (int 55) (call 2 (wpS S_draw) (ac (v 1) (ac (int 6) a0)))) a0)) (nm 9) tyes (call 2 (wpS S_draw) (ac (v 1) (ac (call 1 (wp__law_all_cells K a) (ac (v 3) a0)) a0))) [9] (vsub rfl))) a0)) (nm 5)) nil)
      (b_tail K a))))))
      (ret (bl true))) := rfl
theorem sho_word {x : Str} (h : x = "not begun" ∨ x = "done" ∨ x = "amid") : Sho (.str x) 0 13 := by
  rcases h with rfl | rfl | rfl <;> exact Sho.str (by decide +kernel)
theorem wrd_in {rows : List (Option Rw)} {os : List Int} {m : Nat} {c : Int} : wrd rows os m c = "not begun" ∨ wrd rows os m c = "done" ∨ wrd rows os m c = "amid" := by
  unfold wrd
  split
  · exact .inl rfl
  · split
    · exact .inr (.inl rfl)
    · exact .inr (.inr rfl)
theorem sho_words {rows : List (Option Rw)} {os : List Int} {n m : Nat} (hn : n ≤ 8) : ShowOk (.tup ((wrds rows n os m).map D.str)) := by
  refine (Sho.tup (k := 0) (n := 13) fun x hx => ?_).ok (by decide) ?_
  · obtain ⟨y, hy, rfl⟩ := List.mem_map.mp hx
    obtain ⟨c, _, rfl⟩ := List.mem_map.mp hy
    exact sho_word wrd_in
  · have : ((wrds rows n os m).map D.str).length = n := by simp [wrds]
    rw [this]; omega
theorem sho_two {x y : Int} (hx : x.natAbs ≤ 100) (hy : y.natAbs ≤ 100) : ShowOk (.tup [.int x, .int y]) := by
  have k : ∀ z : Int, z.natAbs ≤ 100 → Sho (.int z) 0 (10 + 1) := fun z hz => Sho.int (by decide) (PySem.Flt.log2_lt_of (by decide) (Nat.lt_of_le_of_lt hz (by decide))) (by decide)
  refine (Sho.tup (k := 0) (n := 11) fun z hz => ?_).ok (by decide) (by simp)
  simp only [List.mem_cons, List.not_mem_nil, or_false] at hz
  rcases hz with rfl | rfl
  · exact k _ hx
  · exact k _ hy
theorem lackN_small {rows : List (Option Rw)} {lk : List Int} {sp : Int} {os : List Int} {m : Nat} (h : okW rows lk sp) : (lackN rows os m).natAbs ≤ 100 := by
  have n6 := h.n6
  have h1 := (pok_all (sfR_ok (os := os) (m := m) (i := rows.length) h) n6).b.len
  have h2 := (pok_all (rs := sfR rows os m rows.length ++ wRw rows) (n := rows.length) (fun r m => (List.mem_append.mp m).elim (sfR_ok h r) (wRw_ok h r)) n6).b.len
  unfold lackN needR
  rw [wds_app] at h2
  omega
section
variable {K : PySem.W.Frag} {a : Ad} {rows : List (Option Rw)} {lk : List Int} {sp : Int}
theorem w_tail {os : List Int} {n : Nat} {P : Po} {X : EX} {s t b6 b7 b8 b9 : B} (w : WC K a) (kc : KC K a) (kf : KF K a) (h : okW rows lk sp) (h5 : rows.length ≤ 5) (hn : (rows.length : Int) + sp = n) (ho : isO n os)
    (k6 : okB b6) (k7 : okB b7) (k8 : okB b8) (q : ∀ c6 c7 c8, okB c6 → okB c7 → okB c8 → P.N [s, .d .pool, t, .d (sD rows lk sp), .d (wO a rows lk sp), .d (oks os), c6, c7, c8, b9]) :
    (b_tail K a).wp [s, .d .pool, t, .d (sD rows lk sp), .d (wO a rows lk sp), .d (oks os), b6, b7, b8, b9] P X := by
  unfold b_tail
  have n6 := h.n6
  have s0 := h.s0
  have s2 := h.s2
  have o60 := ho.len
  have hoR : isO (rows.length + sp) os := by rw [hn]; exact ho
  unfold oks
  walk_at "wp"
  refine ⟨by simp; omega, by simp; omega, ?_⟩
  refine forW_ix (fun i Γ => ∃ c6 c7, okB c6 ∧ okB c7 ∧ Γ = [s, .d .pool, t, .d (sD rows lk sp), .d (wO a rows lk sp), .d (.tup (os.map D.int)), c6, c7, b8, b9]) ⟨b6, b7, k6, k7, rfl⟩ ?_ ?_
  · rintro Γ ⟨c6, c7, g6, g7, rfl⟩
    refine ⟨by decide, by decide, ?_⟩
    refine forW_ix (fun i Γ => ∃ c8, okB c8 ∧ Γ = [s, .d .pool, t, .d (sD rows lk sp), .d (wO a rows lk sp), .d (.tup (os.map D.int)), c6, c7, c8, b9]) ⟨b8, k8, rfl⟩ ?_ ?_
    · rintro Γ ⟨c8, g8, rfl⟩
      exact q c6 c7 c8 g6 g7 g8
    · rintro i d hd Γ ⟨c8, g8, rfl⟩ N hN
      walk_at "wp"
      refine w_lrefused w kc kf h hn ho ?_
      walk_at "wp"
      exact hN _ ⟨.d _, trivial, rfl⟩
  · rintro i d hd Γ ⟨c6, c7, g6, g7, rfl⟩ N hN
    obtain ⟨hi, rfl⟩ := rg_get hd
    have hm : i ≤ os.length := by simp at hi; omega
    walk_at "wp"
    refine w_lstages h hn o60 hm ?_
    walk_at "wp"
    refine w_stages w h hn hoR hm ?_
    walk_at "wp"
    refine ⟨⟨_, rfl, sho_words (by omega)⟩, ?_, fun _ => trivial⟩
    rintro d rfl
    walk_at "wp"
    refine w_lack w kc h hn hoR hm ?_
    walk_at "wp"
    refine w_llack h h5 hn ?_
    have hc : ((wrds rows n os i).count ("amid" : Str)) ≤ n := by
      have := List.count_le_length (a := ("amid" : Str)) (l := wrds rows n os i)
      simpa [wrds] using this
    refine ⟨⟨_, rfl, sho_two (lackN_small h) (by omega)⟩, ?_, fun _ => trivial⟩
    rintro d rfl
    walk_at "wp"
    exact hN _ ⟨.d _, .d _, trivial, trivial, rfl⟩
theorem w_rest (w : WC K a) (kc : KC K a) (kf : KF K a) : ∀ ns : List Int, ns.length ≤ 63 → (b_rest K a).wp (B.d (.scr ns) :: .d .pool :: List.replicate 8 .un) ⟨fun _ => False, ⟨fun x => x = .bl true, fun _ => False⟩, fun _ => False, fun _ => False⟩ (fun _ _ => False) := by
  intro ns hns
  rw [b_rest_eq]
  walk_at "wp"
  refine ⟨by decide, by decide, ?_⟩
  refine forW_ix (fun i Γ => ∃ b2 b3 b4 b5 b6 b7 b8, okB b6 ∧ okB b7 ∧ okB b8 ∧ Γ = [.d (.scr ns), .d .pool, b2, b3, b4, b5, b6, b7, b8, .un]) ⟨.un, .un, .un, .un, .un, .un, .un, trivial, trivial, trivial, rfl⟩ ?_ ?_
  · rintro Γ ⟨b2, b3, b4, b5, b6, b7, b8, k6, k7, k8, rfl⟩
    trivial
  · rintro i d hd Γ ⟨b2, b3, b4, b5, b6, b7, b8, k6, k7, k8, rfl⟩ N hN
    obtain ⟨hi, rfl⟩ := rg_get hd
    walk_at "wp"
    refine w_lwish fun rows lk sp h h5 => ?_
    walk_at "wp"
    refine w_lmade w h ?_
    walk_at "wp"
    have s0 := h.s0
    have s2 := h.s2
    have n1 := h.n1
    obtain ⟨n, hn⟩ : ∃ n : Nat, (rows.length : Int) + sp = n := ⟨(rows.length + sp).toNat, by omega⟩
    refine w_lorder h hn fun os ho => ?_
    walk_at "wp"
    have fin : ∀ os, isO n os → ∀ Bk, (b_tail K a).wp [.d (.scr ns), .d .pool, .d (.int i), .d (sD rows lk sp), .d (wO a rows lk sp), .d (oks os), b6, b7, b8, .un] ⟨N, ⟨fun x => x = .bl true, fun _ => False⟩, Bk, N⟩ (fun _ _ => False) := fun os ho Bk =>
      w_tail w kc kf h h5 hn ho k6 k7 k8 fun c6 c7 c8 g6 g7 g8 => hN _ ⟨_, _, _, _, _, _, _, g6, g7, g8, rfl⟩
    split
    · refine dr (m := 24) (by decide) (by decide) fun j hj => ?_
      rw [r_eqI]
      split
      · refine dr (m := 6) (by decide) (by decide) fun m hm => ?_
        rw [r_addI, r_rg1]
        have em : ((55 : Int) + (m : Nat)).toNat = 55 + m := by omega
        rw [em]
        refine ⟨by omega, by omega, by rw [rg_len]; omega, lcS_all (R := fun y => ∃ c : Nat, c < n ∧ y = .int (c : Nat)) (fun d hd kk hk => ?_) fun ys hys hl => ?_⟩
        · obtain ⟨e, _, rfl⟩ := mem_rg hd
          simp only [elW]
          walk_at "wp"
          refine w_lall hn ?_
          exact dr (m := n) (by omega) (by omega) fun c hc => hk _ fun y e => by cases e; exact ⟨c, hc, rfl⟩
        · rw [rg_len] at hl
          have key : ∀ {ys : List D}, (∀ y ∈ ys, ∃ c : Nat, c < n ∧ y = .int (c : Nat)) → ∃ os : List Int, ys = os.map D.int ∧ ∀ c ∈ os, 0 ≤ c ∧ c < n := by
            intro ys
            induction ys with
            | nil => exact fun _ => ⟨[], rfl, by simp⟩
            | cons x xs ih =>
              intro hh
              obtain ⟨os, e, ho⟩ := ih fun y m => hh y (List.mem_cons_of_mem _ m)
              obtain ⟨c, c1, rfl⟩ := hh x List.mem_cons_self
              refine ⟨(c : Int) :: os, by rw [e]; rfl, fun z hz => ?_⟩
              rcases List.mem_cons.mp hz with rfl | hz
              · omega
              · exact ho z hz
          obtain ⟨os', rfl, ho'⟩ := key hys
          rw [List.nil_append]
          exact fin os' ⟨by simp at hl; omega, ho'⟩ _
      · exact fin os ho _
    · exact fin os ho _
end
end My
namespace My
open PySem L2 Ab Cc PyProof.Rows
section
variable {P : Program} {w : World} {K : PySem.W.Frag} {mg : Str → Option Value} {base : Heap} {E C : Addr}
theorem x0_NoOrder (e : EC K E C) (p : PIn P K C s_NoOrder_init "NoOrder.__init__") (ns : PySem.W.nsIn K mainGlobals "super" = some none) (na : PySem.W.nsIn K cStatics "thirdparty.any" = some none) (top : (P.main.scope.names.lookup ("super" : Str)).isSome = false) (m : mg "NoOrder" = some (.ref C)) : Exn0 P w K mg base "NoOrder" C := by
  obtain ⟨f, oc, od, kV, doc, pm, an, ct, osl, cda, cc, ccl, cdd, vs, ccs, file, tf, cl, cld, csl, h1, h2, h3, h4, h5, h6, h7, h8⟩ := p.ex
  obtain ⟨cd, c1, _⟩ := e.cls
  exact ⟨e.oex, ⟨f, _, ["self"], h1, h2, super0 (st := s_NoOrder_init) (qual := "NoOrder.__init__") ⟨⟨_, _, _, _, _, rfl, fun env => ⟨_, rfl⟩⟩, ⟨_, rfl, rfl⟩, ⟨oc, od, kV, doc, pm, an, ct, osl, cda, cc, rfl, h3, h4, ⟨ccl, cdd, vs, ccs, file, tf, h5, h6, h7⟩, ⟨cl, cld, csl, h8⟩⟩, ⟨cd, c1⟩, by rw [e.mro]; simp [List.contains_cons], ns, na, p.meth, by rw [e.sub]; simp [List.contains_cons], p.ini, top, rfl, rfl, rfl, rfl, rfl, rfl, by decide⟩,
    .all fun us hl => match us, hl with | [_], _ => rfl⟩, m⟩
theorem x0_NoMoment (e : EC K E C) (p : PIn P K C s_NoMoment_init "NoMoment.__init__") (ns : PySem.W.nsIn K mainGlobals "super" = some none) (na : PySem.W.nsIn K cStatics "thirdparty.any" = some none) (top : (P.main.scope.names.lookup ("super" : Str)).isSome = false) (m : mg "NoMoment" = some (.ref C)) : Exn0 P w K mg base "NoMoment" C := by
  obtain ⟨f, oc, od, kV, doc, pm, an, ct, osl, cda, cc, ccl, cdd, vs, ccs, file, tf, cl, cld, csl, h1, h2, h3, h4, h5, h6, h7, h8⟩ := p.ex
  obtain ⟨cd, c1, _⟩ := e.cls
  exact ⟨e.oex, ⟨f, _, ["self"], h1, h2, super0 (st := s_NoMoment_init) (qual := "NoMoment.__init__") ⟨⟨_, _, _, _, _, rfl, fun env => ⟨_, rfl⟩⟩, ⟨_, rfl, rfl⟩, ⟨oc, od, kV, doc, pm, an, ct, osl, cda, cc, rfl, h3, h4, ⟨ccl, cdd, vs, ccs, file, tf, h5, h6, h7⟩, ⟨cl, cld, csl, h8⟩⟩, ⟨cd, c1⟩, by rw [e.mro]; simp [List.contains_cons], ns, na, p.meth, by rw [e.sub]; simp [List.contains_cons], p.ini, top, rfl, rfl, rfl, rfl, rfl, rfl, by decide⟩,
    .all fun us hl => match us, hl with | [_], _ => rfl⟩, m⟩
theorem x1_BadWish (e : EC K E C) (p : EIn K C s_BadWish_init "BadWish.__init__") (hno : PySem.W.findIn K (.ref C) "part" = some none) (m : mg "BadWish" = some (.ref C)) : Exn1 P w K mg base "BadWish" C "part" := by
  obtain ⟨f, fd, h1, h2, F⟩ := p
  exact ⟨e.oex, ⟨f, fd, ["self", "part"], h1, h2, init_x F sc_BadWish_init e.oex hno (fun cdv A outer s H E => pss_one (ps_ost (pv 0) (pv 1))) (by decide), F.binds fun _ _ _ _ _ _ us hl => match us, hl with | [_, _], _ => rfl⟩, m⟩
end
theorem all_mk {l : PySem.W.OpenLaw} {w : World} {K : PySem.W.Frag} {h : Heap} {mg : Str → Option Value} {fa C_CellError C_BadWish C_NoOrder C_NoMoment C_Wish A_NOUGHT A_ONE : Addr} (X : K.In h) (G : h.Ns mainGlobals mg) (hfa : mg "law" = some (.ref fa))
    {tk_c_MOST_CELLS : Tok} {tk_c_MOST_SPARE : Tok} {tk_c_MOST_TICKS : Tok} {tk_c_AMID : Tok} {tk_c_DONE : Tok} {tk_c_NOT_BEGUN : Tok} {od_NOUGHT : Option Addr} {nn_NOUGHT : Nat} {sl_NOUGHT : Array (Option Value)} {tk_NOUGHT_0 : Tok} {tk_NOUGHT_1 : Tok} {od_ONE : Option Addr} {nn_ONE : Nat} {sl_ONE : Array (Option Value)} {tk_ONE_0 : Tok} {tk_ONE_1 : Tok}
    {f0 : Addr} {od0 an0 : Option Addr} {sl0 : Array (Option Value)} {oc0 kV0 dc0 pm0 cd0 ct0 : Value}
    {f1 : Addr} {od1 an1 : Option Addr} {sl1 : Array (Option Value)} {oc1 kV1 dc1 pm1 cd1 ct1 : Value}
    {f2 : Addr} {od2 an2 : Option Addr} {sl2 : Array (Option Value)} {oc2 kV2 dc2 pm2 cd2 ct2 : Value}
    {f3 : Addr} {od3 an3 : Option Addr} {sl3 : Array (Option Value)} {oc3 kV3 dc3 pm3 cd3 ct3 : Value}
    {f4 : Addr} {od4 an4 : Option Addr} {sl4 : Array (Option Value)} {oc4 kV4 dc4 pm4 cd4 ct4 : Value}
    {f5 : Addr} {od5 an5 : Option Addr} {sl5 : Array (Option Value)} {oc5 kV5 dc5 pm5 cd5 ct5 : Value}
    {f6 : Addr} {od6 an6 : Option Addr} {sl6 : Array (Option Value)} {oc6 kV6 dc6 pm6 cd6 ct6 : Value}
    {f7 : Addr} {od7 an7 : Option Addr} {sl7 : Array (Option Value)} {oc7 kV7 dc7 pm7 cd7 ct7 : Value}
    {f8 : Addr} {od8 an8 : Option Addr} {sl8 : Array (Option Value)} {oc8 kV8 dc8 pm8 cd8 ct8 : Value}
    {f9 : Addr} {od9 an9 : Option Addr} {sl9 : Array (Option Value)} {oc9 kV9 dc9 pm9 cd9 ct9 : Value}
    {f10 : Addr} {od10 an10 : Option Addr} {sl10 : Array (Option Value)} {oc10 kV10 dc10 pm10 cd10 ct10 : Value}
    {f11 : Addr} {od11 an11 : Option Addr} {sl11 : Array (Option Value)} {oc11 kV11 dc11 pm11 cd11 ct11 : Value}
    {f12 : Addr} {od12 an12 : Option Addr} {sl12 : Array (Option Value)} {oc12 kV12 dc12 pm12 cd12 ct12 : Value}
    {f13 : Addr} {od13 an13 : Option Addr} {sl13 : Array (Option Value)} {oc13 kV13 dc13 pm13 cd13 ct13 : Value}
    {f14 : Addr} {od14 an14 : Option Addr} {sl14 : Array (Option Value)} {oc14 kV14 dc14 pm14 cd14 ct14 : Value}
    {f15 : Addr} {od15 an15 : Option Addr} {sl15 : Array (Option Value)} {oc15 kV15 dc15 pm15 cd15 ct15 : Value}
    {f16 : Addr} {od16 an16 : Option Addr} {sl16 : Array (Option Value)} {oc16 kV16 dc16 pm16 cd16 ct16 : Value}
    {f17 : Addr} {od17 an17 : Option Addr} {sl17 : Array (Option Value)} {oc17 kV17 dc17 pm17 cd17 ct17 : Value}
    {f18 : Addr} {od18 an18 : Option Addr} {sl18 : Array (Option Value)} {oc18 kV18 dc18 pm18 cd18 ct18 : Value}
    {f19 : Addr} {od19 an19 : Option Addr} {sl19 : Array (Option Value)} {oc19 kV19 dc19 pm19 cd19 ct19 : Value}
    {f20 : Addr} {od20 an20 : Option Addr} {sl20 : Array (Option Value)} {oc20 kV20 dc20 pm20 cd20 ct20 : Value}
    {f21 : Addr} {od21 an21 : Option Addr} {sl21 : Array (Option Value)} {oc21 kV21 dc21 pm21 cd21 ct21 : Value}
    {f22 : Addr} {od22 an22 : Option Addr} {sl22 : Array (Option Value)} {oc22 kV22 dc22 pm22 cd22 ct22 : Value}
    {f23 : Addr} {od23 an23 : Option Addr} {sl23 : Array (Option Value)} {oc23 kV23 dc23 pm23 cd23 ct23 : Value}
    {f24 : Addr} {od24 an24 : Option Addr} {sl24 : Array (Option Value)} {oc24 kV24 dc24 pm24 cd24 ct24 : Value}
    {f25 : Addr} {od25 an25 : Option Addr} {sl25 : Array (Option Value)} {oc25 kV25 dc25 pm25 cd25 ct25 : Value}
    {f26 : Addr} {od26 an26 : Option Addr} {sl26 : Array (Option Value)} {oc26 kV26 dc26 pm26 cd26 ct26 : Value}
    {f27 : Addr} {od27 an27 : Option Addr} {sl27 : Array (Option Value)} {oc27 kV27 dc27 pm27 cd27 ct27 : Value}
    {f28 : Addr} {od28 an28 : Option Addr} {sl28 : Array (Option Value)} {oc28 kV28 dc28 pm28 cd28 ct28 : Value}
    {f29 : Addr} {od29 an29 : Option Addr} {sl29 : Array (Option Value)} {oc29 kV29 dc29 pm29 cd29 ct29 : Value}
    {f30 : Addr} {od30 an30 : Option Addr} {sl30 : Array (Option Value)} {oc30 kV30 dc30 pm30 cd30 ct30 : Value}
    {f31 : Addr} {od31 an31 : Option Addr} {sl31 : Array (Option Value)} {oc31 kV31 dc31 pm31 cd31 ct31 : Value}
    {f32 : Addr} {od32 an32 : Option Addr} {sl32 : Array (Option Value)} {oc32 kV32 dc32 pm32 cd32 ct32 : Value}
    {f33 : Addr} {od33 an33 : Option Addr} {sl33 : Array (Option Value)} {oc33 kV33 dc33 pm33 cd33 ct33 : Value}
    {f34 : Addr} {od34 an34 : Option Addr} {sl34 : Array (Option Value)} {oc34 kV34 dc34 pm34 cd34 ct34 : Value}
    {f35 : Addr} {od35 an35 : Option Addr} {sl35 : Array (Option Value)} {oc35 kV35 dc35 pm35 cd35 ct35 : Value}
    {f36 : Addr} {od36 an36 : Option Addr} {sl36 : Array (Option Value)} {oc36 kV36 dc36 pm36 cd36 ct36 : Value}
    {f37 : Addr} {od37 an37 : Option Addr} {sl37 : Array (Option Value)} {oc37 kV37 dc37 pm37 cd37 ct37 : Value}
    {f38 : Addr} {od38 an38 : Option Addr} {sl38 : Array (Option Value)} {oc38 kV38 dc38 pm38 cd38 ct38 : Value}
    {f39 : Addr} {od39 an39 : Option Addr} {sl39 : Array (Option Value)} {oc39 kV39 dc39 pm39 cd39 ct39 : Value}
    {f40 : Addr} {od40 an40 : Option Addr} {sl40 : Array (Option Value)} {oc40 kV40 dc40 pm40 cd40 ct40 : Value}
    {f41 : Addr} {od41 an41 : Option Addr} {sl41 : Array (Option Value)} {oc41 kV41 dc41 pm41 cd41 ct41 : Value}
    {f42 : Addr} {od42 an42 : Option Addr} {sl42 : Array (Option Value)} {oc42 kV42 dc42 pm42 cd42 ct42 : Value}
    {f43 : Addr} {od43 an43 : Option Addr} {sl43 : Array (Option Value)} {oc43 kV43 dc43 pm43 cd43 ct43 : Value}
    {f44 : Addr} {od44 an44 : Option Addr} {sl44 : Array (Option Value)} {oc44 kV44 dc44 pm44 cd44 ct44 : Value}
    {f45 : Addr} {od45 an45 : Option Addr} {sl45 : Array (Option Value)} {oc45 kV45 dc45 pm45 cd45 ct45 : Value}
    {f46 : Addr} {od46 an46 : Option Addr} {sl46 : Array (Option Value)} {oc46 kV46 dc46 pm46 cd46 ct46 : Value}
    {f47 : Addr} {od47 an47 : Option Addr} {sl47 : Array (Option Value)} {oc47 kV47 dc47 pm47 cd47 ct47 : Value}
    {f48 : Addr} {od48 an48 : Option Addr} {sl48 : Array (Option Value)} {oc48 kV48 dc48 pm48 cd48 ct48 : Value}
    {f49 : Addr} {od49 an49 : Option Addr} {sl49 : Array (Option Value)} {oc49 kV49 dc49 pm49 cd49 ct49 : Value}
    {f50 : Addr} {od50 an50 : Option Addr} {sl50 : Array (Option Value)} {oc50 kV50 dc50 pm50 cd50 ct50 : Value}
    {f51 : Addr} {od51 an51 : Option Addr} {sl51 : Array (Option Value)} {oc51 kV51 dc51 pm51 cd51 ct51 : Value}
    {f52 : Addr} {od52 an52 : Option Addr} {sl52 : Array (Option Value)} {oc52 kV52 dc52 pm52 cd52 ct52 : Value}
    {f53 : Addr} {od53 an53 : Option Addr} {sl53 : Array (Option Value)} {oc53 kV53 dc53 pm53 cd53 ct53 : Value}
    {f54 : Addr} {od54 an54 : Option Addr} {sl54 : Array (Option Value)} {oc54 kV54 dc54 pm54 cd54 ct54 : Value}
    {f55 : Addr} {od55 an55 : Option Addr} {sl55 : Array (Option Value)} {oc55 kV55 dc55 pm55 cd55 ct55 : Value}
    {f56 : Addr} {od56 an56 : Option Addr} {sl56 : Array (Option Value)} {oc56 kV56 dc56 pm56 cd56 ct56 : Value}
    (A_CellError : PySem.W.nsIn K mainGlobals "CellError" = some (some (.ref C_CellError)))
    (A_BadWish : PySem.W.nsIn K mainGlobals "BadWish" = some (some (.ref C_BadWish)))
    (A_NoOrder : PySem.W.nsIn K mainGlobals "NoOrder" = some (some (.ref C_NoOrder)))
    (A_NoMoment : PySem.W.nsIn K mainGlobals "NoMoment" = some (some (.ref C_NoMoment)))
    (A_Wish : PySem.W.nsIn K mainGlobals "Wish" = some (some (.ref C_Wish)))
    (e_NoOrder : EC K C_CellError C_NoOrder)
    (e_NoMoment : EC K C_CellError C_NoMoment)
    (e_BadWish : EC K C_CellError C_BadWish)
    (i_NoOrder : PIn l.prog K C_NoOrder s_NoOrder_init "NoOrder.__init__")
    (i_NoMoment : PIn l.prog K C_NoMoment s_NoMoment_init "NoMoment.__init__")
    (g_BadWish : EIn K C_BadWish s_BadWish_init "BadWish.__init__")
    (n_BadWish : PySem.W.findIn K (.ref C_BadWish) "part" = some none)
    (icE : PySem.W.isClsIn K C_CellError = true)
    (tyE : PySem.W.typeIn K (.ref C_CellError) = some (.type "type"))
    (sEB : PySem.W.subIn K (.ref C_CellError) (.type "BaseException") = some true)
    (nd : [C_CellError, C_NoOrder, C_NoMoment, C_BadWish].Nodup)
    (hn : PySem.W.specialIn K (.builtin "object.__class__") "__get__" = some (some (.builtin "getset_descriptor.__get__")))
    (tk : PySem.W.takesIn K (.builtin "object.__class__") = some true)
    (nsup : PySem.W.nsIn K mainGlobals "super" = some none)
    (nany : PySem.W.nsIn K cStatics "thirdparty.any" = some none)
    (top : (l.prog.main.scope.names.lookup ("super" : Str)).isSome = false)
    (icWish : PySem.W.isClsIn K C_Wish = true)
    (tyWish : PySem.W.typeIn K (.ref C_Wish) = some (.type "type"))
    (pgWish : PySem.W.plainGet K C_Wish Str.empty = true)
    (hdWish : PySem.W.hasDictIn K C_Wish = true)
    (poWish : PySem.W.plainOver K C_Wish = true)
    (saWish : PySem.W.findIn K (.ref C_Wish) "__setattr__" = some (some (.builtin "object.__setattr__")))
    (n_Wish_rows : PySem.W.findIn K (.ref C_Wish) "rows" = some none)
    (n_Wish_locked : PySem.W.findIn K (.ref C_Wish) "locked" = some none)
    (n_Wish_spare : PySem.W.findIn K (.ref C_Wish) "spare" = some none)
    (mkWish : PySem.W.makesIn K C_Wish = true)
    (kpWish : PySem.W.keepIn K (.ref C_Wish) = true)
    (haWish : PySem.W.findIn K (.ref C_Wish) "__class__" = some (some (.builtin "object.__class__")))
    (hmWish : PySem.W.mroIn K C_Wish (.type "object") = some true)
    (a0 : PySem.W.nsIn K mainGlobals "is_whole" = some (some (.ref f0)))
    (l0 : K.lookup f0 = some ⟨oc0, od0, .func (PySem.W.fnOf "is_whole" "is_whole" (defArgs s_is_whole) (defBody s_is_whole) (defScope s_is_whole) .none kV0 dc0 pm0 an0 cd0 ct0), sl0⟩)
    (c0 : PySem.W.codeIn K cd0 "is_whole" = true)
    (k0 : PySem.W.keepIn K (.ref f0) = true)
    (a1 : PySem.W.nsIn K mainGlobals "is_from_to" = some (some (.ref f1)))
    (l1 : K.lookup f1 = some ⟨oc1, od1, .func (PySem.W.fnOf "is_from_to" "is_from_to" (defArgs s_is_from_to) (defBody s_is_from_to) (defScope s_is_from_to) .none kV1 dc1 pm1 an1 cd1 ct1), sl1⟩)
    (c1 : PySem.W.codeIn K cd1 "is_from_to" = true)
    (k1 : PySem.W.keepIn K (.ref f1) = true)
    (a2 : PySem.W.nsIn K mainGlobals "is_tuple_of" = some (some (.ref f2)))
    (l2 : K.lookup f2 = some ⟨oc2, od2, .func (PySem.W.fnOf "is_tuple_of" "is_tuple_of" (defArgs s_is_tuple_of) (defBody s_is_tuple_of) (defScope s_is_tuple_of) .none kV2 dc2 pm2 an2 cd2 ct2), sl2⟩)
    (c2 : PySem.W.codeIn K cd2 "is_tuple_of" = true)
    (k2 : PySem.W.keepIn K (.ref f2) = true)
    (a3 : PySem.W.nsIn K mainGlobals "is_number" = some (some (.ref f3)))
    (l3 : K.lookup f3 = some ⟨oc3, od3, .func (PySem.W.fnOf "is_number" "is_number" (defArgs s_is_number) (defBody s_is_number) (defScope s_is_number) .none kV3 dc3 pm3 an3 cd3 ct3), sl3⟩)
    (c3 : PySem.W.codeIn K cd3 "is_number" = true)
    (k3 : PySem.W.keepIn K (.ref f3) = true)
    (a4 : PySem.W.nsIn K mainGlobals "is_row" = some (some (.ref f4)))
    (l4 : K.lookup f4 = some ⟨oc4, od4, .func (PySem.W.fnOf "is_row" "is_row" (defArgs s_is_row) (defBody s_is_row) (defScope s_is_row) .none kV4 dc4 pm4 an4 cd4 ct4), sl4⟩)
    (c4 : PySem.W.codeIn K cd4 "is_row" = true)
    (k4 : PySem.W.keepIn K (.ref f4) = true)
    (a5 : PySem.W.nsIn K mainGlobals "is_lot" = some (some (.ref f5)))
    (l5 : K.lookup f5 = some ⟨oc5, od5, .func (PySem.W.fnOf "is_lot" "is_lot" (defArgs s_is_lot) (defBody s_is_lot) (defScope s_is_lot) .none kV5 dc5 pm5 an5 cd5 ct5), sl5⟩)
    (c5 : PySem.W.codeIn K cd5 "is_lot" = true)
    (k5 : PySem.W.keepIn K (.ref f5) = true)
    (a6 : PySem.W.nsIn K mainGlobals "unit_row" = some (some (.ref f6)))
    (l6 : K.lookup f6 = some ⟨oc6, od6, .func (PySem.W.fnOf "unit_row" "unit_row" (defArgs s_unit_row) (defBody s_unit_row) (defScope s_unit_row) .none kV6 dc6 pm6 an6 cd6 ct6), sl6⟩)
    (c6 : PySem.W.codeIn K cd6 "unit_row" = true)
    (k6 : PySem.W.keepIn K (.ref f6) = true)
    (a7 : PySem.W.nsIn K mainGlobals "whole_row" = some (some (.ref f7)))
    (l7 : K.lookup f7 = some ⟨oc7, od7, .func (PySem.W.fnOf "whole_row" "whole_row" (defArgs s_whole_row) (defBody s_whole_row) (defScope s_whole_row) .none kV7 dc7 pm7 an7 cd7 ct7), sl7⟩)
    (c7 : PySem.W.codeIn K cd7 "whole_row" = true)
    (k7 : PySem.W.keepIn K (.ref f7) = true)
    (a8 : PySem.W.nsIn K mainGlobals "shortened" = some (some (.ref f8)))
    (l8 : K.lookup f8 = some ⟨oc8, od8, .func (PySem.W.fnOf "shortened" "shortened" (defArgs s_shortened) (defBody s_shortened) (defScope s_shortened) .none kV8 dc8 pm8 an8 cd8 ct8), sl8⟩)
    (c8 : PySem.W.codeIn K cd8 "shortened" = true)
    (k8 : PySem.W.keepIn K (.ref f8) = true)
    (a9 : PySem.W.nsIn K mainGlobals "cleared" = some (some (.ref f9)))
    (l9 : K.lookup f9 = some ⟨oc9, od9, .func (PySem.W.fnOf "cleared" "cleared" (defArgs s_cleared) (defBody s_cleared) (defScope s_cleared) .none kV9 dc9 pm9 an9 cd9 ct9), sl9⟩)
    (c9 : PySem.W.codeIn K cd9 "cleared" = true)
    (k9 : PySem.W.keepIn K (.ref f9) = true)
    (a10 : PySem.W.nsIn K mainGlobals "first_not_nought" = some (some (.ref f10)))
    (l10 : K.lookup f10 = some ⟨oc10, od10, .func (PySem.W.fnOf "first_not_nought" "first_not_nought" (defArgs s_first_not_nought) (defBody s_first_not_nought) (defScope s_first_not_nought) .none kV10 dc10 pm10 an10 cd10 ct10), sl10⟩)
    (c10 : PySem.W.codeIn K cd10 "first_not_nought" = true)
    (k10 : PySem.W.keepIn K (.ref f10) = true)
    (a11 : PySem.W.nsIn K mainGlobals "widened" = some (some (.ref f11)))
    (l11 : K.lookup f11 = some ⟨oc11, od11, .func (PySem.W.fnOf "widened" "widened" (defArgs s_widened) (defBody s_widened) (defScope s_widened) .none kV11 dc11 pm11 an11 cd11 ct11), sl11⟩)
    (c11 : PySem.W.codeIn K cd11 "widened" = true)
    (k11 : PySem.W.keepIn K (.ref f11) = true)
    (a12 : PySem.W.nsIn K mainGlobals "span_of" = some (some (.ref f12)))
    (l12 : K.lookup f12 = some ⟨oc12, od12, .func (PySem.W.fnOf "span_of" "span_of" (defArgs s_span_of) (defBody s_span_of) (defScope s_span_of) .none kV12 dc12 pm12 an12 cd12 ct12), sl12⟩)
    (c12 : PySem.W.codeIn K cd12 "span_of" = true)
    (k12 : PySem.W.keepIn K (.ref f12) = true)
    (a13 : PySem.W.nsIn K mainGlobals "check_rows" = some (some (.ref f13)))
    (l13 : K.lookup f13 = some ⟨oc13, od13, .func (PySem.W.fnOf "check_rows" "check_rows" (defArgs s_check_rows) (defBody s_check_rows) (defScope s_check_rows) .none kV13 dc13 pm13 an13 cd13 ct13), sl13⟩)
    (c13 : PySem.W.codeIn K cd13 "check_rows" = true)
    (k13 : PySem.W.keepIn K (.ref f13) = true)
    (a14 : PySem.W.nsIn K mainGlobals "count_cells" = some (some (.ref f14)))
    (l14 : K.lookup f14 = some ⟨oc14, od14, .func (PySem.W.fnOf "count_cells" "count_cells" (defArgs s_count_cells) (defBody s_count_cells) (defScope s_count_cells) .none kV14 dc14 pm14 an14 cd14 ct14), sl14⟩)
    (c14 : PySem.W.codeIn K cd14 "count_cells" = true)
    (k14 : PySem.W.keepIn K (.ref f14) = true)
    (a15 : PySem.W.nsIn K mainGlobals "is_cell" = some (some (.ref f15)))
    (l15 : K.lookup f15 = some ⟨oc15, od15, .func (PySem.W.fnOf "is_cell" "is_cell" (defArgs s_is_cell) (defBody s_is_cell) (defScope s_is_cell) .none kV15 dc15 pm15 an15 cd15 ct15), sl15⟩)
    (c15 : PySem.W.codeIn K cd15 "is_cell" = true)
    (k15 : PySem.W.keepIn K (.ref f15) = true)
    (a16 : PySem.W.nsIn K mainGlobals "wished_cells" = some (some (.ref f16)))
    (l16 : K.lookup f16 = some ⟨oc16, od16, .func (PySem.W.fnOf "wished_cells" "wished_cells" (defArgs s_wished_cells) (defBody s_wished_cells) (defScope s_wished_cells) .none kV16 dc16 pm16 an16 cd16 ct16), sl16⟩)
    (c16 : PySem.W.codeIn K cd16 "wished_cells" = true)
    (k16 : PySem.W.keepIn K (.ref f16) = true)
    (a17 : PySem.W.nsIn K mainGlobals "is_order" = some (some (.ref f17)))
    (l17 : K.lookup f17 = some ⟨oc17, od17, .func (PySem.W.fnOf "is_order" "is_order" (defArgs s_is_order) (defBody s_is_order) (defScope s_is_order) .none kV17 dc17 pm17 an17 cd17 ct17), sl17⟩)
    (c17 : PySem.W.codeIn K cd17 "is_order" = true)
    (k17 : PySem.W.keepIn K (.ref f17) = true)
    (a18 : PySem.W.nsIn K mainGlobals "check_order" = some (some (.ref f18)))
    (l18 : K.lookup f18 = some ⟨oc18, od18, .func (PySem.W.fnOf "check_order" "check_order" (defArgs s_check_order) (defBody s_check_order) (defScope s_check_order) .none kV18 dc18 pm18 an18 cd18 ct18), sl18⟩)
    (c18 : PySem.W.codeIn K cd18 "check_order" = true)
    (k18 : PySem.W.keepIn K (.ref f18) = true)
    (a19 : PySem.W.nsIn K mainGlobals "single_ticks" = some (some (.ref f19)))
    (l19 : K.lookup f19 = some ⟨oc19, od19, .func (PySem.W.fnOf "single_ticks" "single_ticks" (defArgs s_single_ticks) (defBody s_single_ticks) (defScope s_single_ticks) .none kV19 dc19 pm19 an19 cd19 ct19), sl19⟩)
    (c19 : PySem.W.codeIn K cd19 "single_ticks" = true)
    (k19 : PySem.W.keepIn K (.ref f19) = true)
    (a20 : PySem.W.nsIn K mainGlobals "written_cells" = some (some (.ref f20)))
    (l20 : K.lookup f20 = some ⟨oc20, od20, .func (PySem.W.fnOf "written_cells" "written_cells" (defArgs s_written_cells) (defBody s_written_cells) (defScope s_written_cells) .none kV20 dc20 pm20 an20 cd20 ct20), sl20⟩)
    (c20 : PySem.W.codeIn K cd20 "written_cells" = true)
    (k20 : PySem.W.keepIn K (.ref f20) = true)
    (a21 : PySem.W.nsIn K mainGlobals "stages_at" = some (some (.ref f21)))
    (l21 : K.lookup f21 = some ⟨oc21, od21, .func (PySem.W.fnOf "stages_at" "stages_at" (defArgs s_stages_at) (defBody s_stages_at) (defScope s_stages_at) .none kV21 dc21 pm21 an21 cd21 ct21), sl21⟩)
    (c21 : PySem.W.codeIn K cd21 "stages_at" = true)
    (k21 : PySem.W.keepIn K (.ref f21) = true)
    (a22 : PySem.W.nsIn K mainGlobals "safe_span" = some (some (.ref f22)))
    (l22 : K.lookup f22 = some ⟨oc22, od22, .func (PySem.W.fnOf "safe_span" "safe_span" (defArgs s_safe_span) (defBody s_safe_span) (defScope s_safe_span) .none kV22 dc22 pm22 an22 cd22 ct22), sl22⟩)
    (c22 : PySem.W.codeIn K cd22 "safe_span" = true)
    (k22 : PySem.W.keepIn K (.ref f22) = true)
    (a23 : PySem.W.nsIn K mainGlobals "lack_of" = some (some (.ref f23)))
    (l23 : K.lookup f23 = some ⟨oc23, od23, .func (PySem.W.fnOf "lack_of" "lack_of" (defArgs s_lack_of) (defBody s_lack_of) (defScope s_lack_of) .none kV23 dc23 pm23 an23 cd23 ct23), sl23⟩)
    (c23 : PySem.W.codeIn K cd23 "lack_of" = true)
    (k23 : PySem.W.keepIn K (.ref f23) = true)
    (a24 : PySem.W.nsIn K mainGlobals "lack_at" = some (some (.ref f24)))
    (l24 : K.lookup f24 = some ⟨oc24, od24, .func (PySem.W.fnOf "lack_at" "lack_at" (defArgs s_lack_at) (defBody s_lack_at) (defScope s_lack_at) .none kV24 dc24 pm24 an24 cd24 ct24), sl24⟩)
    (c24 : PySem.W.codeIn K cd24 "lack_at" = true)
    (k24 : PySem.W.keepIn K (.ref f24) = true)
    (a25 : PySem.W.nsIn K mainGlobals "check_moment" = some (some (.ref f25)))
    (l25 : K.lookup f25 = some ⟨oc25, od25, .func (PySem.W.fnOf "check_moment" "check_moment" (defArgs s_check_moment) (defBody s_check_moment) (defScope s_check_moment) .none kV25 dc25 pm25 an25 cd25 ct25), sl25⟩)
    (c25 : PySem.W.codeIn K cd25 "check_moment" = true)
    (k25 : PySem.W.keepIn K (.ref f25) = true)
    (a26 : PySem.W.nsIn K mainGlobals "stages" = some (some (.ref f26)))
    (l26 : K.lookup f26 = some ⟨oc26, od26, .func (PySem.W.fnOf "stages" "stages" (defArgs s_stages) (defBody s_stages) (defScope s_stages) .none kV26 dc26 pm26 an26 cd26 ct26), sl26⟩)
    (c26 : PySem.W.codeIn K cd26 "stages" = true)
    (k26 : PySem.W.keepIn K (.ref f26) = true)
    (a27 : PySem.W.nsIn K mainGlobals "lack" = some (some (.ref f27)))
    (l27 : K.lookup f27 = some ⟨oc27, od27, .func (PySem.W.fnOf "lack" "lack" (defArgs s_lack) (defBody s_lack) (defScope s_lack) .none kV27 dc27 pm27 an27 cd27 ct27), sl27⟩)
    (c27 : PySem.W.codeIn K cd27 "lack" = true)
    (k27 : PySem.W.keepIn K (.ref f27) = true)
    (a28 : PySem.W.nsIn K mainGlobals "_law_pool" = some (some (.ref f28)))
    (l28 : K.lookup f28 = some ⟨oc28, od28, .func (PySem.W.fnOf "_law_pool" "_law_pool" (defArgs s__law_pool) (defBody s__law_pool) (defScope s__law_pool) .none kV28 dc28 pm28 an28 cd28 ct28), sl28⟩)
    (c28 : PySem.W.codeIn K cd28 "_law_pool" = true)
    (k28 : PySem.W.keepIn K (.ref f28) = true)
    (a29 : PySem.W.nsIn K mainGlobals "_law_draw" = some (some (.ref f29)))
    (l29 : K.lookup f29 = some ⟨oc29, od29, .func (PySem.W.fnOf "_law_draw" "_law_draw" (defArgs s__law_draw) (defBody s__law_draw) (defScope s__law_draw) .none kV29 dc29 pm29 an29 cd29 ct29), sl29⟩)
    (c29 : PySem.W.codeIn K cd29 "_law_draw" = true)
    (k29 : PySem.W.keepIn K (.ref f29) = true)
    (a30 : PySem.W.nsIn K mainGlobals "_law_mixed" = some (some (.ref f30)))
    (l30 : K.lookup f30 = some ⟨oc30, od30, .func (PySem.W.fnOf "_law_mixed" "_law_mixed" (defArgs s__law_mixed) (defBody s__law_mixed) (defScope s__law_mixed) .none kV30 dc30 pm30 an30 cd30 ct30), sl30⟩)
    (c30 : PySem.W.codeIn K cd30 "_law_mixed" = true)
    (k30 : PySem.W.keepIn K (.ref f30) = true)
    (a31 : PySem.W.nsIn K mainGlobals "_law_deep" = some (some (.ref f31)))
    (l31 : K.lookup f31 = some ⟨oc31, od31, .func (PySem.W.fnOf "_law_deep" "_law_deep" (defArgs s__law_deep) (defBody s__law_deep) (defScope s__law_deep) .none kV31 dc31 pm31 an31 cd31 ct31), sl31⟩)
    (c31 : PySem.W.codeIn K cd31 "_law_deep" = true)
    (k31 : PySem.W.keepIn K (.ref f31) = true)
    (a32 : PySem.W.nsIn K mainGlobals "_law_is" = some (some (.ref f32)))
    (l32 : K.lookup f32 = some ⟨oc32, od32, .func (PySem.W.fnOf "_law_is" "_law_is" (defArgs s__law_is) (defBody s__law_is) (defScope s__law_is) .none kV32 dc32 pm32 an32 cd32 ct32), sl32⟩)
    (c32 : PySem.W.codeIn K cd32 "_law_is" = true)
    (k32 : PySem.W.keepIn K (.ref f32) = true)
    (a33 : PySem.W.nsIn K mainGlobals "_law_low" = some (some (.ref f33)))
    (l33 : K.lookup f33 = some ⟨oc33, od33, .func (PySem.W.fnOf "_law_low" "_law_low" (defArgs s__law_low) (defBody s__law_low) (defScope s__law_low) .none kV33 dc33 pm33 an33 cd33 ct33), sl33⟩)
    (c33 : PySem.W.codeIn K cd33 "_law_low" = true)
    (k33 : PySem.W.keepIn K (.ref f33) = true)
    (a34 : PySem.W.nsIn K mainGlobals "_law_add" = some (some (.ref f34)))
    (l34 : K.lookup f34 = some ⟨oc34, od34, .func (PySem.W.fnOf "_law_add" "_law_add" (defArgs s__law_add) (defBody s__law_add) (defScope s__law_add) .none kV34 dc34 pm34 an34 cd34 ct34), sl34⟩)
    (c34 : PySem.W.codeIn K cd34 "_law_add" = true)
    (k34 : PySem.W.keepIn K (.ref f34) = true)
    (a35 : PySem.W.nsIn K mainGlobals "_law_mul" = some (some (.ref f35)))
    (l35 : K.lookup f35 = some ⟨oc35, od35, .func (PySem.W.fnOf "_law_mul" "_law_mul" (defArgs s__law_mul) (defBody s__law_mul) (defScope s__law_mul) .none kV35 dc35 pm35 an35 cd35 ct35), sl35⟩)
    (c35 : PySem.W.codeIn K cd35 "_law_mul" = true)
    (k35 : PySem.W.keepIn K (.ref f35) = true)
    (a36 : PySem.W.nsIn K mainGlobals "_law_unit" = some (some (.ref f36)))
    (l36 : K.lookup f36 = some ⟨oc36, od36, .func (PySem.W.fnOf "_law_unit" "_law_unit" (defArgs s__law_unit) (defBody s__law_unit) (defScope s__law_unit) .none kV36 dc36 pm36 an36 cd36 ct36), sl36⟩)
    (c36 : PySem.W.codeIn K cd36 "_law_unit" = true)
    (k36 : PySem.W.keepIn K (.ref f36) = true)
    (a37 : PySem.W.nsIn K mainGlobals "_law_left" = some (some (.ref f37)))
    (l37 : K.lookup f37 = some ⟨oc37, od37, .func (PySem.W.fnOf "_law_left" "_law_left" (defArgs s__law_left) (defBody s__law_left) (defScope s__law_left) .none kV37 dc37 pm37 an37 cd37 ct37), sl37⟩)
    (c37 : PySem.W.codeIn K cd37 "_law_left" = true)
    (k37 : PySem.W.keepIn K (.ref f37) = true)
    (a38 : PySem.W.nsIn K mainGlobals "_law_steps" = some (some (.ref f38)))
    (l38 : K.lookup f38 = some ⟨oc38, od38, .func (PySem.W.fnOf "_law_steps" "_law_steps" (defArgs s__law_steps) (defBody s__law_steps) (defScope s__law_steps) .none kV38 dc38 pm38 an38 cd38 ct38), sl38⟩)
    (c38 : PySem.W.codeIn K cd38 "_law_steps" = true)
    (k38 : PySem.W.keepIn K (.ref f38) = true)
    (a39 : PySem.W.nsIn K mainGlobals "_law_rank" = some (some (.ref f39)))
    (l39 : K.lookup f39 = some ⟨oc39, od39, .func (PySem.W.fnOf "_law_rank" "_law_rank" (defArgs s__law_rank) (defBody s__law_rank) (defScope s__law_rank) .none kV39 dc39 pm39 an39 cd39 ct39), sl39⟩)
    (c39 : PySem.W.codeIn K cd39 "_law_rank" = true)
    (k39 : PySem.W.keepIn K (.ref f39) = true)
    (a40 : PySem.W.nsIn K mainGlobals "_law_number" = some (some (.ref f40)))
    (l40 : K.lookup f40 = some ⟨oc40, od40, .func (PySem.W.fnOf "_law_number" "_law_number" (defArgs s__law_number) (defBody s__law_number) (defScope s__law_number) .none kV40 dc40 pm40 an40 cd40 ct40), sl40⟩)
    (c40 : PySem.W.codeIn K cd40 "_law_number" = true)
    (k40 : PySem.W.keepIn K (.ref f40) = true)
    (a41 : PySem.W.nsIn K mainGlobals "_law_some_row" = some (some (.ref f41)))
    (l41 : K.lookup f41 = some ⟨oc41, od41, .func (PySem.W.fnOf "_law_some_row" "_law_some_row" (defArgs s__law_some_row) (defBody s__law_some_row) (defScope s__law_some_row) .none kV41 dc41 pm41 an41 cd41 ct41), sl41⟩)
    (c41 : PySem.W.codeIn K cd41 "_law_some_row" = true)
    (k41 : PySem.W.keepIn K (.ref f41) = true)
    (a42 : PySem.W.nsIn K mainGlobals "_law_wish" = some (some (.ref f42)))
    (l42 : K.lookup f42 = some ⟨oc42, od42, .func (PySem.W.fnOf "_law_wish" "_law_wish" (defArgs s__law_wish) (defBody s__law_wish) (defScope s__law_wish) .none kV42 dc42 pm42 an42 cd42 ct42), sl42⟩)
    (c42 : PySem.W.codeIn K cd42 "_law_wish" = true)
    (k42 : PySem.W.keepIn K (.ref f42) = true)
    (a43 : PySem.W.nsIn K mainGlobals "_law_made_wish" = some (some (.ref f43)))
    (l43 : K.lookup f43 = some ⟨oc43, od43, .func (PySem.W.fnOf "_law_made_wish" "_law_made_wish" (defArgs s__law_made_wish) (defBody s__law_made_wish) (defScope s__law_made_wish) .none kV43 dc43 pm43 an43 cd43 ct43), sl43⟩)
    (c43 : PySem.W.codeIn K cd43 "_law_made_wish" = true)
    (k43 : PySem.W.keepIn K (.ref f43) = true)
    (a44 : PySem.W.nsIn K mainGlobals "_law_all_cells" = some (some (.ref f44)))
    (l44 : K.lookup f44 = some ⟨oc44, od44, .func (PySem.W.fnOf "_law_all_cells" "_law_all_cells" (defArgs s__law_all_cells) (defBody s__law_all_cells) (defScope s__law_all_cells) .none kV44 dc44 pm44 an44 cd44 ct44), sl44⟩)
    (c44 : PySem.W.codeIn K cd44 "_law_all_cells" = true)
    (k44 : PySem.W.keepIn K (.ref f44) = true)
    (a45 : PySem.W.nsIn K mainGlobals "_law_stages" = some (some (.ref f45)))
    (l45 : K.lookup f45 = some ⟨oc45, od45, .func (PySem.W.fnOf "_law_stages" "_law_stages" (defArgs s__law_stages) (defBody s__law_stages) (defScope s__law_stages) .none kV45 dc45 pm45 an45 cd45 ct45), sl45⟩)
    (c45 : PySem.W.codeIn K cd45 "_law_stages" = true)
    (k45 : PySem.W.keepIn K (.ref f45) = true)
    (a46 : PySem.W.nsIn K mainGlobals "_law_safe" = some (some (.ref f46)))
    (l46 : K.lookup f46 = some ⟨oc46, od46, .func (PySem.W.fnOf "_law_safe" "_law_safe" (defArgs s__law_safe) (defBody s__law_safe) (defScope s__law_safe) .none kV46 dc46 pm46 an46 cd46 ct46), sl46⟩)
    (c46 : PySem.W.codeIn K cd46 "_law_safe" = true)
    (k46 : PySem.W.keepIn K (.ref f46) = true)
    (a47 : PySem.W.nsIn K mainGlobals "_law_wished" = some (some (.ref f47)))
    (l47 : K.lookup f47 = some ⟨oc47, od47, .func (PySem.W.fnOf "_law_wished" "_law_wished" (defArgs s__law_wished) (defBody s__law_wished) (defScope s__law_wished) .none kV47 dc47 pm47 an47 cd47 ct47), sl47⟩)
    (c47 : PySem.W.codeIn K cd47 "_law_wished" = true)
    (k47 : PySem.W.keepIn K (.ref f47) = true)
    (a48 : PySem.W.nsIn K mainGlobals "_law_lack" = some (some (.ref f48)))
    (l48 : K.lookup f48 = some ⟨oc48, od48, .func (PySem.W.fnOf "_law_lack" "_law_lack" (defArgs s__law_lack) (defBody s__law_lack) (defScope s__law_lack) .none kV48 dc48 pm48 an48 cd48 ct48), sl48⟩)
    (c48 : PySem.W.codeIn K cd48 "_law_lack" = true)
    (k48 : PySem.W.keepIn K (.ref f48) = true)
    (a49 : PySem.W.nsIn K mainGlobals "_law_order" = some (some (.ref f49)))
    (l49 : K.lookup f49 = some ⟨oc49, od49, .func (PySem.W.fnOf "_law_order" "_law_order" (defArgs s__law_order) (defBody s__law_order) (defScope s__law_order) .none kV49 dc49 pm49 an49 cd49 ct49), sl49⟩)
    (c49 : PySem.W.codeIn K cd49 "_law_order" = true)
    (k49 : PySem.W.keepIn K (.ref f49) = true)
    (a50 : PySem.W.nsIn K mainGlobals "_law_is_int" = some (some (.ref f50)))
    (l50 : K.lookup f50 = some ⟨oc50, od50, .func (PySem.W.fnOf "_law_is_int" "_law_is_int" (defArgs s__law_is_int) (defBody s__law_is_int) (defScope s__law_is_int) .none kV50 dc50 pm50 an50 cd50 ct50), sl50⟩)
    (c50 : PySem.W.codeIn K cd50 "_law_is_int" = true)
    (k50 : PySem.W.keepIn K (.ref f50) = true)
    (a51 : PySem.W.nsIn K mainGlobals "_law_is_order" = some (some (.ref f51)))
    (l51 : K.lookup f51 = some ⟨oc51, od51, .func (PySem.W.fnOf "_law_is_order" "_law_is_order" (defArgs s__law_is_order) (defBody s__law_is_order) (defScope s__law_is_order) .none kV51 dc51 pm51 an51 cd51 ct51), sl51⟩)
    (c51 : PySem.W.codeIn K cd51 "_law_is_order" = true)
    (k51 : PySem.W.keepIn K (.ref f51) = true)
    (a52 : PySem.W.nsIn K mainGlobals "_law_word" = some (some (.ref f52)))
    (l52 : K.lookup f52 = some ⟨oc52, od52, .func (PySem.W.fnOf "_law_word" "_law_word" (defArgs s__law_word) (defBody s__law_word) (defScope s__law_word) .none kV52 dc52 pm52 an52 cd52 ct52), sl52⟩)
    (c52 : PySem.W.codeIn K cd52 "_law_word" = true)
    (k52 : PySem.W.keepIn K (.ref f52) = true)
    (a53 : PySem.W.nsIn K mainGlobals "_law_refused_right" = some (some (.ref f53)))
    (l53 : K.lookup f53 = some ⟨oc53, od53, .func (PySem.W.fnOf "_law_refused_right" "_law_refused_right" (defArgs s__law_refused_right) (defBody s__law_refused_right) (defScope s__law_refused_right) .none kV53 dc53 pm53 an53 cd53 ct53), sl53⟩)
    (c53 : PySem.W.codeIn K cd53 "_law_refused_right" = true)
    (k53 : PySem.W.keepIn K (.ref f53) = true)
    (a54 : PySem.W.nsIn K mainGlobals "law" = some (some (.ref f54)))
    (l54 : K.lookup f54 = some ⟨oc54, od54, .func (PySem.W.fnOf "law" "law" (defArgs s_law) (defBody s_law) (defScope s_law) .none kV54 dc54 pm54 an54 cd54 ct54), sl54⟩)
    (c54 : PySem.W.codeIn K cd54 "law" = true)
    (k54 : PySem.W.keepIn K (.ref f54) = true)
    (a55 : PySem.W.findIn K (.ref C_Wish) "__init__" = some (some (.ref f55)))
    (fn55 : PySem.W.isFn K (.ref f55) = true)
    (l55 : K.lookup f55 = some ⟨oc55, od55, .func (PySem.W.fnOf "__init__" "Wish.__init__" (defArgs s_Wish_init) (defBody s_Wish_init) (defScope s_Wish_init) .none kV55 dc55 pm55 an55 cd55 ct55), sl55⟩)
    (c55 : PySem.W.codeIn K cd55 "Wish.__init__" = true)
    (k55 : PySem.W.keepIn K (.ref f55) = true)
    (a56 : PySem.W.findIn K (.ref C_Wish) "__eq__" = some (some (.ref f56)))
    (fn56 : PySem.W.isFn K (.ref f56) = true)
    (l56 : K.lookup f56 = some ⟨oc56, od56, .func (PySem.W.fnOf "__eq__" "Wish.__eq__" (defArgs s_Wish_eq) (defBody s_Wish_eq) (defScope s_Wish_eq) .none kV56 dc56 pm56 an56 cd56 ct56), sl56⟩)
    (c56 : PySem.W.codeIn K cd56 "Wish.__eq__" = true)
    (k56 : PySem.W.keepIn K (.ref f56) = true)
    (z_abs : PySem.W.nsIn K mainGlobals "abs" = some none)
    (z_all : PySem.W.nsIn K mainGlobals "all" = some none)
    (z_bool : PySem.W.nsIn K mainGlobals "bool" = some none)
    (z_enumerate : PySem.W.nsIn K mainGlobals "enumerate" = some none)
    (z_int : PySem.W.nsIn K mainGlobals "int" = some none)
    (z_isinstance : PySem.W.nsIn K mainGlobals "isinstance" = some none)
    (z_len : PySem.W.nsIn K mainGlobals "len" = some none)
    (z_list : PySem.W.nsIn K mainGlobals "list" = some none)
    (z_range : PySem.W.nsIn K mainGlobals "range" = some none)
    (z_repr : PySem.W.nsIn K mainGlobals "repr" = some none)
    (z_sum : PySem.W.nsIn K mainGlobals "sum" = some none)
    (z_tuple : PySem.W.nsIn K mainGlobals "tuple" = some none)
    (z_zip : PySem.W.nsIn K mainGlobals "zip" = some none)
    (z_gcd : PySem.W.nsIn K mainGlobals "gcd" = some (some (.builtin "math.gcd")))
    (z_lcm : PySem.W.nsIn K mainGlobals "lcm" = some (some (.builtin "math.lcm")))
    (z_c_MOST_CELLS : PySem.W.nsIn K mainGlobals "MOST_CELLS" = some (some (.int 6 tk_c_MOST_CELLS)))
    (z_c_MOST_SPARE : PySem.W.nsIn K mainGlobals "MOST_SPARE" = some (some (.int 2 tk_c_MOST_SPARE)))
    (z_c_MOST_TICKS : PySem.W.nsIn K mainGlobals "MOST_TICKS" = some (some (.int 60 tk_c_MOST_TICKS)))
    (z_c_AMID : PySem.W.nsIn K mainGlobals "AMID" = some (some (.str "amid" tk_c_AMID)))
    (z_c_DONE : PySem.W.nsIn K mainGlobals "DONE" = some (some (.str "done" tk_c_DONE)))
    (z_c_NOT_BEGUN : PySem.W.nsIn K mainGlobals "NOT_BEGUN" = some (some (.str "not begun" tk_c_NOT_BEGUN)))
    (z_NOUGHT : PySem.W.nsIn K mainGlobals "NOUGHT" = some (some (.ref A_NOUGHT)))
    (y_NOUGHT : K.lookup A_NOUGHT = some ⟨.type "tuple", od_NOUGHT, .seq #[Value.int 0 tk_NOUGHT_0, Value.int 1 tk_NOUGHT_1] nn_NOUGHT, sl_NOUGHT⟩)
    (z_ONE : PySem.W.nsIn K mainGlobals "ONE" = some (some (.ref A_ONE)))
    (y_ONE : K.lookup A_ONE = some ⟨.type "tuple", od_ONE, .seq #[Value.int 1 tk_ONE_0, Value.int 1 tk_ONE_1] nn_ONE, sl_ONE⟩) :
    ∃ fd : FuncData, (∀ (s : Shared) (v : Value), BindsTo s fd ⟨[v], []⟩ [("script", v)]) ∧ ∀ base : Heap, K.In base → base.Ns mainGlobals mg → FnOkG l.prog w K mg base (L2.CX l.prog w) 11 fa fd ["script"] (sp_law K) := by
  have e := hfa.symm.trans (PySem.W.mg_of X G a54)
  cases e
  have T : Tx mg := {abs := PySem.W.mg_none_of X G z_abs, all := PySem.W.mg_none_of X G z_all, bool := PySem.W.mg_none_of X G z_bool, enumerate := PySem.W.mg_none_of X G z_enumerate, int := PySem.W.mg_none_of X G z_int, isinstance := PySem.W.mg_none_of X G z_isinstance, len := PySem.W.mg_none_of X G z_len, list := PySem.W.mg_none_of X G z_list, range := PySem.W.mg_none_of X G z_range, repr := PySem.W.mg_none_of X G z_repr, sum := PySem.W.mg_none_of X G z_sum, tuple := PySem.W.mg_none_of X G z_tuple, zip := PySem.W.mg_none_of X G z_zip, gcd := PySem.W.mg_of X G z_gcd, lcm := PySem.W.mg_of X G z_lcm, c_MOST_CELLS := ⟨_, PySem.W.mg_of X G z_c_MOST_CELLS, _, rfl⟩, c_MOST_SPARE := ⟨_, PySem.W.mg_of X G z_c_MOST_SPARE, _, rfl⟩, c_MOST_TICKS := ⟨_, PySem.W.mg_of X G z_c_MOST_TICKS, _, rfl⟩, c_AMID := ⟨_, PySem.W.mg_of X G z_c_AMID, _, rfl⟩, c_DONE := ⟨_, PySem.W.mg_of X G z_c_DONE, _, rfl⟩, c_NOT_BEGUN := ⟨_, PySem.W.mg_of X G z_c_NOT_BEGUN, _, rfl⟩}
  have F_is_whole := fun_mk (st := s_is_whole) l0 c0 k0
  have b_is_whole := F_is_whole.binds (ps := ["thing"]) fun _ _ _ _ _ _ us hl => match us, hl with | [_], _ => rfl
  have F_is_from_to := fun_mk (st := s_is_from_to) l1 c1 k1
  have b_is_from_to := F_is_from_to.binds (ps := ["thing", "low", "high"]) fun _ _ _ _ _ _ us hl => match us, hl with | [_, _, _], _ => rfl
  have F_is_tuple_of := fun_mk (st := s_is_tuple_of) l2 c2 k2
  have b_is_tuple_of := F_is_tuple_of.binds (ps := ["thing", "many"]) fun _ _ _ _ _ _ us hl => match us, hl with | [_, _], _ => rfl
  have F_is_number := fun_mk (st := s_is_number) l3 c3 k3
  have b_is_number := F_is_number.binds (ps := ["thing"]) fun _ _ _ _ _ _ us hl => match us, hl with | [_], _ => rfl
  have F_is_row := fun_mk (st := s_is_row) l4 c4 k4
  have b_is_row := F_is_row.binds (ps := ["thing", "many"]) fun _ _ _ _ _ _ us hl => match us, hl with | [_, _], _ => rfl
  have F_is_lot := fun_mk (st := s_is_lot) l5 c5 k5
  have b_is_lot := F_is_lot.binds (ps := ["thing", "many"]) fun _ _ _ _ _ _ us hl => match us, hl with | [_, _], _ => rfl
  have F_unit_row := fun_mk (st := s_unit_row) l6 c6 k6
  have b_unit_row := F_unit_row.binds (ps := ["at", "many"]) fun _ _ _ _ _ _ us hl => match us, hl with | [_, _], _ => rfl
  have F_whole_row := fun_mk (st := s_whole_row) l7 c7 k7
  have b_whole_row := F_whole_row.binds (ps := ["row"]) fun _ _ _ _ _ _ us hl => match us, hl with | [_], _ => rfl
  have F_shortened := fun_mk (st := s_shortened) l8 c8 k8
  have b_shortened := F_shortened.binds (ps := ["row"]) fun _ _ _ _ _ _ us hl => match us, hl with | [_], _ => rfl
  have F_cleared := fun_mk (st := s_cleared) l9 c9 k9
  have b_cleared := F_cleared.binds (ps := ["span", "row"]) fun _ _ _ _ _ _ us hl => match us, hl with | [_, _], _ => rfl
  have F_first_not_nought := fun_mk (st := s_first_not_nought) l10 c10 k10
  have b_first_not_nought := F_first_not_nought.binds (ps := ["row"]) fun _ _ _ _ _ _ us hl => match us, hl with | [_], _ => rfl
  have F_widened := fun_mk (st := s_widened) l11 c11 k11
  have b_widened := F_widened.binds (ps := ["span", "row"]) fun _ _ _ _ _ _ us hl => match us, hl with | [_, _], _ => rfl
  have F_span_of := fun_mk (st := s_span_of) l12 c12 k12
  have b_span_of := F_span_of.binds (ps := ["rows"]) fun _ _ _ _ _ _ us hl => match us, hl with | [_], _ => rfl
  have F_check_rows := fun_mk (st := s_check_rows) l13 c13 k13
  have b_check_rows := F_check_rows.binds (ps := ["rows"]) fun _ _ _ _ _ _ us hl => match us, hl with | [_], _ => rfl
  have F_count_cells := fun_mk (st := s_count_cells) l14 c14 k14
  have b_count_cells := F_count_cells.binds (ps := ["wish"]) fun _ _ _ _ _ _ us hl => match us, hl with | [_], _ => rfl
  have F_is_cell := fun_mk (st := s_is_cell) l15 c15 k15
  have b_is_cell := F_is_cell.binds (ps := ["wish", "thing"]) fun _ _ _ _ _ _ us hl => match us, hl with | [_, _], _ => rfl
  have F_wished_cells := fun_mk (st := s_wished_cells) l16 c16 k16
  have b_wished_cells := F_wished_cells.binds (ps := ["wish"]) fun _ _ _ _ _ _ us hl => match us, hl with | [_], _ => rfl
  have F_is_order := fun_mk (st := s_is_order) l17 c17 k17
  have b_is_order := F_is_order.binds (ps := ["wish", "thing"]) fun _ _ _ _ _ _ us hl => match us, hl with | [_, _], _ => rfl
  have F_check_order := fun_mk (st := s_check_order) l18 c18 k18
  have b_check_order := F_check_order.binds (ps := ["wish", "order"]) fun _ _ _ _ _ _ us hl => match us, hl with | [_, _], _ => rfl
  have F_single_ticks := fun_mk (st := s_single_ticks) l19 c19 k19
  have b_single_ticks := F_single_ticks.binds (ps := ["order"]) fun _ _ _ _ _ _ us hl => match us, hl with | [_], _ => rfl
  have F_written_cells := fun_mk (st := s_written_cells) l20 c20 k20
  have b_written_cells := F_written_cells.binds (ps := ["ticks"]) fun _ _ _ _ _ _ us hl => match us, hl with | [_], _ => rfl
  have F_stages_at := fun_mk (st := s_stages_at) l21 c21 k21
  have b_stages_at := F_stages_at.binds (ps := ["wish", "ticks", "moment"]) fun _ _ _ _ _ _ us hl => match us, hl with | [_, _, _], _ => rfl
  have F_safe_span := fun_mk (st := s_safe_span) l22 c22 k22
  have b_safe_span := F_safe_span.binds (ps := ["wish", "words"]) fun _ _ _ _ _ _ us hl => match us, hl with | [_, _], _ => rfl
  have F_lack_of := fun_mk (st := s_lack_of) l23 c23 k23
  have b_lack_of := F_lack_of.binds (ps := ["wish", "words"]) fun _ _ _ _ _ _ us hl => match us, hl with | [_, _], _ => rfl
  have F_lack_at := fun_mk (st := s_lack_at) l24 c24 k24
  have b_lack_at := F_lack_at.binds (ps := ["wish", "ticks", "moment"]) fun _ _ _ _ _ _ us hl => match us, hl with | [_, _, _], _ => rfl
  have F_check_moment := fun_mk (st := s_check_moment) l25 c25 k25
  have b_check_moment := F_check_moment.binds (ps := ["order", "moment"]) fun _ _ _ _ _ _ us hl => match us, hl with | [_, _], _ => rfl
  have F_stages := fun_mk (st := s_stages) l26 c26 k26
  have b_stages := F_stages.binds (ps := ["wish", "order", "moment"]) fun _ _ _ _ _ _ us hl => match us, hl with | [_, _, _], _ => rfl
  have F_lack := fun_mk (st := s_lack) l27 c27 k27
  have b_lack := F_lack.binds (ps := ["wish", "order", "moment"]) fun _ _ _ _ _ _ us hl => match us, hl with | [_, _, _], _ => rfl
  have F__law_pool := fun_mk (st := s__law_pool) l28 c28 k28
  have b__law_pool := F__law_pool.binds (ps := ["script"]) fun _ _ _ _ _ _ us hl => match us, hl with | [_], _ => rfl
  have F__law_draw := fun_mk (st := s__law_draw) l29 c29 k29
  have b__law_draw := F__law_draw.binds (ps := ["pool", "many"]) fun _ _ _ _ _ _ us hl => match us, hl with | [_, _], _ => rfl
  have F__law_mixed := fun_mk (st := s__law_mixed) l30 c30 k30
  have b__law_mixed := F__law_mixed.binds (ps := ["pool", "things"]) fun _ _ _ _ _ _ us hl => match us, hl with | [_, _], _ => rfl
  have F__law_deep := fun_mk (st := s__law_deep) l31 c31 k31
  have b__law_deep := F__law_deep.binds (ps := []) fun _ _ _ _ _ _ us hl => match us, hl with | [], _ => rfl
  have F__law_is := fun_mk (st := s__law_is) l32 c32 k32
  have b__law_is := F__law_is.binds (ps := ["told", "due"]) fun _ _ _ _ _ _ us hl => match us, hl with | [_, _], _ => rfl
  have F__law_low := fun_mk (st := s__law_low) l33 c33 k33
  have b__law_low := F__law_low.binds (ps := ["top", "bottom"]) fun _ _ _ _ _ _ us hl => match us, hl with | [_, _], _ => rfl
  have F__law_add := fun_mk (st := s__law_add) l34 c34 k34
  have b__law_add := F__law_add.binds (ps := ["one", "other"]) fun _ _ _ _ _ _ us hl => match us, hl with | [_, _], _ => rfl
  have F__law_mul := fun_mk (st := s__law_mul) l35 c35 k35
  have b__law_mul := F__law_mul.binds (ps := ["one", "other"]) fun _ _ _ _ _ _ us hl => match us, hl with | [_, _], _ => rfl
  have F__law_unit := fun_mk (st := s__law_unit) l36 c36 k36
  have b__law_unit := F__law_unit.binds (ps := ["size", "at"]) fun _ _ _ _ _ _ us hl => match us, hl with | [_, _], _ => rfl
  have F__law_left := fun_mk (st := s__law_left) l37 c37 k37
  have b__law_left := F__law_left.binds (ps := ["found", "row"]) fun _ _ _ _ _ _ us hl => match us, hl with | [_, _], _ => rfl
  have F__law_steps := fun_mk (st := s__law_steps) l38 c38 k38
  have b__law_steps := F__law_steps.binds (ps := ["rows"]) fun _ _ _ _ _ _ us hl => match us, hl with | [_], _ => rfl
  have F__law_rank := fun_mk (st := s__law_rank) l39 c39 k39
  have b__law_rank := F__law_rank.binds (ps := ["rows"]) fun _ _ _ _ _ _ us hl => match us, hl with | [_], _ => rfl
  have F__law_number := fun_mk (st := s__law_number) l40 c40 k40
  have b__law_number := F__law_number.binds (ps := ["pool"]) fun _ _ _ _ _ _ us hl => match us, hl with | [_], _ => rfl
  have F__law_some_row := fun_mk (st := s__law_some_row) l41 c41 k41
  have b__law_some_row := F__law_some_row.binds (ps := ["pool", "many", "cell"]) fun _ _ _ _ _ _ us hl => match us, hl with | [_, _, _], _ => rfl
  have F__law_wish := fun_mk (st := s__law_wish) l42 c42 k42
  have b__law_wish := F__law_wish.binds (ps := ["pool", "most"]) fun _ _ _ _ _ _ us hl => match us, hl with | [_, _], _ => rfl
  have F__law_made_wish := fun_mk (st := s__law_made_wish) l43 c43 k43
  have b__law_made_wish := F__law_made_wish.binds (ps := ["spec"]) fun _ _ _ _ _ _ us hl => match us, hl with | [_], _ => rfl
  have F__law_all_cells := fun_mk (st := s__law_all_cells) l44 c44 k44
  have b__law_all_cells := F__law_all_cells.binds (ps := ["spec"]) fun _ _ _ _ _ _ us hl => match us, hl with | [_], _ => rfl
  have F__law_stages := fun_mk (st := s__law_stages) l45 c45 k45
  have b__law_stages := F__law_stages.binds (ps := ["spec", "order", "moment"]) fun _ _ _ _ _ _ us hl => match us, hl with | [_, _, _], _ => rfl
  have F__law_safe := fun_mk (st := s__law_safe) l46 c46 k46
  have b__law_safe := F__law_safe.binds (ps := ["spec", "words"]) fun _ _ _ _ _ _ us hl => match us, hl with | [_, _], _ => rfl
  have F__law_wished := fun_mk (st := s__law_wished) l47 c47 k47
  have b__law_wished := F__law_wished.binds (ps := ["spec"]) fun _ _ _ _ _ _ us hl => match us, hl with | [_], _ => rfl
  have F__law_lack := fun_mk (st := s__law_lack) l48 c48 k48
  have b__law_lack := F__law_lack.binds (ps := ["spec", "words"]) fun _ _ _ _ _ _ us hl => match us, hl with | [_, _], _ => rfl
  have F__law_order := fun_mk (st := s__law_order) l49 c49 k49
  have b__law_order := F__law_order.binds (ps := ["pool", "spec"]) fun _ _ _ _ _ _ us hl => match us, hl with | [_, _], _ => rfl
  have F__law_is_int := fun_mk (st := s__law_is_int) l50 c50 k50
  have b__law_is_int := F__law_is_int.binds (ps := ["thing", "least", "most"]) fun _ _ _ _ _ _ us hl => match us, hl with | [_, _, _], _ => rfl
  have F__law_is_order := fun_mk (st := s__law_is_order) l51 c51 k51
  have b__law_is_order := F__law_is_order.binds (ps := ["spec", "thing"]) fun _ _ _ _ _ _ us hl => match us, hl with | [_, _], _ => rfl
  have F__law_word := fun_mk (st := s__law_word) l52 c52 k52
  have b__law_word := F__law_word.binds (ps := ["which", "wish", "order", "moment"]) fun _ _ _ _ _ _ us hl => match us, hl with | [_, _, _, _], _ => rfl
  have F__law_refused_right := fun_mk (st := s__law_refused_right) l53 c53 k53
  have b__law_refused_right := F__law_refused_right.binds (ps := ["pool", "spec", "wish", "order"]) fun _ _ _ _ _ _ us hl => match us, hl with | [_, _, _, _], _ => rfl
  have F_law := fun_mk (st := s_law) l54 c54 k54
  have F_Wish_init := fun_mk (st := s_Wish_init) l55 c55 k55
  have b_Wish_init := F_Wish_init.binds (ps := ["self", "rows", "locked", "spare"]) fun _ _ _ _ _ _ us hl => match us, hl with | [_, _, _, _], _ => rfl
  have F_Wish_eq := fun_mk (st := s_Wish_eq) l56 c56 k56
  have b_Wish_eq := F_Wish_eq.binds (ps := ["self", "other"]) fun _ _ _ _ _ _ us hl => match us, hl with | [_, _], _ => rfl
  refine ⟨PySem.W.fnOf "law" "law" (defArgs s_law) (defBody s_law) (defScope s_law) .none kV54 dc54 pm54 an54 cd54 ct54, fun s v => .of_eq rfl, fun base _ _ => ?_⟩
  obtain ⟨a, ea⟩ : ∃ a : Ad, a = ⟨C_CellError, C_BadWish, C_NoOrder, C_NoMoment, C_Wish, A_NOUGHT, A_ONE⟩ := ⟨_, rfl⟩
  obtain rfl : a.C_CellError = C_CellError := by rw [ea]
  obtain rfl : a.C_BadWish = C_BadWish := by rw [ea]
  obtain rfl : a.C_NoOrder = C_NoOrder := by rw [ea]
  obtain rfl : a.C_NoMoment = C_NoMoment := by rw [ea]
  obtain rfl : a.C_Wish = C_Wish := by rw [ea]
  obtain rfl : a.A_NOUGHT = A_NOUGHT := by rw [ea]
  obtain rfl : a.A_ONE = A_ONE := by rw [ea]
  have x_NoOrder : Exn0 l.prog w K mg base "NoOrder" a.C_NoOrder := x0_NoOrder e_NoOrder i_NoOrder nsup nany top (PySem.W.mg_of X G A_NoOrder)
  have x_NoMoment : Exn0 l.prog w K mg base "NoMoment" a.C_NoMoment := x0_NoMoment e_NoMoment i_NoMoment nsup nany top (PySem.W.mg_of X G A_NoMoment)
  have x_BadWish : Exn1 l.prog w K mg base "BadWish" a.C_BadWish "part" := x1_BadWish e_BadWish g_BadWish n_BadWish (PySem.W.mg_of X G A_BadWish)
  have h_CellError : HasM mg "CellError" a.C_CellError := ⟨PySem.W.mg_of X G A_CellError⟩
  have h_BadWish : HasM mg "BadWish" a.C_BadWish := ⟨PySem.W.mg_of X G A_BadWish⟩
  have h_NoOrder : HasM mg "NoOrder" a.C_NoOrder := ⟨PySem.W.mg_of X G A_NoOrder⟩
  have h_NoMoment : HasM mg "NoMoment" a.C_NoMoment := ⟨PySem.W.mg_of X G A_NoMoment⟩
  have h_Wish : HasM mg "Wish" a.C_Wish := ⟨PySem.W.mg_of X G A_Wish⟩
  have q_NOUGHT : ∃ u, mg "NOUGHT" = some u ∧ RelV (.ref a.A_NOUGHT) u := ⟨_, PySem.W.mg_of X G z_NOUGHT, rfl⟩
  have r_NOUGHT : KRp K a.A_NOUGHT (.tup [.int (0), .int (1)]) := krp_two (ns := [0, 1]) y_NOUGHT (Nat.le_of_ble_eq_true rfl) (.cons ⟨_, rfl⟩ (.cons ⟨_, rfl⟩ .nil))
  have q_ONE : ∃ u, mg "ONE" = some u ∧ RelV (.ref a.A_ONE) u := ⟨_, PySem.W.mg_of X G z_ONE, rfl⟩
  have r_ONE : KRp K a.A_ONE (.tup [.int (1), .int (1)]) := krp_two (ns := [1, 1]) y_ONE (Nat.le_of_ble_eq_true rfl) (.cons ⟨_, rfl⟩ (.cons ⟨_, rfl⟩ .nil))
  have exm_NoOrder : PySem.W.exmOne K (.ref a.C_NoOrder) (.ref a.C_CellError) = some true := exm_own sEB (kitCls_ref icE tyE (by rw [e_NoOrder.sub]; simp [List.contains_cons]))
  have exm_NoMoment : PySem.W.exmOne K (.ref a.C_NoMoment) (.ref a.C_CellError) = some true := exm_own sEB (kitCls_ref icE tyE (by rw [e_NoMoment.sub]; simp [List.contains_cons]))
  have exm_BadWish : PySem.W.exmOne K (.ref a.C_BadWish) (.ref a.C_CellError) = some true := exm_own sEB (kitCls_ref icE tyE (by rw [e_BadWish.sub]; simp [List.contains_cons]))
  have kit_NoOrder : KitE K a.C_NoOrder := e_NoOrder.kit hn tk
  have kit_NoMoment : KitE K a.C_NoMoment := e_NoMoment.kit hn tk
  have kit_BadWish : KitE K a.C_BadWish := e_BadWish.kit hn tk
  have ne_CellError_NoOrder : a.C_CellError ≠ a.C_NoOrder := fun z => by
    have n := nd
    rw [z] at n
    exact absurd n (by simp)
  have ne_CellError_NoMoment : a.C_CellError ≠ a.C_NoMoment := fun z => by
    have n := nd
    rw [z] at n
    exact absurd n (by simp)
  have ne_CellError_BadWish : a.C_CellError ≠ a.C_BadWish := fun z => by
    have n := nd
    rw [z] at n
    exact absurd n (by simp)
  have ne_NoOrder_CellError : a.C_NoOrder ≠ a.C_CellError := fun z => by
    have n := nd
    rw [z] at n
    exact absurd n (by simp)
  have ne_NoOrder_NoMoment : a.C_NoOrder ≠ a.C_NoMoment := fun z => by
    have n := nd
    rw [z] at n
    exact absurd n (by simp)
  have ne_NoOrder_BadWish : a.C_NoOrder ≠ a.C_BadWish := fun z => by
    have n := nd
    rw [z] at n
    exact absurd n (by simp)
  have ne_NoMoment_CellError : a.C_NoMoment ≠ a.C_CellError := fun z => by
    have n := nd
    rw [z] at n
    exact absurd n (by simp)
  have ne_NoMoment_NoOrder : a.C_NoMoment ≠ a.C_NoOrder := fun z => by
    have n := nd
    rw [z] at n
    exact absurd n (by simp)
  have ne_NoMoment_BadWish : a.C_NoMoment ≠ a.C_BadWish := fun z => by
    have n := nd
    rw [z] at n
    exact absurd n (by simp)
  have ne_BadWish_CellError : a.C_BadWish ≠ a.C_CellError := fun z => by
    have n := nd
    rw [z] at n
    exact absurd n (by simp)
  have ne_BadWish_NoOrder : a.C_BadWish ≠ a.C_NoOrder := fun z => by
    have n := nd
    rw [z] at n
    exact absurd n (by simp)
  have ne_BadWish_NoMoment : a.C_BadWish ≠ a.C_NoMoment := fun z => by
    have n := nd
    rw [z] at n
    exact absurd n (by simp)
  have one_NoOrder_NoOrder : PySem.W.kitOne K (.ref a.C_NoOrder) (.ref a.C_NoOrder) = some true := by rw [e_NoOrder.one e_NoOrder ne_NoOrder_CellError]; simp
  have one_NoOrder_NoMoment : PySem.W.kitOne K (.ref a.C_NoOrder) (.ref a.C_NoMoment) = some false := by rw [e_NoOrder.one e_NoMoment ne_NoMoment_CellError, decide_eq_false ne_NoMoment_NoOrder]
  have one_NoOrder_BadWish : PySem.W.kitOne K (.ref a.C_NoOrder) (.ref a.C_BadWish) = some false := by rw [e_NoOrder.one e_BadWish ne_BadWish_CellError, decide_eq_false ne_BadWish_NoOrder]
  have one_NoMoment_NoOrder : PySem.W.kitOne K (.ref a.C_NoMoment) (.ref a.C_NoOrder) = some false := by rw [e_NoMoment.one e_NoOrder ne_NoOrder_CellError, decide_eq_false ne_NoOrder_NoMoment]
  have one_NoMoment_NoMoment : PySem.W.kitOne K (.ref a.C_NoMoment) (.ref a.C_NoMoment) = some true := by rw [e_NoMoment.one e_NoMoment ne_NoMoment_CellError]; simp
  have one_NoMoment_BadWish : PySem.W.kitOne K (.ref a.C_NoMoment) (.ref a.C_BadWish) = some false := by rw [e_NoMoment.one e_BadWish ne_BadWish_CellError, decide_eq_false ne_BadWish_NoMoment]
  have one_BadWish_NoOrder : PySem.W.kitOne K (.ref a.C_BadWish) (.ref a.C_NoOrder) = some false := by rw [e_BadWish.one e_NoOrder ne_NoOrder_CellError, decide_eq_false ne_NoOrder_BadWish]
  have one_BadWish_NoMoment : PySem.W.kitOne K (.ref a.C_BadWish) (.ref a.C_NoMoment) = some false := by rw [e_BadWish.one e_NoMoment ne_NoMoment_CellError, decide_eq_false ne_NoMoment_BadWish]
  have one_BadWish_BadWish : PySem.W.kitOne K (.ref a.C_BadWish) (.ref a.C_BadWish) = some true := by rw [e_BadWish.one e_BadWish ne_BadWish_CellError]; simp
  have cls_Wish : Cls K a.C_Wish := ⟨pgWish, hdWish, poWish, saWish⟩
  have kitO_Wish : KitO K a.C_Wish := ⟨cls_Wish, haWish, hn, tk, hmWish⟩
  have c__law_pool : Dfn l.prog w K mg base "_law_pool" 1 1 S_pool := dfn_mk F__law_pool (PySem.W.mg_of X G a28) b__law_pool (ok_law_pool F__law_pool T)
  have c0_draw : Dfn l.prog w K mg base "_law_draw" 1 2 S_draw := dfn_mk F__law_draw (PySem.W.mg_of X G a29) b__law_draw (ok_law_draw F__law_draw T)
  have c__law_draw := DfnW.ofS c0_draw
  have c__law_is : DfnG l.prog w K mg base "_law_is" 1 2 S_is := dfnG_mk F__law_is (PySem.W.mg_of X G a32) b__law_is (ok_law_is F__law_is T)
  have c_is_whole : DfnW l.prog w K mg base "is_whole" 1 1 (wp_is_whole K a) := dfnw_mk F_is_whole (PySem.W.mg_of X G a0) b_is_whole (ok_is_whole F_is_whole T )
  have c_is_tuple_of : DfnW l.prog w K mg base "is_tuple_of" 1 2 (wp_is_tuple_of K a) := dfnw_mk F_is_tuple_of (PySem.W.mg_of X G a2) b_is_tuple_of (ok_is_tuple_of F_is_tuple_of T )
  have c_unit_row : DfnW l.prog w K mg base "unit_row" 1 2 (wp_unit_row K a) := dfnw_mk F_unit_row (PySem.W.mg_of X G a6) b_unit_row (ok_unit_row F_unit_row T q_NOUGHT q_ONE)
  have c_whole_row : DfnW l.prog w K mg base "whole_row" 1 1 (wp_whole_row K a) := dfnw_mk F_whole_row (PySem.W.mg_of X G a7) b_whole_row (ok_whole_row F_whole_row T )
  have c_shortened : DfnW l.prog w K mg base "shortened" 1 1 (wp_shortened K a) := dfnw_mk F_shortened (PySem.W.mg_of X G a8) b_shortened (ok_shortened F_shortened T )
  have c_first_not_nought : DfnW l.prog w K mg base "first_not_nought" 1 1 (wp_first_not_nought K a) := dfnw_mk F_first_not_nought (PySem.W.mg_of X G a10) b_first_not_nought (ok_first_not_nought F_first_not_nought T )
  have c_count_cells : DfnW l.prog w K mg base "count_cells" 1 1 (wp_count_cells K a) := dfnw_mk F_count_cells (PySem.W.mg_of X G a14) b_count_cells (ok_count_cells F_count_cells T )
  have c_wished_cells : DfnW l.prog w K mg base "wished_cells" 1 1 (wp_wished_cells K a) := dfnw_mk F_wished_cells (PySem.W.mg_of X G a16) b_wished_cells (ok_wished_cells F_wished_cells T )
  have c_single_ticks : DfnW l.prog w K mg base "single_ticks" 1 1 (wp_single_ticks K a) := dfnw_mk F_single_ticks (PySem.W.mg_of X G a19) b_single_ticks (ok_single_ticks F_single_ticks T )
  have c_written_cells : DfnW l.prog w K mg base "written_cells" 1 1 (wp_written_cells K a) := dfnw_mk F_written_cells (PySem.W.mg_of X G a20) b_written_cells (ok_written_cells F_written_cells T )
  have c__law_deep : DfnW l.prog w K mg base "_law_deep" 1 0 (wp__law_deep K a) := dfnw_mk F__law_deep (PySem.W.mg_of X G a31) b__law_deep (ok__law_deep F__law_deep T )
  have c__law_low : DfnW l.prog w K mg base "_law_low" 1 2 (wp__law_low K a) := dfnw_mk F__law_low (PySem.W.mg_of X G a33) b__law_low (ok__law_low F__law_low T )
  have c__law_unit : DfnW l.prog w K mg base "_law_unit" 1 2 (wp__law_unit K a) := dfnw_mk F__law_unit (PySem.W.mg_of X G a36) b__law_unit (ok__law_unit F__law_unit T )
  have c__law_all_cells : DfnW l.prog w K mg base "_law_all_cells" 1 1 (wp__law_all_cells K a) := dfnw_mk F__law_all_cells (PySem.W.mg_of X G a44) b__law_all_cells (ok__law_all_cells F__law_all_cells T )
  have c__law_wished : DfnW l.prog w K mg base "_law_wished" 1 1 (wp__law_wished K a) := dfnw_mk F__law_wished (PySem.W.mg_of X G a47) b__law_wished (ok__law_wished F__law_wished T )
  have c__law_is_int : DfnW l.prog w K mg base "_law_is_int" 1 3 (wp__law_is_int K a) := dfnw_mk F__law_is_int (PySem.W.mg_of X G a50) b__law_is_int (ok__law_is_int F__law_is_int T )
  have c_is_from_to : DfnW l.prog w K mg base "is_from_to" 2 3 (wp_is_from_to K a) := dfnw_mk F_is_from_to (PySem.W.mg_of X G a1) b_is_from_to (ok_is_from_to F_is_from_to T c_is_whole)
  have c_is_number : DfnW l.prog w K mg base "is_number" 2 1 (wp_is_number K a) := dfnw_mk F_is_number (PySem.W.mg_of X G a3) b_is_number (ok_is_number F_is_number T c_is_tuple_of c_is_whole)
  have c_cleared : DfnW l.prog w K mg base "cleared" 2 2 (wp_cleared K a) := dfnw_mk F_cleared (PySem.W.mg_of X G a9) b_cleared (ok_cleared F_cleared T c_shortened)
  have c_stages_at : DfnW l.prog w K mg base "stages_at" 2 3 (wp_stages_at K a) := dfnw_mk F_stages_at (PySem.W.mg_of X G a21) b_stages_at (ok_stages_at F_stages_at T c_written_cells c_wished_cells c_count_cells)
  have c__law_mixed : DfnW l.prog w K mg base "_law_mixed" 2 2 (wp__law_mixed K a) := dfnw_mk F__law_mixed (PySem.W.mg_of X G a30) b__law_mixed (ok__law_mixed F__law_mixed T c__law_draw)
  have c__law_add : DfnW l.prog w K mg base "_law_add" 2 2 (wp__law_add K a) := dfnw_mk F__law_add (PySem.W.mg_of X G a34) b__law_add (ok__law_add F__law_add T c__law_low)
  have c__law_mul : DfnW l.prog w K mg base "_law_mul" 2 2 (wp__law_mul K a) := dfnw_mk F__law_mul (PySem.W.mg_of X G a35) b__law_mul (ok__law_mul F__law_mul T c__law_low)
  have c__law_number : DfnW l.prog w K mg base "_law_number" 2 1 (wp__law_number K a) := dfnw_mk F__law_number (PySem.W.mg_of X G a40) b__law_number (ok__law_number F__law_number T c__law_draw)
  have c__law_stages : DfnW l.prog w K mg base "_law_stages" 2 3 (wp__law_stages K a) := dfnw_mk F__law_stages (PySem.W.mg_of X G a45) b__law_stages (ok__law_stages F__law_stages T c__law_all_cells)
  have c__law_safe : DfnW l.prog w K mg base "_law_safe" 2 2 (wp__law_safe K a) := dfnw_mk F__law_safe (PySem.W.mg_of X G a46) b__law_safe (ok__law_safe F__law_safe T c__law_unit)
  have c__law_is_order : DfnW l.prog w K mg base "_law_is_order" 2 2 (wp__law_is_order K a) := dfnw_mk F__law_is_order (PySem.W.mg_of X G a51) b__law_is_order (ok__law_is_order F__law_is_order T c__law_is_int c__law_all_cells)
  have c_is_row : DfnW l.prog w K mg base "is_row" 3 2 (wp_is_row K a) := dfnw_mk F_is_row (PySem.W.mg_of X G a4) b_is_row (ok_is_row F_is_row T c_is_number c_is_tuple_of)
  have c_is_lot : DfnW l.prog w K mg base "is_lot" 3 2 (wp_is_lot K a) := dfnw_mk F_is_lot (PySem.W.mg_of X G a5) b_is_lot (ok_is_lot F_is_lot T c_is_from_to)
  have c_widened : DfnW l.prog w K mg base "widened" 3 2 (wp_widened K a) := dfnw_mk F_widened (PySem.W.mg_of X G a11) b_widened (ok_widened F_widened T c_cleared c_whole_row c_first_not_nought)
  have c_is_cell : DfnW l.prog w K mg base "is_cell" 3 2 (wp_is_cell K a) := dfnw_mk F_is_cell (PySem.W.mg_of X G a15) b_is_cell (ok_is_cell F_is_cell T c_is_from_to c_count_cells)
  have c_check_moment : DfnW l.prog w K mg base "check_moment" 3 2 (wp_check_moment K a) := dfnw_mk F_check_moment (PySem.W.mg_of X G a25) b_check_moment (ok_check_moment F_check_moment T c_is_from_to x_NoMoment)
  have c__law_left : DfnN l.prog w K mg base "_law_left" 3 2 (wp__law_left K a) := dfnn_mk F__law_left (PySem.W.mg_of X G a37) b__law_left (ok__law_left F__law_left T c__law_low c__law_add c__law_mul)
  have c__law_some_row : DfnW l.prog w K mg base "_law_some_row" 3 3 (wp__law_some_row K a) := dfnw_mk F__law_some_row (PySem.W.mg_of X G a41) b__law_some_row (ok__law_some_row F__law_some_row T c__law_draw c__law_unit c__law_number)
  have c__law_order : DfnW l.prog w K mg base "_law_order" 3 2 (wp__law_order K a) := dfnw_mk F__law_order (PySem.W.mg_of X G a49) b__law_order (ok__law_order F__law_order T c__law_all_cells c__law_mixed c__law_draw)
  have c_span_of : DfnW l.prog w K mg base "span_of" 4 1 (wp_span_of K a) := dfnw_mk F_span_of (PySem.W.mg_of X G a12) b_span_of (ok_span_of F_span_of T c_widened)
  have c_check_rows : DfnW l.prog w K mg base "check_rows" 4 1 (wp_check_rows K a) := dfnw_mk F_check_rows (PySem.W.mg_of X G a13) b_check_rows (ok_check_rows F_check_rows T c_is_row x_BadWish)
  have c_is_order : DfnW l.prog w K mg base "is_order" 4 2 (wp_is_order K a) := dfnw_mk F_is_order (PySem.W.mg_of X G a17) b_is_order (ok_is_order F_is_order T c_is_cell)
  have c__law_steps : DfnW l.prog w K mg base "_law_steps" 4 1 (wp__law_steps K a) := dfnw_mk F__law_steps (PySem.W.mg_of X G a38) b__law_steps (ok__law_steps F__law_steps T c__law_left)
  have c__law_wish : DfnW l.prog w K mg base "_law_wish" 4 2 (wp__law_wish K a) := dfnw_mk F__law_wish (PySem.W.mg_of X G a42) b__law_wish (ok__law_wish F__law_wish T c__law_draw c__law_some_row c__law_mixed c__law_unit)
  have m_Wish : MakW l.prog w K mg base "Wish" a.C_Wish 5 3 ["rows", "locked", "spare"] (bodyI (My.b_Wish_init K a) a.C_Wish ["rows", "locked", "spare"] 4) := ⟨_, _, _, ⟨mkWish, a55, fn55, kpWish⟩, ok_Wish_init F_Wish_init T c_check_rows c_is_lot c_is_from_to x_BadWish, PySem.W.mg_of X G A_Wish, b_Wish_init⟩
  have c_check_order : DfnW l.prog w K mg base "check_order" 5 2 (wp_check_order K a) := dfnw_mk F_check_order (PySem.W.mg_of X G a18) b_check_order (ok_check_order F_check_order T c_is_order x_NoOrder)
  have c_safe_span : DfnW l.prog w K mg base "safe_span" 5 2 (wp_safe_span K a) := dfnw_mk F_safe_span (PySem.W.mg_of X G a22) b_safe_span (ok_safe_span F_safe_span T c_unit_row c_span_of)
  have c__law_rank : DfnW l.prog w K mg base "_law_rank" 5 1 (wp__law_rank K a) := dfnw_mk F__law_rank (PySem.W.mg_of X G a39) b__law_rank (ok__law_rank F__law_rank T c__law_steps)
  have c_lack_of : DfnW l.prog w K mg base "lack_of" 6 2 (wp_lack_of K a) := dfnw_mk F_lack_of (PySem.W.mg_of X G a23) b_lack_of (ok_lack_of F_lack_of T c_safe_span c_wished_cells c_widened)
  have c_stages : DfnW l.prog w K mg base "stages" 6 3 (wp_stages K a) := dfnw_mk F_stages (PySem.W.mg_of X G a26) b_stages (ok_stages F_stages T c_check_order c_check_moment c_stages_at c_single_ticks)
  have c__law_lack : DfnW l.prog w K mg base "_law_lack" 6 2 (wp__law_lack K a) := dfnw_mk F__law_lack (PySem.W.mg_of X G a48) b__law_lack (ok__law_lack F__law_lack T c__law_safe c__law_wished c__law_rank)
  have c_lack_at : DfnW l.prog w K mg base "lack_at" 7 3 (wp_lack_at K a) := dfnw_mk F_lack_at (PySem.W.mg_of X G a24) b_lack_at (ok_lack_at F_lack_at T c_stages_at c_lack_of)
  have c__law_made_wish : DfnW l.prog w K mg base "_law_made_wish" 7 1 (wp__law_made_wish K a) := dfnw_mk F__law_made_wish (PySem.W.mg_of X G a43) b__law_made_wish (ok__law_made_wish F__law_made_wish T m_Wish)
  have c_lack : DfnW l.prog w K mg base "lack" 8 3 (wp_lack K a) := dfnw_mk F_lack (PySem.W.mg_of X G a27) b_lack (ok_lack F_lack T c_check_order c_check_moment c_lack_at c_single_ticks)
  have c__law_word : DfnW l.prog w K mg base "_law_word" 9 4 (wp__law_word K a) := dfnw_mk F__law_word (PySem.W.mg_of X G a52) b__law_word (ok__law_word F__law_word T c_stages c_lack (PySem.W.mg_of X G A_NoMoment) (PySem.W.mg_of X G A_NoOrder) h_CellError)
  have c__law_refused_right : DfnW l.prog w K mg base "_law_refused_right" 10 4 (wp__law_refused_right K a) := dfnw_mk F__law_refused_right (PySem.W.mg_of X G a53) b__law_refused_right (ok__law_refused_right F__law_refused_right T c__law_all_cells c__law_deep c__law_draw c__law_is_order c__law_is_int c__law_word)
  have wc : WC K a := ⟨cls_Wish, n_Wish_rows, n_Wish_locked, n_Wish_spare⟩
  have kc : KC K a := ⟨r_ONE, r_NOUGHT⟩
  have kf : KF K a := ⟨kit_NoOrder, kit_NoMoment, exm_NoOrder, exm_NoMoment, one_NoOrder_NoOrder, one_NoOrder_NoMoment, one_NoMoment_NoOrder, one_NoMoment_NoMoment⟩
  exact ok_law F_law T c__law_pool c__law_wish c__law_made_wish c__law_order c__law_draw c__law_all_cells c__law_stages c__law_is c__law_lack c_lack c_stages c__law_refused_right (w_rest wc kc kf)
theorem walk {l : PySem.W.OpenLaw} {q : Program} {loose : List Str} {XP : (Str → Option Value) → Heap → Prop} {YP : World → Heap → Prop} {d : DefRec} {K : Params → PySem.W.Frag} (hn : l.most = some 63) (hdf : d.params.defaults = [])
    (hY : ∀ (w : World) (h : Heap), YP w h → (K w.params).In h)
    (F : ∀ (w : World) (mg : Str → Option Value) (fa : Addr) (h : Heap), (K w.params).In h → h.Ns mainGlobals mg → mg d.name = some (.ref fa) →
      ∃ fd : FuncData, (∀ (s : Shared) (u : Value), BindsTo s fd ⟨[u], []⟩ [("script", u)]) ∧ ∀ base : Heap, (K w.params).In base → base.Ns mainGlobals mg → FnOkG l.prog w (K w.params) mg base (L2.CX l.prog w) 11 fa fd ["script"] (sp_law (K w.params))) :
    PySem.W.WalkO q loose XP YP l.row.toRowW d [] (fun f vs => PySem.call f vs) :=
  L2.endG (n := 63) (k := 11) (x := "script") (sp := fun w => sp_law (K w.params)) hn (by decide) hdf ⟨rfl, by decide, by decide⟩ hY F fun _ _ a ms hl hO hS => ⟨a, ms, rfl, hS, hl, hO, fun _ => rfl⟩
end My
open PySem PySem.W PyProof.Rows
set_option maxRecDepth 100000 in
set_option maxHeartbeats 0 in
theorem PySem.Challenge.cw_oncetwice_k07_whole_stages_and_lacks_holds : PySem.Challenge.rw_oncetwice_k07_whole_stages_and_lacks.Holds := by
  w_on; o_law; k_head; (case hw => w_witness2)
  k_fill
  refine My.walk (l := PySem.Challenge.rw_oncetwice_k07_whole_stages_and_lacks) rfl rfl (fun w h Y => PySem.W.kIn_of Y) ?F
  case F =>
    intro w mg fa h KX G hmg
    refine' My.all_mk KX G hmg ?A_CellError ?A_BadWish ?A_NoOrder ?A_NoMoment ?A_Wish ?e_NoOrder ?e_NoMoment ?e_BadWish ?i_NoOrder ?i_NoMoment ?g_BadWish ?n_BadWish ?icE ?tyE ?sEB ?nd ?hn ?tk ?nsup ?nany ?top ?icWish ?tyWish ?pgWish ?hdWish ?poWish ?saWish ?n_Wish_rows ?n_Wish_locked ?n_Wish_spare ?mkWish ?kpWish ?haWish ?hmWish ?a0 ?l0 ?c0 ?k0 ?a1 ?l1 ?c1 ?k1 ?a2 ?l2 ?c2 ?k2 ?a3 ?l3 ?c3 ?k3 ?a4 ?l4 ?c4 ?k4 ?a5 ?l5 ?c5 ?k5 ?a6 ?l6 ?c6 ?k6 ?a7 ?l7 ?c7 ?k7 ?a8 ?l8 ?c8 ?k8 ?a9 ?l9 ?c9 ?k9 ?a10 ?l10 ?c10 ?k10 ?a11 ?l11 ?c11 ?k11 ?a12 ?l12 ?c12 ?k12 ?a13 ?l13 ?c13 ?k13 ?a14 ?l14 ?c14 ?k14 ?a15 ?l15 ?c15 ?k15 ?a16 ?l16 ?c16 ?k16 ?a17 ?l17 ?c17 ?k17 ?a18 ?l18 ?c18 ?k18 ?a19 ?l19 ?c19 ?k19 ?a20 ?l20 ?c20 ?k20 ?a21 ?l21 ?c21 ?k21 ?a22 ?l22 ?c22 ?k22 ?a23 ?l23 ?c23 ?k23 ?a24 ?l24 ?c24 ?k24 ?a25 ?l25 ?c25 ?k25 ?a26 ?l26 ?c26 ?k26 ?a27 ?l27 ?c27 ?k27 ?a28 ?l28 ?c28 ?k28 ?a29 ?l29 ?c29 ?k29 ?a30 ?l30 ?c30 ?k30 ?a31 ?l31 ?c31 ?k31 ?a32 ?l32 ?c32 ?k32 ?a33 ?l33 ?c33 ?k33 ?a34 ?l34 ?c34 ?k34 ?a35 ?l35 ?c35 ?k35 ?a36 ?l36 ?c36 ?k36 ?a37 ?l37 ?c37 ?k37 ?a38 ?l38 ?c38 ?k38 ?a39 ?l39 ?c39 ?k39 ?a40 ?l40 ?c40 ?k40 ?a41 ?l41 ?c41 ?k41 ?a42 ?l42 ?c42 ?k42 ?a43 ?l43 ?c43 ?k43 ?a44 ?l44 ?c44 ?k44 ?a45 ?l45 ?c45 ?k45 ?a46 ?l46 ?c46 ?k46 ?a47 ?l47 ?c47 ?k47 ?a48 ?l48 ?c48 ?k48 ?a49 ?l49 ?c49 ?k49 ?a50 ?l50 ?c50 ?k50 ?a51 ?l51 ?c51 ?k51 ?a52 ?l52 ?c52 ?k52 ?a53 ?l53 ?c53 ?k53 ?a54 ?l54 ?c54 ?k54 ?a55 ?fn55 ?l55 ?c55 ?k55 ?a56 ?fn56 ?l56 ?c56 ?k56 ?z_abs ?z_all ?z_bool ?z_enumerate ?z_int ?z_isinstance ?z_len ?z_list ?z_range ?z_repr ?z_sum ?z_tuple ?z_zip ?z_gcd ?z_lcm ?z_c_MOST_CELLS ?z_c_MOST_SPARE ?z_c_MOST_TICKS ?z_c_AMID ?z_c_DONE ?z_c_NOT_BEGUN ?z_NOUGHT ?y_NOUGHT ?z_ONE ?y_ONE
    (case A_CellError => k_is)
    (case A_BadWish => k_is)
    (case A_NoOrder => k_is)
    (case A_NoMoment => k_is)
    (case A_Wish => k_is)
    (case e_NoOrder => refine' Cc.ec_mk ?x ?sa ?ty ?kp ?ga ?gg ?hd ?ha; (case x => k_is); (case sa => k_is); (case ty => k_is); (case kp => k_is); (case ga => k_is); (case gg => k_is); (case hd => k_is); (case ha => k_is))
    (case e_NoMoment => refine' Cc.ec_mk ?x ?sa ?ty ?kp ?ga ?gg ?hd ?ha; (case x => k_is); (case sa => k_is); (case ty => k_is); (case kp => k_is); (case ga => k_is); (case gg => k_is); (case hd => k_is); (case ha => k_is))
    (case e_BadWish => refine' Cc.ec_mk ?x ?sa ?ty ?kp ?ga ?gg ?hd ?ha; (case x => k_is); (case sa => k_is); (case ty => k_is); (case kp => k_is); (case ga => k_is); (case gg => k_is); (case hd => k_is); (case ha => k_is))
    (case i_NoOrder => refine' Cc.pin_mk ?h1 ?h2 ?h3 ?h4 ?h5 ?h6 ?h7 ?h8 ?me ?ini; (case h1 => k_is); (case h2 => k_is); (case h3 => k_is); (case h4 => k_is); (case h5 => k_is); (case h6 => rfl); (case h7 => decide); (case h8 => k_is); (case me => ks_is); (case ini => kx_is))
    (case i_NoMoment => refine' Cc.pin_mk ?h1 ?h2 ?h3 ?h4 ?h5 ?h6 ?h7 ?h8 ?me ?ini; (case h1 => k_is); (case h2 => k_is); (case h3 => k_is); (case h4 => k_is); (case h5 => k_is); (case h6 => rfl); (case h7 => decide); (case h8 => k_is); (case me => ks_is); (case ini => kx_is))
    (case g_BadWish => refine' Cc.ein_mk ?h1 ?h2 ?h3 ?h4 ?h5; (case h1 => k_is); (case h2 => k_is); (case h3 => k_is); (case h4 => k_is); (case h5 => k_is))
    (case n_BadWish => k_is)
    (case icE => k_is)
    (case tyE => k_is)
    (case sEB => k_is)
    (case nd => decide)
    (case hn => k_is)
    (case tk => k_is)
    (case nsup => k_is)
    (case nany => k_is)
    (case top => rfl)
    (case icWish => k_is)
    (case tyWish => k_is)
    (case pgWish => k_is)
    (case hdWish => k_is)
    (case poWish => k_is)
    (case saWish => k_is)
    (case n_Wish_rows => k_is)
    (case n_Wish_locked => k_is)
    (case n_Wish_spare => k_is)
    (case mkWish => k_is)
    (case kpWish => k_is)
    (case haWish => k_is)
    (case hmWish => k_is)
    (case a0 => k_is)
    (case l0 => k_is)
    (case c0 => k_is)
    (case k0 => k_is)
    (case a1 => k_is)
    (case l1 => k_is)
    (case c1 => k_is)
    (case k1 => k_is)
    (case a2 => k_is)
    (case l2 => k_is)
    (case c2 => k_is)
    (case k2 => k_is)
    (case a3 => k_is)
    (case l3 => k_is)
    (case c3 => k_is)
    (case k3 => k_is)
    (case a4 => k_is)
    (case l4 => k_is)
    (case c4 => k_is)
    (case k4 => k_is)
    (case a5 => k_is)
    (case l5 => k_is)
    (case c5 => k_is)
    (case k5 => k_is)
    (case a6 => k_is)
    (case l6 => k_is)
    (case c6 => k_is)
    (case k6 => k_is)
    (case a7 => k_is)
    (case l7 => k_is)
    (case c7 => k_is)
    (case k7 => k_is)
    (case a8 => k_is)
    (case l8 => k_is)
    (case c8 => k_is)
    (case k8 => k_is)
    (case a9 => k_is)
    (case l9 => k_is)
    (case c9 => k_is)
    (case k9 => k_is)
    (case a10 => k_is)
    (case l10 => k_is)
    (case c10 => k_is)
    (case k10 => k_is)
    (case a11 => k_is)
    (case l11 => k_is)
    (case c11 => k_is)
    (case k11 => k_is)
    (case a12 => k_is)
    (case l12 => k_is)
    (case c12 => k_is)
    (case k12 => k_is)
    (case a13 => k_is)
    (case l13 => k_is)
    (case c13 => k_is)
    (case k13 => k_is)
    (case a14 => k_is)
    (case l14 => k_is)
    (case c14 => k_is)
    (case k14 => k_is)
    (case a15 => k_is)
    (case l15 => k_is)
    (case c15 => k_is)
    (case k15 => k_is)
    (case a16 => k_is)
    (case l16 => k_is)
    (case c16 => k_is)
    (case k16 => k_is)
    (case a17 => k_is)
    (case l17 => k_is)
    (case c17 => k_is)
    (case k17 => k_is)
    (case a18 => k_is)
    (case l18 => k_is)
    (case c18 => k_is)
    (case k18 => k_is)
    (case a19 => k_is)
    (case l19 => k_is)
    (case c19 => k_is)
    (case k19 => k_is)
    (case a20 => k_is)
    (case l20 => k_is)
    (case c20 => k_is)
    (case k20 => k_is)
    (case a21 => k_is)
    (case l21 => k_is)
    (case c21 => k_is)
    (case k21 => k_is)
    (case a22 => k_is)
    (case l22 => k_is)
    (case c22 => k_is)
    (case k22 => k_is)
    (case a23 => k_is)
    (case l23 => k_is)
    (case c23 => k_is)
    (case k23 => k_is)
    (case a24 => k_is)
    (case l24 => k_is)
    (case c24 => k_is)
    (case k24 => k_is)
    (case a25 => k_is)
    (case l25 => k_is)
    (case c25 => k_is)
    (case k25 => k_is)
    (case a26 => k_is)
    (case l26 => k_is)
    (case c26 => k_is)
    (case k26 => k_is)
    (case a27 => k_is)
    (case l27 => k_is)
    (case c27 => k_is)
    (case k27 => k_is)
    (case a28 => k_is)
    (case l28 => k_is)
    (case c28 => k_is)
    (case k28 => k_is)
    (case a29 => k_is)
    (case l29 => k_is)
    (case c29 => k_is)
    (case k29 => k_is)
    (case a30 => k_is)
    (case l30 => k_is)
    (case c30 => k_is)
    (case k30 => k_is)
    (case a31 => k_is)
    (case l31 => k_is)
    (case c31 => k_is)
    (case k31 => k_is)
    (case a32 => k_is)
    (case l32 => k_is)
    (case c32 => k_is)
    (case k32 => k_is)
    (case a33 => k_is)
    (case l33 => k_is)
    (case c33 => k_is)
    (case k33 => k_is)
    (case a34 => k_is)
    (case l34 => k_is)
    (case c34 => k_is)
    (case k34 => k_is)
    (case a35 => k_is)
    (case l35 => k_is)
    (case c35 => k_is)
    (case k35 => k_is)
    (case a36 => k_is)
    (case l36 => k_is)
    (case c36 => k_is)
    (case k36 => k_is)
    (case a37 => k_is)
    (case l37 => k_is)
    (case c37 => k_is)
    (case k37 => k_is)
    (case a38 => k_is)
    (case l38 => k_is)
    (case c38 => k_is)
    (case k38 => k_is)
    (case a39 => k_is)
    (case l39 => k_is)
    (case c39 => k_is)
    (case k39 => k_is)
    (case a40 => k_is)
    (case l40 => k_is)
    (case c40 => k_is)
    (case k40 => k_is)
    (case a41 => k_is)
    (case l41 => k_is)
    (case c41 => k_is)
    (case k41 => k_is)
    (case a42 => k_is)
    (case l42 => k_is)
    (case c42 => k_is)
    (case k42 => k_is)
    (case a43 => k_is)
    (case l43 => k_is)
    (case c43 => k_is)
    (case k43 => k_is)
    (case a44 => k_is)
    (case l44 => k_is)
    (case c44 => k_is)
    (case k44 => k_is)
    (case a45 => k_is)
    (case l45 => k_is)
    (case c45 => k_is)
    (case k45 => k_is)
    (case a46 => k_is)
    (case l46 => k_is)
    (case c46 => k_is)
    (case k46 => k_is)
    (case a47 => k_is)
    (case l47 => k_is)
    (case c47 => k_is)
    (case k47 => k_is)
    (case a48 => k_is)
    (case l48 => k_is)
    (case c48 => k_is)
    (case k48 => k_is)
    (case a49 => k_is)
    (case l49 => k_is)
    (case c49 => k_is)
    (case k49 => k_is)
    (case a50 => k_is)
    (case l50 => k_is)
    (case c50 => k_is)
    (case k50 => k_is)
    (case a51 => k_is)
    (case l51 => k_is)
    (case c51 => k_is)
    (case k51 => k_is)
    (case a52 => k_is)
    (case l52 => k_is)
    (case c52 => k_is)
    (case k52 => k_is)
    (case a53 => k_is)
    (case l53 => k_is)
    (case c53 => k_is)
    (case k53 => k_is)
    (case a54 => k_is)
    (case l54 => k_is)
    (case c54 => k_is)
    (case k54 => k_is)
    (case a55 => k_is)
    (case fn55 => k_is)
    (case l55 => k_is)
    (case c55 => k_is)
    (case k55 => k_is)
    (case a56 => k_is)
    (case fn56 => k_is)
    (case l56 => k_is)
    (case c56 => k_is)
    (case k56 => k_is)
    (case z_abs => k_is)
    (case z_all => k_is)
    (case z_bool => k_is)
    (case z_enumerate => k_is)
    (case z_int => k_is)
    (case z_isinstance => k_is)
    (case z_len => k_is)
    (case z_list => k_is)
    (case z_range => k_is)
    (case z_repr => k_is)
    (case z_sum => k_is)
    (case z_tuple => k_is)
    (case z_zip => k_is)
    (case z_gcd => k_is)
    (case z_lcm => k_is)
    (case z_c_MOST_CELLS => k_is)
    (case z_c_MOST_SPARE => k_is)
    (case z_c_MOST_TICKS => k_is)
    (case z_c_AMID => k_is)
    (case z_c_DONE => k_is)
    (case z_c_NOT_BEGUN => k_is)
    (case z_NOUGHT => k_is)
    (case y_NOUGHT => k_is)
    (case z_ONE => k_is)
    (case y_ONE => k_is)
