import PyProof.Rows.All
import Wide.All
import OpenK.AllK
import Wide.FinOn
import HandS.ForMost
import HandS.ForExc
import HandS.Exc
import HandS.ExcOwn
import HandS.WordsExc
import HandS.Small
import HandS.SetKeys
import HandS.More
import HandS.DictComp
import HandS.Deep
import HandS.TupAny
import HandS.Text
import HandS.Codes
import HandS.Wide
import HandS.Steps
import HandS.Style
import HandS.TryOnly
import HandS.ExcIs
import HandS.ExcField
import PyProof.WalksEnum
import HandS.Conv
import HandS.IsInst
import HandS.Flt
import HandS.EndBits
import HandS.Strs
import HandS.TupMul
import HandS.Flow
import PySem.Challenge.RW_scribeself_k52_whole_small_steps
/-! ## M1 -/
set_option Elab.async false
set_option linter.all false
set_option autoImplicit false
set_option maxRecDepth 100000
set_option maxHeartbeats 4000000
namespace ML
open PySem PySem.Spec PyProof.Rows L2

abbrev D := PyData

/-- the heap without anything that is tracked: what is read off it stands in the written part -/
def H00 : Hp := fun _ => none
def LsR (K : PySem.W.Frag) (S : Addr → Prop) (H : Hp) (a : Addr) (xs : List V) : Prop := H a = some (.lst xs) ∧ ¬ S a
/-- a list that is locked (the script), or written -/
def LkR (K : PySem.W.Frag) (S : Addr → Prop) (H : Hp) (a : Addr) (xs : List V) : Prop := (Rd H a (.lst xs) ∧ ¬ S a) ∨ SqL K H00 a xs
def TsR (K : PySem.W.Frag) (S : Addr → Prop) (H : Hp) (a : Addr) (xs : List V) : Prop := (Rd H a (.tup xs) ∧ ¬ S a) ∨ SqT K H00 a xs

section
variable {K : PySem.W.Frag} {S S' : Addr → Prop} {H H' : Hp} {a : Addr} {xs : List V}
theorem Rd.no {u : HO} (h : Rd H00 a u) : False := by
  rcases h with h | ⟨o, h⟩ <;> cases h
theorem LsR.sq (h : LsR K S H a xs) : SqL K H a xs := SqL.of h.1
theorem LkR.sq (h : LkR K S H a xs) : SqL K H a xs := by
  rcases h with h | h | h
  · exact .inl h.1
  · exact (Rd.no h).elim
  · exact .inr h
theorem TsR.sq (h : TsR K S H a xs) : SqT K H a xs := by
  rcases h with h | h | h
  · exact .inl h.1
  · exact (Rd.no h).elim
  · exact .inr h
/-- what is kept of the heap, and of the addresses to stay away from -/
structure Ev (S : Addr → Prop) (H : Hp) (S' : Addr → Prop) (H' : Hp) : Prop where
  kp : ∀ b o, H b = some o → ¬ S b → H' b = some o
  nw : ∀ b, S' b → S b ∨ H b = none
theorem Rd.ev (e : Ev S H S' H') {u : HO} (h : Rd H a u) (n : ¬ S a) : Rd H' a u ∧ ¬ S' a := by
  rcases h with h | ⟨o, h⟩
  · exact ⟨.inl (e.kp _ _ h n), fun q => (e.nw _ q).elim n fun z => by rw [h] at z; cases z⟩
  · exact ⟨.inr ⟨o, e.kp _ _ h n⟩, fun q => (e.nw _ q).elim n fun z => by rw [h] at z; cases z⟩
theorem LsR.ev (e : Ev S H S' H') (h : LsR K S H a xs) : LsR K S' H' a xs := ⟨e.kp _ _ h.1 h.2, fun q => (e.nw _ q).elim h.2 fun z => by rw [h.1] at z; cases z⟩
theorem LkR.ev (e : Ev S H S' H') (h : LkR K S H a xs) : LkR K S' H' a xs := by
  rcases h with h | h
  · exact .inl (Rd.ev e h.1 h.2)
  · exact .inr h
theorem TsR.ev (e : Ev S H S' H') (h : TsR K S H a xs) : TsR K S' H' a xs := by
  rcases h with h | h
  · exact .inl (Rd.ev e h.1 h.2)
  · exact .inr h
end

/-- a text of the model: no stray signs, within the line -/
def okS (x : Str) : Bool := PyData.strOk x && decide (x.length ≤ sizeLine)
def okK : Key → Bool
  | .inl _ => true
  | .inr x => okS x
/-- a key as data -/
def kD : Key → D
  | .inl i => .int i
  | .inr x => .str x
/-- what a frozen dict or instance is written as; the class of an instance comes first, under none -/
def dctD (ks : List Key) (ds : List D) : D := .dict ((ks.map kD).zip ds)
def objD (C : Addr) (ks : List Str) (ds : List D) : D := .dict ((.none, .int (C : Nat)) :: (ks.map PyData.str).zip ds)
/-- .. and a list that is locked -/
def lkD (ds : List D) : D := .dict [(.bool true, .list ds)]
inductive Rpt | one (v : V) (d : D) | all (vs : List V) (ds : List D)
/-- the value v reads as the data d, over nothing that S names -/
inductive RpX (K : PySem.W.Frag) (S : Addr → Prop) (H : Hp) : Rpt → Prop
  | non : RpX K S H (.one .non .none)
  | bl (b : Bool) : RpX K S H (.one (.bl b) (.bool b))
  | int (i : Int) : RpX K S H (.one (.int i) (.int i))
  | str (x : Str) : okS x = true → RpX K S H (.one (.str x) (.str x))
  | lst {a : Addr} {xs : List V} {ds : List D} : LsR K S H a xs → RpX K S H (.all xs ds) → RpX K S H (.one (.ref a) (.list ds))
  | lck {a : Addr} {xs : List V} {ds : List D} : LkR K S H a xs → RpX K S H (.all xs ds) → RpX K S H (.one (.ref a) (lkD ds))
  | tup {a : Addr} {xs : List V} {ds : List D} : TsR K S H a xs → RpX K S H (.all xs ds) → RpX K S H (.one (.ref a) (.tuple ds))
  | dct {a : Addr} {ks : List Key} {xs : List V} {ds : List D} : H a = some (.dK (ks.zip xs)) → ¬ S a → ks.length = xs.length → ks.Nodup → (∀ k ∈ ks, okK k = true) → RpX K S H (.all xs ds) → RpX K S H (.one (.ref a) (dctD ks ds))
  | obj {a dx C : Addr} {ks : List Str} {xs : List V} {ds : List D} : H a = some (.ins C dx (ks.zip xs)) → H dx = some (.own a) → ¬ S a → ¬ S dx → ks.length = xs.length → RpX K S H (.all xs ds) → RpX K S H (.one (.ref a) (objD C ks ds))
  | nil : RpX K S H (.all [] [])
  | cons {v : V} {vs : List V} {d : D} {ds : List D} : RpX K S H (.one v d) → RpX K S H (.all vs ds) → RpX K S H (.all (v :: vs) (d :: ds))
abbrev Rp (K : PySem.W.Frag) (S : Addr → Prop) (H : Hp) (v : V) (d : D) : Prop := RpX K S H (.one v d)
abbrev Rps (K : PySem.W.Frag) (S : Addr → Prop) (H : Hp) (vs : List V) (ds : List D) : Prop := RpX K S H (.all vs ds)

mutual
/-- no dict and no instance in it -/
def noD : D → Bool
  | .list ds => noDs ds
  | .tuple ds => noDs ds
  | .dict _ => false
  | _ => true
def noDs : List D → Bool
  | [] => true
  | d :: ds => noD d && noDs ds
end

section
variable {K : PySem.W.Frag} {S S' : Addr → Prop} {H H' : Hp}
theorem RpX.ev (e : Ev S H S' H') {t : Rpt} (h : RpX K S H t) : RpX K S' H' t := by
  induction h with
  | non => exact .non
  | bl b => exact .bl b
  | int i => exact .int i
  | str x h => exact .str x h
  | lst h _ ih => exact .lst (h.ev e) ih
  | lck h _ ih => exact .lck (h.ev e) ih
  | tup h _ ih => exact .tup (h.ev e) ih
  | dct h1 h2 h3 h4 h5 _ ih => exact .dct (e.kp _ _ h1 h2) (fun q => (e.nw _ q).elim h2 fun z => by rw [h1] at z; cases z) h3 h4 h5 ih
  | obj h1 h2 h3 h4 h5 _ ih => exact .obj (e.kp _ _ h1 h3) (e.kp _ _ h2 h4) (fun q => (e.nw _ q).elim h3 fun z => by rw [h1] at z; cases z) (fun q => (e.nw _ q).elim h4 fun z => by rw [h2] at z; cases z) h5 ih
  | nil => exact .nil
  | cons _ _ i1 i2 => exact .cons i1 i2
theorem Rp.ev (e : Ev S H S' H') (d : D) (v : V) (h : Rp K S H v d) : Rp K S' H' v d := RpX.ev e h
theorem Rps.ev (e : Ev S H S' H') (ds : List D) (vs : List V) (h : Rps K S H vs ds) : Rps K S' H' vs ds := RpX.ev e h
mutual
theorem Rp.dp : ∀ (d : D) (v : V), noD d = true → Rp K S H v d → Dp K H v d
  | .none, _, _, h => by cases h; exact .non
  | .bool _, _, _, h => by cases h; exact .bl _
  | .int _, _, _, h => by cases h; exact .int _
  | .str _, _, _, h => by cases h; exact .str _
  | .list ds, _, n, h => by
    cases h with
    | lst h1 h2 => exact .lst h1.sq (Rps.dp ds _ (by simpa [noD] using n) h2)
  | .tuple ds, _, n, h => by
    cases h with
    | tup h1 h2 => exact .tup h1.sq (Rps.dp ds _ (by simpa [noD] using n) h2)
  | .dict _, _, n, h => by simp [noD] at n
theorem Rps.dp : ∀ (ds : List D) (vs : List V), noDs ds = true → Rps K S H vs ds → DpAll K H vs ds
  | [], _, _, h => by cases h; exact .nil
  | d :: ds, _, n, h => by
    have n' : noD d = true ∧ noDs ds = true := by simpa [noDs] using n
    cases h with
    | cons h1 h2 => exact .cons (Rp.dp d _ n'.1 h1) (Rps.dp ds _ n'.2 h2)
end
theorem Rps.length : ∀ {vs : List V} {ds : List D}, Rps K S H vs ds → vs.length = ds.length
  | _, [], h => by cases h; rfl
  | _, d :: ds, h => by
    cases h with
    | cons h1 h2 => rw [List.length_cons, List.length_cons, Rps.length h2]
theorem Rps.get : ∀ {vs : List V} {ds : List D} {i : Nat} {d : D}, Rps K S H vs ds → ds[i]? = some d → ∃ v, vs[i]? = some v ∧ Rp K S H v d
  | _, [], _, _, h, e => by simp at e
  | _, d :: ds, 0, _, h, e => by
    cases h with
    | cons h1 h2 => simp at e; subst e; exact ⟨_, rfl, h1⟩
  | _, d :: ds, i + 1, _, h, e => by
    cases h with
    | cons h1 h2 =>
      obtain ⟨v, q, r⟩ := Rps.get (i := i) h2 (by simpa using e)
      exact ⟨v, by simpa using q, r⟩
theorem Rps.get' : ∀ {vs : List V} {ds : List D} {i : Nat} {v : V}, Rps K S H vs ds → vs[i]? = some v → ∃ d, ds[i]? = some d ∧ Rp K S H v d
  | [], _, _, _, h, e => by simp at e
  | v :: vs, _, 0, _, h, e => by
    cases h with
    | cons h1 h2 => simp at e; subst e; exact ⟨_, rfl, h1⟩
  | v :: vs, _, i + 1, _, h, e => by
    cases h with
    | cons h1 h2 =>
      obtain ⟨d, q, r⟩ := Rps.get' (i := i) h2 (by simpa using e)
      exact ⟨d, by simpa using q, r⟩
theorem Rps.append : ∀ {vs us : List V} {ds es : List D}, Rps K S H vs ds → Rps K S H us es → Rps K S H (vs ++ us) (ds ++ es)
  | _, _, [], _, h, q => by cases h; exact q
  | _, _, d :: ds, _, h, q => by
    cases h with
    | cons h1 h2 => exact .cons h1 (Rps.append h2 q)
theorem Rps.set : ∀ {vs : List V} {ds : List D} {i : Nat} {v : V} {d : D}, Rps K S H vs ds → Rp K S H v d → Rps K S H (vs.set i v) (ds.set i d)
  | _, [], _, _, _, h, q => by cases h; exact .nil
  | _, d :: ds, 0, _, _, h, q => by
    cases h with
    | cons h1 h2 => exact .cons q h2
  | _, d :: ds, i + 1, _, _, h, q => by
    cases h with
    | cons h1 h2 => exact .cons h1 (Rps.set h2 q)
theorem Rps.take : ∀ {vs : List V} {ds : List D} (n : Nat), Rps K S H vs ds → Rps K S H (vs.take n) (ds.take n)
  | _, _, 0, h => by simp; exact .nil
  | _, [], n + 1, h => by cases h; exact .nil
  | _, d :: ds, n + 1, h => by
    cases h with
    | cons h1 h2 => exact .cons h1 (Rps.take n h2)
theorem Rps.drop : ∀ {vs : List V} {ds : List D} (n : Nat), Rps K S H vs ds → Rps K S H (vs.drop n) (ds.drop n)
  | _, _, 0, h => h
  | _, [], n + 1, h => by cases h; exact .nil
  | _, d :: ds, n + 1, h => by
    cases h with
    | cons h1 h2 => exact Rps.drop n h2
theorem Rps.reverse : ∀ {vs : List V} {ds : List D}, Rps K S H vs ds → Rps K S H vs.reverse ds.reverse
  | _, [], h => by cases h; exact .nil
  | _, d :: ds, h => by
    cases h with
    | cons h1 h2 =>
      rw [List.reverse_cons, List.reverse_cons]
      exact Rps.append (Rps.reverse h2) (.cons h1 .nil)
theorem RpX.length {vs : List V} {ds : List D} (h : RpX K S H (.all vs ds)) : vs.length = ds.length := Rps.length h
theorem RpX.get {vs : List V} {ds : List D} {i : Nat} {d : D} (h : RpX K S H (.all vs ds)) (e : ds[i]? = some d) : ∃ v, vs[i]? = some v ∧ Rp K S H v d := Rps.get h e
theorem RpX.get' {vs : List V} {ds : List D} {i : Nat} {v : V} (h : RpX K S H (.all vs ds)) (e : vs[i]? = some v) : ∃ d, ds[i]? = some d ∧ Rp K S H v d := Rps.get' h e
theorem RpX.append {vs us : List V} {ds es : List D} (h : RpX K S H (.all vs ds)) (q : Rps K S H us es) : Rps K S H (vs ++ us) (ds ++ es) := Rps.append h q
theorem RpX.take {vs : List V} {ds : List D} (h : RpX K S H (.all vs ds)) (n : Nat) : Rps K S H (vs.take n) (ds.take n) := Rps.take n h
theorem RpX.drop {vs : List V} {ds : List D} (h : RpX K S H (.all vs ds)) (n : Nat) : Rps K S H (vs.drop n) (ds.drop n) := Rps.drop n h
theorem RpX.reverse {vs : List V} {ds : List D} (h : RpX K S H (.all vs ds)) : Rps K S H vs.reverse ds.reverse := Rps.reverse h
theorem Rps.ints : ∀ (ns : List Int), Rps K S H (ns.map V.int) (ns.map PyData.int)
  | [] => .nil
  | n :: ns => .cons (.int n) (Rps.ints ns)
theorem Rps.strs : ∀ (ns : List Str), (∀ x ∈ ns, okS x = true) → Rps K S H (ns.map V.str) (ns.map PyData.str)
  | [], _ => .nil
  | n :: ns, h => .cons (.str n (h n List.mem_cons_self)) (Rps.strs ns fun x hx => h x (List.mem_cons_of_mem _ hx))
theorem Rps.keys : ∀ (ns : List Key), (∀ x ∈ ns, okK x = true) → Rps K S H (ns.map kV) (ns.map kD)
  | [], _ => .nil
  | .inl n :: ns, h => .cons (.int n) (Rps.keys ns fun x hx => h x (List.mem_cons_of_mem _ hx))
  | .inr n :: ns, h => .cons (.str n (h (.inr n) List.mem_cons_self)) (Rps.keys ns fun x hx => h x (List.mem_cons_of_mem _ hx))
theorem Rp.key {k : Key} (h : okK k = true) : Rp K S H (kV k) (kD k) := by
  cases k with
  | inl i => exact .int i
  | inr x => exact .str x h
theorem Rps.strs_ok : ∀ {vs : List V} {ns : List Str}, Rps K S H vs (ns.map PyData.str) → ∀ x ∈ ns, okS x = true
  | _, [], _, x, hx => by cases hx
  | _, n :: ns, h, x, hx => by
    cases h with
    | cons h1 h2 =>
      cases h1 with
      | str _ h1 =>
        rcases List.mem_cons.mp hx with rfl | hx
        · exact h1
        · exact Rps.strs_ok h2 x hx
theorem Rps.ints_v : ∀ {vs : List V} {ns : List Int}, Rps K S H vs (ns.map PyData.int) → vs = ns.map V.int
  | _, [], h => by cases h; rfl
  | _, n :: ns, h => by
    cases h with
    | cons h1 h2 => cases h1; rw [Rps.ints_v h2]; rfl
theorem Rps.strs_v : ∀ {vs : List V} {ns : List Str}, Rps K S H vs (ns.map PyData.str) → vs = ns.map V.str
  | _, [], h => by cases h; rfl
  | _, n :: ns, h => by
    cases h with
    | cons h1 h2 => cases h1; rw [Rps.strs_v h2]; rfl
theorem Rps.bools_v : ∀ {vs : List V} {ns : List Bool}, Rps K S H vs (ns.map PyData.bool) → vs = ns.map V.bl
  | _, [], h => by cases h; rfl
  | _, n :: ns, h => by
    cases h with
    | cons h1 h2 => cases h1; rw [Rps.bools_v h2]; rfl
/-- data without an address -/
def atom : D → Bool
  | .none => true
  | .bool _ => true
  | .int _ => true
  | .str _ => true
  | _ => false
theorem Rp.atm {S2 : Addr → Prop} {H2 : Hp} {v : V} {d : D} (a : atom d = true) (h : Rp K S H v d) : Rp K S2 H2 v d := by
  cases d with
  | none => cases h; exact .non
  | bool b => cases h; exact .bl _
  | int i => cases h; exact .int _
  | str x => cases h with | str _ h => exact .str _ h
  | _ => cases a
end

/-! ### what is owned -/
inductive Sh where
  | lst (p : Addr)
  | dct (p : Addr) (ks : List Key)
  | obj (p dx C : Addr) (ks : List Str)
def Sh.root : Sh → Addr
  | .lst p => p
  | .dct p _ => p
  | .obj p _ _ _ => p
def Sh.own : Sh → List Addr
  | .lst p => [p]
  | .dct p _ => [p]
  | .obj p dx _ _ => [p, dx]
def Sh.holds (H : Hp) (xs : List V) : Sh → Prop
  | .lst p => H p = some (.lst xs)
  | .dct p ks => H p = some (.dK (ks.zip xs)) ∧ ks.length = xs.length ∧ ks.Nodup ∧ ∀ k ∈ ks, okK k = true
  | .obj p dx C ks => H p = some (.ins C dx (ks.zip xs)) ∧ H dx = some (.own p) ∧ ks.length = xs.length
def Sh.data (ds : List D) : Sh → D
  | .lst _ => .list ds
  | .dct _ ks => dctD ks ds
  | .obj _ _ C ks => objD C ks ds
inductive Ot where
  | leaf (d : D)
  | nod (s : Sh) (os : List Ot)

mutual
def Ot.get : Ot → D
  | .leaf d => d
  | .nod s os => s.data (Ot.gets os)
def Ot.gets : List Ot → List D
  | [] => []
  | o :: os => o.get :: Ot.gets os
end
mutual
def Ot.adr : Ot → List Addr
  | .leaf _ => []
  | .nod s os => s.own ++ Ot.adrs os
def Ot.adrs : List Ot → List Addr
  | [] => []
  | o :: os => o.adr ++ Ot.adrs os
end
abbrev Ot.lst (p : Addr) (os : List Ot) : Ot := .nod (.lst p) os
abbrev Ot.flat (p : Addr) (ds : List D) : Ot := .nod (.lst p) (ds.map .leaf)
theorem Ot.gets_map : ∀ os : List Ot, Ot.gets os = os.map Ot.get
  | [] => rfl
  | o :: os => by rw [Ot.gets, List.map_cons, Ot.gets_map os]
theorem Ot.gets_leaf (ds : List D) : Ot.gets (ds.map .leaf) = ds := by
  rw [Ot.gets_map, List.map_map]
  induction ds with
  | nil => rfl
  | cons d ds ih => rw [List.map_cons, ih]; rfl
theorem Ot.get_flat {p : Addr} (ds : List D) : (Ot.flat p ds).get = .list ds := by rw [Ot.get, Ot.gets_leaf]; rfl
theorem Ot.adrs_leaf (ds : List D) : Ot.adrs (ds.map .leaf) = [] := by
  induction ds with
  | nil => rfl
  | cons d ds ih => rw [List.map_cons, Ot.adrs, ih]; rfl
theorem Ot.adrs_app : ∀ os ps : List Ot, Ot.adrs (os ++ ps) = Ot.adrs os ++ Ot.adrs ps
  | [], ps => rfl
  | o :: os, ps => by rw [List.cons_append, Ot.adrs, Ot.adrs, Ot.adrs_app os ps, List.append_assoc]
theorem Ot.mem_adrs {b : Addr} : ∀ {os : List Ot}, b ∈ Ot.adrs os ↔ ∃ o ∈ os, b ∈ o.adr
  | [] => by simp [Ot.adrs]
  | o :: os => by rw [Ot.adrs, List.mem_append, Ot.mem_adrs]; simp

mutual
inductive Ow (K : PySem.W.Frag) (S : Addr → Prop) (H : Hp) : V → Ot → Prop
  | leaf {v : V} {d : D} : Rp K S H v d → Ow K S H v (.leaf d)
  | nod {s : Sh} {xs : List V} {os : List Ot} : s.holds H xs → Ows K S H xs os → Ow K S H (.ref s.root) (.nod s os)
inductive Ows (K : PySem.W.Frag) (S : Addr → Prop) (H : Hp) : List V → List Ot → Prop
  | nil : Ows K S H [] []
  | cons {x : V} {xs : List V} {o : Ot} {os : List Ot} : Ow K S H x o → Ows K S H xs os → Ows K S H (x :: xs) (o :: os)
end

section
variable {K : PySem.W.Frag} {S S' : Addr → Prop} {H H' : Hp}
theorem Sh.holds_of {s : Sh} {xs : List V} (k : ∀ b ∈ s.own, ∀ u, H b = some u → H' b = some u) (h : s.holds H xs) : s.holds H' xs := by
  cases s with
  | lst p => exact k p (List.mem_singleton.mpr rfl) _ h
  | dct p ks => exact ⟨k p (List.mem_singleton.mpr rfl) _ h.1, h.2⟩
  | obj p dx C ks => exact ⟨k p List.mem_cons_self _ h.1, k dx (List.mem_cons_of_mem _ List.mem_cons_self) _ h.2.1, h.2.2⟩
theorem Sh.holds_in {s : Sh} {xs : List V} (h : s.holds H xs) : ∀ b ∈ s.own, H b ≠ none := by
  intro b hb
  cases s with
  | lst p =>
    rw [List.mem_singleton.mp hb, show H p = _ from h]; exact fun z => nomatch z
  | dct p ks =>
    rw [List.mem_singleton.mp hb, h.1]; exact fun z => nomatch z
  | obj p dx C ks =>
    rcases List.mem_cons.mp hb with rfl | hb
    · rw [h.1]; exact fun z => nomatch z
    · rw [List.mem_singleton.mp hb, h.2.1]; exact fun z => nomatch z
theorem Sh.root_own (s : Sh) : s.root ∈ s.own := by cases s <;> exact List.mem_cons_self
/-! owned things stay: what is shared by Ev, what is owned as it is -/
mutual
theorem Ow.ev (e : Ev S H S' H') : ∀ (o : Ot) (v : V), (∀ b ∈ o.adr, ∀ u, H b = some u → H' b = some u) → Ow K S H v o → Ow K S' H' v o
  | .leaf d, _, _, h => by cases h with | leaf h => exact .leaf (Rp.ev e d _ h)
  | .nod s os, _, k, h => by
    cases h with
    | nod h1 h2 =>
      rw [Ot.adr] at k
      exact .nod (Sh.holds_of (fun b hb => k b (List.mem_append_left _ hb)) h1) (Ows.ev e os _ (fun b hb => k b (List.mem_append_right _ hb)) h2)
theorem Ows.ev (e : Ev S H S' H') : ∀ (os : List Ot) (vs : List V), (∀ b ∈ Ot.adrs os, ∀ u, H b = some u → H' b = some u) → Ows K S H vs os → Ows K S' H' vs os
  | [], _, _, h => by cases h; exact .nil
  | o :: os, _, k, h => by
    cases h with
    | cons h1 h2 =>
      rw [Ot.adrs] at k
      exact .cons (Ow.ev e o _ (fun b hb => k b (List.mem_append_left _ hb)) h1) (Ows.ev e os _ (fun b hb => k b (List.mem_append_right _ hb)) h2)
end
/-! what is owned is given away -/
mutual
theorem Ow.rp {T : Addr → Prop} : ∀ (o : Ot) (v : V), (∀ b ∈ o.adr, ¬ T b) → (∀ b, T b → S b) → Ow K S H v o → Rp K T H v o.get
  | .leaf d, _, _, s, h => by
    cases h with
    | leaf h =>
      rw [Ot.get]
      exact Rp.ev ⟨fun _ _ q _ => q, fun b hb => .inl (s b hb)⟩ d _ h
  | .nod sh os, _, k, s, h => by
    cases h with
    | nod h1 h2 =>
      rw [Ot.adr] at k
      have hr := Ows.rp os _ (fun b hb => k b (List.mem_append_right _ hb)) s h2
      have ko : ∀ b ∈ sh.own, ¬ T b := fun b hb => k b (List.mem_append_left _ hb)
      rw [Ot.get]
      cases sh with
      | lst p => exact .lst ⟨h1, ko _ List.mem_cons_self⟩ hr
      | dct p ks => exact .dct h1.1 (ko _ List.mem_cons_self) h1.2.1 h1.2.2.1 h1.2.2.2 hr
      | obj p dx C ks => exact .obj h1.1 h1.2.1 (ko _ List.mem_cons_self) (ko _ (List.mem_cons_of_mem _ List.mem_cons_self)) h1.2.2 hr
theorem Ows.rp {T : Addr → Prop} : ∀ (os : List Ot) (vs : List V), (∀ b ∈ Ot.adrs os, ¬ T b) → (∀ b, T b → S b) → Ows K S H vs os → Rps K T H vs (Ot.gets os)
  | [], _, _, s, h => by cases h; rw [Ot.gets]; exact .nil
  | o :: os, _, k, s, h => by
    cases h with
    | cons h1 h2 =>
      rw [Ot.gets]
      rw [Ot.adrs] at k
      exact .cons (Ow.rp o _ (fun b hb => k b (List.mem_append_left _ hb)) s h1) (Ows.rp os _ (fun b hb => k b (List.mem_append_right _ hb)) s h2)
end
theorem Ows.leaves : ∀ {vs : List V} {ds : List D}, Rps K S H vs ds → Ows K S H vs (ds.map .leaf)
  | _, [], h => by cases h; exact .nil
  | _, d :: ds, h => by
    cases h with
    | cons h1 h2 => exact .cons (.leaf h1) (Ows.leaves h2)
theorem Ows.of_leaves : ∀ {vs : List V} {ds : List D}, Ows K S H vs (ds.map .leaf) → Rps K S H vs ds
  | _, [], h => by cases h; exact .nil
  | _, d :: ds, h => by
    cases h with
    | cons h1 h2 =>
      cases h1 with
      | leaf h1 => exact .cons h1 (Ows.of_leaves h2)
theorem Ows.length : ∀ {vs : List V} {os : List Ot}, Ows K S H vs os → vs.length = os.length
  | _, [], h => by cases h; rfl
  | _, o :: os, h => by cases h with | cons h1 h2 => rw [List.length_cons, List.length_cons, Ows.length h2]
theorem Ows.get : ∀ {vs : List V} {os : List Ot} {i : Nat} {o : Ot}, Ows K S H vs os → os[i]? = some o → ∃ v, vs[i]? = some v ∧ Ow K S H v o
  | _, [], _, _, h, e => by simp at e
  | _, d :: ds, 0, _, h, e => by
    cases h with
    | cons h1 h2 => simp at e; subst e; exact ⟨_, rfl, h1⟩
  | _, d :: ds, i + 1, _, h, e => by
    cases h with
    | cons h1 h2 =>
      obtain ⟨v, q, r⟩ := Ows.get (i := i) h2 (by simpa using e)
      exact ⟨v, by simpa using q, r⟩
theorem Ows.append : ∀ {vs us : List V} {os ps : List Ot}, Ows K S H vs os → Ows K S H us ps → Ows K S H (vs ++ us) (os ++ ps)
  | _, _, [], _, h, q => by cases h; exact q
  | _, _, d :: ds, _, h, q => by
    cases h with
    | cons h1 h2 => exact .cons h1 (Ows.append h2 q)
theorem Ows.set : ∀ {vs : List V} {os : List Ot} {i : Nat} {v : V} {o : Ot}, Ows K S H vs os → Ow K S H v o → Ows K S H (vs.set i v) (os.set i o)
  | _, [], _, _, _, h, q => by cases h; exact .nil
  | _, d :: ds, 0, _, _, h, q => by
    cases h with
    | cons h1 h2 => exact .cons q h2
  | _, d :: ds, i + 1, _, _, h, q => by
    cases h with
    | cons h1 h2 => exact .cons h1 (Ows.set h2 q)
theorem Ows.reverse : ∀ {vs : List V} {os : List Ot}, Ows K S H vs os → Ows K S H vs.reverse os.reverse
  | _, [], h => by cases h; exact .nil
  | _, d :: ds, h => by
    cases h with
    | cons h1 h2 =>
      rw [List.reverse_cons, List.reverse_cons]
      exact Ows.append (Ows.reverse h2) (.cons h1 .nil)
theorem Ows.take : ∀ {vs : List V} {ds : List Ot} (n : Nat), Ows K S H vs ds → Ows K S H (vs.take n) (ds.take n)
  | _, _, 0, h => by simp; exact .nil
  | _, [], n + 1, h => by cases h; exact .nil
  | _, d :: ds, n + 1, h => by
    cases h with
    | cons h1 h2 => exact .cons h1 (Ows.take n h2)
theorem Ows.drop : ∀ {vs : List V} {ds : List Ot} (n : Nat), Ows K S H vs ds → Ows K S H (vs.drop n) (ds.drop n)
  | _, _, 0, h => h
  | _, [], n + 1, h => by cases h; exact .nil
  | _, d :: ds, n + 1, h => by
    cases h with
    | cons h1 h2 => exact Ows.drop n h2
mutual
/-- the addresses of what is owned hold something -/
theorem Ow.ins : ∀ (o : Ot) (v : V), Ow K S H v o → ∀ b ∈ o.adr, H b ≠ none
  | .leaf d, _, h, b, hb => by rw [Ot.adr] at hb; cases hb
  | .nod s os, _, h, b, hb => by
    cases h with
    | nod h1 h2 =>
      rw [Ot.adr] at hb
      rcases List.mem_append.mp hb with hb | hb
      · exact Sh.holds_in h1 b hb
      · exact Ows.ins os _ h2 b hb
theorem Ows.ins : ∀ (os : List Ot) (vs : List V), Ows K S H vs os → ∀ b ∈ Ot.adrs os, H b ≠ none
  | [], _, h, b, hb => by rw [Ot.adrs] at hb; cases hb
  | o :: os, _, h, b, hb => by
    cases h with
    | cons h1 h2 =>
      rw [Ot.adrs] at hb
      rcases List.mem_append.mp hb with hb | hb
      · exact Ow.ins o _ h1 b hb
      · exact Ows.ins os _ h2 b hb
end
end
/-! ### places in owned trees -/
inductive Step where
  | ix (n : Nat)
  | key (k : Key)
  | fld (f : Str)
/-- the first place of a key -/
def kpos {κ : Type} [DecidableEq κ] : List κ → κ → Option Nat
  | [], _ => none
  | x :: r, k => if x = k then some 0 else (kpos r k).map (· + 1)
/-- which of the kids a step leads to -/
def Sh.pos : Sh → Step → Option Nat
  | .lst _, .ix n => some n
  | .dct _ ks, .key k => kpos ks k
  | .obj _ _ _ ks, .fld f => kpos ks f
  | _, _ => none
def Ot.at : Ot → List Step → Option Ot
  | o, [] => some o
  | .leaf _, _ :: _ => none
  | .nod s os, t :: r => match s.pos t with
    | none => none
    | some n => match os[n]? with
      | none => none
      | some o => o.at r
def Ot.put (o' : Ot) : Ot → List Step → Ot
  | _, [] => o'
  | .leaf d, _ :: _ => .leaf d
  | .nod s os, t :: r => match s.pos t with
    | none => .nod s os
    | some n => match os[n]? with
      | none => .nod s os
      | some o => .nod s (os.set n (Ot.put o' o r))
def Ot.root : Ot → Option Addr
  | .leaf _ => none
  | .nod s _ => some s.root
section
variable {K : PySem.W.Frag} {S S' : Addr → Prop} {H H' : Hp}
theorem adrs_set_mem {os : List Ot} {n : Nat} {o : Ot} {b : Addr} (h : b ∈ Ot.adrs (os.set n o)) : b ∈ o.adr ∨ b ∈ Ot.adrs os := by
  obtain ⟨x, hx, hb⟩ := Ot.mem_adrs.mp h
  rcases List.mem_or_eq_of_mem_set hx with hx | rfl
  · exact .inr (Ot.mem_adrs.mpr ⟨x, hx, hb⟩)
  · exact .inl hb
theorem adrs_at {os : List Ot} {n : Nat} {o : Ot} (h : os[n]? = some o) : ∀ b ∈ o.adr, b ∈ Ot.adrs os := fun b hb => Ot.mem_adrs.mpr ⟨o, List.mem_of_getElem? h, hb⟩
theorem Ot.adr_at : ∀ {o o1 : Ot} {π : List Step}, o.at π = some o1 → ∀ b ∈ o1.adr, b ∈ o.adr
  | o, o1, [], h, b, hb => by
    unfold Ot.at at h
    cases h
    exact hb
  | .leaf _, _, _ :: _, h, _, _ => by cases h
  | .nod s os, o1, t :: r, h, b, hb => by
    have h' : (match s.pos t with | none => none | some n => match os[n]? with | none => none | some o => o.at r) = some o1 := h
    split at h'
    · cases h'
    · split at h'
      · cases h'
      · rename_i n e1 o e2
        rw [Ot.adr]
        exact List.mem_append_right _ (adrs_at e2 b (Ot.adr_at h' b hb))
/-- a new node in a place: nothing but its own and what was there -/
theorem Ot.adr_put {o' : Ot} : ∀ {o : Ot} {π : List Step}, ∀ b ∈ (Ot.put o' o π).adr, b ∈ o'.adr ∨ b ∈ o.adr
  | o, [], b, hb => .inl (by cases o <;> exact hb)
  | .leaf _, _ :: _, b, hb => .inr hb
  | .nod s os, t :: r, b, hb => by
    have hb' : b ∈ (match s.pos t with | none => Ot.nod s os | some n => match os[n]? with | none => .nod s os | some o => .nod s (os.set n (Ot.put o' o r))).adr := hb
    split at hb'
    · exact .inr hb'
    · split at hb'
      · exact .inr hb'
      · rename_i n e1 o e2
        rw [Ot.adr] at hb' ⊢
        rcases List.mem_append.mp hb' with hb' | hb'
        · exact .inr (List.mem_append_left _ hb')
        · rcases adrs_set_mem hb' with hb' | hb'
          · rcases Ot.adr_put (o := o) (π := r) b hb' with z | z
            · exact .inl z
            · exact .inr (List.mem_append_right _ (adrs_at e2 b z))
          · exact .inr (List.mem_append_right _ hb')
theorem adrs_split {os : List Ot} {n : Nat} {o : Ot} (h : os[n]? = some o) : Ot.adrs os = Ot.adrs (os.take n) ++ (o.adr ++ Ot.adrs (os.drop (n + 1))) ∧ ∀ o', Ot.adrs (os.set n o') = Ot.adrs (os.take n) ++ (o'.adr ++ Ot.adrs (os.drop (n + 1))) := by
  have hn : n < os.length := (List.getElem?_eq_some_iff.mp h).1
  refine ⟨?_, fun o' => ?_⟩
  · have e : os = os.take n ++ o :: os.drop (n + 1) := by
      have := (List.getElem?_eq_some_iff.mp h).2
      rw [← this, List.getElem_cons_drop, List.take_append_drop]
    conv => lhs; rw [e]
    rw [Ot.adrs_app, Ot.adrs]
  · rw [List.set_eq_take_append_cons_drop, if_pos hn, Ot.adrs_app, Ot.adrs]
/-- the new tree's addresses are all different, if the new node's are and stay away from the rest -/
theorem Ot.nodup_put {o' : Ot} (ok : o'.adr.Nodup) : ∀ {o o1 : Ot} {π : List Step}, o.at π = some o1 → o.adr.Nodup → (∀ b ∈ o'.adr, b ∈ o1.adr ∨ b ∉ o.adr) → (Ot.put o' o π).adr.Nodup
  | o, o1, [], h, nd, hb => by cases o <;> exact ok
  | .leaf _, _, _ :: _, h, _, _ => by cases h
  | .nod s os, o1, t :: r, h, nd, hb => by
    have h' : (match s.pos t with | none => none | some n => match os[n]? with | none => none | some o => o.at r) = some o1 := h
    show (match s.pos t with | none => Ot.nod s os | some n => match os[n]? with | none => .nod s os | some o => .nod s (os.set n (Ot.put o' o r))).adr.Nodup
    cases e1 : s.pos t with
    | none => rw [e1] at h'; cases h'
    | some n =>
      rw [e1] at h'
      cases e2 : os[n]? with
      | none => simp only [e2] at h'; cases h'
      | some o =>
        simp only [e2] at h' ⊢
        obtain ⟨es, eset⟩ := adrs_split e2
        generalize hAd : Ot.adrs (os.take n) = A at es eset
        generalize hBd : Ot.adrs (os.drop (n + 1)) = B at es eset
        rw [Ot.adr, es] at nd
        have hmem : ∀ b ∈ o.adr, b ∈ (Ot.nod s os).adr := fun b hb => by rw [Ot.adr, es]; simp [hb]
        have nd2 : o.adr.Nodup := by
          rw [List.nodup_append, List.nodup_append, List.nodup_append] at nd
          exact nd.2.1.2.1.1
        have ih := Ot.nodup_put ok (π := r) h' nd2 (fun b q => (hb b q).elim .inl fun z => .inr fun w => z (hmem b w))
        rw [Ot.adr, eset]
        have sub : ∀ b ∈ (Ot.put o' o r).adr, b ∈ o.adr ∨ b ∉ (Ot.nod s os).adr := fun b q => by
          rcases Ot.adr_put b q with z | z
          · rcases hb b z with z | z
            · exact .inl (Ot.adr_at h' b z)
            · exact .inr z
          · exact .inl z
        rw [Ot.adr, es] at sub
        simp only [List.nodup_append, List.mem_append] at nd ih sub ⊢
        obtain ⟨n1, ⟨n2, ⟨n3, n4, n5⟩, n6⟩, n7⟩ := nd
        refine ⟨n1, ⟨n2, ⟨ih, n4, fun a ha b hb e => ?_⟩, fun a ha b hb e => ?_⟩, fun a ha b hb e => ?_⟩
        · subst e
          rcases sub a ha with z | z
          · exact n5 a z a hb rfl
          · exact z (.inr (.inr (.inr hb)))
        · subst e
          rcases hb with hb | hb
          · rcases sub a hb with z | z
            · exact n6 a ha a (.inl z) rfl
            · exact z (.inr (.inl ha))
          · exact n6 a ha a (.inr hb) rfl
        · subst e
          rcases hb with hb | hb | hb
          · exact n7 a ha a (.inl hb) rfl
          · rcases sub a hb with z | z
            · exact n7 a ha a (.inr (.inl z)) rfl
            · exact z (.inl ha)
          · exact n7 a ha a (.inr (.inr hb)) rfl
/-- what stands in a place -/
theorem Ow.at : ∀ {o o1 : Ot} {π : List Step} {v : V}, Ow K S H v o → o.at π = some o1 → ∃ u, Ow K S H u o1
  | o, o1, [], v, w, h => by
    unfold Ot.at at h
    cases h
    exact ⟨v, w⟩
  | .leaf _, _, _ :: _, _, _, h => by cases h
  | .nod s os, o1, t :: r, v, w, h => by
    have h' : (match s.pos t with | none => none | some n => match os[n]? with | none => none | some o => o.at r) = some o1 := h
    split at h'
    · cases h'
    · split at h'
      · cases h'
      · rename_i n e1 o e2
        cases w with
        | nod h1 h2 =>
          obtain ⟨u, _, hu⟩ := h2.get e2
          exact hu.at h'
theorem Ow.root {o : Ot} {v : V} {p : Addr} (w : Ow K S H v o) (h : o.root = some p) : v = .ref p := by
  cases w with
  | leaf _ => cases h
  | nod _ _ => cases h; rfl
/-- another node in the place, in another heap: the rest stays, as its addresses are not the new node's -/
theorem Ow.put (e : Ev S H S' H') {o' : Ot} : ∀ {o o1 : Ot} {π : List Step} {v : V}, Ow K S H v o → o.at π = some o1 → o'.root = o1.root → o1.root ≠ none → (∀ u, Ow K S H u o1 → Ow K S' H' u o') → o.adr.Nodup →
    (∀ b ∈ o.adr, b ∉ o1.adr → ∀ u, H b = some u → H' b = some u) → Ow K S' H' v (Ot.put o' o π)
  | o, o1, [], v, w, h, hr, hn, hu, nd, kp => by
    unfold Ot.at at h
    cases h
    have := hu v w
    cases o <;> exact this
  | .leaf _, _, _ :: _, _, _, h, _, _, _, _, _ => by cases h
  | .nod s os, o1, t :: r, v, w, h, hr, hn, hu, nd, kp => by
    have h' : (match s.pos t with | none => none | some n => match os[n]? with | none => none | some o => o.at r) = some o1 := h
    show Ow K S' H' v (match s.pos t with | none => Ot.nod s os | some n => match os[n]? with | none => .nod s os | some o => .nod s (os.set n (Ot.put o' o r)))
    cases e1 : s.pos t with
    | none => rw [e1] at h'; cases h'
    | some n =>
      rw [e1] at h'
      cases e2 : os[n]? with
      | none => simp only [e2] at h'; cases h'
      | some o =>
        simp only [e2] at h' ⊢
        obtain ⟨es, eset⟩ := adrs_split e2
        generalize hAd : Ot.adrs (os.take n) = A at es eset
        generalize hBd : Ot.adrs (os.drop (n + 1)) = B at es eset
        rw [Ot.adr, es] at nd
        simp only [List.nodup_append, List.mem_append] at nd
        obtain ⟨n1, ⟨n2, ⟨n3, n4, n5⟩, n6⟩, n7⟩ := nd
        have kp' : ∀ b, (b ∈ s.own ∨ b ∈ A ∨ b ∈ o.adr ∨ b ∈ B) → b ∉ o1.adr → ∀ u, H b = some u → H' b = some u := fun b hb => kp b (by rw [Ot.adr, es]; simp only [List.mem_append]; exact hb)
        cases w with
        | @nod _ xs _ h1 h2 =>
          have own_no : ∀ b ∈ s.own, b ∉ o1.adr := fun b hb z => n7 b hb b (.inr (.inl (Ot.adr_at h' b z))) rfl
          refine .nod (s := s) (xs := xs) (Sh.holds_of (fun b hb => kp' b (.inl hb) (own_no b hb)) h1) ?_
          obtain ⟨u, hxu, hw⟩ := h2.get e2
          have hwu := Ow.put e (π := r) hw h' hr hn hu n3 (fun b hb => kp' b (.inr (.inr (.inl hb))))
          -- the kids beside stay
          have hA : ∀ b ∈ A, b ∉ o1.adr := fun b hb z => n6 b hb b (.inl (Ot.adr_at h' b z)) rfl
          have hB : ∀ b ∈ B, b ∉ o1.adr := fun b hb z => n5 b (Ot.adr_at h' b z) b hb rfl
          have hn : n < os.length := (List.getElem?_eq_some_iff.mp e2).1
          have hx : n < xs.length := by rw [h2.length]; exact hn
          rw [List.set_eq_take_append_cons_drop, if_pos hn]
          have ex : xs = xs.take n ++ u :: xs.drop (n + 1) := by
            have := (List.getElem?_eq_some_iff.mp hxu).2
            rw [← this, List.getElem_cons_drop, List.take_append_drop]
          rw [ex]
          refine Ows.append (Ows.ev e _ _ (fun b hb => ?_) (h2.take n)) (.cons hwu (Ows.ev e _ _ (fun b hb => ?_) (h2.drop (n + 1))))
          · rw [hAd] at hb
            exact kp' b (.inr (.inl hb)) (hA b hb)
          · rw [hBd] at hb
            exact kp' b (.inr (.inr (.inr hb))) (hB b hb)
end
end ML

/-! ## M2 -/
set_option Elab.async false
set_option linter.all false
set_option autoImplicit false
set_option maxRecDepth 100000
set_option maxHeartbeats 4000000
namespace ML
open PySem PySem.Spec PyProof.Rows L2

/-- what a place holds: nothing that is known; a shared value; a value of its own; a way into the slot i's own value -/
inductive Sl where
  | un
  | sh (d : D)
  | ow (o : Ot)
  | rf (i : Nat) (π : List Step) (p : Addr)
/-- what an operation hands back: shared data, a list that is to be made -/
inductive Rs where
  | sh (d : D)
  | nw (ds : List D)

def leaves? : List Ot → Option (List D)
  | [] => some []
  | .leaf d :: os => (leaves? os).map (d :: ·)
  | .nod _ _ :: _ => none
theorem leaves_map : ∀ ds : List D, leaves? (ds.map .leaf) = some ds
  | [] => rfl
  | d :: ds => by rw [List.map_cons, leaves?, leaves_map ds]; rfl
theorem of_leaves? : ∀ {os : List Ot} {ds : List D}, leaves? os = some ds → os = ds.map .leaf
  | [], ds, h => by
    rw [leaves?] at h
    cases h
    rfl
  | .leaf d :: os, ds, h => by
    rw [leaves?] at h
    obtain ⟨es, h1, h2⟩ := Option.map_eq_some_iff.mp h
    subst h2
    rw [of_leaves? h1]
    rfl
  | .nod _ _ :: _, ds, h => by
    rw [leaves?] at h
    cases h
/-- data whose items may be handed on -/
def Ot.rd : Ot → Option D
  | .leaf d => some d
  | .nod s os => (leaves? os).map s.data
/-- the tree that a place names -/
def plc (δ : List Sl) (i : Nat) (π : List Step) (p : Addr) : Option Ot := match δ[i]? with
  | some (.ow o) => match o.at π with
    | some o1 => if o1.root = some p then some o1 else none
    | none => none
  | _ => none
def Sl.rd (δ : List Sl) : Sl → Option D
  | .sh d => some d
  | .ow o => o.rd
  | .rf i π p => (plc δ i π p).bind Ot.rd
  | _ => none
/-- data to be looked at alone -/
def Sl.ra (δ : List Sl) : Sl → Option D
  | .sh d => some d
  | .ow o => some o.get
  | .rf i π p => (plc δ i π p).map Ot.get
  | _ => none
def Sl.get : Sl → D
  | .sh d => d
  | .ow o => o.get
  | _ => .none
def Sl.isIn : Sl → Bool
  | .sh _ => true
  | .ow _ => true
  | _ => false
/-- an operation's result, made at p -/
def Rs.to (p : Addr) : Rs → Sl
  | .nw ds => .ow (Ot.flat p ds)
  | .sh d => .sh d

abbrev Cell := Option V × Sl
/-- the world at a def's entry: the heap, what it may change, what it stays away from -/
structure Wd where
  H0 : Hp
  F0 : Addr → Prop
  A : Addr → Prop

structure StF (K : PySem.W.Frag) (W : Wd) (H : Hp) (cs : List Cell) (S : Addr → Prop) : Prop where
  aw : ∀ b, W.A b → W.H0 b ≠ none ∧ ¬ W.F0 b
  trk : ∀ b, S b → H b ≠ none
  sub : ∀ b, W.A b → S b
  kp : ∀ b o, W.H0 b = some o → ¬ W.F0 b → H b = some o
  th : ∀ b, W.H0 b ≠ none → H b ≠ none
  sh : ∀ (i : Nat) v d, cs[i]? = some (v, Sl.sh d) → ∃ u, v = some u ∧ Rp K S H u d
  ow : ∀ (i : Nat) v o, cs[i]? = some (v, Sl.ow o) → ∃ u, v = some u ∧ Ow K S H u o
  rf : ∀ (i : Nat) v j π p, cs[i]? = some (v, Sl.rf j π p) → v = some (.ref p)
  fp : ∀ (i : Nat) v o b, cs[i]? = some (v, Sl.ow o) → b ∈ o.adr → S b ∧ (W.F0 b ∨ W.H0 b = none)
  dj : ∀ (i j : Nat) v o w p b, i ≠ j → cs[i]? = some (v, Sl.ow o) → cs[j]? = some (w, Sl.ow p) → b ∈ o.adr → b ∉ p.adr
  nd : ∀ (i : Nat) v o, cs[i]? = some (v, Sl.ow o) → o.adr.Nodup
def St (K : PySem.W.Frag) (W : Wd) (H : Hp) (cs : List Cell) : Prop := ∃ S, StF K W H cs S

section
variable {K : PySem.W.Frag} {W : Wd} {H H' : Hp} {cs cs' : List Cell} {S : Addr → Prop}
/-- the places in another order, some forgotten -/
theorem StF.re (x : StF K W H cs S) (f : Nat → Nat) (h : ∀ (i : Nat) c, cs'[i]? = some c → c.2 = .un ∨ cs[f i]? = some c) (inj : ∀ i j, i ≠ j → f i = f j → ∀ v o w p, cs'[i]? = some (v, Sl.ow o) → cs'[j]? = some (w, Sl.ow p) → False) :
    StF K W H cs' S where
  aw := x.aw
  trk := x.trk
  sub := x.sub
  kp := x.kp
  th := x.th
  sh := fun i v d e => (h i _ e).elim (fun z => nomatch z) fun z => x.sh _ v d z
  ow := fun i v d e => (h i _ e).elim (fun z => nomatch z) fun z => x.ow _ v d z
  rf := fun i v j π p e => (h i _ e).elim (fun z => nomatch z) fun z => x.rf _ v j π p z
  fp := fun i v o b e hb => (h i _ e).elim (fun z => nomatch z) fun z => x.fp _ v o b z hb
  dj := fun i j v o w p b ne e1 e2 hb => (h i _ e1).elim (fun z => nomatch z) fun z1 => (h j _ e2).elim (fun z => nomatch z) fun z2 =>
    x.dj _ _ v o w p b (fun q => inj i j ne q v o w p e1 e2) z1 z2 hb
  nd := fun i v o e => (h i _ e).elim (fun z => nomatch z) fun z => x.nd _ v o z
theorem St.drop {ds : List Cell} (x : St K W H (cs ++ ds)) : St K W H cs := by
  obtain ⟨S, x⟩ := x
  refine ⟨S, x.re (fun i => i) (fun i c e => .inr ?_) (fun i j n q => absurd q n)⟩
  have hi : i < cs.length := (List.getElem?_eq_some_iff.mp e).1
  rw [List.getElem?_append_left hi]
  exact e
theorem getElem?_snoc {α : Type} {l : List α} {x c : α} {i : Nat} : (l ++ [x])[i]? = some c → (i < l.length ∧ l[i]? = some c) ∨ (i = l.length ∧ c = x) := fun h => by
  by_cases hi : i < l.length
  · rw [List.getElem?_append_left hi] at h
    exact .inl ⟨hi, h⟩
  · have h1 : i < (l ++ [x]).length := (List.getElem?_eq_some_iff.mp h).1
    rw [List.length_append, List.length_cons, List.length_nil] at h1
    have e : i = l.length := by omega
    subst e
    rw [List.getElem?_append_right (Nat.le_refl _), Nat.sub_self] at h
    exact .inr ⟨rfl, (Option.some.inj h).symm⟩
theorem snoc_last {α : Type} {l : List α} {x : α} : (l ++ [x])[l.length]? = some x := by
  rw [List.getElem?_append_right (Nat.le_refl _), Nat.sub_self]
  rfl
theorem snoc_old {α : Type} {l : List α} {x c : α} {i : Nat} (h : l[i]? = some c) : (l ++ [x])[i]? = some c := by
  rw [List.getElem?_append_left (List.getElem?_eq_some_iff.mp h).1]
  exact h
/-- one more value, of the kinds that bring nothing of their own -/
theorem StF.add (x : StF K W H cs S) {v : Option V} {sl : Sl} (h1 : ∀ o, sl ≠ .ow o) (h2 : ∀ d, sl = .sh d → ∃ u, v = some u ∧ Rp K S H u d) (h3 : ∀ j π p, sl = .rf j π p → v = some (.ref p)) : StF K W H (cs ++ [(v, sl)]) S where
  aw := x.aw
  trk := x.trk
  sub := x.sub
  kp := x.kp
  th := x.th
  sh := fun i w e q => by
    rcases getElem?_snoc q with ⟨_, q⟩ | ⟨_, q⟩
    · exact x.sh i w e q
    · cases q; exact h2 _ rfl
  ow := fun i w e q => by
    rcases getElem?_snoc q with ⟨_, q⟩ | ⟨_, q⟩
    · exact x.ow i w e q
    · cases q; exact absurd rfl (h1 _)
  rf := fun i w j π p q => by
    rcases getElem?_snoc q with ⟨_, q⟩ | ⟨_, q⟩
    · exact x.rf i w j π p q
    · cases q; exact h3 _ _ _ rfl
  fp := fun i w o b q hb => by
    rcases getElem?_snoc q with ⟨_, q⟩ | ⟨_, q⟩
    · exact x.fp i w o b q hb
    · cases q; exact absurd rfl (h1 _)
  dj := fun i j v o w p b ne e1 e2 hb => by
    rcases getElem?_snoc e1 with ⟨_, e1⟩ | ⟨_, e1⟩
    · rcases getElem?_snoc e2 with ⟨_, e2⟩ | ⟨_, e2⟩
      · exact x.dj i j v o w p b ne e1 e2 hb
      · cases e2; exact absurd rfl (h1 _)
    · cases e1; exact absurd rfl (h1 _)
  nd := fun i w o q => by
    rcases getElem?_snoc q with ⟨_, q⟩ | ⟨_, q⟩
    · exact x.nd i w o q
    · cases q; exact absurd rfl (h1 _)
/-- one more shared value -/
theorem StF.push (x : StF K W H cs S) {v : V} {d : D} (r : Rp K S H v d) : StF K W H (cs ++ [(some v, .sh d)]) S :=
  x.add (fun _ z => nomatch z) (fun _ z => by cases z; exact ⟨v, rfl, r⟩) (fun _ _ _ z => nomatch z)
/-- a value of which nothing is said -/
theorem StF.blank (x : StF K W H cs S) {v : Option V} : StF K W H (cs ++ [(v, .un)]) S :=
  x.add (fun _ z => nomatch z) (fun _ z => nomatch z) (fun _ _ _ z => nomatch z)
theorem StF.way (x : StF K W H cs S) {j : Nat} {π : List Step} {p : Addr} : StF K W H (cs ++ [(some (.ref p), .rf j π p)]) S :=
  x.add (fun _ z => nomatch z) (fun _ z => nomatch z) (fun _ _ _ z => by cases z; rfl)
/-- a place's own value is given away -/
theorem StF.frz (x : StF K W H cs S) {i : Nat} {v : Option V} {o : Ot} (e : cs[i]? = some (v, .ow o)) : StF K W H (cs.set i (v, .sh o.get)) (fun b => S b ∧ b ∉ o.adr) := by
  have hi : i < cs.length := (List.getElem?_eq_some_iff.mp e).1
  have old : ∀ {j : Nat} {w : Option V} {sl : Sl}, (cs.set i (v, .sh o.get))[j]? = some (w, sl) → (∀ d, sl ≠ .sh d) → j ≠ i ∧ cs[j]? = some (w, sl) := fun {j w sl} q nsh => by
    by_cases hj : i = j
    · subst hj
      rw [List.getElem?_set_self hi] at q
      cases q
      exact absurd rfl (nsh _)
    · rw [List.getElem?_set_ne hj] at q
      exact ⟨fun z => hj z.symm, q⟩
  have ev : Ev S H (fun b => S b ∧ b ∉ o.adr) H := ⟨fun _ _ q _ => q, fun b hb => .inl hb.1⟩
  refine ⟨x.aw, fun b hb => x.trk b hb.1, fun b hb => ⟨x.sub b hb, fun hf => ?_⟩, x.kp, x.th, fun j w d q => ?_, fun j w p q => ?_, fun j w k π p q => x.rf _ _ _ _ _ (old q (fun _ z => nomatch z)).2, fun j w p b q hb => ?_,
    fun j k w p u r b ne q1 q2 hb => x.dj j k w p u r b ne (old q1 (fun _ z => nomatch z)).2 (old q2 (fun _ z => nomatch z)).2 hb, fun j w p q => x.nd _ _ _ (old q (fun _ z => nomatch z)).2⟩
  · obtain ⟨_, h1⟩ := x.fp i v o b e hf
    rcases h1 with h1 | h1
    · exact (x.aw b hb).2 h1
    · exact (x.aw b hb).1 h1
  · by_cases hj : i = j
    · subst hj
      rw [List.getElem?_set_self hi] at q
      cases q
      obtain ⟨u, rfl, h⟩ := x.ow i v o e
      exact ⟨u, rfl, Ow.rp o u (fun b hb z => z.2 hb) (fun b z => z.1) h⟩
    · rw [List.getElem?_set_ne hj] at q
      obtain ⟨u, rfl, h⟩ := x.sh j w d q
      exact ⟨u, rfl, Rp.ev ev d u h⟩
  · obtain ⟨hj, q⟩ := old q (fun _ z => nomatch z)
    obtain ⟨u, rfl, h⟩ := x.ow j w p q
    exact ⟨u, rfl, Ow.ev ev p u (fun _ _ _ z => z) h⟩
  · obtain ⟨hj, q⟩ := old q (fun _ z => nomatch z)
    obtain ⟨h1, h2⟩ := x.fp j w p b q hb
    exact ⟨⟨h1, fun z => x.dj i j v o w p b (fun q => hj q.symm) e q z hb⟩, h2⟩
/-- the heap has more -/
theorem StF.grow (x : StF K W H cs S) (kp : ∀ b o, H b = some o → H' b = some o) : StF K W H' cs S := by
  have ev : Ev S H S H' := ⟨fun b u q _ => kp b u q, fun b hb => .inl hb⟩
  have ne : ∀ b, H b ≠ none → H' b ≠ none := fun b hb => by
    cases q : H b with
    | none => exact absurd q hb
    | some o => rw [kp b o q]; exact fun z => nomatch z
  refine ⟨x.aw, fun b hb => ne b (x.trk b hb), x.sub, fun b u q n => kp b u (x.kp b u q n), fun b hb => ne b (x.th b hb), fun i v d q => ?_, fun i v o q => ?_, x.rf, x.fp, x.dj, x.nd⟩
  · obtain ⟨u, rfl, h⟩ := x.sh i v d q
    exact ⟨u, rfl, Rp.ev ev d u h⟩
  · obtain ⟨u, rfl, h⟩ := x.ow i v o q
    exact ⟨u, rfl, Ow.ev ev o u (fun b hb w z => kp b w z) h⟩
theorem upd_grow {p : Addr} {o : HO} (hp : H p = none) : ∀ b u, H b = some u → upd H p o b = some u := fun b u q => by
  rw [upd_ne (fun z => by rw [z, hp] at q; cases q)]
  exact q
/-- a new object is tracked -/
theorem StF.more (x : StF K W H cs S) {p : Addr} {o : HO} (hp : H p = none) : StF K W (upd H p o) cs S := x.grow (upd_grow hp)
/-- one more owned value, over new addresses -/
theorem StF.own (x : StF K W H cs S) {v : V} {o : Ot} (hn : ∀ b ∈ o.adr, W.H0 b = none ∧ ¬ S b ∧ H b ≠ none) (hr : ∀ (i : Nat) w d, cs[i]? = some (w, Sl.sh d) → ∀ u, w = some u → Rp K (fun b => S b ∨ b ∈ o.adr) H u d)
    (ho : ∀ (i : Nat) w d, cs[i]? = some (w, Sl.ow d) → ∀ u, w = some u → Ow K (fun b => S b ∨ b ∈ o.adr) H u d) (h : Ow K (fun b => S b ∨ b ∈ o.adr) H v o) (nd : o.adr.Nodup) :
    StF K W H (cs ++ [(some v, .ow o)]) (fun b => S b ∨ b ∈ o.adr) := by
  refine ⟨x.aw, fun b hb => ?_, fun b hb => .inl (x.sub b hb), x.kp, x.th, fun i w d q => ?_, fun i w d q => ?_, fun i w j π p q => ?_, fun i w d b q hb => ?_, fun i j w d u p b ne q1 q2 hb => ?_, fun i w d q => ?_⟩
  · rcases hb with z | z
    · exact x.trk b z
    · exact (hn b z).2.2
  · rcases getElem?_snoc q with ⟨_, q⟩ | ⟨_, q⟩
    · obtain ⟨u, rfl, _⟩ := x.sh i w d q
      exact ⟨u, rfl, hr i _ d q u rfl⟩
    · cases q
  · rcases getElem?_snoc q with ⟨_, q⟩ | ⟨e, q⟩
    · obtain ⟨u, rfl, _⟩ := x.ow i w d q
      exact ⟨u, rfl, ho i _ d q u rfl⟩
    · cases q
      exact ⟨v, rfl, h⟩
  · rcases getElem?_snoc q with ⟨_, q⟩ | ⟨_, q⟩
    · exact x.rf i w j π p q
    · cases q
  · rcases getElem?_snoc q with ⟨_, q⟩ | ⟨e, q⟩
    · obtain ⟨h1, h2⟩ := x.fp i w d b q hb
      exact ⟨.inl h1, h2⟩
    · cases q
      exact ⟨.inr hb, .inr (hn b hb).1⟩
  · rcases getElem?_snoc q1 with ⟨_, q1⟩ | ⟨e1, q1⟩
    · rcases getElem?_snoc q2 with ⟨_, q2⟩ | ⟨e2, q2⟩
      · exact x.dj i j w d u p b ne q1 q2 hb
      · cases q2
        exact fun z => (hn b z).2.1 (x.fp i w d b q1 hb).1
    · rcases getElem?_snoc q2 with ⟨_, q2⟩ | ⟨e2, q2⟩
      · cases q1
        exact fun z => (hn b hb).2.1 (x.fp j u p b q2 z).1
      · exact absurd (e1.trans e2.symm) ne
  · rcases getElem?_snoc q with ⟨_, q⟩ | ⟨e, q⟩
    · exact x.nd i w d q
    · cases q
      exact nd
/-- a new object of one address, owned: its kids are shared -/
theorem StF.newS (x : StF K W H cs S) {p : Addr} {u : HO} {s : Sh} {xs : List V} {ds : List D} (hp : H p = none) (ho : s.own = [p]) (hh : s.holds (upd H p u) xs) (r : Rps K S H xs ds) :
    StF K W (upd H p u) (cs ++ [(some (.ref s.root), .ow (.nod s (ds.map .leaf)))]) (fun b => S b ∨ b = p) := by
  have y := x.more (o := u) hp
  have ea : (Ot.nod s (ds.map .leaf)).adr = [p] := by rw [Ot.adr, Ot.adrs_leaf, ho]; rfl
  have eS : (fun b => S b ∨ b = p) = (fun b => S b ∨ b ∈ (Ot.nod s (ds.map .leaf)).adr) := by
    funext b
    rw [ea, List.mem_singleton]
  have ev : Ev S H (fun b => S b ∨ b ∈ (Ot.nod s (ds.map .leaf)).adr) (upd H p u) := ⟨fun b w q _ => upd_grow hp b w q, fun b hb => hb.elim .inl fun z => .inr (by rw [ea, List.mem_singleton] at z; rw [z]; exact hp)⟩
  rw [eS]
  refine y.own (fun b hb => ?_) (fun i w d q v e => ?_) (fun i w d q v e => ?_) (.nod hh (Ows.leaves (Rps.ev ev ds xs r))) (by rw [ea]; simp)
  · rw [ea, List.mem_singleton] at hb
    subst hb
    refine ⟨?_, fun z => x.trk _ z hp, by rw [upd_same]; exact fun z => nomatch z⟩
    cases q : W.H0 b with
    | none => rfl
    | some o => exact absurd hp (x.th b (by rw [q]; exact fun z => nomatch z))
  · obtain ⟨u', e', h⟩ := x.sh i w d q
    rw [e] at e'; cases e'
    exact Rp.ev ev d v h
  · obtain ⟨u', e', h⟩ := x.ow i w d q
    rw [e] at e'; cases e'
    exact Ow.ev ev d v (fun b _ o z => upd_grow hp b o z) h
/-- a new list, owned -/
theorem StF.newL (x : StF K W H cs S) {p : Addr} {xs : List V} {ds : List D} (hp : H p = none) (r : Rps K S H xs ds) :
    StF K W (upd H p (.lst xs)) (cs ++ [(some (.ref p), .ow (Ot.flat p ds))]) (fun b => S b ∨ b = p) :=
  x.newS (s := .lst p) hp rfl upd_same r
/-- a new tuple -/
theorem StF.newT (x : StF K W H cs S) {p : Addr} {xs : List V} {ds : List D} (hp : H p = none) (r : Rps K S H xs ds) :
    StF K W (upd H p (.tup xs)) (cs ++ [(some (.ref p), .sh (.tuple ds))]) S := by
  have y := x.more (o := .tup xs) hp
  have ev : Ev S H S (upd H p (.tup xs)) := ⟨fun b u q _ => upd_grow hp b u q, fun b hb => .inl hb⟩
  exact y.push (.tup (.inl ⟨.inl upd_same, fun z => x.trk _ z hp⟩) (Rps.ev ev ds xs r))
theorem nodup_at : ∀ {o o1 : Ot} {π : List Step}, o.at π = some o1 → o.adr.Nodup → o1.adr.Nodup
  | o, o1, [], h, nd => by unfold Ot.at at h; cases h; exact nd
  | .leaf _, _, _ :: _, h, _ => by cases h
  | .nod s os, o1, t :: r, h, nd => by
    have h' : (match s.pos t with | none => none | some n => match os[n]? with | none => none | some o => o.at r) = some o1 := h
    split at h'
    · cases h'
    · split at h'
      · cases h'
      · rename_i n e1 o e2
        refine nodup_at h' ?_
        rw [Ot.adr, (adrs_split e2).1] at nd
        rw [List.nodup_append, List.nodup_append, List.nodup_append] at nd
        exact nd.2.1.2.1.1
/-- a node of an owned tree is changed: its kids are old ones and what the cells in J own -/
theorem StF.mutAt (x : StF K W H cs S) {i : Nat} {v : Option V} {o : Ot} {π : List Step} {s : Sh} {os : List Ot} (e : cs[i]? = some (v, .ow o)) (h : o.at π = some (.nod s os)) :
    ∃ xs, s.holds H xs ∧ Ows K S H xs os ∧ (∀ b ∈ s.own, S b) ∧ (∀ b ∈ s.own, b ∉ Ot.adrs os) ∧ (∀ H', (∀ b, b ∉ s.own → H' b = H b) → Ev S H S H') ∧
      ∀ (s' : Sh) (xs' : List V) (os' : List Ot) (H' : Hp) (J : Nat → Prop) (cs' : List Cell), s'.root = s.root → s'.own = s.own → (∀ b, b ∉ s.own → H' b = H b) → s'.holds H' xs' → Ows K S H' xs' os' → (Ot.adrs os').Nodup →
        (∀ b ∈ Ot.adrs os', b ∈ Ot.adrs os ∨ ∃ j w oj, j ≠ i ∧ J j ∧ cs[j]? = some (w, .ow oj) ∧ b ∈ oj.adr) → cs'[i]? = some (v, .ow (Ot.put (.nod s' os') o π)) → (∀ j c, j ≠ i → cs'[j]? = some c → c.2 = .un ∨ (cs[j]? = some c ∧ ¬ J j)) → StF K W H' cs' S := by
  obtain ⟨u, rfl, w⟩ := x.ow i v o e
  obtain ⟨u1, w1⟩ := w.at h
  cases w1 with
  | @nod _ xs _ h1 h2 =>
    have mem : ∀ b ∈ s.own, b ∈ o.adr := fun b hb => Ot.adr_at h b (by rw [Ot.adr]; exact List.mem_append_left _ hb)
    have memk : ∀ b ∈ Ot.adrs os, b ∈ o.adr := fun b hb => Ot.adr_at h b (by rw [Ot.adr]; exact List.mem_append_right _ hb)
    have hS : ∀ b ∈ s.own, S b := fun b hb => (x.fp i _ o b e (mem b hb)).1
    have nd1 := nodup_at h (x.nd i _ o e)
    rw [Ot.adr] at nd1
    have nd2 := List.nodup_append.mp nd1
    have own_no : ∀ b ∈ s.own, b ∉ Ot.adrs os := fun b hb z => nd2.2.2 b hb b z rfl
    have evs : ∀ H', (∀ b, b ∉ s.own → H' b = H b) → Ev S H S H' := fun H' k => ⟨fun b q z n => by rw [k b (fun y => n (hS b y))]; exact z, fun b hb => .inl hb⟩
    refine ⟨xs, h1, h2, hS, own_no, evs, fun s' xs' os' H' J cs' r1 r2 k hh ho ndo sb ei ej => ?_⟩
    have ev := evs H' k
    have hin : ∀ b, H b ≠ none → H' b ≠ none := fun b hb => by
      by_cases z : b ∈ s.own
      · exact Sh.holds_in hh b (by rw [r2]; exact z)
      · rw [k b z]; exact hb
    have newmem : ∀ b ∈ (Ot.nod s' os').adr, b ∈ o.adr ∨ ∃ j w oj, j ≠ i ∧ J j ∧ cs[j]? = some (w, .ow oj) ∧ b ∈ oj.adr := fun b hb => by
      rw [Ot.adr, r2] at hb
      rcases List.mem_append.mp hb with hb | hb
      · exact .inl (mem b hb)
      · rcases sb b hb with z | z
        · exact .inl (memk b z)
        · exact .inr z
    have putmem : ∀ b ∈ (Ot.put (.nod s' os') o π).adr, b ∈ o.adr ∨ ∃ j w oj, j ≠ i ∧ J j ∧ cs[j]? = some (w, .ow oj) ∧ b ∈ oj.adr := fun b hb => (Ot.adr_put b hb).elim (newmem b) .inl
    have own_new : ∀ b ∈ s.own, b ∉ Ot.adrs os' := fun b hb z => by
      rcases sb b z with z | ⟨j, w, oj, nj, _, ej, hb2⟩
      · exact own_no b hb z
      · exact x.dj i j _ _ _ _ b (fun q => nj q.symm) e ej (mem b hb) hb2
    have ndn : (Ot.nod s' os').adr.Nodup := by
      rw [Ot.adr, r2, List.nodup_append]
      exact ⟨nd2.1, ndo, fun a ha b hb q => own_new a ha (q ▸ hb)⟩
    have wput : Ow K S H' u (Ot.put (.nod s' os') o π) := Ow.put ev w h (by show some s'.root = some s.root; rw [r1]) (fun z => nomatch z)
      (fun u' hu' => by
        have eu := Ow.root hu' (show (Ot.nod s os).root = some s.root from rfl)
        rw [eu, ← r1]
        exact .nod hh ho)
      (x.nd i _ o e) (fun b hb hb2 q z => by
        rw [k b (fun y => hb2 (by rw [Ot.adr]; exact List.mem_append_left _ y))]
        exact z)
    have ndput := Ot.nodup_put ndn h (x.nd i _ o e) (fun b hb => by
      rw [Ot.adr, r2] at hb
      rcases List.mem_append.mp hb with hb | hb
      · exact .inl (by rw [Ot.adr]; exact List.mem_append_left _ hb)
      · rcases sb b hb with z | ⟨j, w, oj, nj, _, ej, hb2⟩
        · exact .inl (by rw [Ot.adr]; exact List.mem_append_right _ z)
        · exact .inr fun z => x.dj i j _ _ _ _ b (fun q => nj q.symm) e ej z hb2)
    have old : ∀ {j : Nat} {c : Cell}, j ≠ i → cs'[j]? = some c → c.2 ≠ .un → cs[j]? = some c ∧ ¬ J j := fun {j c} n q z => (ej j c n q).resolve_left z
    refine ⟨x.aw, fun b hb => hin b (x.trk b hb), x.sub, fun b q z n => ?_, fun b hb => hin b (x.th b hb), fun j w d q => ?_, fun j w p q => ?_, fun j w a ρ p q => ?_, fun j w p b q hb => ?_, fun j l w p w2 p2 b ne q1 q2 hb => ?_, fun j w p q => ?_⟩
    · rw [k b (fun y => ?_)]
      · exact x.kp b q z n
      · rcases (x.fp i _ o b e (mem b y)).2 with y | y
        · exact n y
        · rw [z] at y; cases y
    · by_cases hj : j = i
      · subst hj; rw [ei] at q; cases q
      · obtain ⟨u2, rfl, r⟩ := x.sh j w d (old hj q (fun z => nomatch z)).1
        exact ⟨u2, rfl, Rp.ev ev d u2 r⟩
    · by_cases hj : j = i
      · subst hj; rw [ei] at q; cases q
        exact ⟨u, rfl, wput⟩
      · have q' := (old hj q (fun z => nomatch z)).1
        obtain ⟨u2, rfl, r⟩ := x.ow j w p q'
        exact ⟨u2, rfl, Ow.ev ev p u2 (fun b hb o z => by rw [k b (fun y => x.dj i j _ _ _ _ b (fun q => hj q.symm) e q' (mem b y) hb)]; exact z) r⟩
    · by_cases hj : j = i
      · subst hj; rw [ei] at q; cases q
      · exact x.rf j w a ρ p (old hj q (fun z => nomatch z)).1
    · by_cases hj : j = i
      · subst hj; rw [ei] at q; cases q
        rcases putmem b hb with z | ⟨a, w, oj, _, _, ea, hb2⟩
        · exact x.fp j _ o b e z
        · exact x.fp a w oj b ea hb2
      · exact x.fp j w p b (old hj q (fun z => nomatch z)).1 hb
    · by_cases hj : j = i
      · subst hj; rw [ei] at q1; cases q1
        obtain ⟨q2', nJ⟩ := old (fun z => ne z.symm) q2 (fun z => nomatch z)
        rcases putmem b hb with z | ⟨a, w3, oj, _, hJ, ea, hb2⟩
        · exact x.dj j l _ _ _ _ b ne e q2' z
        · exact x.dj a l _ _ _ _ b (fun q => nJ (q ▸ hJ)) ea q2' hb2
      · obtain ⟨q1', nJ⟩ := old hj q1 (fun z => nomatch z)
        by_cases hl : l = i
        · subst hl; rw [ei] at q2; cases q2
          intro hb3
          rcases putmem b hb3 with z | ⟨a, w3, oj, _, hJ, ea, hb2⟩
          · exact x.dj j l _ _ _ _ b ne q1' e hb z
          · exact x.dj a j _ _ _ _ b (fun q => nJ (q ▸ hJ)) ea q1' hb2 hb
        · exact x.dj j l _ _ _ _ b ne q1' (old hl q2 (fun z => nomatch z)).1 hb
    · by_cases hj : j = i
      · subst hj; rw [ei] at q; cases q
        exact ndput
      · exact x.nd j w p (old hj q (fun z => nomatch z)).1
/-- no address in it -/
def Sl.atoms : Sl → Prop
  | .sh d => atom d = true
  | .ow o => ∀ (K : PySem.W.Frag) (S S2 : Addr → Prop) (H : Hp) (u : V), Ow K S H u o → Ow K S2 H u o
  | _ => True
/-- behind a call: the cells are the caller's, or come from the callee -/
theorem StF.merge (x : StF K W H cs S) {F0 A : Addr → Prop} {cs1 : List Cell} {S' : Addr → Prop} (y : StF K ⟨H, F0, A⟩ H' cs1 S') (hF : ∀ b, F0 b → S b ∧ (W.F0 b ∨ W.H0 b = none)) {cs' : List Cell} (f : Nat → Nat ⊕ Nat)
    (hc : ∀ (i : Nat) c, cs'[i]? = some c → c.2 = .un ∨ (∃ j, f i = .inl j ∧ cs[j]? = some c ∧ ∀ o, c.2 = .ow o → ∀ b ∈ o.adr, ¬ F0 b) ∨ (∃ j, f i = .inr j ∧ cs1[j]? = some c ∧ ((∀ b, S b → ¬ F0 b → A b) ∨ c.2.atoms)))
    (inj : ∀ i j, i ≠ j → f i = f j → ∀ v o w p, cs'[i]? = some (v, Sl.ow o) → cs'[j]? = some (w, Sl.ow p) → False) : ∃ S2, StF K W H' cs' S2 := by
  have kp : ∀ b o, H b = some o → ¬ F0 b → H' b = some o := fun b o q n => y.kp b o q n
  have S2 : ∃ S2 : Addr → Prop, S2 = fun b => (S b ∧ ¬ F0 b) ∨ ∃ (i j : Nat) (v : Option V) (o : Ot), f i = .inr j ∧ cs'[i]? = some (v, Sl.ow o) ∧ cs1[j]? = some (v, Sl.ow o) ∧ b ∈ o.adr := ⟨_, rfl⟩
  obtain ⟨S2, eS⟩ := S2
  have s2 : ∀ b, S2 b ↔ (S b ∧ ¬ F0 b) ∨ ∃ (i j : Nat) (v : Option V) (o : Ot), f i = .inr j ∧ cs'[i]? = some (v, Sl.ow o) ∧ cs1[j]? = some (v, Sl.ow o) ∧ b ∈ o.adr := fun b => by rw [eS]
  have cal : ∀ {j : Nat} {v : Option V} {o : Ot} {b : Addr}, cs1[j]? = some (v, Sl.ow o) → b ∈ o.adr → S' b ∧ (F0 b ∨ H b = none) := fun {j v o b} q hb => y.fp j v o b q hb
  -- the caller's things stay
  have ev : Ev S H S2 H' := ⟨fun b o q n => kp b o q fun z => n (hF b z).1, fun b hb => by
    rcases (s2 b).mp hb with z | ⟨i, j, v, o, _, _, q, hb2⟩
    · exact .inl z.1
    · rcases (cal q hb2).2 with z | z
      · exact .inl (hF b z).1
      · exact .inr z⟩
  -- the callee's, where nothing was borrowed
  have evd : (∀ b, S b → ¬ F0 b → A b) → Ev S' H' S2 H' := fun hA => ⟨fun _ _ q _ => q, fun b hb => .inl (by
    rcases (s2 b).mp hb with z | ⟨i, j, v, o, _, _, q, hb2⟩
    · exact y.sub b (hA b z.1 z.2)
    · exact (cal q hb2).1)⟩
  have cls : ∀ {i : Nat} {v : Option V} {sl : Sl}, cs'[i]? = some (v, sl) → sl ≠ .un → (∃ j, f i = .inl j ∧ cs[j]? = some (v, sl) ∧ ∀ o, sl = .ow o → ∀ b ∈ o.adr, ¬ F0 b) ∨ (∃ j, f i = .inr j ∧ cs1[j]? = some (v, sl) ∧ ((∀ b, S b → ¬ F0 b → A b) ∨ sl.atoms)) :=
    fun {i v sl} q n => (hc i _ q).resolve_left n
  refine ⟨S2, x.aw, fun b hb => ?_, fun b hb => ?_, fun b o q n => ?_, fun b q => y.th b (x.th b q), fun i v d q => ?_, fun i v o q => ?_, fun i v j π p q => ?_, fun i v o b q hb => ?_, fun i k v o w p b ne q1 q2 hb => ?_, fun i v o q => ?_⟩
  · rcases (s2 b).mp hb with z | ⟨i, j, v, o, _, _, q, hb2⟩
    · exact y.th b (x.trk b z.1)
    · exact y.trk b (cal q hb2).1
  · refine (s2 b).mpr (.inl ⟨x.sub b hb, fun z => ?_⟩)
    rcases (hF b z).2 with q | q
    · exact (x.aw b hb).2 q
    · exact (x.aw b hb).1 q
  · refine kp b o (x.kp b o q n) fun z => ?_
    rcases (hF b z).2 with q2 | q2
    · exact n q2
    · rw [q] at q2; cases q2
  · rcases cls q (fun z => nomatch z) with ⟨j, _, q1, _⟩ | ⟨j, _, q1, ha⟩
    · obtain ⟨u, rfl, r⟩ := x.sh j v d q1
      exact ⟨u, rfl, Rp.ev ev d u r⟩
    · obtain ⟨u, rfl, r⟩ := y.sh j v d q1
      rcases ha with ha | ha
      · exact ⟨u, rfl, Rp.ev (evd ha) d u r⟩
      · exact ⟨u, rfl, Rp.atm ha r⟩
  · rcases cls q (fun z => nomatch z) with ⟨j, _, q1, hn⟩ | ⟨j, _, q1, ha⟩
    · obtain ⟨u, rfl, r⟩ := x.ow j v o q1
      exact ⟨u, rfl, Ow.ev ev o u (fun b hb w z => kp b w z (hn o rfl b hb)) r⟩
    · obtain ⟨u, rfl, r⟩ := y.ow j v o q1
      rcases ha with ha | ha
      · exact ⟨u, rfl, Ow.ev (evd ha) o u (fun _ _ _ z => z) r⟩
      · exact ⟨u, rfl, ha K S' S2 H' u r⟩
  · rcases cls q (fun z => nomatch z) with ⟨j', _, q1, _⟩ | ⟨j', _, q1, _⟩
    · exact x.rf j' v j π p q1
    · exact y.rf j' v j π p q1
  · rcases cls q (fun z => nomatch z) with ⟨j, _, q1, hn⟩ | ⟨j, fj, q1, ha⟩
    · obtain ⟨h1, h2⟩ := x.fp j v o b q1 hb
      exact ⟨(s2 b).mpr (.inl ⟨h1, hn o rfl b hb⟩), h2⟩
    · refine ⟨(s2 b).mpr (.inr ⟨i, j, v, o, fj, q, q1, hb⟩), ?_⟩
      rcases (cal q1 hb).2 with z | z
      · exact (hF b z).2
      · refine .inr ?_
        cases q2 : W.H0 b with
        | none => rfl
        | some u => exact absurd z (x.th b (by rw [q2]; exact fun z => nomatch z))
  · rcases cls q1 (fun z => nomatch z) with ⟨j, fj, r1, hn⟩ | ⟨j, fj, r1, _⟩
    · rcases cls q2 (fun z => nomatch z) with ⟨l, fl, r2, hn2⟩ | ⟨l, fl, r2, _⟩
      · exact x.dj j l v o w p b (fun z => inj i k ne (by rw [fj, fl, z]) v o w p q1 q2) r1 r2 hb
      · intro hb2
        rcases (cal r2 hb2).2 with z | z
        · exact hn o rfl b hb z
        · exact x.trk b (x.fp j v o b r1 hb).1 z
    · rcases cls q2 (fun z => nomatch z) with ⟨l, fl, r2, hn2⟩ | ⟨l, fl, r2, _⟩
      · intro hb2
        rcases (cal r1 hb).2 with z | z
        · exact hn2 p rfl b hb2 z
        · exact x.trk b (x.fp l w p b r2 hb2).1 z
      · exact y.dj j l v o w p b (fun z => inj i k ne (by rw [fj, fl, z]) v o w p q1 q2) r1 r2 hb
  · rcases cls q (fun z => nomatch z) with ⟨j, _, q1, _⟩ | ⟨j, _, q1, _⟩
    · exact x.nd j v o q1
    · exact y.nd j v o q1
end
end ML

/-! ## M3 -/
set_option Elab.async false
set_option linter.all false
set_option autoImplicit false
set_option maxRecDepth 100000
set_option maxHeartbeats 4000000
namespace ML
open PySem PySem.Spec PyProof.Rows L2

/-- an exception: its class, the names and the data of its fields -/
structure Exn where
  cls : Addr
  names : List Str
  vals : List D

abbrev VT := List Sl → (Sl → List Sl → Prop) → (Exn → List Sl → Prop) → Prop

def shs (vs : List V) (ds : List D) : List Cell := (vs.map some).zip (ds.map Sl.sh)
def DS (H : Hp) (d : Option Addr) (names : List Str) (vs : List V) : Prop := vs.length = names.length ∧ ((names = [] ∧ d = none) ∨ ∃ a, d = some a ∧ names ≠ [] ∧ H a = some (.xd (names.zip vs)))

structure SS (K : PySem.W.Frag) (W : Wd) (H : Hp) (σ : L2.St) (δ : List Sl) (π : List Cell) : Prop where
  len : σ.length = δ.length
  st : ML.St K W H (σ.zip δ ++ π)

def XR (K : PySem.W.Frag) (W : Wd) (wx : WX) (σ : L2.St) (π : List Cell) (Xd : Exn → List Sl → Prop) : Prop :=
  ∀ x δ', Xd x δ' → ∀ (d : Option Addr) (H' : Hp) (vs : List V), SS K W H' σ δ' (π ++ shs vs x.vals) → vs.length = x.vals.length → DS H' d x.names vs → wx (.ref x.cls) d σ H'

def lE (K : PySem.W.Frag) (W : Wd) (wx : WX) (t : VT) : TE := fun σ H Q => ∃ δ π Qd Xd, SS K W H σ δ π ∧ t δ Qd Xd ∧
  (∀ rv δ', Qd rv δ' → ∀ v H', SS K W H' σ δ' (π ++ [(some v, rv)]) → Q v H') ∧ XR K W wx σ π Xd

structure VE (X : Cx) (W : Wd) (wx : WX) (e : Expr) (t : VT) : Prop where
  pe : PE X e (lE X.K W wx t)

section
variable {X : Cx} {W : Wd} {wx : WX} {K : PySem.W.Frag} {H H' : Hp} {σ : L2.St} {δ δ' : List Sl} {π : List Cell}
theorem PE.imp {e : Expr} {t t' : TE} (h : PE X e t) (i : ∀ σ H Q, t' σ H Q → t σ H Q) : PE X e t' := ⟨fun pins s σ H Q I q => h.run pins s σ H Q I (i σ H Q q)⟩
theorem PT.imp {e : Expr} {t t' : TT} (h : PT X e t) (i : ∀ σ H Q, t' σ H Q → t σ H Q) : PT X e t' := ⟨fun pins s σ H Q I q => h.run pins s σ H Q I (i σ H Q q)⟩
theorem PA.imp {e : List Expr} {t t' : TA} (h : PA X e t) (i : ∀ σ H Q, t' σ H Q → t σ H Q) : PA X e t' := ⟨fun pos pins s σ H Q I q => h.run pos pins s σ H Q I (i σ H Q q)⟩
theorem PS.imp {e : Stmt} {t t' : TS} (h : PS X e t) (i : ∀ D σ H, t' D σ H → t D σ H) : PS X e t' := ⟨fun pins s σ H D I q => h.run pins s σ H D I (i D σ H q)⟩
theorem PSs.imp {e : List Stmt} {t t' : TS} (h : PSs X e t) (i : ∀ D σ H, t' D σ H → t D σ H) : PSs X e t' := ⟨fun pins s σ H D I q => h.run pins s σ H D I (i D σ H q)⟩

theorem SS.drop {ρ : List Cell} (s : SS K W H σ δ (π ++ ρ)) : SS K W H σ δ π := ⟨s.len, ML.St.drop (ds := ρ) (by rw [List.append_assoc]; exact s.st)⟩
theorem zip_get : ∀ {σ : L2.St} {δ : List Sl} {i : Nat} {sl : Sl}, σ.length = δ.length → δ[i]? = some sl → ∃ w, σ[i]? = some w ∧ (σ.zip δ)[i]? = some (w, sl)
  | [], [], _, _, _, h => by simp at h
  | [], _ :: _, _, _, h, _ => by simp at h
  | _ :: _, [], _, _, h, _ => by simp at h
  | w :: σ, d :: δ, 0, sl, _, h => by
    simp at h
    subst h
    exact ⟨w, rfl, rfl⟩
  | w :: σ, d :: δ, i + 1, sl, l, h => by
    obtain ⟨u, h1, h2⟩ := zip_get (σ := σ) (δ := δ) (i := i) (sl := sl) (by simpa using l) (by simpa using h)
    exact ⟨u, by simpa using h1, by simpa using h2⟩
theorem zip_set : ∀ {σ : L2.St} {δ : List Sl} {i : Nat} {w : Option V} {sl : Sl}, σ[i]? = some w → (σ.zip δ).set i (w, sl) = σ.zip (δ.set i sl)
  | [], _, _, _, _, h => by simp at h
  | _ :: _, [], _, _, _, _ => by simp
  | w :: σ, d :: δ, 0, u, sl, h => by
    simp at h
    subst h
    rfl
  | w :: σ, d :: δ, i + 1, u, sl, h => by
    have := zip_set (σ := σ) (δ := δ) (i := i) (w := u) (sl := sl) (by simpa using h)
    simp [this]
theorem zip_length {σ : L2.St} {δ : List Sl} (h : σ.length = δ.length) : (σ.zip δ).length = δ.length := by rw [List.length_zip, h, Nat.min_self]
theorem SS.cell (s : SS K W H σ δ π) {i : Nat} {sl : Sl} (h : δ[i]? = some sl) : ∃ w, σ[i]? = some w ∧ (σ.zip δ ++ π)[i]? = some (w, sl) := by
  obtain ⟨w, h1, h2⟩ := zip_get s.len h
  refine ⟨w, h1, ?_⟩
  rw [List.getElem?_append_left (List.getElem?_eq_some_iff.mp h2).1]
  exact h2
theorem SS.pushF {S : Addr → Prop} (s : SS K W H σ δ π) (x : StF K W H (σ.zip δ ++ π) S) {v : V} {d : D} (r : Rp K S H v d) : SS K W H σ δ (π ++ [(some v, .sh d)]) :=
  ⟨s.len, S, by rw [← List.append_assoc]; exact x.push r⟩
theorem SS.push (s : SS K W H σ δ π) {v : V} {d : D} (r : ∀ S, Rp K S H v d) : SS K W H σ δ (π ++ [(some v, .sh d)]) := by
  obtain ⟨S, x⟩ := s.st
  exact s.pushF x (r S)
theorem SS.blank (s : SS K W H σ δ π) {v : Option V} : SS K W H σ δ (π ++ [(v, .un)]) := by
  obtain ⟨S, x⟩ := s.st
  exact ⟨s.len, S, by rw [← List.append_assoc]; exact x.blank⟩
/-- what waits last is shared -/
theorem SS.shr {v : V} {sl : Sl} (s : SS K W H σ δ (π ++ [(some v, sl)])) (h : sl.isIn = true) : SS K W H σ δ (π ++ [(some v, .sh sl.get)]) := by
  cases sl with
  | un => cases h
  | rf _ _ _ => cases h
  | sh d => exact s
  | ow o =>
    obtain ⟨S, x⟩ := s.st
    rw [← List.append_assoc] at x
    have y := x.frz (i := (σ.zip δ ++ π).length) (v := some v) (o := o) snoc_last
    rw [List.set_append_right _ _ (Nat.le_refl _), Nat.sub_self] at y
    exact ⟨s.len, _, by rw [← List.append_assoc]; exact y⟩
/-- a slot's own value is shared -/
theorem SS.frz (s : SS K W H σ δ π) {i : Nat} {o : Ot} (h : δ[i]? = some (.ow o)) : SS K W H σ (δ.set i (.sh o.get)) π := by
  obtain ⟨w, h1, h2⟩ := s.cell h
  obtain ⟨S, x⟩ := s.st
  have y := x.frz h2
  have hi : i < (σ.zip δ).length := by rw [zip_length s.len]; exact (List.getElem?_eq_some_iff.mp h).1
  rw [List.set_append_left _ _ hi, zip_set h1] at y
  exact ⟨by rw [List.length_set]; exact s.len, _, y⟩
theorem SS.shv (s : SS K W H σ δ π) {i : Nat} {d : D} (h : δ[i]? = some (.sh d)) : ∃ v, σ[i]? = some (some v) ∧ SS K W H σ δ (π ++ [(some v, .sh d)]) := by
  obtain ⟨w, h1, h2⟩ := s.cell h
  obtain ⟨S, x⟩ := s.st
  obtain ⟨v, rfl, r⟩ := x.sh i w d h2
  exact ⟨v, h1, s.pushF x r⟩

/-! ### constants and names -/
def vC (d : D) : VT := fun δ Q _ => Q (.sh d) δ
theorem ve_int {i j pos} : VE X W wx (.Constant (.int i) j pos) (vC (.int i)) := ⟨PE.imp pe_int fun σ H Q ⟨δ, π, Qd, Xd, s, h, k, _⟩ => k _ _ h _ _ (s.push fun _ => .int i)⟩
theorem ve_bl {b j pos} : VE X W wx (.Constant (.bool b) j pos) (vC (.bool b)) := ⟨PE.imp pe_bl fun σ H Q ⟨δ, π, Qd, Xd, s, h, k, _⟩ => k _ _ h _ _ (s.push fun _ => .bl b)⟩
theorem ve_non {j pos} : VE X W wx (.Constant .none j pos) (vC .none) := ⟨PE.imp pe_non fun σ H Q ⟨δ, π, Qd, Xd, s, h, k, _⟩ => k _ _ h _ _ (s.push fun _ => .non)⟩
theorem ve_str {x j pos} (hx : okS x = true := by decide +kernel) : VE X W wx (.Constant (.str x) j pos) (vC (.str x)) := ⟨PE.imp pe_str fun σ H Q ⟨δ, π, Qd, Xd, s, h, k, _⟩ => k _ _ h _ _ (s.push fun _ => .str x hx)⟩
/-- a name's value, from then on shared -/
def vV (i : Nat) : VT := fun δ Q _ => match δ[i]? with
  | some (.sh d) => Q (.sh d) δ
  | some (.ow o) => Q (.sh o.get) (δ.set i (.sh o.get))
  | _ => False
theorem vV_run {i : Nat} {Q : VK} (h : lE K W wx (vV i) σ H Q) : tVar i σ H Q := by
  obtain ⟨δ, π, Qd, Xd, s, h, k, _⟩ := h
  have h0 : (match δ[i]? with | some (.sh d) => Qd (.sh d) δ | some (.ow o) => Qd (.sh o.get) (δ.set i (.sh o.get)) | _ => False) := h
  cases e : δ[i]? with
  | none => rw [e] at h0; exact h0.elim
  | some sl =>
    rw [e] at h0
    cases sl with
    | sh d =>
      obtain ⟨v, h1, s1⟩ := s.shv e
      exact ⟨v, h1, k _ _ h0 _ _ s1⟩
    | ow o =>
      have s1 := s.frz e
      obtain ⟨v, h1, s2⟩ := s1.shv (i := i) (d := o.get) (by rw [List.getElem?_set_self (List.getElem?_eq_some_iff.mp e).1])
      exact ⟨v, h1, k _ _ h0 _ _ s2⟩
    | _ => exact h0.elim
theorem ve_var (i : Nat) {x : Str} {pos : Pos} (hN : X.N[i]? = some x := by rfl) (hv : Vis X.env.scope x := by first | exact Or.inl rfl | exact Or.inr (Or.inl rfl) | exact Or.inr (Or.inr rfl)) (hd : (x == ("__debug__" : Str)) = false := by decide)
    (hcd : (x == ("__classdict__" : Str)) = false := by decide) : VE X W wx (.Name x pos) (vV i) := ⟨PE.imp (pe_var hN hv hd hcd) fun _ _ _ h => vV_run h⟩
/-- a name's value; what it owns goes with it -/
def vMv (i : Nat) : VT := fun δ Q _ => match δ[i]? with
  | some (.sh d) => Q (.sh d) δ
  | some (.ow o) => Q (.ow o) (δ.set i .un)
  | _ => False
theorem SS.mv (s : SS K W H σ δ π) {i : Nat} {o : Ot} (h : δ[i]? = some (.ow o)) : ∃ v, σ[i]? = some (some v) ∧ SS K W H σ (δ.set i .un) (π ++ [(some v, .ow o)]) := by
  obtain ⟨w, h1, h2⟩ := s.cell h
  obtain ⟨S, x⟩ := s.st
  obtain ⟨v, rfl, _⟩ := x.ow i w o h2
  have hi : i < δ.length := (List.getElem?_eq_some_iff.mp h).1
  have lz := zip_length s.len
  refine ⟨v, h1, by rw [List.length_set]; exact s.len, S, x.re (cs' := σ.zip (δ.set i .un) ++ (π ++ [(some v, .ow o)])) (fun j => if j = (σ.zip δ ++ π).length then i else j) (fun j c q => ?_) (fun j k n q => ?_)⟩
  · have lz2 : (σ.zip (δ.set i .un)).length = (σ.zip δ).length := by rw [zip_length (by rw [List.length_set]; exact s.len), lz, List.length_set]
    rw [← List.append_assoc] at q
    rcases getElem?_snoc q with ⟨hl, q⟩ | ⟨hl, q⟩
    · have nl : j ≠ (σ.zip δ ++ π).length := by rw [List.length_append, lz2, ← List.length_append] at hl; omega
      rw [if_neg nl]
      by_cases hj : j = i
      · subst hj
        rw [List.getElem?_append_left (by rw [lz2, lz]; exact hi), ← zip_set (σ := σ) h1, List.getElem?_set_self (by rw [lz]; exact hi)] at q
        cases q
        exact .inl rfl
      · refine .inr ?_
        by_cases hz : j < (σ.zip δ).length
        · rw [List.getElem?_append_left (by rw [lz2]; exact hz), ← zip_set (σ := σ) h1, List.getElem?_set_ne (fun z => hj z.symm)] at q
          rw [List.getElem?_append_left hz]
          exact q
        · rw [List.getElem?_append_right (by omega), lz2] at q
          rw [List.getElem?_append_right (by omega)]
          exact q
    · rw [List.length_append, lz2, ← List.length_append] at hl
      rw [if_pos hl, q]
      exact .inr h2
  · intro v1 o1 v2 o2 q1 q2
    have lz2 : (σ.zip (δ.set i .un)).length = (σ.zip δ).length := by rw [zip_length (by rw [List.length_set]; exact s.len), lz, List.length_set]
    have self : (σ.zip (δ.set i .un) ++ (π ++ [(some v, Sl.ow o)]))[i]? = some (some v, .un) := by
      rw [List.getElem?_append_left (by rw [lz2, lz]; exact hi), ← zip_set (σ := σ) h1, List.getElem?_set_self (by rw [lz]; exact hi)]
    by_cases a1 : j = (σ.zip δ ++ π).length
    · by_cases a2 : k = (σ.zip δ ++ π).length
      · exact n (a1.trans a2.symm)
      · rw [if_pos a1, if_neg a2] at q
        rw [← q, self] at q2
        cases q2
    · by_cases a2 : k = (σ.zip δ ++ π).length
      · rw [if_neg a1, if_pos a2] at q
        rw [q, self] at q1
        cases q1
      · rw [if_neg a1, if_neg a2] at q
        exact n q
theorem ve_mv (i : Nat) {x : Str} {pos : Pos} (hN : X.N[i]? = some x := by rfl) (hv : Vis X.env.scope x := by first | exact Or.inl rfl | exact Or.inr (Or.inl rfl) | exact Or.inr (Or.inr rfl)) (hd : (x == ("__debug__" : Str)) = false := by decide)
    (hcd : (x == ("__classdict__" : Str)) = false := by decide) : VE X W wx (.Name x pos) (vMv i) := ⟨PE.imp (pe_var hN hv hd hcd) fun σ H Q h => by
  obtain ⟨δ, π, Qd, Xd, s, h, k, _⟩ := h
  have h0 : (match δ[i]? with | some (.sh d) => Qd (.sh d) δ | some (.ow o) => Qd (.ow o) (δ.set i .un) | _ => False) := h
  cases e : δ[i]? with
  | none => rw [e] at h0; exact h0.elim
  | some sl =>
    rw [e] at h0
    cases sl with
    | sh d =>
      obtain ⟨v, h1, s1⟩ := s.shv e
      exact ⟨v, h1, k _ _ h0 _ _ s1⟩
    | ow o =>
      obtain ⟨v, h1, s1⟩ := s.mv e
      exact ⟨v, h1, k _ _ h0 _ _ s1⟩
    | _ => exact h0.elim⟩
/-- a module's constant -/
theorem ve_glob {x : Str} {u : Value} {pos : Pos} {v : V} {d : D} (hm : X.mg x = some u) (r : RelV v u) (hr : ∀ S H, Rp X.K S H v d) (hg : Gl X x := by rfl) (hd : (x == ("__debug__" : Str)) = false := by decide) : VE X W wx (.Name x pos) (vC d) :=
  ⟨PE.imp (pe_glob hg hm r hd) fun σ H Q ⟨δ, π, Qd, Xd, s, h, k, _⟩ => k _ _ h _ _ (s.push fun S => hr S H)⟩
/-- the value is shared from then on -/
def vS (t : VT) : VT := fun δ Q Xc => t δ (fun rv δ' => rv.isIn = true ∧ Q (.sh rv.get) δ') Xc
theorem ve_sh {e : Expr} {t : VT} (h : VE X W wx e t) : VE X W wx e (vS t) := ⟨PE.imp h.pe fun σ H Q ⟨δ, π, Qd, Xd, s, h, k, xr⟩ =>
  ⟨δ, π, _, Xd, s, h, fun rv δ' q v H' s' => k _ _ q.2 v H' (s'.shr q.1), xr⟩⟩

/-! ### operands -/
/-- an operand: a value that is reckoned; a name, looked at when the operation is done -/
inductive Opr where
  | pd (t : VT)
  | pk (i : Nat)
def inAt (δ : List Sl) (i : Nat) : Prop := match δ[i]? with
  | some (.sh _) => True
  | some (.ow _) => True
  | some (.rf _ _ _) => True
  | _ => False
def Opr.ev : Opr → VT
  | .pd t => t
  | .pk i => fun δ Q _ => inAt δ i ∧ Q .un δ
/-- what the operand holds when the operation is done -/
def Opr.sl : Opr → Sl → List Sl → Option Sl
  | .pd _, r, _ => some r
  | .pk i, _, δ => δ[i]?
/-- m: looked at alone -/
def Sl.read (m : Bool) (δ : List Sl) (s : Sl) : Option D := match m with
  | false => s.rd δ
  | true => s.ra δ
def Opr.fin (m : Bool) (o : Opr) (r : Sl) (δ : List Sl) : Option D := match o with
  | .pd _ => r.read m δ
  | .pk i => (δ[i]?).bind (Sl.read m δ)
def Opr.is : Opr → L2.St → V → Prop
  | .pd _, _, _ => True
  | .pk i, σ, v => σ[i]? = some (some v)

structure VOt (X : Cx) (W : Wd) (wx : WX) (e : Expr) (o : Opr) (te : TE) : Prop where
  pe : PE X e te
  run : ∀ σ H δ π Qd Xd (Q : VK), SS X.K W H σ δ π → o.ev δ Qd Xd → XR X.K W wx σ π Xd → (∀ rv δ', Qd rv δ' → ∀ v H', SS X.K W H' σ δ' (π ++ [(some v, rv)]) → o.is σ v → Q v H') → te σ H Q
def VO (X : Cx) (W : Wd) (wx : WX) (e : Expr) (o : Opr) : Prop := ∃ te, VOt X W wx e o te
theorem vo_pd {e : Expr} {t : VT} (h : VE X W wx e t) : VO X W wx e (.pd t) :=
  ⟨_, h.pe, fun σ H δ π Qd Xd Q s q xr k => ⟨δ, π, Qd, Xd, s, q, fun rv δ' q' v H' s' => k rv δ' q' v H' s' trivial, xr⟩⟩
theorem SS.inAt (s : SS K W H σ δ π) {i : Nat} (h : ML.inAt δ i) : ∃ v, σ[i]? = some (some v) := by
  have h' : (match δ[i]? with | some (.sh _) => True | some (.ow _) => True | some (.rf _ _ _) => True | _ => False) := h
  cases e : δ[i]? with
  | none => rw [e] at h'; exact h'.elim
  | some sl =>
    rw [e] at h'
    obtain ⟨w, h1, h2⟩ := s.cell e
    obtain ⟨S, x⟩ := s.st
    cases sl with
    | sh d =>
      obtain ⟨v, rfl, r⟩ := x.sh i w d h2
      exact ⟨v, h1⟩
    | ow o =>
      obtain ⟨v, rfl, r⟩ := x.ow i w o h2
      exact ⟨v, h1⟩
    | rf j ρ p =>
      rw [x.rf i w j ρ p h2] at h1
      exact ⟨_, h1⟩
    | _ => exact h'.elim
theorem vo_pk (i : Nat) {x : Str} {pos : Pos} (hN : X.N[i]? = some x := by rfl) (hv : Vis X.env.scope x := by first | exact Or.inl rfl | exact Or.inr (Or.inl rfl) | exact Or.inr (Or.inr rfl)) (hd : (x == ("__debug__" : Str)) = false := by decide)
    (hcd : (x == ("__classdict__" : Str)) = false := by decide) : VO X W wx (.Name x pos) (.pk i) := by
  refine ⟨_, pe_var hN hv hd hcd, fun σ H δ π Qd Xd Q s q xr k => ?_⟩
  obtain ⟨q1, q2⟩ := q
  obtain ⟨v, h1⟩ := s.inAt q1
  exact ⟨v, h1, k _ _ q2 _ _ s.blank h1⟩

/-- a value that is read now: shared, or one of one's own with shared items -/
def Rq (K : PySem.W.Frag) (S : Addr → Prop) (H : Hp) (v : V) (d : D) : Prop :=
  Rp K S H v d ∨ ∃ (s : Sh) (xs : List V) (ds : List D), v = .ref s.root ∧ d = s.data ds ∧ s.holds H xs ∧ Rps K S H xs ds
/-- .. or any of one's own, to be looked at alone -/
def RqA (K : PySem.W.Frag) (S : Addr → Prop) (H : Hp) (v : V) (d : D) : Prop :=
  Rp K S H v d ∨ ∃ o, d = o.get ∧ Ow K S H v o
def Rr (m : Bool) (K : PySem.W.Frag) (S : Addr → Prop) (H : Hp) (v : V) (d : D) : Prop := match m with
  | false => Rq K S H v d
  | true => RqA K S H v d
theorem Ow.rq {S : Addr → Prop} {v : V} {o : Ot} {d : D} (w : Ow K S H v o) (h : o.rd = some d) : Rq K S H v d := by
  cases w with
  | leaf r => cases h; exact .inl r
  | @nod s xs os h1 h2 =>
    have h' : (leaves? os).map s.data = some d := h
    obtain ⟨ds, e1, rfl⟩ := Option.map_eq_some_iff.mp h'
    have e2 := of_leaves? e1
    subst e2
    exact .inr ⟨s, xs, ds, rfl, rfl, h1, Ows.of_leaves h2⟩
theorem plc_some {δ : List Sl} {i : Nat} {ρ : List Step} {p : Addr} {o1 : Ot} (h : plc δ i ρ p = some o1) : ∃ o, δ[i]? = some (.ow o) ∧ o.at ρ = some o1 ∧ o1.root = some p := by
  unfold plc at h
  split at h
  · rename_i o e
    split at h
    · rename_i o2 e2
      by_cases q : o2.root = some p
      · rw [if_pos q] at h
        cases h
        exact ⟨o, e, e2, q⟩
      · rw [if_neg q] at h; cases h
    · cases h
  · cases h
theorem zipcell {ρ : List Cell} {i : Nat} {sl : Sl} (len : σ.length = δ.length) (h : δ[i]? = some sl) : ∃ w, σ[i]? = some w ∧ (σ.zip δ ++ ρ)[i]? = some (w, sl) := by
  obtain ⟨w, h1, h2⟩ := zip_get len h
  exact ⟨w, h1, by rw [List.getElem?_append_left (List.getElem?_eq_some_iff.mp h2).1]; exact h2⟩
theorem StF.plc {S : Addr → Prop} {ρ : List Cell} (len : σ.length = δ.length) (x : StF K W H (σ.zip δ ++ ρ) S) {i : Nat} {τ : List Step} {p : Addr} {o1 : Ot} (h : ML.plc δ i τ p = some o1) : Ow K S H (.ref p) o1 := by
  obtain ⟨o, e, e2, e3⟩ := plc_some h
  obtain ⟨w, h1, h2⟩ := zipcell (ρ := ρ) len e
  obtain ⟨u, _, wo⟩ := x.ow i w o h2
  obtain ⟨u1, w1⟩ := wo.at e2
  have := w1.root e3
  subst this
  exact w1
theorem StF.rr {m : Bool} {S : Addr → Prop} {ρ : List Cell} (len : σ.length = δ.length) (x : StF K W H (σ.zip δ ++ ρ) S) {i : Nat} {v : V} {sl : Sl} {d : D} (e : (σ.zip δ ++ ρ)[i]? = some (some v, sl)) (h : sl.read m δ = some d) : Rr m K S H v d := by
  cases sl with
  | un => cases m <;> cases h
  | sh d' =>
    obtain ⟨u, eu, r⟩ := x.sh i _ _ e
    cases eu
    cases m <;> (cases h; exact .inl r)
  | ow o =>
    obtain ⟨u, eu, r⟩ := x.ow i _ _ e
    cases eu
    cases m with
    | false => exact Ow.rq r h
    | true => cases h; exact .inr ⟨o, rfl, r⟩
  | rf j τ p =>
    have ev := x.rf i _ j τ p e
    cases ev
    cases m with
    | false =>
      obtain ⟨o1, q1, q2⟩ := Option.bind_eq_some_iff.mp (show (ML.plc δ j τ p).bind Ot.rd = some d from h)
      exact Ow.rq (StF.plc len x q1) q2
    | true =>
      obtain ⟨o1, q1, q2⟩ := Option.map_eq_some_iff.mp (show (ML.plc δ j τ p).map Ot.get = some d from h)
      exact .inr ⟨o1, q2.symm, StF.plc len x q1⟩
theorem Rq.lst {S : Addr → Prop} {v : V} {ds : List D} (h : Rq K S H v (.list ds)) : ∃ p xs, v = .ref p ∧ H p = some (.lst xs) ∧ Rps K S H xs ds := by
  rcases h with h | ⟨s, xs, es, rfl, e, h1, h2⟩
  · cases h with
    | lst h1 h2 => exact ⟨_, _, rfl, h1.1, h2⟩
  · cases s with
    | lst p => cases e; exact ⟨p, xs, rfl, h1, h2⟩
    | _ => cases e
theorem Rq.list {S : Addr → Prop} {v : V} {ds : List D} (h : Rq K S H v (.list ds)) : ∃ p xs, v = .ref p ∧ SqL K H p xs ∧ Rps K S H xs ds := by
  obtain ⟨p, xs, e, h1, h2⟩ := h.lst
  exact ⟨p, xs, e, SqL.of h1, h2⟩
theorem Rq.lck {S : Addr → Prop} {v : V} {ds : List D} (h : Rq K S H v (lkD ds)) : ∃ p xs, v = .ref p ∧ SqL K H p xs ∧ Rps K S H xs ds := by
  have key : ∀ t, RpX K S H t → ∀ v ds, t = .one v (lkD ds) → ∃ p xs, v = .ref p ∧ SqL K H p xs ∧ Rps K S H xs ds := by
    intro t ht v ds e
    cases ht with
    | @lck a xs es h1 h2 =>
      injection e with e1 e2
      unfold lkD at e2
      injection e2 with e2
      injection e2 with e2 _
      injection e2 with _ e2
      injection e2 with e2
      subst e1 e2
      exact ⟨_, _, rfl, h1.sq, h2⟩
    | @dct a ks xs es h1 h2 h3 h4 h5 h6 =>
      exfalso
      injection e with e1 e2
      unfold lkD dctD at e2
      injection e2 with e2
      cases ks with
      | nil => cases e2
      | cons k ks =>
        cases es with
        | nil => cases e2
        | cons d es => cases k <;> cases e2
    | obj h1 h2 h3 h4 h5 h6 =>
      exfalso
      injection e with e1 e2
      unfold lkD objD at e2
      injection e2 with e2
      injection e2 with e2 _
      cases e2
    | _ => cases e
  rcases h with h | ⟨s, xs, es, rfl, e, h1, h2⟩
  · exact key _ h _ _ rfl
  · exfalso
    cases s with
    | lst p => cases e
    | dct p ks =>
      have e' : lkD ds = dctD ks es := e
      unfold lkD dctD at e'
      injection e' with e'
      cases ks with
      | nil => cases e'
      | cons k ks =>
        cases es with
        | nil => cases e'
        | cons d es => cases k <;> cases e'
    | obj p dx C ks =>
      have e' : lkD ds = objD C ks es := e
      unfold lkD objD at e'
      injection e' with e'
      injection e' with e' _
      cases e'
theorem Rq.tup {S : Addr → Prop} {v : V} {ds : List D} (h : Rq K S H v (.tuple ds)) : ∃ p xs, v = .ref p ∧ SqT K H p xs ∧ Rps K S H xs ds := by
  rcases h with h | ⟨s, xs, es, rfl, e, h1, h2⟩
  · cases h with
    | tup h1 h2 => exact ⟨_, _, rfl, h1.sq, h2⟩
  · cases s <;> cases e
theorem Rq.rp {S : Addr → Prop} {v : V} {ds : List D} (h : Rq K S H v (.tuple ds)) : Rp K S H v (.tuple ds) := by
  rcases h with h | ⟨s, xs, es, rfl, e, h1, h2⟩
  · exact h
  · cases s <;> cases e
theorem Rr.rp {m : Bool} {S : Addr → Prop} {v : V} {d : D} (a : atom d = true) (h : Rr m K S H v d) : Rp K S H v d := by
  cases m with
  | false =>
    rcases h with h | ⟨s, xs, es, rfl, e, h1, h2⟩
    · exact h
    · subst e; cases s <;> cases a
  | true =>
    rcases h with h | ⟨o, e, h⟩
    · exact h
    · cases h with
      | leaf r => cases e; exact r
      | @nod s xs os h1 h2 => subst e; cases s <;> cases a
theorem Rr.int {m : Bool} {S : Addr → Prop} {v : V} {i : Int} (h : Rr m K S H v (.int i)) : v = .int i := by
  cases Rr.rp rfl h; rfl
theorem Rr.bool {m : Bool} {S : Addr → Prop} {v : V} {i : Bool} (h : Rr m K S H v (.bool i)) : v = .bl i := by
  cases Rr.rp rfl h; rfl
theorem Rr.str {m : Bool} {S : Addr → Prop} {v : V} {i : Str} (h : Rr m K S H v (.str i)) : v = .str i := by
  cases Rr.rp rfl h; rfl
theorem Rr.okS {m : Bool} {S : Addr → Prop} {v : V} {i : Str} (h : Rr m K S H v (.str i)) : okS i = true := by
  cases Rr.rp rfl h with | str _ q => exact q
theorem Rr.none {m : Bool} {S : Addr → Prop} {v : V} (h : Rr m K S H v .none) : v = .non := by
  cases Rr.rp rfl h; rfl
theorem Rq.int {S : Addr → Prop} {v : V} {i : Int} (h : Rq K S H v (.int i)) : v = .int i := Rr.int (m := false) h
theorem Rq.bool {S : Addr → Prop} {v : V} {i : Bool} (h : Rq K S H v (.bool i)) : v = .bl i := Rr.bool (m := false) h
theorem Rq.str {S : Addr → Prop} {v : V} {i : Str} (h : Rq K S H v (.str i)) : v = .str i := Rr.str (m := false) h
theorem Rq.okS {S : Addr → Prop} {v : V} {i : Str} (h : Rq K S H v (.str i)) : ML.okS i = true := Rr.okS (m := false) h
theorem Rq.none {S : Addr → Prop} {v : V} (h : Rq K S H v .none) : v = .non := Rr.none (m := false) h
mutual
theorem Ow.dp {S : Addr → Prop} : ∀ (o : Ot) (v : V), noD o.get = true → Ow K S H v o → Dp K H v o.get
  | .leaf d, _, n, h => by
    cases h with
    | leaf r => rw [Ot.get] at n ⊢; exact Rp.dp d _ n r
  | .nod s os, _, n, h => by
    cases h with
    | nod h1 h2 =>
      rw [Ot.get] at n ⊢
      cases s with
      | lst p => exact .lst (SqL.of h1) (Ows.dp os _ (by simpa [Sh.data, noD] using n) h2)
      | dct p ks => simp [Sh.data, dctD, noD] at n
      | obj p dx C ks => simp [Sh.data, objD, noD] at n
theorem Ows.dp {S : Addr → Prop} : ∀ (os : List Ot) (vs : List V), noDs (Ot.gets os) = true → Ows K S H vs os → DpAll K H vs (Ot.gets os)
  | [], _, _, h => by cases h; rw [Ot.gets]; exact .nil
  | o :: os, _, n, h => by
    cases h with
    | cons h1 h2 =>
      rw [Ot.gets] at n ⊢
      have n' : noD o.get = true ∧ noDs (Ot.gets os) = true := by simpa [noDs] using n
      exact .cons (Ow.dp o _ n'.1 h1) (Ows.dp os _ n'.2 h2)
end
theorem RqA.dp {S : Addr → Prop} {v : V} {d : D} (n : noD d = true) (h : RqA K S H v d) : Dp K H v d := by
  rcases h with h | ⟨o, rfl, h⟩
  · exact Rp.dp d v n h
  · exact Ow.dp o v n h
theorem RqA.list {S : Addr → Prop} {v : V} {ds : List D} (h : RqA K S H v (.list ds)) : ∃ p xs, v = .ref p ∧ SqL K H p xs ∧ xs.length = ds.length := by
  rcases h with h | ⟨o, e, h⟩
  · cases h with
    | lst h1 h2 => exact ⟨_, _, rfl, h1.sq, Rps.length h2⟩
  · cases h with
    | leaf r =>
      rw [Ot.get] at e
      subst e
      cases r with
      | lst h1 h2 => exact ⟨_, _, rfl, h1.sq, Rps.length h2⟩
    | @nod s xs os h1 h2 =>
      rw [Ot.get] at e
      cases s with
      | lst p =>
        cases e
        exact ⟨p, xs, rfl, SqL.of h1, by rw [h2.length, Ot.gets_map, List.length_map]⟩
      | _ => cases e
theorem RqA.rp_tup {S : Addr → Prop} {v : V} {ds : List D} (h : RqA K S H v (.tuple ds)) : Rp K S H v (.tuple ds) := by
  rcases h with h | ⟨o, e, h⟩
  · exact h
  · cases h with
    | leaf r =>
      rw [Ot.get] at e
      subst e
      exact r
    | @nod s xs os h1 h2 =>
      rw [Ot.get] at e
      cases s <;> cases e
theorem RqA.tup {S : Addr → Prop} {v : V} {ds : List D} (h : RqA K S H v (.tuple ds)) : ∃ p xs, v = .ref p ∧ SqT K H p xs ∧ Rps K S H xs ds := by
  cases h.rp_tup with
  | tup h1 h2 => exact ⟨_, _, rfl, h1.sq, h2⟩

/-- what an operation hands back: something that is there, a new list, a new tuple -/
inductive NewV (K : PySem.W.Frag) (S : Addr → Prop) (H : Hp) : V → Hp → Rs → Prop
  | old {v : V} {d : D} : Rp K S H v d → NewV K S H v H (.sh d)
  | lst {p : Addr} {xs : List V} {ds : List D} : H p = none → Rps K S H xs ds → NewV K S H (.ref p) (upd H p (.lst xs)) (.nw ds)
  | tup {p : Addr} {xs : List V} {ds : List D} : H p = none → Rps K S H xs ds → NewV K S H (.ref p) (upd H p (.tup xs)) (.sh (.tuple ds))
theorem SS.new {S : Addr → Prop} (s : SS K W H σ δ π) (x : StF K W H (σ.zip δ ++ π) S) {v : V} {sl : Rs} (h : NewV K S H v H' sl) : ∃ p, SS K W H' σ δ (π ++ [(some v, sl.to p)]) := by
  cases h with
  | old r => exact ⟨0, s.pushF x r⟩
  | @lst p _ _ hp r => exact ⟨p, s.len, _, by rw [← List.append_assoc]; exact x.newL hp r⟩
  | tup hp r => exact ⟨0, s.len, _, by rw [← List.append_assoc]; exact x.newT hp r⟩
theorem SS.restrict {ρ : List Cell} {S : Addr → Prop} (x : StF K W H (σ.zip δ ++ (π ++ ρ)) S) : StF K W H (σ.zip δ ++ π) S :=
  x.re (fun i => i) (fun i c e => .inr (by
    have hi : i < (σ.zip δ ++ π).length := (List.getElem?_eq_some_iff.mp e).1
    rw [← List.append_assoc, List.getElem?_append_left hi]
    exact e)) (fun i j n q => absurd q n)
/-- an operand's data, at the operation -/
theorem Opr.read {m : Bool} {o : Opr} {S : Addr → Prop} {rv : Sl} {v : V} {d : D} {ρ : List Cell} (len : σ.length = δ.length) (x : StF K W H (σ.zip δ ++ (π ++ ((some v, rv) :: ρ))) S) (hi : o.is σ v) (h : o.fin m rv δ = some d) : Rr m K S H v d := by
  cases o with
  | pd t =>
    refine StF.rr len x (i := (σ.zip δ ++ π).length) (sl := rv) ?_ h
    rw [← List.append_assoc, List.getElem?_append_right (Nat.le_refl _), Nat.sub_self]
    rfl
  | pk i =>
    have hi' : σ[i]? = some (some v) := hi
    have h' : (δ[i]?).bind (Sl.read m δ) = some d := h
    obtain ⟨sl, e1, e2⟩ := Option.bind_eq_some_iff.mp h'
    obtain ⟨w, q1, q2⟩ := zipcell (ρ := π ++ ((some v, rv) :: ρ)) len e1
    rw [hi'] at q1
    cases q1
    exact StF.rr len x q2 e2

/-! ### operations of one, two and three operands, by values -/
def vv1 (m : Bool) (f : D → Option Rs) (a : Opr) : VT := fun δ Q Xc => a.ev δ (fun ra δ1 => ∃ x r, a.fin m ra δ1 = some x ∧ f x = some r ∧ ∀ p, Q (r.to p) δ1) Xc
def vv2 (m : Bool) (f : D → D → Option Rs) (a b : Opr) : VT := fun δ Q Xc => a.ev δ (fun ra δ1 => b.ev δ1 (fun rb δ2 => ∃ x y r, a.fin m ra δ2 = some x ∧ b.fin m rb δ2 = some y ∧ f x y = some r ∧ ∀ p, Q (r.to p) δ2) Xc) Xc
def vv3 (m : Bool) (f : D → D → D → Option Rs) (a b c : Opr) : VT := fun δ Q Xc => a.ev δ (fun ra δ1 => b.ev δ1 (fun rb δ2 => c.ev δ2 (fun rc δ3 => ∃ x y z r, a.fin m ra δ3 = some x ∧ b.fin m rb δ3 = some y ∧ c.fin m rc δ3 = some z ∧ f x y z = some r ∧ ∀ p, Q (r.to p) δ3) Xc) Xc) Xc
def SndN1 (m : Bool) (K : PySem.W.Frag) (r : V → Hp → VK → Prop) (f : D → Option Rs) : Prop := ∀ S H x d res (Q : VK), Rr m K S H x d → f d = some res → (∀ v H', NewV K S H v H' res → Q v H') → r x H Q
def SndN2 (m : Bool) (K : PySem.W.Frag) (r : R2) (f : D → D → Option Rs) : Prop := ∀ S H x y d e res (Q : VK), Rr m K S H x d → Rr m K S H y e → f d e = some res → (∀ v H', NewV K S H v H' res → Q v H') → r x y H Q
def SndN3 (m : Bool) (K : PySem.W.Frag) (r : V → V → V → Hp → VK → Prop) (f : D → D → D → Option Rs) : Prop := ∀ S H x y z d e g res (Q : VK), Rr m K S H x d → Rr m K S H y e → Rr m K S H z g → f d e g = some res → (∀ v H', NewV K S H v H' res → Q v H') → r x y z H Q
abbrev v1 := vv1 false
abbrev v2 := vv2 false
abbrev v3 := vv3 false
abbrev w1 := vv1 true
abbrev w2 := vv2 true
abbrev Snd1 := SndN1 false
abbrev Snd2 := SndN2 false
abbrev Snd3 := SndN3 false
theorem XR.more {ρ : List Cell} {Xd : Exn → List Sl → Prop} (h : XR K W wx σ π Xd) : XR K W wx σ (π ++ ρ) Xd := fun x δ' q d H' vs s l e => by
  refine h x δ' q d H' vs ⟨s.len, ?_⟩ l e
  obtain ⟨S, y⟩ := s.st
  refine ⟨S, y.re (fun i => if i < (σ.zip δ' ++ π).length then i else i + ρ.length) (fun i c q => .inr ?_) (fun i j n q => ?_)⟩
  · by_cases hi : i < (σ.zip δ' ++ π).length
    · rw [if_pos hi]
      rw [← List.append_assoc, List.getElem?_append_left hi] at q
      rw [List.append_assoc π, ← List.append_assoc, List.getElem?_append_left hi]
      exact q
    · rw [if_neg hi]
      have hi' := Nat.le_of_not_lt hi
      rw [← List.append_assoc, List.getElem?_append_right hi'] at q
      rw [← List.append_assoc, ← List.append_assoc, List.getElem?_append_right (by rw [List.length_append]; omega), List.length_append]
      rw [← q]
      congr 1
      omega
  · by_cases h1 : i < (σ.zip δ' ++ π).length
    · by_cases h2 : j < (σ.zip δ' ++ π).length
      · rw [if_pos h1, if_pos h2] at q; exact absurd q n
      · rw [if_pos h1, if_neg h2] at q; omega
    · by_cases h2 : j < (σ.zip δ' ++ π).length
      · rw [if_neg h1, if_pos h2] at q; omega
      · rw [if_neg h1, if_neg h2] at q; omega
theorem run1 {m : Bool} {r : V → Hp → VK → Prop} {f : D → Option Rs} {a : Expr} {oa : Opr} {ta : TE} {Q : VK} (A : VOt X W wx a oa ta) (snd : SndN1 m X.K r f) (h : lE X.K W wx (vv1 m f oa) σ H Q) : ta σ H fun x H1 => r x H1 Q := by
  obtain ⟨δ, π, Qd, Xd, s, h, k, xr⟩ := h
  refine A.run σ H δ π _ Xd _ s h xr fun ra δ1 q v H1 s1 i1 => ?_
  obtain ⟨x, res, e1, e2, q⟩ := q
  obtain ⟨S, y⟩ := s1.st
  refine snd S H1 v x res Q (Opr.read (ρ := []) s1.len y i1 e1) e2 fun v' H' nv => ?_
  obtain ⟨p, s2⟩ := s1.drop.new (SS.restrict y) nv
  exact k _ _ (q p) _ _ s2
theorem run2 {m : Bool} {r : R2} {f : D → D → Option Rs} {a b : Expr} {oa ob : Opr} {ta tb : TE} {Q : VK} (A : VOt X W wx a oa ta) (B : VOt X W wx b ob tb) (snd : SndN2 m X.K r f) (h : lE X.K W wx (vv2 m f oa ob) σ H Q) : ta σ H fun x H1 => tb σ H1 fun y H2 => r x y H2 Q := by
  obtain ⟨δ, π, Qd, Xd, s, h, k, xr⟩ := h
  refine A.run σ H δ π _ Xd _ s h xr fun ra δ1 q v H1 s1 i1 => ?_
  refine B.run σ H1 δ1 _ _ Xd _ s1 q xr.more fun rb δ2 q u H2 s2 i2 => ?_
  obtain ⟨x, y, res, e1, e2, e3, q⟩ := q
  obtain ⟨S, z⟩ := s2.st
  have z1 : StF X.K W H2 (σ.zip δ2 ++ (π ++ ((some v, ra) :: [(some u, rb)]))) S := by
    rw [List.append_assoc] at z
    exact z
  refine snd S H2 v u x y res Q (Opr.read s2.len z1 i1 e1) (Opr.read (ρ := []) s2.len z i2 e2) e3 fun v' H' nv => ?_
  obtain ⟨p, s3⟩ := s2.drop.drop.new (SS.restrict (SS.restrict z)) nv
  exact k _ _ (q p) _ _ s3
theorem run3 {m : Bool} {r : V → V → V → Hp → VK → Prop} {f : D → D → D → Option Rs} {a b c : Expr} {oa ob oc : Opr} {ta tb tc : TE} {Q : VK} (A : VOt X W wx a oa ta) (B : VOt X W wx b ob tb) (C : VOt X W wx c oc tc) (snd : SndN3 m X.K r f)
    (h : lE X.K W wx (vv3 m f oa ob oc) σ H Q) : ta σ H fun x H1 => tb σ H1 fun y H2 => tc σ H2 fun z H3 => r x y z H3 Q := by
  obtain ⟨δ, π, Qd, Xd, s, h, k, xr⟩ := h
  refine A.run σ H δ π _ Xd _ s h xr fun ra δ1 q v H1 s1 i1 => ?_
  refine B.run σ H1 δ1 _ _ Xd _ s1 q xr.more fun rb δ2 q u H2 s2 i2 => ?_
  refine C.run σ H2 δ2 _ _ Xd _ s2 q xr.more.more fun rc δ3 q w H3 s3 i3 => ?_
  obtain ⟨x, y, z, res, e1, e2, e3, e4, q⟩ := q
  obtain ⟨S, zz⟩ := s3.st
  have z2 : StF X.K W H3 (σ.zip δ3 ++ ((π ++ [(some v, ra)]) ++ ((some u, rb) :: [(some w, rc)]))) S := by
    rw [List.append_assoc (π ++ [(some v, ra)])] at zz
    exact zz
  have z1 : StF X.K W H3 (σ.zip δ3 ++ (π ++ ((some v, ra) :: [(some u, rb), (some w, rc)]))) S := by
    rw [List.append_assoc π] at z2
    exact z2
  refine snd S H3 v u w x y z res Q (Opr.read s3.len z1 i1 e1) (Opr.read s3.len z2 i2 e2) (Opr.read (ρ := []) s3.len zz i3 e3) e4 fun v' H' nv => ?_
  obtain ⟨p, s4⟩ := s3.drop.drop.drop.new (SS.restrict (SS.restrict (SS.restrict zz))) nv
  exact k _ _ (q p) _ _ s4
theorem ve_op {m : Bool} {op : Operator} {r : R2} {f : D → D → Option Rs} {a b : Expr} {oa ob : Opr} {pos : Pos} (ho : OpR X (binaryOp op) r) (snd : SndN2 m X.K r f) (ha : VO X W wx a oa) (hb : VO X W wx b ob) : VE X W wx (.BinOp a op b pos) (vv2 m f oa ob) := by
  obtain ⟨ta, A⟩ := ha
  obtain ⟨tb, B⟩ := hb
  exact ⟨PE.imp (pe_op ho A.pe B.pe) fun _ _ _ h => run2 A B snd h⟩
theorem ve_cmp {m : Bool} {op : CmpOp} {r : R2} {f : D → D → Option Rs} {a b : Expr} {oa ob : Opr} {pos : Pos} (ho : OpR X (compareOp op) r) (snd : SndN2 m X.K r f) (ha : VO X W wx a oa) (hb : VO X W wx b ob) (hm : behindInMarks op b = false) : VE X W wx (.Compare a [op] [b] pos) (vv2 m f oa ob) := by
  obtain ⟨ta, A⟩ := ha
  obtain ⟨tb, B⟩ := hb
  exact ⟨PE.imp (pe_cmpR ho A.pe B.pe hm) fun _ _ _ h => run2 A B snd h⟩
theorem ve_ix {m : Bool} {r : R2} {f : D → D → Option Rs} {a b : Expr} {oa ob : Opr} {pos : Pos} (ho : IxR X r) (snd : SndN2 m X.K r f) (ha : VO X W wx a oa) (hb : VO X W wx b ob) (hs : PlainIx b) : VE X W wx (.Subscript a b pos) (vv2 m f oa ob) := by
  obtain ⟨ta, A⟩ := ha
  obtain ⟨tb, B⟩ := hb
  exact ⟨PE.imp (pe_ix ho A.pe B.pe hs) fun _ _ _ h => run2 A B snd h⟩
theorem ve_un {m : Bool} {op : UnaryOp} {r : V → Hp → VK → Prop} {f : D → Option Rs} {a : Expr} {oa : Opr} {pos : Pos} (ho : UnR X (unaryOp op) r) (snd : SndN1 m X.K r f) (ha : VO X W wx a oa) : VE X W wx (.UnaryOp op a pos) (vv1 m f oa) := by
  obtain ⟨ta, A⟩ := ha
  exact ⟨PE.imp (pe_un ho A.pe) fun _ _ _ h => run1 A snd h⟩
/-- a built-in's call with one, two, three values -/
theorem ve_b1 {m : Bool} {id : String} {x : Str} {p pos : Pos} {r : List V → Hp → VK → Prop} {f : D → Option Rs} {a : Expr} {oa : Opr} (hc : CallR X (.builtin id) r) (snd : SndN1 m X.K (fun v => r [v]) f) (hm : X.mg x = none) (hv : bootBuiltins x = some (.builtin id)) (ha : VO X W wx a oa)
    (hg : Gl X x := by rfl) (hn : x ≠ "__name__" := by decide) (hdb : (x == ("__debug__" : Str)) = false := by decide) (he : starEach [a] X.env = (false, eval a X.env) :: starEach [] X.env := by rfl) : VE X W wx (.Call (.Name x p) [a] [] pos) (vv1 m f oa) := by
  obtain ⟨ta, A⟩ := ha
  exact ⟨PE.imp (pe_callB hc hg hm hv (pa_cons A.pe pa_nil he) hn hdb he rfl) fun σ H Q h => by
    show ta σ H fun x H1 => r [x] H1 Q
    exact run1 A snd h⟩
theorem ve_t1 {m : Bool} {T : String} {x : Str} {p pos : Pos} {r : List V → Hp → VK → Prop} {f : D → Option Rs} {a : Expr} {oa : Opr} (hc : CallR X (.type T) r) (snd : SndN1 m X.K (fun v => r [v]) f) (hm : X.mg x = none) (hv : bootBuiltins x = some (.type T)) (ha : VO X W wx a oa)
    (hg : Gl X x := by rfl) (hn : x ≠ "__name__" := by decide) (hdb : (x == ("__debug__" : Str)) = false := by decide) (he : starEach [a] X.env = (false, eval a X.env) :: starEach [] X.env := by rfl) : VE X W wx (.Call (.Name x p) [a] [] pos) (vv1 m f oa) := by
  obtain ⟨ta, A⟩ := ha
  exact ⟨PE.imp (pe_callTy hc hg hm hv (pa_cons A.pe pa_nil he) hn hdb he rfl) fun σ H Q h => by
    show ta σ H fun x H1 => r [x] H1 Q
    exact run1 A snd h⟩
theorem ve_b2 {m : Bool} {id : String} {x : Str} {p pos : Pos} {r : List V → Hp → VK → Prop} {f : D → D → Option Rs} {a b : Expr} {oa ob : Opr} (hc : CallR X (.builtin id) r) (snd : SndN2 m X.K (fun v u => r [v, u]) f) (hm : X.mg x = none) (hv : bootBuiltins x = some (.builtin id)) (ha : VO X W wx a oa) (hb : VO X W wx b ob)
    (hg : Gl X x := by rfl) (hn : x ≠ "__name__" := by decide) (hdb : (x == ("__debug__" : Str)) = false := by decide) (he : starEach [a, b] X.env = (false, eval a X.env) :: starEach [b] X.env := by rfl) (he2 : starEach [b] X.env = (false, eval b X.env) :: starEach [] X.env := by rfl)
    (hpl : (backTo pos (starEach [b] X.env)).any (·.1) = false := by rfl) : VE X W wx (.Call (.Name x p) [a, b] [] pos) (vv2 m f oa ob) := by
  obtain ⟨ta, A⟩ := ha
  obtain ⟨tb, B⟩ := hb
  exact ⟨PE.imp (pe_callB hc hg hm hv (pa_cons A.pe (pa_cons B.pe pa_nil he2) he) hn hdb he hpl) fun σ H Q h => by
    show ta σ H fun x H1 => tb σ H1 fun y H2 => r [x, y] H2 Q
    exact run2 A B snd h⟩
end
end ML

/-! ## M4 -/
set_option Elab.async false
set_option linter.all false
set_option autoImplicit false
set_option maxRecDepth 100000
set_option maxHeartbeats 4000000
namespace ML
open PySem PySem.Spec PyProof.Rows L2

abbrev VTs := List Sl → (List D → List Sl → Prop) → (Exn → List Sl → Prop) → Prop
abbrev VTt := List Sl → (Bool → List Sl → Prop) → (Exn → List Sl → Prop) → Prop
def lA (K : PySem.W.Frag) (W : Wd) (wx : WX) (n : Nat) (t : VTs) : TA := fun σ H Q => ∃ δ π Qd Xd, SS K W H σ δ π ∧ t δ Qd Xd ∧
  (∀ ds δ', Qd ds δ' → ∀ vs H', vs.length = ds.length → ds.length = n → SS K W H' σ δ' (π ++ shs vs ds) → Q vs H') ∧ XR K W wx σ π Xd
structure VA (X : Cx) (W : Wd) (wx : WX) (es : List Expr) (t : VTs) : Prop where
  pa : PA X es (lA X.K W wx es.length t)
def lT (K : PySem.W.Frag) (W : Wd) (wx : WX) (t : VTt) : TT := fun σ H Q => ∃ δ π Qd Xd, SS K W H σ δ π ∧ t δ Qd Xd ∧
  (∀ b δ', Qd b δ' → ∀ H', SS K W H' σ δ' π → Q b H') ∧ XR K W wx σ π Xd
structure VC (X : Cx) (W : Wd) (wx : WX) (e : Expr) (t : VTt) : Prop where
  pt : PT X e (lT X.K W wx t)

section
variable {X : Cx} {W : Wd} {wx : WX} {K : PySem.W.Frag} {H H' : Hp} {σ : L2.St} {δ δ' : List Sl} {π : List Cell} {e a b c : Expr} {es : List Expr} {t u : VT} {ts : VTs} {pos : Pos}
def vNil : VTs := fun δ Q _ => Q [] δ
def vCons (t : VT) (ts : VTs) : VTs := fun δ Q Xc => vS t δ (fun rv δ1 => ts δ1 (fun ds δ2 => Q (rv.get :: ds) δ2) Xc) Xc
theorem shs_nil {ds : List D} : shs [] ds = [] := rfl
theorem shs_cons {v : V} {vs : List V} {d : D} {ds : List D} : shs (v :: vs) (d :: ds) = (some v, .sh d) :: shs vs ds := rfl
theorem va_nil : VA X W wx [] vNil := ⟨PA.imp pa_nil fun σ H Q ⟨δ, π, Qd, Xd, s, h, k, xr⟩ => k _ _ h [] H rfl rfl (by rw [shs_nil, List.append_nil]; exact s)⟩
theorem va_cons (he : VE X W wx e t) (hr : VA X W wx es ts) (hs : starEach (e :: es) X.env = (false, eval e X.env) :: starEach es X.env := by rfl) : VA X W wx (e :: es) (vCons t ts) := by
  refine ⟨PA.imp (pa_cons he.pe hr.pa hs) fun σ H Q ⟨δ, π, Qd, Xd, s, h, k, xr⟩ => ?_⟩
  refine ⟨δ, π, _, Xd, s, h, fun rv δ1 q v H1 s1 => ?_, xr⟩
  refine ⟨δ1, π ++ [(some v, .sh rv.get)], _, Xd, s1.shr q.1, q.2, fun ds δ2 q2 vs H2 l2 n2 s2 => ?_, xr.more⟩
  refine k _ _ q2 (v :: vs) H2 (by rw [List.length_cons, List.length_cons, l2]) (by rw [List.length_cons, List.length_cons, n2]) ?_
  rw [show shs (v :: vs) ((Sl.sh rv.get).get :: ds) = (some v, .sh rv.get) :: shs vs ds from rfl, List.append_cons]
  exact s2
theorem shs_get : ∀ {vs : List V} {ds : List D} {i : Nat} {c : Cell}, (shs vs ds)[i]? = some c → ∃ v d, c = (some v, .sh d) ∧ vs[i]? = some v ∧ ds[i]? = some d
  | [], _, _, _, h => by simp [shs] at h
  | _ :: _, [], _, _, h => by simp [shs] at h
  | v :: vs, d :: ds, 0, c, h => by
    rw [shs_cons] at h
    simp at h
    exact ⟨v, d, h.symm, rfl, rfl⟩
  | v :: vs, d :: ds, i + 1, c, h => by
    rw [shs_cons] at h
    obtain ⟨x, y, h1, h2, h3⟩ := shs_get (vs := vs) (ds := ds) (i := i) (c := c) (by simpa using h)
    exact ⟨x, y, h1, by simpa using h2, by simpa using h3⟩
theorem shs_at : ∀ {vs : List V} {ds : List D} {i : Nat} {v : V} {d : D}, vs[i]? = some v → ds[i]? = some d → (shs vs ds)[i]? = some (some v, .sh d)
  | [], _, _, _, _, h, _ => by simp at h
  | _ :: _, [], _, _, _, _, h => by simp at h
  | v :: vs, d :: ds, 0, _, _, h, q => by
    simp at h q
    subst h q
    rfl
  | v :: vs, d :: ds, i + 1, _, _, h, q => by
    rw [shs_cons]
    simpa using shs_at (vs := vs) (ds := ds) (i := i) (by simpa using h) (by simpa using q)
theorem StF.pushs {S : Addr → Prop} : ∀ {vs : List V} {ds : List D} {cs : List Cell}, StF K W H cs S → Rps K S H vs ds → StF K W H (cs ++ shs vs ds) S
  | _, [], cs, x, r => by cases r; rw [shs_nil, List.append_nil]; exact x
  | _, d :: ds, cs, x, r => by
    cases r with
    | cons r1 r2 =>
      rw [shs_cons, List.append_cons]
      exact StF.pushs (x.push r1) r2
/-- what waits, read -/
theorem StF.reads {S : Addr → Prop} : ∀ {vs : List V} {ds : List D} {cs : List Cell}, StF K W H (cs ++ shs vs ds) S → vs.length = ds.length → Rps K S H vs ds
  | [], [], _, _, _ => .nil
  | [], _ :: _, _, _, h => by simp at h
  | _ :: _, [], _, _, h => by simp at h
  | v :: vs, d :: ds, cs, x, h => by
    rw [shs_cons] at x
    have e : (cs ++ (some v, Sl.sh d) :: shs vs ds)[cs.length]? = some (some v, Sl.sh d) := by
      rw [List.getElem?_append_right (Nat.le_refl _), Nat.sub_self]
      rfl
    obtain ⟨u, eu, r⟩ := x.sh _ _ _ e
    cases eu
    rw [List.append_cons] at x
    exact .cons r (StF.reads (cs := cs ++ [(some v, Sl.sh d)]) x (by simpa using h))
theorem SS.reads {S : Addr → Prop} {vs : List V} {ds : List D} (x : StF K W H (σ.zip δ ++ (π ++ shs vs ds)) S) (h : vs.length = ds.length) : Rps K S H vs ds :=
  StF.reads (cs := σ.zip δ ++ π) (by rw [← List.append_assoc] at x; exact x) h
/-! ### displays -/
def vTup (ts : VTs) : VT := fun δ Q Xc => ts δ (fun ds δ' => Q (.sh (.tuple ds)) δ') Xc
def vLst (ts : VTs) : VT := fun δ Q Xc => ts δ (fun ds δ' => ∀ p, Q (.ow (Ot.flat p ds)) δ') Xc
theorem ve_tup {k : Nat} (h : VA X W wx es ts) (hl : es.length ≤ 1000) (hs : starEach es X.env = starEach es X.env := by rfl) : VE X W wx (.Tuple es k pos) (vTup ts) :=
  ⟨PE.imp (pe_tup h.pa) fun σ H Q ⟨δ, π, Qd, Xd, s, h, kk, xr⟩ => ⟨δ, π, _, Xd, s, h, fun ds δ' q vs H' l n s' => by
    refine ⟨Nat.le_of_lt (small1000 (by omega)), fun p hp => ?_⟩
    obtain ⟨S, x⟩ := s'.st
    obtain ⟨_, z⟩ := s'.drop.new (SS.restrict x) (.tup hp (SS.reads x l))
    exact kk _ _ q _ _ z, xr⟩⟩
theorem ve_lst (h : VA X W wx es ts) (hl : es.length ≤ 1000) : VE X W wx (.List es pos) (vLst ts) :=
  ⟨PE.imp (pe_lst h.pa) fun σ H Q ⟨δ, π, Qd, Xd, s, h, kk, xr⟩ => ⟨δ, π, _, Xd, s, h, fun ds δ' q vs H' l n s' => by
    refine ⟨Nat.le_of_lt (small1000 (by omega)), fun p hp => ?_⟩
    obtain ⟨S, x⟩ := s'.st
    obtain ⟨p2, z⟩ := s'.drop.new (SS.restrict x) (.lst hp (SS.reads x l))
    exact kk _ _ (q p2) _ _ z, xr⟩⟩

/-! ### tests -/
def vB (t : VT) : VTt := fun δ Q Xc => t δ (fun rv δ' => ∃ b, rv = .sh (.bool b) ∧ Q b δ') Xc
theorem SS.bool {v : V} {b : Bool} (s : SS K W H σ δ (π ++ [(some v, .sh (.bool b))])) : v = .bl b := by
  obtain ⟨S, x⟩ := s.st
  rw [← List.append_assoc] at x
  obtain ⟨u, e, r⟩ := x.sh _ _ _ snoc_last
  cases e
  cases r
  rfl
theorem vc_val (h : VE X W wx e t) (he : ∀ whole, isTrue e X.env whole = (do let v ← whole; standAt e.pos; holding [v] (truthy v)) := by intro _; rfl) : VC X W wx e (vB t) :=
  ⟨PT.imp (pt_val h.pe he) fun σ H Q ⟨δ, π, Qd, Xd, s, h, k, xr⟩ => ⟨δ, π, _, Xd, s, h, fun rv δ' q v H' s' => by
    obtain ⟨b, rfl, q⟩ := q
    exact ⟨b, s'.bool, k _ _ q _ s'.drop⟩, xr⟩⟩
theorem vc_cmp {m : Bool} {op : CmpOp} {r : R2} {f : D → D → Option Rs} {oa ob : Opr} (ho : OpR X (compareOp op) r) (snd : SndN2 m X.K r f) (ha : VO X W wx a oa) (hb : VO X W wx b ob) (hm : behindInMarks op b = false) : VC X W wx (.Compare a [op] [b] pos) (vB (vv2 m f oa ob)) := by
  obtain ⟨ta, A⟩ := ha
  obtain ⟨tb, B⟩ := hb
  refine ⟨PT.imp (pt_cmpR ho A.pe B.pe hm) fun σ H Q ⟨δ, π, Qd, Xd, s, h, k, xr⟩ => ?_⟩
  show tOp r ta tb σ H _
  refine run2 A B snd ⟨δ, π, _, Xd, s, h, fun rv δ' q v H' s' => ?_, xr⟩
  obtain ⟨b, rfl, q⟩ := q
  exact ⟨b, s'.bool, k _ _ q _ s'.drop⟩
def vNot (t : VTt) : VTt := fun δ Q Xc => t δ (fun b δ' => Q (!b) δ') Xc
def vAnd (t u : VTt) : VTt := fun δ Q Xc => t δ (fun b δ' => if b = true then u δ' Q Xc else Q false δ') Xc
def vOr (t u : VTt) : VTt := fun δ Q Xc => t δ (fun b δ' => if b = true then Q true δ' else u δ' Q Xc) Xc
theorem vc_not {t : VTt} (h : VC X W wx a t) : VC X W wx (.UnaryOp .Not a pos) (vNot t) :=
  ⟨PT.imp (pt_not h.pt) fun σ H Q ⟨δ, π, Qd, Xd, s, h, k, xr⟩ => ⟨δ, π, _, Xd, s, h, fun b δ' q H' s' => k _ _ q _ s', xr⟩⟩
structure VW (X : Cx) (W : Wd) (wx : WX) (e : Expr) (t : VTt) : Prop where
  pw : PW X e (lT X.K W wx t)
theorem PW.imp {e : Expr} {t t' : TT} (h : PW X e t) (i : ∀ σ H Q, t' σ H Q → t σ H Q) : PW X e t' := ⟨fun wh pins s σ H Q I q => h.run wh pins s σ H Q I (i σ H Q q)⟩
theorem vw_and1 {t : VTt} (h : VC X W wx a t) : VW X W wx (.BoolOp .And [a] pos) t := ⟨pw_and1 h.pt⟩
theorem vw_or1 {t : VTt} (h : VC X W wx a t) : VW X W wx (.BoolOp .Or [a] pos) t := ⟨pw_or1 h.pt⟩
theorem vw_and {t u : VTt} (ha : VC X W wx a t) (hb : VW X W wx (.BoolOp .And (b :: es) pos) u) : VW X W wx (.BoolOp .And (a :: b :: es) pos) (vAnd t u) :=
  ⟨PW.imp (pw_and ha.pt hb.pw) fun σ H Q ⟨δ, π, Qd, Xd, s, h, k, xr⟩ => ⟨δ, π, _, Xd, s, h, fun b δ' q H' s' => by
    cases b with
    | true =>
      rw [if_pos rfl]
      rw [if_pos rfl] at q
      exact ⟨δ', π, Qd, Xd, s', q, k, xr⟩
    | false =>
      rw [if_neg (by decide)]
      rw [if_neg (by decide)] at q
      exact k _ _ q _ s', xr⟩⟩
theorem vw_or {t u : VTt} (ha : VC X W wx a t) (hb : VW X W wx (.BoolOp .Or (b :: es) pos) u) : VW X W wx (.BoolOp .Or (a :: b :: es) pos) (vOr t u) :=
  ⟨PW.imp (pw_or ha.pt hb.pw) fun σ H Q ⟨δ, π, Qd, Xd, s, h, k, xr⟩ => ⟨δ, π, _, Xd, s, h, fun b δ' q H' s' => by
    cases b with
    | true =>
      rw [if_pos rfl]
      rw [if_pos rfl] at q
      exact k _ _ q _ s'
    | false =>
      rw [if_neg (by decide)]
      rw [if_neg (by decide)] at q
      exact ⟨δ', π, Qd, Xd, s', q, k, xr⟩, xr⟩⟩
theorem vc_w {t : VTt} (h : VW X W wx e t) : VC X W wx e t := ⟨h.pw.pt⟩
/-- a dict, not an instance -/
def isDct : List (D × D) → Bool
  | (.none, _) :: _ => false
  | (.bool _, _) :: _ => false
  | _ => true
theorem isDct_of {ks : List Key} {ds : List D} : isDct ((ks.map kD).zip ds) = true := by
  cases ks with
  | nil => rfl
  | cons k ks =>
    cases ds with
    | nil => rfl
    | cons d ds => cases k <;> rfl
theorem Rp.dictI {S : Addr → Prop} {v : V} {kvs : List (D × D)} (h : Rp K S H v (.dict kvs)) (hd : isDct kvs = true) : ∃ (a : Addr) (ks : List Key) (xs : List V) (ds : List D),
    v = .ref a ∧ kvs = (ks.map kD).zip ds ∧ H a = some (.dK (ks.zip xs)) ∧ ¬ S a ∧ ks.length = xs.length ∧ ks.Nodup ∧ (∀ k ∈ ks, okK k = true) ∧ Rps K S H xs ds := by
  have key : ∀ t, RpX K S H t → ∀ v kvs, t = .one v (.dict kvs) → isDct kvs = true → ∃ (a : Addr) (ks : List Key) (xs : List V) (ds : List D),
    v = .ref a ∧ kvs = (ks.map kD).zip ds ∧ H a = some (.dK (ks.zip xs)) ∧ ¬ S a ∧ ks.length = xs.length ∧ ks.Nodup ∧ (∀ k ∈ ks, okK k = true) ∧ Rps K S H xs ds := by
    intro t ht v kvs e hd
    cases ht with
    | dct h1 h2 h3 h4 h5 h6 =>
      injection e with e1 e2
      injection e2 with e2
      subst e1 e2
      exact ⟨_, _, _, _, rfl, rfl, h1, h2, h3, h4, h5, h6⟩
    | obj h1 h2 h3 h4 h5 h6 =>
      injection e with e1 e2
      injection e2 with e2
      subst e2
      cases hd
    | lck h1 h2 =>
      injection e with e1 e2
      injection e2 with e2
      subst e2
      cases hd
    | _ => cases e
  exact key _ h v kvs rfl hd
theorem RqA.dictI {S : Addr → Prop} {v : V} {kvs : List (D × D)} (h : RqA K S H v (.dict kvs)) (hd : isDct kvs = true) : ∃ (a : Addr) (ks : List Key) (xs : List V) (ds : List D),
    v = .ref a ∧ kvs = (ks.map kD).zip ds ∧ H a = some (.dK (ks.zip xs)) ∧ ks.length = xs.length ∧ xs.length = ds.length ∧ ks.Nodup ∧ (∀ k ∈ ks, okK k = true) := by
  rcases h with h | ⟨o, e, h⟩
  · obtain ⟨a, ks, xs, ds, h1, h2, h3, _, h4, h5, h6, h7⟩ := Rp.dictI h hd
    exact ⟨a, ks, xs, ds, h1, h2, h3, h4, Rps.length h7, h5, h6⟩
  · cases h with
    | leaf r =>
      rw [Ot.get] at e
      subst e
      obtain ⟨a, ks, xs, ds, h1, h2, h3, _, h4, h5, h6, h7⟩ := Rp.dictI r hd
      exact ⟨a, ks, xs, ds, h1, h2, h3, h4, Rps.length h7, h5, h6⟩
    | @nod s xs os h1 h2 =>
      rw [Ot.get] at e
      cases s with
      | lst p => cases e
      | dct p ks =>
        injection e with e
        subst e
        exact ⟨p, ks, xs, _, rfl, rfl, h1.1, h1.2.1, by rw [h2.length, Ot.gets_map, List.length_map], h1.2.2.1, h1.2.2.2⟩
      | obj p dx C ks =>
        injection e with e
        subst e
        cases hd
theorem Rq.dictI {S : Addr → Prop} {v : V} {kvs : List (D × D)} (h : Rq K S H v (.dict kvs)) (hd : isDct kvs = true) : ∃ (a : Addr) (ks : List Key) (xs : List V) (ds : List D),
    v = .ref a ∧ kvs = (ks.map kD).zip ds ∧ H a = some (.dK (ks.zip xs)) ∧ ks.length = xs.length ∧ ks.Nodup ∧ (∀ k ∈ ks, okK k = true) ∧ Rps K S H xs ds := by
  rcases h with h | ⟨s, xs, es, rfl, e, h1, h2⟩
  · obtain ⟨a, ks, xs, ds, h1, h2, h3, _, h4, h5, h6, h7⟩ := Rp.dictI h hd
    exact ⟨a, ks, xs, ds, h1, h2, h3, h4, h5, h6, h7⟩
  · cases s with
    | lst p => cases e
    | dct p ks =>
      injection e with e
      subst e
      exact ⟨p, ks, xs, _, rfl, rfl, h1.1, h1.2.1, h1.2.2.1, h1.2.2.2, h2⟩
    | obj p dx C ks =>
      injection e with e
      subst e
      cases hd
/-- the truth of a value -/
def truD : D → Option Bool
  | .none => some false
  | .bool b => some b
  | .int i => some (i != 0)
  | .str y => some ((y.length : Int) != 0)
  | .list ds => some (!ds.isEmpty)
  | .tuple ds => some (!ds.isEmpty)
  | .dict kvs => if isDct kvs = true then some (!kvs.isEmpty) else none
def vTru (o : Opr) : VTt := fun δ Q Xc => o.ev δ (fun ra δ1 => ∃ x b, o.fin true ra δ1 = some x ∧ truD x = some b ∧ Q b δ1) Xc
theorem empty_len {α β : Type} {l : List α} {m : List β} (h : l.length = m.length) : l.isEmpty = m.isEmpty := by
  cases l <;> cases m <;> simp at h ⊢
theorem okS_line {x : Str} (h : okS x = true) : x.length ≤ sizeLine := by
  unfold okS at h
  rw [Bool.and_eq_true] at h
  exact of_decide_eq_true h.2
theorem vc_tru {o : Opr} (ha : VO X W wx a o) (he : ∀ whole, isTrue a X.env whole = (do let v ← whole; standAt a.pos; holding [v] (truthy v)) := by intro _; rfl) : VC X W wx a (vTru o) := by
  obtain ⟨ta, A⟩ := ha
  refine ⟨PT.imp (pt_truth A.pe he) fun σ H Q ⟨δ, π, Qd, Xd, s, h, k, xr⟩ => ?_⟩
  refine A.run σ H δ π _ Xd _ s h xr fun ra δ1 q v H1 s1 i1 => ?_
  obtain ⟨x, b, e1, e2, q⟩ := q
  obtain ⟨S, y⟩ := s1.st
  have r : RqA X.K S H1 v x := Opr.read (m := true) (ρ := []) s1.len y i1 e1
  refine ⟨b, ?_, k _ _ q _ s1.drop⟩
  cases x with
  | none => cases e2; rw [Rr.none (m := true) r]; rfl
  | bool c => cases e2; rw [Rr.bool (m := true) r]; rfl
  | int c => cases e2; rw [Rr.int (m := true) r]; rfl
  | str c => cases e2; rw [Rr.str (m := true) r]; exact ⟨okS_line (Rr.okS (m := true) r), rfl⟩
  | list ds =>
    cases e2
    obtain ⟨p, xs, rfl, h1, h2⟩ := r.list
    exact .inl ⟨xs, h1, by rw [empty_len h2]⟩
  | tuple ds =>
    cases e2
    obtain ⟨p, xs, rfl, h1, h2⟩ := r.tup
    exact .inr (.inl ⟨xs, h1, by rw [empty_len (Rps.length h2)]⟩)
  | dict kvs =>
    have e3 : (if isDct kvs = true then some (!kvs.isEmpty) else none) = some b := e2
    by_cases hd : isDct kvs = true
    · rw [if_pos hd] at e3
      cases e3
      obtain ⟨p, ks, xs, ds, rfl, rfl, h1, h2, h3, _, _⟩ := r.dictI hd
      exact .inr (.inr ⟨_, h1, by rw [empty_len (l := (ks.map kD).zip ds) (m := ks.zip xs) (by simp; omega)]⟩)
    · rw [if_neg hd] at e3; cases e3
/-- as values -/
def vTv (t : VTt) : VT := fun δ Q Xc => t δ (fun b δ' => Q (.sh (.bool b)) δ') Xc
def vAndV (t u : VT) : VT := fun δ Q Xc => t δ (fun rv δ' => ∃ b, rv = .sh (.bool b) ∧ if b = true then u δ' Q Xc else Q (.sh (.bool false)) δ') Xc
def vOrV (t u : VT) : VT := fun δ Q Xc => t δ (fun rv δ' => ∃ b, rv = .sh (.bool b) ∧ if b = true then Q (.sh (.bool true)) δ' else u δ' Q Xc) Xc
def vNotV (t : VT) : VT := fun δ Q Xc => t δ (fun rv δ' => ∃ b, rv = .sh (.bool b) ∧ Q (.sh (.bool (!b))) δ') Xc
theorem ve_one {op} (h : VE X W wx a t) : VE X W wx (.BoolOp op [a] pos) t := ⟨pe_one h.pe⟩
theorem ve_and (ha : VE X W wx a t) (hb : VE X W wx (.BoolOp .And (b :: es) pos) u) : VE X W wx (.BoolOp .And (a :: b :: es) pos) (vAndV t u) :=
  ⟨PE.imp (pe_and ha.pe hb.pe) fun σ H Q ⟨δ, π, Qd, Xd, s, h, k, xr⟩ => ⟨δ, π, _, Xd, s, h, fun rv δ' q v H' s' => by
    obtain ⟨b, rfl, q⟩ := q
    refine ⟨b, s'.bool, ?_⟩
    cases b with
    | true =>
      rw [if_pos rfl]
      rw [if_pos rfl] at q
      exact ⟨δ', π, Qd, Xd, s'.drop, q, k, xr⟩
    | false =>
      rw [if_neg (by decide)]
      rw [if_neg (by decide)] at q
      exact k _ _ q _ _ (s'.drop.push fun _ => .bl _), xr⟩⟩
theorem ve_or (ha : VE X W wx a t) (hb : VE X W wx (.BoolOp .Or (b :: es) pos) u) : VE X W wx (.BoolOp .Or (a :: b :: es) pos) (vOrV t u) :=
  ⟨PE.imp (pe_or ha.pe hb.pe) fun σ H Q ⟨δ, π, Qd, Xd, s, h, k, xr⟩ => ⟨δ, π, _, Xd, s, h, fun rv δ' q v H' s' => by
    obtain ⟨b, rfl, q⟩ := q
    refine ⟨b, s'.bool, ?_⟩
    cases b with
    | true =>
      rw [if_pos rfl]
      rw [if_pos rfl] at q
      exact k _ _ q _ _ (s'.drop.push fun _ => .bl _)
    | false =>
      rw [if_neg (by decide)]
      rw [if_neg (by decide)] at q
      exact ⟨δ', π, Qd, Xd, s'.drop, q, k, xr⟩, xr⟩⟩
theorem ve_not (ha : VE X W wx a t) : VE X W wx (.UnaryOp .Not a pos) (vNotV t) :=
  ⟨PE.imp (pe_not ha.pe) fun σ H Q ⟨δ, π, Qd, Xd, s, h, k, xr⟩ => ⟨δ, π, _, Xd, s, h, fun rv δ' q v H' s' => by
    obtain ⟨b, rfl, q⟩ := q
    exact ⟨b, s'.bool, k _ _ q _ _ (s'.drop.push fun _ => .bl _)⟩, xr⟩⟩
def vIf (c : VTt) (t u : VT) : VT := fun δ Q Xc => c δ (fun b δ' => if b = true then t δ' Q Xc else u δ' Q Xc) Xc
theorem ve_if {tc : VTt} (hc : VC X W wx c tc) (ha : VE X W wx a t) (hb : VE X W wx b u) : VE X W wx (.IfExp c a b pos) (vIf tc t u) :=
  ⟨PE.imp (pe_ifExp hc.pt ha.pe hb.pe) fun σ H Q ⟨δ, π, Qd, Xd, s, h, k, xr⟩ => ⟨δ, π, _, Xd, s, h, fun d δ' q H' s' => by
    cases d with
    | true =>
      rw [if_pos rfl]
      rw [if_pos rfl] at q
      exact ⟨δ', π, Qd, Xd, s', q, k, xr⟩
    | false =>
      rw [if_neg (by decide)]
      rw [if_neg (by decide)] at q
      exact ⟨δ', π, Qd, Xd, s', q, k, xr⟩, xr⟩⟩

/-! ### slices, methods -/
def inO (lo : Option D) : Option (Option Int) := match lo with
  | none => some none
  | some (.int i) => some (some i)
  | _ => none
end
end ML

/-! ## M5 -/
set_option Elab.async false
set_option linter.all false
set_option autoImplicit false
set_option maxRecDepth 100000
set_option maxHeartbeats 4000000
namespace ML
open PySem PySem.Spec PyProof.Rows L2

/-- what is wanted behind a statement -/
structure En where
  nx : List Sl → Prop
  rt : Sl → List Sl → Prop
  bk : List Sl → Prop
  ct : List Sl → Prop
  ex : Exn → List Sl → Prop
abbrev VSt := En → List Sl → Prop
/-- the exceptions, whatever the slots have become -/
def XRs (K : PySem.W.Frag) (W : Wd) (wx : WX) (π : List Cell) (Xd : Exn → List Sl → Prop) : Prop := ∀ σ, XR K W wx σ π Xd
structure EnOk (K : PySem.W.Frag) (W : Wd) (wx : WX) (π : List Cell) (E : En) (Dd : Ends) : Prop where
  nx : ∀ δ', E.nx δ' → ∀ σ' H', SS K W H' σ' δ' π → Dd.nx σ' H'
  rt : ∀ rv δ', E.rt rv δ' → ∀ v σ' H', SS K W H' σ' δ' (π ++ [(some v, rv)]) → Dd.rt v H'
  bk : ∀ δ', E.bk δ' → ∀ σ' H', SS K W H' σ' δ' π → Dd.bk σ' H'
  ct : ∀ δ', E.ct δ' → ∀ σ' H', SS K W H' σ' δ' π → Dd.ct σ' H'
  ex : XRs K W wx π E.ex
def lS (K : PySem.W.Frag) (W : Wd) (wx : WX) (t : VSt) : TS := fun Dd σ H => ∃ δ π E, SS K W H σ δ π ∧ t E δ ∧ EnOk K W wx π E Dd
structure VS (X : Cx) (W : Wd) (wx : WX) (st : Stmt) (t : VSt) : Prop where
  ps : PS X st (lS X.K W wx t)
structure VSs (X : Cx) (W : Wd) (wx : WX) (st : List Stmt) (t : VSt) : Prop where
  ps : PSs X st (lS X.K W wx t)

section
variable {X : Cx} {W : Wd} {wx : WX} {K : PySem.W.Frag} {H H' : Hp} {σ : L2.St} {δ δ' : List Sl} {π : List Cell} {e a b c : Expr} {es : List Expr} {t u : VT} {ts : VTs} {pos : Pos} {st : Stmt} {sts : List Stmt} {p q : VSt}
/-- cells taken out of the middle -/
theorem StF.mid {cs ρ τ : List Cell} {S : Addr → Prop} (y : StF K W H (cs ++ (ρ ++ τ)) S) : StF K W H (cs ++ τ) S := by
  refine y.re (fun i => if i < cs.length then i else i + ρ.length) (fun i c q => .inr ?_) (fun i j n q => ?_)
  · by_cases hi : i < cs.length
    · rw [if_pos hi]
      rw [List.getElem?_append_left hi] at q
      rw [List.getElem?_append_left hi]
      exact q
    · rw [if_neg hi]
      have hi' := Nat.le_of_not_lt hi
      rw [List.getElem?_append_right hi'] at q
      rw [List.getElem?_append_right (by omega), List.getElem?_append_right (by omega), ← q]
      congr 1
      omega
  · by_cases h1 : i < cs.length
    · by_cases h2 : j < cs.length
      · rw [if_pos h1, if_pos h2] at q; exact absurd q n
      · rw [if_pos h1, if_neg h2] at q; omega
    · by_cases h2 : j < cs.length
      · rw [if_neg h1, if_pos h2] at q; omega
      · rw [if_neg h1, if_neg h2] at q; omega
theorem SS.mid {ρ τ : List Cell} (s : SS K W H σ δ (π ++ ρ ++ τ)) : SS K W H σ δ (π ++ τ) := by
  obtain ⟨S, y⟩ := s.st
  rw [List.append_assoc, ← List.append_assoc] at y
  exact ⟨s.len, S, by rw [← List.append_assoc]; exact StF.mid y⟩
theorem EnOk.more {E : En} {Dd : Ends} {ρ : List Cell} (h : EnOk K W wx π E Dd) : EnOk K W wx (π ++ ρ) E Dd :=
  ⟨fun δ' q σ' H' s => h.nx δ' q σ' H' s.drop, fun rv δ' q v σ' H' s => h.rt rv δ' q v σ' H' s.mid, fun δ' q σ' H' s => h.bk δ' q σ' H' s.drop, fun δ' q σ' H' s => h.ct δ' q σ' H' s.drop, fun σ => (h.ex σ).more⟩
theorem zip_set2 : ∀ {σ : L2.St} {δ : List Sl} {i : Nat} {w : Option V} {sl : Sl}, (σ.set i w).zip (δ.set i sl) = (σ.zip δ).set i (w, sl)
  | [], _, _, _, _ => by simp
  | _ :: _, [], _, _, _ => by simp
  | _ :: _, _ :: _, 0, _, _ => rfl
  | a :: σ, d :: δ, i + 1, w, sl => by
    have := zip_set2 (σ := σ) (δ := δ) (i := i) (w := w) (sl := sl)
    simp [this]
/-- what waits last goes to a slot -/
theorem SS.put {v : V} {sl : Sl} (s : SS K W H σ δ (π ++ [(some v, sl)])) {i : Nat} (hi : i < δ.length) : SS K W H (σ.set i (some v)) (δ.set i sl) π := by
  obtain ⟨S, y⟩ := s.st
  have lz := zip_length s.len
  have hiσ : i < σ.length := by rw [s.len]; exact hi
  have ez : (σ.set i (some v)).zip (δ.set i sl) = (σ.zip δ).set i (some v, sl) := zip_set2
  refine ⟨by rw [List.length_set, List.length_set]; exact s.len, S, y.re (cs' := (σ.set i (some v)).zip (δ.set i sl) ++ π) (fun j => if j = i then (σ.zip δ ++ π).length else j) (fun j c q => .inr ?_) (fun j k n q => ?_)⟩
  · rw [ez] at q
    rw [← List.append_assoc]
    by_cases hj : j = i
    · subst hj
      rw [if_pos rfl, snoc_last]
      rw [List.getElem?_append_left (by rw [List.length_set, lz]; exact hi), List.getElem?_set_self (by rw [lz]; exact hi)] at q
      exact q
    · rw [if_neg hj]
      have hl : j < (σ.zip δ ++ π).length := by
        have := (List.getElem?_eq_some_iff.mp q).1
        rw [List.length_append, List.length_set] at this
        rw [List.length_append]
        exact this
      rw [List.getElem?_append_left hl]
      rw [← List.set_append_left _ _ (by rw [lz]; exact hi), List.getElem?_set_ne (fun z => hj z.symm)] at q
      exact q
  · intro w o w' o' q1 q2
    have l1 := (List.getElem?_eq_some_iff.mp q1).1
    have l2 := (List.getElem?_eq_some_iff.mp q2).1
    rw [ez, List.length_append, List.length_set] at l1 l2
    rw [List.length_append] at q
    by_cases h1 : j = i
    · by_cases h2 : k = i
      · exact n (h1.trans h2.symm)
      · rw [if_pos h1, if_neg h2] at q; omega
    · by_cases h2 : k = i
      · rw [if_neg h1, if_pos h2] at q; omega
      · rw [if_neg h1, if_neg h2] at q; exact n q

/-! ### blocks and small statements -/
def vEnd : VSt := fun E δ => E.nx δ
def vSeq (p q : VSt) : VSt := fun E δ => p { E with nx := q E } δ
theorem vss_nil : VSs X W wx [] vEnd := ⟨PSs.imp pss_nil fun Dd σ H ⟨δ, π, E, s, h, k⟩ => k.nx _ h _ _ s⟩
theorem vss_cons (h1 : VS X W wx st p) (h2 : VSs X W wx sts q) : VSs X W wx (st :: sts) (vSeq p q) :=
  ⟨PSs.imp (pss_cons h1.ps h2.ps) fun Dd σ H ⟨δ, π, E, s, h, k⟩ => ⟨δ, π, _, s, h, ⟨fun δ' z σ' H' s' => ⟨δ', π, E, s', z, k⟩, k.rt, k.bk, k.ct, k.ex⟩⟩⟩
theorem vss_one (h1 : VS X W wx st p) : VSs X W wx [st] p := ⟨pss_one h1.ps⟩
theorem vs_pass : VS X W wx (.Pass pos) vEnd := ⟨PS.imp ps_pass fun Dd σ H ⟨δ, π, E, s, h, k⟩ => k.nx _ h _ _ s⟩
def vBrk : VSt := fun E δ => E.bk δ
def vCnt : VSt := fun E δ => E.ct δ
theorem vs_brk : VS X W wx (.Break pos) vBrk := ⟨PS.imp ps_break fun Dd σ H ⟨δ, π, E, s, h, k⟩ => k.bk _ h _ _ s⟩
theorem vs_cnt : VS X W wx (.Continue pos) vCnt := ⟨PS.imp ps_continue fun Dd σ H ⟨δ, π, E, s, h, k⟩ => k.ct _ h _ _ s⟩
theorem vs_doc {x j pos'} : VS X W wx (.Expr (.Constant (.str x) j pos) pos') vEnd := ⟨PS.imp ps_doc fun Dd σ H ⟨δ, π, E, s, h, k⟩ => k.nx _ h _ _ s⟩
def vDrp (t : VT) : VSt := fun E δ => t δ (fun _ δ' => E.nx δ') E.ex
theorem vs_expr (he : VE X W wx e t) (hs : swapsWith e none pos.line X.env = pure false := by rfl) : VS X W wx (.Expr e pos) (vDrp t) :=
  ⟨PS.imp (ps_expr he.pe hs) fun Dd σ H ⟨δ, π, E, s, h, k⟩ => ⟨δ, π, _, _, s, h, fun rv δ' z v H' s' => k.nx _ z _ _ s'.drop, k.ex σ⟩⟩
def vRet (t : VT) : VSt := fun E δ => t δ E.rt E.ex
theorem vs_ret (he : VE X W wx e t) : VS X W wx (.Return (some e) pos) (vRet t) :=
  ⟨PS.imp (ps_ret he.pe) fun Dd σ H ⟨δ, π, E, s, h, k⟩ => ⟨δ, π, _, _, s, h, fun rv δ' z v H' s' => k.rt _ _ z _ _ _ s', k.ex σ⟩⟩
def vRetN : VSt := fun E δ => E.rt (.sh .none) δ
theorem vs_retN : VS X W wx (.Return none pos) vRetN :=
  ⟨PS.imp ps_retN fun Dd σ H ⟨δ, π, E, s, h, k⟩ => k.rt _ _ h .non σ H (s.push fun _ => .non)⟩
def vIfS (c : VTt) (p q : VSt) : VSt := fun E δ => c δ (fun b δ' => if b = true then p E δ' else q E δ') E.ex
theorem vs_if {tc : VTt} {xs ys : List Stmt} (hc : VC X W wx c tc) (ha : VSs X W wx xs p) (hb : VSs X W wx ys q) : VS X W wx (.If c xs ys pos) (vIfS tc p q) :=
  ⟨PS.imp (ps_if hc.pt ha.ps hb.ps) fun Dd σ H ⟨δ, π, E, s, h, k⟩ => ⟨δ, π, _, _, s, h, fun d δ' z H' s' => by
    cases d with
    | true =>
      rw [if_pos rfl]
      rw [if_pos rfl] at z
      exact ⟨δ', π, E, s', z, k⟩
    | false =>
      rw [if_neg (by decide)]
      rw [if_neg (by decide)] at z
      exact ⟨δ', π, E, s', z, k⟩, k.ex σ⟩⟩
def vSet (i : Nat) (t : VT) : VSt := fun E δ => t δ (fun rv δ' => i < δ'.length ∧ E.nx (δ'.set i rv)) E.ex
theorem vs_set {i : Nat} {x : Str} {pos' : Pos} (hN : X.N.Nodup) (hi : X.N[i]? = some x) (hx : Loc X.env.scope x) (he : VE X W wx e t) (hs : swapsWith e (some (.Name x pos')) pos.line X.env = pure false := by rfl)
    (hf : X.fn x = true ∨ X.env.scope.names.lookup x = some .local := by first | exact .inl rfl | exact .inr rfl | assumption) : VS X W wx (.Assign [.Name x pos'] e pos) (vSet i t) :=
  ⟨PS.imp (ps_set hN hi hx he.pe hs hf) fun Dd σ H ⟨δ, π, E, s, h, k⟩ => ⟨δ, π, _, _, s, h, fun rv δ' z v H' s' => k.nx _ z.2 _ _ (s'.put z.1), k.ex σ⟩⟩
/-- never come to -/
def vNever : VSt := fun _ _ => False
theorem vss_never : VSs X W wx sts vNever := ⟨⟨fun _ _ _ _ _ _ ⟨_, _, _, _, h, _⟩ => h.elim⟩⟩
theorem vs_never : VS X W wx st vNever := ⟨⟨fun _ _ _ _ _ _ ⟨_, _, _, _, h, _⟩ => h.elim⟩⟩

/-! ### targets -/
def lG (K : PySem.W.Frag) (W : Wd) (ws : List Nat) (g : D → List Sl → Option (List Sl)) : TG := fun x σ H k => ∃ (δ : List Sl) (π : List Cell) (d : D) (j : Nat) (δ' : List Sl),
  π[j]? = some (some x, Sl.sh d) ∧ SS K W H σ δ π ∧ g d δ = some δ' ∧ ∀ σ', wipe σ' ws = wipe σ ws → SS K W H σ' δ' π → k σ' H
/-- g: what the binding makes of the places; ws: the slots that it sets -/
structure VG (X : Cx) (W : Wd) (tg : Expr) (ws : List Nat) (g : D → List Sl → Option (List Sl)) : Prop where
  pg : PG X tg (lG X.K W ws g)
theorem SS.copy {v : V} {d : D} {j : Nat} (s : SS K W H σ δ π) (e : π[j]? = some (some v, .sh d)) : SS K W H σ δ (π ++ [(some v, .sh d)]) := by
  obtain ⟨S, y⟩ := s.st
  have e2 : (σ.zip δ ++ π)[(σ.zip δ).length + j]? = some (some v, .sh d) := by
    rw [List.getElem?_append_right (by omega), Nat.add_sub_cancel_left]
    exact e
  obtain ⟨u, eu, r⟩ := y.sh _ _ _ e2
  cases eu
  exact s.pushF y r
def bName (i : Nat) : D → List Sl → Option (List Sl) := fun d δ => if i < δ.length then some (δ.set i (.sh d)) else none
theorem wipe_one {i : Nat} {v : Option V} : wipe (σ.set i v) [i] = wipe σ [i] := by
  show (σ.set i v).set i none = σ.set i none
  rw [List.set_set]
theorem vg_name {i : Nat} {x : Str} (hN : X.N.Nodup) (hi : X.N[i]? = some x) (hx : Loc X.env.scope x) (hf : X.fn x = true ∨ X.env.scope.names.lookup x = some .local := by first | exact .inl rfl | exact .inr rfl | assumption) : VG X W (.Name x pos) [i] (bName i) :=
  ⟨⟨fun pins sh σ H v u Q I r h => (pg_name hN hi hx hf).run pins sh σ H v u Q I r (by
    obtain ⟨δ, π, d, j, δ', e, s, g, k⟩ := h
    have g' : (if i < δ.length then some (δ.set i (.sh d)) else none) = some δ' := g
    by_cases hl : i < δ.length
    · rw [if_pos hl] at g'
      cases g'
      exact k _ wipe_one ((s.copy e).put hl)
    · rw [if_neg hl] at g'
      cases g')⟩⟩
/-- several targets -/
def lGs (K : PySem.W.Frag) (W : Wd) (ws : List Nat) (g : List D → List Sl → Option (List Sl)) : TGs := fun xs σ H k => ∃ (δ : List Sl) (π : List Cell) (ds : List D) (j : Nat) (δ' : List Sl),
  (∀ (i : Nat) x, xs[i]? = some x → ∃ d, ds[i]? = some d ∧ π[j + i]? = some (some x, Sl.sh d)) ∧ xs.length = ds.length ∧ SS K W H σ δ π ∧ g ds δ = some δ' ∧ ∀ σ', wipe σ' ws = wipe σ ws → SS K W H σ' δ' π → k σ' H
structure VGs (X : Cx) (W : Wd) (tgs : List Expr) (ws : List Nat) (g : List D → List Sl → Option (List Sl)) : Prop where
  pg : PGs X tgs (lGs X.K W ws g)
def bNil : List D → List Sl → Option (List Sl) := fun ds δ => match ds with
  | [] => some δ
  | _ => none
def bCons (g : D → List Sl → Option (List Sl)) (gs : List D → List Sl → Option (List Sl)) : List D → List Sl → Option (List Sl) := fun ds δ => match ds with
  | [] => none
  | d :: r => (g d δ).bind (gs r)
theorem vgs_nil {ws : List Nat} : VGs X W [] ws bNil := ⟨⟨fun pins sh σ H vs us Q I r h => pgs_nil.run pins sh σ H vs us Q I r (by
    obtain ⟨δ, π, ds, j, δ', e, l, s, g, k⟩ := h
    cases ds with
    | nil =>
      cases g
      exact ⟨List.length_eq_zero_iff.mp (by simpa using l), k σ rfl s⟩
    | cons d r => cases g)⟩⟩
theorem wipe_set : ∀ {σ : L2.St} {ws : List Nat} {i : Nat}, (wipe σ ws).set i none = wipe (σ.set i none) ws
  | _, [], _ => rfl
  | σ, w :: ws, i => by
    show ((wipe σ ws).set w none).set i none = (wipe (σ.set i none) ws).set w none
    rw [← wipe_set (σ := σ) (ws := ws) (i := i)]
    by_cases h : w = i
    · subst h; rfl
    · rw [List.set_comm _ _ h]
theorem wipe_app : ∀ {σ : L2.St} {ws vs : List Nat}, wipe σ (ws ++ vs) = wipe (wipe σ vs) ws
  | _, [], _ => rfl
  | σ, w :: ws, vs => by
    show (wipe σ (ws ++ vs)).set w none = (wipe (wipe σ vs) ws).set w none
    rw [wipe_app]
theorem wipe_com : ∀ {σ : L2.St} {ws vs : List Nat}, wipe (wipe σ vs) ws = wipe (wipe σ ws) vs
  | _, [], _ => rfl
  | σ, w :: ws, vs => by
    show (wipe (wipe σ vs) ws).set w none = wipe ((wipe σ ws).set w none) vs
    rw [wipe_com, wipe_set]
theorem vgs_cons {tg : Expr} {tgs : List Expr} {ws vs : List Nat} {g : D → List Sl → Option (List Sl)} {gs : List D → List Sl → Option (List Sl)} (h1 : VG X W tg ws g) (h2 : VGs X W tgs vs gs)
    (hs : (assignEach (tg :: tgs) X.env).map (·.2) = assign tg X.env :: (assignEach tgs X.env).map (·.2) := by rfl) : VGs X W (tg :: tgs) (ws ++ vs) (bCons g gs) :=
  ⟨⟨fun pins sh σ H xs us Q I r h => (pgs_cons h1.pg h2.pg hs).run pins sh σ H xs us Q I r (by
    obtain ⟨δ, π, ds, j, δ', e, l, s, gg, k⟩ := h
    cases ds with
    | nil => cases gg
    | cons d dr =>
      cases xs with
      | nil => simp at l
      | cons x xr =>
        obtain ⟨δ1, g1, g2⟩ := Option.bind_eq_some_iff.mp (show (g d δ).bind (gs dr) = some δ' from gg)
        obtain ⟨d', e1, e2⟩ := e 0 x rfl
        cases e1
        refine ⟨x, xr, rfl, δ, π, d, j, δ1, e2, s, g1, fun σ1 w1 s1 => ?_⟩
        refine ⟨δ1, π, dr, j + 1, δ', fun i y hy => ?_, by simpa using l, s1, g2, fun σ2 w2 s2 => k σ2 ?_ s2⟩
        · obtain ⟨d2, q1, q2⟩ := e (i + 1) y (by simpa using hy)
          exact ⟨d2, by simpa using q1, by rw [← q2]; congr 1; omega⟩
        · rw [wipe_app, wipe_app, w2, wipe_com, w1, wipe_com])⟩⟩
def bTup (n : Nat) (gs : List D → List Sl → Option (List Sl)) : D → List Sl → Option (List Sl) := fun d δ => match d with
  | .tuple ds => if ds.length = n then gs ds δ else none
  | _ => none
theorem vg_tup {tgs : List Expr} {k n : Nat} {ws : List Nat} {gs : List D → List Sl → Option (List Sl)} (hc : X.calm = true) (h : VGs X W tgs ws gs)
    (hn : (assignEach tgs X.env).length = n := by rfl) (hst : (assignEach tgs X.env).findIdx? (·.1) = none := by rfl) : VG X W (.Tuple tgs k pos) ws (bTup n gs) :=
  ⟨⟨fun pins sh σ H v u Q I r hh => (pg_tup (pos := pos) (k := k) hc h.pg hn hst).run pins sh σ H v u Q I r (by
    obtain ⟨δ, π, d, j, δ', e, s, g, kk⟩ := hh
    cases d with
    | tuple ds =>
      have g' : (if ds.length = n then gs ds δ else none) = some δ' := g
      by_cases hl : ds.length = n
      · rw [if_pos hl] at g'
        have s2 := s.copy e
        obtain ⟨S, y⟩ := s2.st
        rw [← List.append_assoc] at y
        obtain ⟨u', eu, rr⟩ := y.sh _ _ _ snoc_last
        cases eu
        cases rr with
        | @tup a0 xs0 _ h1 h2 =>
          refine ⟨_, _, rfl, h1.sq, by rw [h2.length]; exact hl, δ, π ++ shs xs0 ds, ds, π.length, δ', fun i x hx => ?_, h2.length, ?_, g', fun σ' w s3 => kk σ' w s3.drop⟩
          · obtain ⟨d2, q1, _⟩ := Rps.get' h2 hx
            refine ⟨d2, q1, ?_⟩
            rw [List.getElem?_append_right (by omega), Nat.add_sub_cancel_left]
            exact shs_at hx q1
          · obtain ⟨S2, y2⟩ := s2.st
            have y3 : StF X.K W H (σ.zip δ ++ π) S := y.re (fun i => i) (fun i c q => .inr (snoc_old q)) (fun i j n q => absurd q n)
            exact ⟨s.len, S, by rw [← List.append_assoc]; exact y3.pushs h2⟩
      · rw [if_neg hl] at g'
        cases g'
    | _ => cases g)⟩⟩
/-- a, (b, c) = value -/
def vAsg (t : VT) (g : D → List Sl → Option (List Sl)) : VSt := fun E δ => vS t δ (fun rv δ' => ∃ δ2, g rv.get δ' = some δ2 ∧ E.nx δ2) E.ex
theorem vs_asg {tg : Expr} {ws : List Nat} {g : D → List Sl → Option (List Sl)} (he : VE X W wx e t) (hg : VG X W tg ws g) (hs : swapsWithSole [tg] e pos.line X.env = pure false := by rfl) (hw : swappedStores [tg] e X.env = pure none := by rfl)
    (h1 : (assignEach [tg] X.env).map (·.2) = [assign tg X.env] := by rfl) : VS X W wx (.Assign [tg] e pos) (vAsg t g) :=
  ⟨PS.imp (ps_asg he.pe hg.pg hs hw h1) fun Dd σ H ⟨δ, π, E, s, h, k⟩ => ⟨δ, π, _, _, s, h, fun rv δ' z v H' s' => by
    obtain ⟨z1, δ2, z2, z3⟩ := z
    exact ⟨δ', π ++ [(some v, .sh rv.get)], rv.get, π.length, δ2, snoc_last, s'.shr z1, z2, fun σ' w s2 => k.nx _ z3 _ _ s2.drop⟩, k.ex σ⟩⟩
end
end ML

/-! ## M6 -/
set_option Elab.async false
set_option linter.all false
set_option autoImplicit false
set_option maxRecDepth 100000
set_option maxHeartbeats 4000000
namespace ML
open PySem PySem.Spec PyProof.Rows L2

/-! ### promises of defs: what comes in, what comes out, what the parameters hold then -/
abbrev SemG := List Sl → (Sl → List Sl → Prop) → (Exn → List Sl → Prop) → Prop
def spG (K : PySem.W.Frag) (n : Nat) (sem : SemG) : Sp := fun vs H Q E => ∃ (A F0 : Addr → Prop) (ins : List Sl) (Qd : Sl → List Sl → Prop) (Xd : Exn → List Sl → Prop),
  vs.length = n ∧ ins.length = n ∧ StF K ⟨H, F0, A⟩ H ((vs.map some).zip ins) (fun b => A b ∨ F0 b) ∧ sem ins Qd Xd ∧
  (∀ rv outs, Qd rv outs → ∀ v H' (ws : List (Option V)), ws.length = n → outs.length = n → ML.St K ⟨H, F0, A⟩ H' (ws.zip outs ++ [(some v, rv)]) → Q v H') ∧
  (∀ x outs, Xd x outs → ∀ d H' us (ws : List (Option V)), ws.length = n → outs.length = n → ML.St K ⟨H, F0, A⟩ H' (ws.zip outs ++ shs us x.vals) → us.length = x.vals.length → DS H' d x.names us → E (.ref x.cls) d H')
/-- a def that reads alone -/
abbrev SemV := List D → (Sl → Prop) → (Exn → Prop) → Prop
def semV (s : SemV) : SemG := fun ins Qd Xd => ∃ ds, ins = ds.map Sl.sh ∧ s ds (fun rv => ∀ outs, Qd rv outs) (fun x => ∀ outs, Xd x outs)
/-- what a caller knows of a def -/
structure FnG (P : Program) (w : World) (K : PySem.W.Frag) (mg : Str → Option Value) (base : Heap) (k : Nat) (x : Str) (n : Nat) (sem : SemG) : Prop where
  ex : ∃ (f : Addr) (fd : FuncData) (ps : List Str), FnOk P w K mg base (L2.CX P w) k f fd ps (spG K n sem) ∧ mg x = some (.ref f) ∧ PySem.W.keepIn K (.ref f) = true ∧ Binds K fd ps []

/-! ### arguments: a value that is shared; a slot that is lent; a value that is looked at alone -/
inductive Ag where
  | pd (t : VT)
  | ln (i : Nat)
  | br (o : Opr)
abbrev VAs := List Sl → (List Sl → List Sl → Prop) → (Exn → List Sl → Prop) → Prop
def agEv : List Ag → VAs
  | [] => fun δ Q _ => Q [] δ
  | .pd t :: r => fun δ Q Xc => t δ (fun rv δ1 => rv.isIn = true ∧ agEv r δ1 (fun l δ2 => Q (.sh rv.get :: l) δ2) Xc) Xc
  | .ln i :: r => fun δ Q Xc => inAt δ i ∧ agEv r δ (fun l δ2 => Q (.un :: l) δ2) Xc
  | .br o :: r => fun δ Q Xc => o.ev δ (fun rv δ1 => agEv r δ1 (fun l δ2 => Q (rv :: l) δ2) Xc) Xc
def Ag.is : Ag → L2.St → V → Prop
  | .pd _, _, _ => True
  | .ln i, σ, v => σ[i]? = some (some v)
  | .br o, σ, v => o.is σ v
def lnsOf : List Ag → List Nat
  | [] => []
  | .ln i :: r => i :: lnsOf r
  | _ :: r => lnsOf r
/-- the slot that a place looked at lies in -/
def Opr.base (δ : List Sl) (o : Opr) (s : Sl) : Option Nat := match o with
  | .pk i => match δ[i]? with
    | some (.ow _) => some i
    | some (.rf j _ _) => some j
    | _ => none
  | .pd _ => match s with
    | .rf j _ _ => some j
    | _ => none
def agIn1 (δ : List Sl) (lns : List Nat) (a : Ag) (s : Sl) : Option Sl := match a with
  | .pd _ => match s with
    | .sh d => some (.sh d)
    | _ => none
  | .ln i => match δ[i]? with
    | some (.ow o) => some (.ow o)
    | some (.sh d) => some (.sh d)
    | _ => none
  | .br o => match o.base δ s with
    | none => (o.fin true s δ).map .sh
    | some j => if j ∈ lns then none else (o.fin true s δ).map .sh
def agIn (δ : List Sl) (lns : List Nat) : List Ag → List Sl → Option (List Sl)
  | [], [] => some []
  | a :: r, s :: l => match agIn1 δ lns a s with
    | none => none
    | some x => match agIn δ lns r l with
      | none => none
      | some y => some (x :: y)
  | _, _ => none
def isSh : Sl → Bool
  | .sh _ => true
  | _ => false
/-- is something of the caller's looked at -/
def agBor (δ : List Sl) : List Ag → List Sl → Bool
  | .br o :: r, s :: l => (match o.sl s δ with
    | some (.sh _) => agBor δ r l
    | _ => true)
  | _ :: r, _ :: l => agBor δ r l
  | _, _ => false
def keepO : Option Sl → Sl → Sl
  | some (.ow o), .ow o' => match o.root, o'.root with
    | some p, some q => if p = q then .ow o' else .un
    | _, _ => .un
  | some (.sh d), _ => .sh d
  | _, _ => .un
def agOut (δ : List Sl) : List Ag → List Sl → List Sl
  | .ln i :: r, s :: l => agOut (δ.set i (keepO δ[i]? s)) r l
  | _ :: r, _ :: l => agOut δ r l
  | _, _ => δ
mutual
def Ot.atm : Ot → Bool
  | .leaf d => atom d
  | .nod _ os => Ot.atms os
def Ot.atms : List Ot → Bool
  | [] => true
  | o :: os => o.atm && Ot.atms os
end
def Sl.atm : Sl → Bool
  | .sh d => atom d
  | .ow o => o.atm
  | _ => true
/-- what comes back of what was lent holds no address -/
def lnAtm : List Ag → List Sl → Bool
  | .ln _ :: r, s :: l => s.atm && lnAtm r l
  | _ :: r, _ :: l => lnAtm r l
  | _, _ => true
theorem lnAtm_at : ∀ {as : List Ag} {l : List Sl} {k i : Nat} {s : Sl}, lnAtm as l = true → as[k]? = some (.ln i) → l[k]? = some s → s.atm = true
  | [], _, _, _, _, _, h, _ => by simp at h
  | _ :: _, [], _, _, _, _, _, h => by simp at h
  | a :: r, s0 :: l, 0, i, s, n, h, q => by
    simp at h q
    subst h q
    have n' : (s0.atm && lnAtm r l) = true := n
    rw [Bool.and_eq_true] at n'
    exact n'.1
  | a :: r, s0 :: l, k + 1, i, s, n, h, q => by
    have n' : lnAtm r l = true := by
      cases a with
      | ln j =>
        have n' : (s0.atm && lnAtm r l) = true := n
        rw [Bool.and_eq_true] at n'
        exact n'.2
      | _ => exact n
    exact lnAtm_at (k := k) n' (by simpa using h) (by simpa using q)
section
variable {X : Cx} {W : Wd} {wx : WX} {K : PySem.W.Frag} {H H' : Hp} {σ : L2.St} {δ δ' : List Sl} {π : List Cell} {e a b c : Expr} {es : List Expr} {t u : VT} {ts : VTs} {pos : Pos} {S S' : Addr → Prop} {cs cs' : List Cell}
mutual
theorem Ow.atm {S2 : Addr → Prop} : ∀ (o : Ot) (v : V), o.atm = true → Ow K S H v o → Ow K S2 H v o
  | .leaf d, _, n, h => by
    cases h with
    | leaf r => rw [Ot.atm] at n; exact .leaf (Rp.atm n r)
  | .nod s os, _, n, h => by
    cases h with
    | nod h1 h2 => rw [Ot.atm] at n; exact .nod h1 (Ows.atm os _ n h2)
theorem Ows.atm {S2 : Addr → Prop} : ∀ (os : List Ot) (vs : List V), Ot.atms os = true → Ows K S H vs os → Ows K S2 H vs os
  | [], _, _, h => by cases h; exact .nil
  | o :: os, _, n, h => by
    cases h with
    | cons h1 h2 =>
      rw [Ot.atms, Bool.and_eq_true] at n
      exact .cons (Ow.atm o _ n.1 h1) (Ows.atm os _ n.2 h2)
end
theorem Sl.atoms_of {s : Sl} (h : s.atm = true) : s.atoms := by
  cases s with
  | sh d => exact h
  | ow o => exact fun K S S2 H u w => Ow.atm o u h w
  | _ => exact trivial
abbrev cells (vs : List V) (l : List Sl) : List Cell := (vs.map some).zip l
def lAg (K : PySem.W.Frag) (W : Wd) (wx : WX) (as : List Ag) : TA := fun σ H Q => ∃ δ π Qd Xd, SS K W H σ δ π ∧ agEv as δ Qd Xd ∧
  (∀ l δ', Qd l δ' → ∀ vs H', vs.length = as.length → l.length = as.length → (∀ (k : Nat) (a : Ag) (v : V), as[k]? = some a → vs[k]? = some v → a.is σ v) → SS K W H' σ δ' (π ++ cells vs l) → Q vs H') ∧ XR K W wx σ π Xd
structure VAg (X : Cx) (W : Wd) (wx : WX) (es : List Expr) (as : List Ag) : Prop where
  pa : PA X es (lAg X.K W wx as)
  len : es.length = as.length
theorem vg0 : VAg X W wx [] [] := ⟨PA.imp pa_nil fun σ H Q ⟨δ, π, Qd, Xd, s, h, k, xr⟩ => k _ _ h [] H rfl rfl (fun k a v q => by simp at q) (by rw [show cells [] [] = [] from rfl, List.append_nil]; exact s), rfl⟩
theorem cells_cons {v : V} {vs : List V} {s : Sl} {l : List Sl} : cells (v :: vs) (s :: l) = (some v, s) :: cells vs l := rfl
theorem ag_is {as : List Ag} {a0 : Ag} {v0 : V} {vs : List V} (h0 : a0.is σ v0) (h : ∀ (k : Nat) (a : Ag) (v : V), as[k]? = some a → vs[k]? = some v → a.is σ v) : ∀ (k : Nat) (a : Ag) (v : V), (a0 :: as)[k]? = some a → (v0 :: vs)[k]? = some v → a.is σ v := fun k a v q1 q2 => by
  cases k with
  | zero => simp at q1 q2; subst q1 q2; exact h0
  | succ k => exact h k a v (by simpa using q1) (by simpa using q2)
theorem vg_pd {as : List Ag} (he : VE X W wx e t) (hr : VAg X W wx es as) (hs : starEach (e :: es) X.env = (false, eval e X.env) :: starEach es X.env := by rfl) : VAg X W wx (e :: es) (.pd t :: as) := by
  refine ⟨PA.imp (pa_cons he.pe hr.pa hs) fun σ H Q ⟨δ, π, Qd, Xd, s, h, k, xr⟩ => ?_, by rw [List.length_cons, List.length_cons, hr.len]⟩
  refine ⟨δ, π, _, Xd, s, h, fun rv δ1 q v H1 s1 => ?_, xr⟩
  refine ⟨δ1, π ++ [(some v, .sh rv.get)], _, Xd, s1.shr q.1, q.2, fun l δ2 q2 vs H2 l2 n2 i2 s2 => ?_, xr.more⟩
  refine k _ _ q2 (v :: vs) H2 (by rw [List.length_cons, List.length_cons, l2]) (by rw [List.length_cons, List.length_cons, n2]) (ag_is (a0 := .pd t) trivial i2) ?_
  rw [cells_cons, List.append_cons]
  exact s2
theorem vg_ln (i : Nat) {as : List Ag} {x : Str} {pn : Pos} (hr : VAg X W wx es as) (hN : X.N[i]? = some x := by rfl) (hv : Vis X.env.scope x := by first | exact Or.inl rfl | exact Or.inr (Or.inl rfl) | exact Or.inr (Or.inr rfl)) (hd : (x == ("__debug__" : Str)) = false := by decide)
    (hcd : (x == ("__classdict__" : Str)) = false := by decide) (hs : starEach (.Name x pn :: es) X.env = (false, eval (.Name x pn) X.env) :: starEach es X.env := by rfl) : VAg X W wx (.Name x pn :: es) (.ln i :: as) := by
  refine ⟨PA.imp (pa_cons (pe_var hN hv hd hcd) hr.pa hs) fun σ H Q ⟨δ, π, Qd, Xd, s, ⟨h0, h⟩, k, xr⟩ => ?_, by rw [List.length_cons, List.length_cons, hr.len]⟩
  obtain ⟨v, hv⟩ := s.inAt h0
  refine ⟨v, hv, δ, π ++ [(some v, .un)], _, Xd, s.blank, h, fun l δ2 q2 vs H2 l2 n2 i2 s2 => ?_, xr.more⟩
  refine k _ _ q2 (v :: vs) H2 (by rw [List.length_cons, List.length_cons, l2]) (by rw [List.length_cons, List.length_cons, n2]) (ag_is (a0 := .ln i) hv i2) ?_
  rw [cells_cons, List.append_cons]
  exact s2
theorem vg_br {o : Opr} {as : List Ag} (ho : VO X W wx e o) (hr : VAg X W wx es as) (hs : starEach (e :: es) X.env = (false, eval e X.env) :: starEach es X.env := by rfl) : VAg X W wx (e :: es) (.br o :: as) := by
  obtain ⟨te, A⟩ := ho
  refine ⟨PA.imp (pa_cons A.pe hr.pa hs) fun σ H Q ⟨δ, π, Qd, Xd, s, h, k, xr⟩ => ?_, by rw [List.length_cons, List.length_cons, hr.len]⟩
  refine A.run σ H δ π _ Xd _ s h xr fun rv δ1 q v H1 s1 i1 => ?_
  refine ⟨δ1, π ++ [(some v, rv)], _, Xd, s1, q, fun l δ2 q2 vs H2 l2 n2 i2 s2 => ?_, xr.more⟩
  refine k _ _ q2 (v :: vs) H2 (by rw [List.length_cons, List.length_cons, l2]) (by rw [List.length_cons, List.length_cons, n2]) (ag_is (a0 := .br o) i1 i2) ?_
  rw [cells_cons, List.append_cons]
  exact s2

theorem agIn_at {δ : List Sl} {lns : List Nat} : ∀ {as : List Ag} {l ins : List Sl}, agIn δ lns as l = some ins → ins.length = as.length ∧ ∀ (k : Nat) x, ins[k]? = some x → ∃ a s, as[k]? = some a ∧ l[k]? = some s ∧ agIn1 δ lns a s = some x
  | [], [], ins, h => by cases h; exact ⟨rfl, fun k x q => by simp at q⟩
  | [], _ :: _, ins, h => by cases h
  | _ :: _, [], ins, h => by cases h
  | a :: r, s :: l, ins, h => by
    unfold agIn at h
    split at h
    · cases h
    · rename_i x ex
      split at h
      · cases h
      · rename_i y ey
        cases h
        obtain ⟨h1, h2⟩ := agIn_at ey
        refine ⟨by rw [List.length_cons, List.length_cons, h1], fun k z q => ?_⟩
        cases k with
        | zero => simp at q; subst q; exact ⟨a, s, rfl, rfl, ex⟩
        | succ k =>
          obtain ⟨a', s', q1, q2, q3⟩ := h2 k z (by simpa using q)
          exact ⟨a', s', by simpa using q1, by simpa using q2, q3⟩
theorem lns_mem : ∀ {as : List Ag} {k i : Nat}, as[k]? = some (.ln i) → i ∈ lnsOf as
  | [], _, _, h => by simp at h
  | a :: r, 0, i, h => by simp at h; subst h; exact List.mem_cons_self
  | a :: r, k + 1, i, h => by
    have := lns_mem (as := r) (k := k) (i := i) (by simpa using h)
    cases a with
    | ln j => exact List.mem_cons_of_mem _ this
    | _ => exact this
theorem lns_one : ∀ {as : List Ag} {k j i : Nat}, (lnsOf as).Nodup → as[k]? = some (.ln i) → as[j]? = some (.ln i) → k = j
  | [], _, _, _, _, h, _ => by simp at h
  | a :: r, 0, 0, i, _, _, _ => rfl
  | a :: r, 0, j + 1, i, n, h, q => by
    simp at h; subst h
    exact absurd (lns_mem (as := r) (k := j) (i := i) (by simpa using q)) (List.nodup_cons.mp n).1
  | a :: r, k + 1, 0, i, n, h, q => by
    simp at q; subst q
    exact absurd (lns_mem (as := r) (k := k) (i := i) (by simpa using h)) (List.nodup_cons.mp n).1
  | a :: r, k + 1, j + 1, i, n, h, q => by
    have n' : (lnsOf r).Nodup := by
      cases a with
      | ln j => exact (List.nodup_cons.mp n).2
      | _ => exact n
    rw [lns_one n' (show r[k]? = some (.ln i) by simpa using h) (by simpa using q)]
theorem agOut_len : ∀ {as : List Ag} {outs δ : List Sl}, (agOut δ as outs).length = δ.length
  | [], outs, δ => by cases outs <;> rfl
  | a :: r, [], δ => by cases a <;> rfl
  | a :: r, s :: l, δ => by
    cases a with
    | ln i => show (agOut _ r l).length = _; rw [agOut_len, List.length_set]
    | pd t => exact agOut_len (as := r)
    | br o => exact agOut_len (as := r)
theorem agOut_at : ∀ {as : List Ag} {outs δ : List Sl} {j : Nat} {sl : Sl}, (lnsOf as).Nodup → outs.length = as.length → (agOut δ as outs)[j]? = some sl →
    (δ[j]? = some sl ∧ ((∃ o, sl = .ow o) → ∀ k : Nat, as[k]? ≠ some (Ag.ln j))) ∨ sl = .un ∨ ∃ (k : Nat) (o o' : Ot) (p : Addr), as[k]? = some (Ag.ln j) ∧ outs[k]? = some (Sl.ow o') ∧ sl = .ow o' ∧ δ[j]? = some (.ow o) ∧ o'.root = some p ∧ o.root = some p
  | [], outs, δ, j, sl, _, _, h => by
    have h' : δ[j]? = some sl := by cases outs <;> exact h
    exact .inl ⟨h', fun _ k q => by simp at q⟩
  | a :: r, [], δ, j, sl, _, l, h => by simp at l
  | a :: r, s :: l, δ, j, sl, n, hl, h => by
    have n' : (lnsOf r).Nodup := by
      cases a with
      | ln j => exact (List.nodup_cons.mp n).2
      | _ => exact n
    have hl' : l.length = r.length := by simpa using hl
    have other : (∀ i, a ≠ .ln i) → agOut δ (a :: r) (s :: l) = agOut δ r l := fun na => by
      cases a with
      | ln i => exact absurd rfl (na i)
      | _ => rfl
    by_cases hn : ∃ i, a = .ln i
    · obtain ⟨i, rfl⟩ := hn
      have n0 := (List.nodup_cons.mp n).1
      have h' : (agOut (δ.set i (keepO δ[i]? s)) r l)[j]? = some sl := h
      rcases agOut_at n' hl' h' with ⟨q1, q2⟩ | q | ⟨k, o, o', p, q1, q2, q3, q4, q5, q6⟩
      · by_cases hj : i = j
        · subst hj
          have hi : i < δ.length := by
            have := (List.getElem?_eq_some_iff.mp q1).1
            rwa [List.length_set] at this
          rw [List.getElem?_set_self hi] at q1
          have e0 : keepO δ[i]? s = sl := Option.some.inj q1
          cases ed : δ[i]? with
          | none => rw [ed] at e0; exact .inr (.inl e0.symm)
          | some y =>
            rw [ed] at e0
            cases y with
            | sh d =>
              refine .inl ⟨by rw [← e0]; rfl, fun ⟨o, ho⟩ => ?_⟩
              rw [ho] at e0; cases e0
            | ow o =>
              cases s with
              | ow o' =>
                have e1 : (match o.root, o'.root with | some p, some q => if p = q then Sl.ow o' else .un | _, _ => .un) = sl := e0
                cases r1 : o.root with
                | none => rw [r1] at e1; exact .inr (.inl e1.symm)
                | some p =>
                  rw [r1] at e1
                  cases r2 : o'.root with
                  | none => rw [r2] at e1; exact .inr (.inl e1.symm)
                  | some q =>
                    simp only [r2] at e1
                    by_cases z : p = q
                    · rw [if_pos z] at e1
                      subst z
                      exact .inr (.inr ⟨0, o, o', p, rfl, rfl, e1.symm, rfl, r2, r1⟩)
                    · rw [if_neg z] at e1
                      exact .inr (.inl e1.symm)
              | _ => exact .inr (.inl e0.symm)
            | _ => exact .inr (.inl e0.symm)
        · rw [List.getElem?_set_ne hj] at q1
          refine .inl ⟨q1, fun ho k q => ?_⟩
          cases k with
          | zero => simp at q; exact hj q
          | succ k => exact q2 ho k (by simpa using q)
      · exact .inr (.inl q)
      · by_cases hj : i = j
        · subst hj
          exact absurd (lns_mem q1) n0
        · rw [List.getElem?_set_ne hj] at q4
          exact .inr (.inr ⟨k + 1, o, o', p, by simpa using q1, by simpa using q2, q3, q4, q5, q6⟩)
    · rw [other (fun i z => hn ⟨i, z⟩)] at h
      rcases agOut_at n' hl' h with ⟨q1, q2⟩ | q | ⟨k, o, o', p, q1, q2, q3, q4, q5, q6⟩
      · refine .inl ⟨q1, fun ho k q => ?_⟩
        cases k with
        | zero => simp at q; exact hn ⟨j, q⟩
        | succ k => exact q2 ho k (by simpa using q)
      · exact .inr (.inl q)
      · exact .inr (.inr ⟨k + 1, o, o', p, by simpa using q1, by simpa using q2, q3, q4, q5, q6⟩)
theorem agBor_at : ∀ {as : List Ag} {l : List Sl} {k : Nat} {o : Opr} {s : Sl}, agBor δ as l = false → as[k]? = some (.br o) → l[k]? = some s → ∃ d, o.sl s δ = some (.sh d)
  | [], l, k, o, s, _, h, _ => by simp at h
  | _ :: _, [], k, o, s, _, _, h => by simp at h
  | a :: r, s0 :: l, 0, o, s, h, q1, q2 => by
    simp at q1 q2
    subst q1 q2
    have h' : (match o.sl s0 δ with | some (.sh _) => agBor δ r l | _ => true) = false := h
    split at h'
    · rename_i d e
      exact ⟨d, e⟩
    · cases h'
  | a :: r, s0 :: l, k + 1, o, s, h, q1, q2 => by
    have h' : agBor δ r l = false := by
      cases a with
      | br o2 =>
        have h' : (match o2.sl s0 δ with | some (.sh _) => agBor δ r l | _ => true) = false := h
        split at h'
        · exact h'
        · cases h'
      | _ => exact h
    exact agBor_at h' (by simpa using q1) (by simpa using q2)
theorem cells_at : ∀ {vs : List V} {l : List Sl} {k : Nat} {c : Cell}, (cells vs l)[k]? = some c → ∃ v s, c = (some v, s) ∧ vs[k]? = some v ∧ l[k]? = some s := fun {vs l k c} h => by
  obtain ⟨h1, h2⟩ := List.getElem?_zip_eq_some.mp h
  rw [List.getElem?_map] at h1
  obtain ⟨v, h3, h4⟩ := Option.map_eq_some_iff.mp h1
  obtain ⟨c1, c2⟩ := c
  have h4' : some v = c1 := h4
  exact ⟨v, c2, by rw [← h4'], h3, h2⟩
theorem cells_mk {vs : List V} {l : List Sl} {k : Nat} {v : V} {s : Sl} (h1 : vs[k]? = some v) (h2 : l[k]? = some s) : (cells vs l)[k]? = some (some v, s) :=
  List.getElem?_zip_eq_some.mpr ⟨by rw [List.getElem?_map, h1]; rfl, h2⟩
/-- the state at a call, for the callee, and back -/
theorem SS.called {as : List Ag} {vs : List V} {l ins : List Sl} (s : SS K W H σ δ (π ++ cells vs l)) (lv : vs.length = as.length) (hi : ∀ (k : Nat) (a : Ag) (v : V), as[k]? = some a → vs[k]? = some v → a.is σ v) (nd : (lnsOf as).Nodup) (hin : agIn δ (lnsOf as) as l = some ins) :
    ∃ A F0 : Addr → Prop, StF K ⟨H, F0, A⟩ H (cells vs ins) (fun b => A b ∨ F0 b) ∧
      ∀ (H' : Hp) (ws : List (Option V)) (outs : List Sl) (ρ : List Cell), ws.length = as.length → outs.length = as.length → (agBor δ as l = true → lnAtm as outs = true ∧ ∀ c ∈ ρ, c.2.atm = true) →
        ML.St K ⟨H, F0, A⟩ H' (ws.zip outs ++ ρ) → SS K W H' σ (agOut δ as outs) (π ++ ρ) := by
  obtain ⟨S, x⟩ := s.st
  obtain ⟨li, hat⟩ := agIn_at hin
  have slot : ∀ {j : Nat} {sl : Sl}, δ[j]? = some sl → ∃ w, σ[j]? = some w ∧ (σ.zip δ ++ (π ++ cells vs l))[j]? = some (w, sl) := fun {j sl} q => zipcell s.len q
  have arg : ∀ {k : Nat} {v : V} {sl : Sl}, vs[k]? = some v → l[k]? = some sl → (σ.zip δ ++ (π ++ cells vs l))[(σ.zip δ ++ π).length + k]? = some (some v, sl) := fun {k v sl} h1 h2 => by
    rw [← List.append_assoc, List.getElem?_append_right (by omega), Nat.add_sub_cancel_left]
    exact cells_mk h1 h2
  have hF : ∃ F0 : Addr → Prop, F0 = fun b => ∃ (k i : Nat) (o : Ot), as[k]? = some (Ag.ln i) ∧ δ[i]? = some (Sl.ow o) ∧ b ∈ o.adr := ⟨_, rfl⟩
  obtain ⟨F0, eF⟩ := hF
  have hA : ∃ A : Addr → Prop, A = fun b => S b ∧ ¬ F0 b ∧ (agBor δ as l = true → ¬ ∃ (i : Nat) (v : Option V) (o : Ot), (σ.zip δ ++ (π ++ cells vs l))[i]? = some (v, .ow o) ∧ b ∈ o.adr) := ⟨_, rfl⟩
  obtain ⟨A, eA⟩ := hA
  have f0 : ∀ b, F0 b ↔ ∃ (k i : Nat) (o : Ot), as[k]? = some (Ag.ln i) ∧ δ[i]? = some (Sl.ow o) ∧ b ∈ o.adr := fun b => by rw [eF]
  have a0 : ∀ b, A b ↔ S b ∧ ¬ F0 b ∧ (agBor δ as l = true → ¬ ∃ (i : Nat) (v : Option V) (o : Ot), (σ.zip δ ++ (π ++ cells vs l))[i]? = some (v, .ow o) ∧ b ∈ o.adr) := fun b => by rw [eA]
  have fS : ∀ b, F0 b → S b ∧ (W.F0 b ∨ W.H0 b = none) := fun b hb => by
    obtain ⟨k, i, o, _, q, hb2⟩ := (f0 b).mp hb
    obtain ⟨w, _, q2⟩ := slot q
    exact x.fp i w o b q2 hb2
  have sub : ∀ b, (A b ∨ F0 b) → S b := fun b hb => hb.elim (fun z => ((a0 b).mp z).1) fun z => (fS b z).1
  have ev : Ev S H (fun b => A b ∨ F0 b) H := ⟨fun _ _ q _ => q, fun b hb => .inl (sub b hb)⟩
  -- what comes in
  have inn : ∀ (k : Nat) (c : Cell), (cells vs ins)[k]? = some c → (∃ v d, c = (some v, .sh d) ∧ Rp K (fun b => A b ∨ F0 b) H v d) ∨ (∃ v o i, c = (some v, .ow o) ∧ as[k]? = some (.ln i) ∧ δ[i]? = some (.ow o) ∧ (σ.zip δ ++ (π ++ cells vs l))[i]? = some (some v, .ow o)) := by
    intro k c q
    obtain ⟨v, y, rfl, q1, q2⟩ := cells_at q
    obtain ⟨a, sl, h1, h2, h3⟩ := hat k y q2
    have ia := hi k a v h1 q1
    cases a with
    | pd t =>
      unfold agIn1 at h3
      cases sl with
      | sh d =>
        cases h3
        obtain ⟨u, eu, r⟩ := x.sh _ _ _ (arg q1 h2)
        cases eu
        exact .inl ⟨v, d, rfl, Rp.ev ev d v r⟩
      | _ => cases h3
    | ln i =>
      have h3' : (match δ[i]? with | some (.ow o) => some (Sl.ow o) | some (.sh d) => some (.sh d) | _ => none) = some y := h3
      have ia' : σ[i]? = some (some v) := ia
      split at h3'
      · rename_i o eo
        cases h3'
        obtain ⟨w, w1, w2⟩ := slot eo
        rw [ia'] at w1
        cases w1
        exact .inr ⟨v, o, i, rfl, h1, eo, w2⟩
      · rename_i d ed
        cases h3'
        obtain ⟨w, w1, w2⟩ := slot ed
        rw [ia'] at w1
        cases w1
        obtain ⟨u, eu, r⟩ := x.sh _ _ _ w2
        cases eu
        exact .inl ⟨v, d, rfl, Rp.ev ev d v r⟩
      · cases h3'
    | br o =>
      -- a tree that is looked at stays away from what is lent, and from A
      have tree : ∀ (j : Nat) (w : Option V) (ot o1 : Ot), (σ.zip δ ++ (π ++ cells vs l))[j]? = some (w, .ow ot) → (j < δ.length → j ∉ lnsOf as) → agBor δ as l = true → (∀ b ∈ o1.adr, b ∈ ot.adr) → Ow K S H v o1 → Rp K (fun b => A b ∨ F0 b) H v o1.get := by
        intro j w ot o1 hj nj hb sb ow
        refine Ow.rp o1 v (fun b hb1 z => ?_) sub ow
        rcases z with z | z
        · exact ((a0 b).mp z).2.2 hb ⟨j, w, ot, hj, sb b hb1⟩
        · obtain ⟨k2, i2, o2, g1, g2, g3⟩ := (f0 b).mp z
          obtain ⟨w2, _, g4⟩ := slot g2
          have ne : j ≠ i2 := fun e => by
            subst e
            exact nj (List.getElem?_eq_some_iff.mp g2).1 (lns_mem g1)
          exact x.dj j i2 _ _ _ _ b ne hj g4 (sb b hb1) g3
      have bor : ∀ s1, o.sl sl δ = some s1 → (∀ d, s1 ≠ .sh d) → agBor δ as l = true := fun s1 e1 ns => by
        cases hb : agBor δ as l with
        | true => rfl
        | false =>
          obtain ⟨d, ed⟩ := agBor_at hb h1 h2
          rw [e1] at ed
          cases ed
          exact absurd rfl (ns d)
      -- what the operand holds
      have res : ∃ (idx : Nat) (s1 : Sl) (d : D), o.sl sl δ = some s1 ∧ s1.ra δ = some d ∧ y = .sh d ∧ (σ.zip δ ++ (π ++ cells vs l))[idx]? = some (some v, s1) ∧ (∀ j, o.base δ sl = some j → j ∉ lnsOf as) ∧ (idx < δ.length → (∃ ot, s1 = .ow ot) → o.base δ sl = some idx) ∧ (∀ j ρ p, s1 = .rf j ρ p → o.base δ sl = some j) := by
        have h3' : (match o.base δ sl with | none => (o.fin true sl δ).map Sl.sh | some j => if j ∈ lnsOf as then none else (o.fin true sl δ).map .sh) = some y := h3
        have fin : (o.fin true sl δ).map Sl.sh = some y ∧ ∀ j, o.base δ sl = some j → j ∉ lnsOf as := by
          cases eb : o.base δ sl with
          | none => rw [eb] at h3'; exact ⟨h3', fun j z => nomatch z⟩
          | some j =>
            rw [eb] at h3'
            by_cases hm : j ∈ lnsOf as
            · simp only [if_pos hm] at h3'; cases h3'
            · simp only [if_neg hm] at h3'; exact ⟨h3', fun j' z => by cases z; exact hm⟩
        obtain ⟨d, e1, e2⟩ := Option.map_eq_some_iff.mp fin.1
        cases o with
        | pd t =>
          refine ⟨_, sl, d, rfl, e1, e2.symm, arg q1 h2, fin.2, fun hlt ⟨ot, e⟩ => ?_, fun j ρ p e => by subst e; rfl⟩
          exfalso
          have : δ.length ≤ (σ.zip δ ++ π).length + k := by rw [List.length_append, zip_length s.len]; omega
          omega
        | pk i =>
          have e1' : (δ[i]?).bind (Sl.read true δ) = some d := e1
          obtain ⟨s1, g1, g2⟩ := Option.bind_eq_some_iff.mp e1'
          obtain ⟨w, w1, w2⟩ := slot g1
          have ia' : σ[i]? = some (some v) := ia
          rw [ia'] at w1
          cases w1
          refine ⟨i, s1, d, g1, g2, e2.symm, w2, fin.2, fun _ ⟨ot, e⟩ => ?_, fun j ρ p e => ?_⟩
          · show (match δ[i]? with | some (.ow _) => some i | some (.rf j _ _) => some j | _ => none) = some i
            rw [g1, e]
          · show (match δ[i]? with | some (.ow _) => some i | some (.rf j _ _) => some j | _ => none) = some j
            rw [g1, e]
      obtain ⟨idx, s1, d, r1, r2, rfl, r3, r4, r5, r6⟩ := res
      refine .inl ⟨v, d, rfl, ?_⟩
      cases s1 with
      | un => cases r2
      | sh d' =>
        cases r2
        obtain ⟨u, eu, r⟩ := x.sh _ _ _ r3
        cases eu
        exact Rp.ev ev d v r
      | ow ot =>
        cases r2
        obtain ⟨u, eu, w⟩ := x.ow _ _ _ r3
        cases eu
        exact tree idx _ ot ot r3 (fun hlt => r4 idx (r5 hlt ⟨ot, rfl⟩)) (bor _ r1 (fun _ z => nomatch z)) (fun b hb => hb) w
      | rf j ρ p =>
        obtain ⟨o1, g1, g2⟩ := Option.map_eq_some_iff.mp (show (ML.plc δ j ρ p).map Ot.get = some d from r2)
        have ow := StF.plc s.len x g1
        have ev := x.rf _ _ _ _ _ r3
        cases ev
        obtain ⟨ot, k1, k2, k3⟩ := plc_some g1
        obtain ⟨w, w1, w2⟩ := slot k1
        rw [← g2]
        exact tree j _ ot o1 w2 (fun _ => r4 j (r6 j ρ p rfl)) (bor _ r1 (fun _ z => nomatch z)) (Ot.adr_at k2) ow
  refine ⟨A, F0, ⟨fun b hb => ⟨x.trk b ((a0 b).mp hb).1, ((a0 b).mp hb).2.1⟩, fun b hb => x.trk b (sub b hb), fun b hb => .inl hb, fun b o q _ => q, fun b q => q, fun k v d q => ?_, fun k v o q => ?_, fun k v j ρ p q => ?_, fun k v o b q hb => ?_, fun k j v o w p b ne q1 q2 hb => ?_, fun k v o q => ?_⟩, ?_⟩
  · rcases inn k _ q with ⟨v, d, e, r⟩ | ⟨v, o, i, e, _⟩
    · cases e; exact ⟨v, rfl, r⟩
    · cases e
  · rcases inn k _ q with ⟨v, d, e, r⟩ | ⟨v, o, i, e, _, _, q3⟩
    · cases e
    · cases e
      obtain ⟨u, eu, w⟩ := x.ow _ _ _ q3
      cases eu
      exact ⟨v, rfl, Ow.ev ev o v (fun _ _ _ z => z) w⟩
  · rcases inn k _ q with ⟨v, d, e, r⟩ | ⟨v, o, i, e, _⟩ <;> cases e
  · rcases inn k _ q with ⟨v, d, e, r⟩ | ⟨v, o, i, e, h1, h2, q3⟩
    · cases e
    · cases e
      have : F0 b := (f0 b).mpr ⟨k, i, o, h1, h2, hb⟩
      exact ⟨.inr this, .inl this⟩
  · rcases inn k _ q1 with ⟨_, d, e, r⟩ | ⟨v1, o1, i1, e, h1, h2, q3⟩
    · cases e
    · cases e
      rcases inn j _ q2 with ⟨_, d, e, r⟩ | ⟨v2, o2, i2, e, h3, h4, q4⟩
      · cases e
      · cases e
        have ni : i1 ≠ i2 := fun e => by
          subst e
          exact ne (lns_one nd h1 h3)
        exact x.dj i1 i2 _ _ _ _ b ni q3 q4 hb
  · rcases inn k _ q with ⟨v, d, e, r⟩ | ⟨v, o, i, e, _, _, q3⟩
    · cases e
    · cases e
      exact x.nd _ _ _ q3
  · intro H' ws outs ρ lw lo hb ⟨S', y⟩
    have hlen := agOut_len (as := as) (outs := outs) (δ := δ)
    refine ⟨by rw [hlen]; exact s.len, ?_⟩
    have lz : (σ.zip (agOut δ as outs)).length = δ.length := by rw [zip_length (by rw [hlen]; exact s.len), hlen]
    have lz0 := zip_length s.len
    open Classical in
    refine StF.merge x y (fun b hb => fS b hb) (cs' := σ.zip (agOut δ as outs) ++ (π ++ ρ))
      (fun j => if j < δ.length then (if h : ∃ k : Nat, as[k]? = some (Ag.ln j) ∧ ∃ o, δ[j]? = some (Sl.ow o) then .inr h.choose else .inl j) else if j < (δ.length + π.length) then .inl j else .inr ((ws.zip outs).length + (j - (δ.length + π.length)))) (fun j c q => ?_) (fun i j ne eq v o w p q1 q2 => ?_)
    · by_cases hj : j < δ.length
      · simp only [if_pos hj]
        rw [List.getElem?_append_left (by rw [lz]; exact hj)] at q
        obtain ⟨q1, q2⟩ := List.getElem?_zip_eq_some.mp q
        obtain ⟨c1, c2⟩ := c
        rcases agOut_at nd lo q2 with ⟨g1, g2⟩ | g | ⟨k, o, o', p, g1, g2, g3, g4, g5, g6⟩
        · obtain ⟨w, w1, w2⟩ := slot g1
          rw [q1] at w1
          cases w1
          by_cases hk : ∃ k : Nat, as[k]? = some (Ag.ln j) ∧ ∃ o, δ[j]? = some (Sl.ow o)
          · obtain ⟨k, k1, o, k2⟩ := hk
            exfalso
            rw [g1] at k2
            cases k2
            exact g2 ⟨o, rfl⟩ k k1
          · refine .inr (.inl ⟨j, by rw [dif_neg hk], w2, fun o ho b hb1 z => ?_⟩)
            obtain ⟨k, i, o2, z1, z2, z3⟩ := (f0 b).mp z
            obtain ⟨w', _, z4⟩ := slot z2
            have ho' : c2 = .ow o := ho
            subst ho'
            have ni : j ≠ i := fun e => by
              subst e
              exact g2 ⟨o, rfl⟩ k z1
            exact x.dj j i _ _ _ _ b ni w2 z4 hb1 z3
        · exact .inl g
        · have hk : ∃ k : Nat, as[k]? = some (Ag.ln j) ∧ ∃ o, δ[j]? = some (Sl.ow o) := ⟨k, g1, o, g4⟩
          refine .inr (.inr ⟨hk.choose, by rw [dif_pos hk], ?_, ?_⟩)
          · have ek : hk.choose = k := lns_one nd hk.choose_spec.1 g1
            rw [ek]
            have hkl : k < ws.length := by rw [lw]; exact (List.getElem?_eq_some_iff.mp g1).1
            have e1 : (ws.zip outs ++ ρ)[k]? = some (ws[k], .ow o') := by
              rw [List.getElem?_append_left (by rw [List.length_zip, lw, lo, Nat.min_self, ← lw]; exact hkl)]
              exact List.getElem?_zip_eq_some.mpr ⟨List.getElem?_eq_getElem hkl, g2⟩
            obtain ⟨u, eu, wu⟩ := y.ow _ _ _ e1
            have eu2 := wu.root g5
            obtain ⟨w, w1, w2⟩ := slot g4
            obtain ⟨u3, eu3, wu3⟩ := x.ow _ _ _ w2
            have eu4 := wu3.root g6
            rw [q1] at w1
            cases w1
            have g3' : c2 = .ow o' := g3
            have eu3' : c1 = some u3 := eu3
            rw [e1, eu, g3', eu3', eu2, eu4]
          · cases hbr : agBor δ as l with
            | false => exact .inl fun b h1 h2 => (a0 b).mpr ⟨h1, h2, fun z => by rw [hbr] at z; cases z⟩
            | true =>
              refine .inr (Sl.atoms_of ?_)
              have g3' : c2 = .ow o' := g3
              show Sl.atm c2 = true
              rw [g3']
              exact lnAtm_at (hb hbr).1 g1 g2
      · simp only [if_neg hj]
        rw [List.getElem?_append_right (by rw [lz]; omega), lz] at q
        by_cases hp : j < δ.length + π.length
        · simp only [if_pos hp]
          rw [List.getElem?_append_left (by omega)] at q
          have w2 : (σ.zip δ ++ (π ++ cells vs l))[j]? = some c := by
            rw [List.getElem?_append_right (by rw [lz0]; omega), lz0, List.getElem?_append_left (by omega)]
            exact q
          refine .inr (.inl ⟨j, rfl, w2, fun o ho b hb1 z => ?_⟩)
          obtain ⟨k, i, o2, z1, z2, z3⟩ := (f0 b).mp z
          obtain ⟨w', _, z4⟩ := slot z2
          obtain ⟨c1, c2⟩ := c
          have ho' : c2 = .ow o := ho
          subst ho'
          have hi2 := (List.getElem?_eq_some_iff.mp z2).1
          exact x.dj j i _ _ _ _ b (by omega) w2 z4 hb1 z3
        · simp only [if_neg hp]
          rw [List.getElem?_append_right (by omega)] at q
          refine .inr (.inr ⟨_, rfl, ?_, ?_⟩)
          · rw [List.getElem?_append_right (by omega), Nat.add_sub_cancel_left, ← q]
            congr 1
            omega
          · cases hbr : agBor δ as l with
            | false => exact .inl fun b h1 h2 => (a0 b).mpr ⟨h1, h2, fun z => by rw [hbr] at z; cases z⟩
            | true => exact .inr (Sl.atoms_of ((hb hbr).2 c (List.mem_of_getElem? q)))
    · -- different places come from different cells
      have lzz : (ws.zip outs).length = as.length := by rw [List.length_zip, lw, lo, Nat.min_self]
      by_cases hi' : i < δ.length
      · simp only [if_pos hi'] at eq
        by_cases hki : ∃ k : Nat, as[k]? = some (Ag.ln i) ∧ ∃ o, δ[i]? = some (Sl.ow o)
        · rw [dif_pos hki] at eq
          have ksi := hki.choose_spec.1
          have kl := (List.getElem?_eq_some_iff.mp ksi).1
          by_cases hj' : j < δ.length
          · simp only [if_pos hj'] at eq
            by_cases hkj : ∃ k : Nat, as[k]? = some (Ag.ln j) ∧ ∃ o, δ[j]? = some (Sl.ow o)
            · rw [dif_pos hkj] at eq
              have ksj := hkj.choose_spec.1
              injection eq with eq
              rw [eq, ksj] at ksi
              injection ksi with ksi
              injection ksi with ksi
              exact ne ksi.symm
            · rw [dif_neg hkj] at eq
              cases eq
          · simp only [if_neg hj'] at eq
            by_cases hp : j < δ.length + π.length
            · simp only [if_pos hp] at eq; cases eq
            · simp only [if_neg hp] at eq
              injection eq with eq
              omega
        · rw [dif_neg hki] at eq
          by_cases hj' : j < δ.length
          · simp only [if_pos hj'] at eq
            by_cases hkj : ∃ k : Nat, as[k]? = some (Ag.ln j) ∧ ∃ o, δ[j]? = some (Sl.ow o)
            · rw [dif_pos hkj] at eq; cases eq
            · rw [dif_neg hkj] at eq
              injection eq with eq
              exact ne eq
          · simp only [if_neg hj'] at eq
            by_cases hp : j < δ.length + π.length
            · simp only [if_pos hp] at eq
              injection eq with eq
              exact ne eq
            · simp only [if_neg hp] at eq; cases eq
      · simp only [if_neg hi'] at eq
        by_cases hpi : i < δ.length + π.length
        · simp only [if_pos hpi] at eq
          by_cases hj' : j < δ.length
          · simp only [if_pos hj'] at eq
            by_cases hkj : ∃ k : Nat, as[k]? = some (Ag.ln j) ∧ ∃ o, δ[j]? = some (Sl.ow o)
            · rw [dif_pos hkj] at eq; cases eq
            · rw [dif_neg hkj] at eq
              injection eq with eq
              exact ne eq
          · simp only [if_neg hj'] at eq
            by_cases hp : j < δ.length + π.length
            · simp only [if_pos hp] at eq
              injection eq with eq
              exact ne eq
            · simp only [if_neg hp] at eq; cases eq
        · simp only [if_neg hpi] at eq
          by_cases hj' : j < δ.length
          · simp only [if_pos hj'] at eq
            by_cases hkj : ∃ k : Nat, as[k]? = some (Ag.ln j) ∧ ∃ o, δ[j]? = some (Sl.ow o)
            · rw [dif_pos hkj] at eq
              have ksj := hkj.choose_spec.1
              have kl := (List.getElem?_eq_some_iff.mp ksj).1
              injection eq with eq
              omega
            · rw [dif_neg hkj] at eq; cases eq
          · simp only [if_neg hj'] at eq
            by_cases hp : j < δ.length + π.length
            · simp only [if_pos hp] at eq; cases eq
            · simp only [if_neg hp] at eq
              injection eq with eq
              omega
end
end ML

/-! ## M7 -/
set_option Elab.async false
set_option linter.all false
set_option autoImplicit false
set_option maxRecDepth 100000
set_option maxHeartbeats 4000000
namespace ML
open PySem PySem.Spec PyProof.Rows L2

/-- a def's call -/
def vCal (sem : SemG) (as : List Ag) : VT := fun δ Q Xc => agEv as δ (fun l δ1 => ∃ ins, agIn δ1 (lnsOf as) as l = some ins ∧
  sem ins (fun rv outs => (agBor δ1 as l = true → lnAtm as outs = true ∧ rv.atm = true) ∧ Q rv (agOut δ1 as outs)) (fun x outs => (agBor δ1 as l = true → lnAtm as outs = true ∧ x.vals.all atom = true) ∧ Xc x (agOut δ1 as outs))) Xc
section
variable {X : Cx} {W : Wd} {wx : WX} {K : PySem.W.Frag} {H H' : Hp} {σ : L2.St} {δ δ' : List Sl} {π : List Cell} {e a b c : Expr} {es : List Expr} {t u : VT} {ts : VTs} {pos : Pos} {S S' : Addr → Prop} {cs cs' : List Cell}
theorem shs_atm {us : List V} {ds : List D} (h : ds.all atom = true) : ∀ c ∈ shs us ds, c.2.atm = true := fun c hc => by
  obtain ⟨i, hi⟩ := List.getElem?_of_mem hc
  obtain ⟨v, d, rfl, _, hd⟩ := shs_get hi
  rw [List.all_eq_true] at h
  exact h d (List.mem_of_getElem? hd)
theorem call_run {k n : Nat} {sem : SemG} {as : List Ag} {Q : VK} {f : Addr} (hlen : as.length = n) (nd : (lnsOf as).Nodup) (h : lE K W wx (vCal sem as) σ H Q) : lAg K W wx as σ H fun vs H1 => spG K n sem vs H1 Q (WE wx σ) := by
  obtain ⟨δ, π, Qd, Xd, s, h, kk, xr⟩ := h
  refine ⟨δ, π, _, Xd, s, h, fun l δ' q vs H1 l1 l2 i s' => ?_, xr⟩
  obtain ⟨ins, hin, q⟩ := q
  obtain ⟨A, F0, x, back⟩ := s'.called l1 i nd hin
  have li := (agIn_at hin).1
  refine ⟨A, F0, ins, _, _, by rw [l1, hlen], by rw [li, hlen], x, q, fun rv outs z v H2 ws lw lo y => ?_, fun x outs z d H2 us ws lw lo y lu ds => ?_⟩
  · refine kk _ _ z.2 _ _ (back H2 ws outs [(some v, rv)] (by rw [lw, hlen]) (by rw [lo, hlen]) (fun hb => ⟨(z.1 hb).1, fun c hc => ?_⟩) y)
    rw [List.mem_singleton] at hc
    rw [hc]
    exact (z.1 hb).2
  · exact xr x _ z.2 d H2 us (back H2 ws outs (shs us x.vals) (by rw [lw, hlen]) (by rw [lo, hlen]) (fun hb => ⟨(z.1 hb).1, shs_atm (z.1 hb).2⟩) y) lu ds
theorem ve_cal {x : Str} {k n : Nat} {sem : SemG} {as : List Ag} {p : Pos} (G : FnG X.prog X.w X.K X.mg X.base k x n sem) (hr : Room k X.A) (tk : Takes X wx) (ha : VAg X W wx (e :: es) as) (hn : (e :: es).length = n) (nd : (lnsOf as).Nodup) (hg : Gl X x := by rfl)
    (hdb : (x == ("__debug__" : Str)) = false := by decide) (he : starEach (e :: es) X.env = (false, eval e X.env) :: starEach es X.env := by rfl) (hpl : (backTo pos (starEach es X.env)).any (·.1) = false := by rfl) : VE X W wx (.Call (.Name x p) (e :: es) [] pos) (vCal sem as) := by
  obtain ⟨f, fd, ps, F, hm, hk, hb⟩ := G.ex
  exact ⟨PE.imp (pe_callS (E := WE wx) F hr hg hm hk hb (fun σ => passAt tk σ) ha.pa hdb he hpl) fun σ H Q h => call_run (k := k) (f := f) (by rw [← ha.len, hn]) nd h⟩
/-- .. without arguments -/
theorem ve_cal0 {x : Str} {k : Nat} {sem : SemG} {p : Pos} (G : FnG X.prog X.w X.K X.mg X.base k x 0 sem) (hr : Room k X.A) (tk : Takes X wx) (hg : Gl X x := by rfl) (hdb : (x == ("__debug__" : Str)) = false := by decide) : VE X W wx (.Call (.Name x p) [] [] pos) (vCal sem []) := by
  obtain ⟨f, fd, ps, F, hm, hk, hb⟩ := G.ex
  refine ⟨⟨fun pins sh σ H Q I h => ?_⟩⟩
  refine wpAny_Call_Name_kw (ld_glob I hg hm ?_ hdb)
  obtain ⟨δ, π, Qd, Xd, s, h, kk, xr⟩ := call_run (k := k) (f := f) (n := 0) (as := []) rfl List.nodup_nil h
  have h' := kk _ _ h [] H rfl rfl (fun k a v q => by simp at q) (by rw [show cells [] [] = [] from rfl, List.append_nil]; exact s)
  exact PySem.W.callWith_K0 I.kIn hk (run_fnS (E := WE wx) (us := []) F hr hb (passAt tk σ) I .nil h')

/-! ### a def's body -/
def ini (m : Nat) (ins : List Sl) : List Sl := ins ++ List.replicate (m - ins.length) Sl.un
/-- the first n places -/
def fst (n : Nat) (δ : List Sl) : List Sl := (δ ++ List.replicate n Sl.un).take n
def enG (n : Nat) (Qd : Sl → List Sl → Prop) (Xd : Exn → List Sl → Prop) : En := ⟨fun δ => Qd (.sh .none) (fst n δ), fun rv δ => Qd rv (fst n δ), fun _ => False, fun _ => False, fun x δ => Xd x (fst n δ)⟩
theorem zip_iniG {N : List Str} {vs : List V} {ins : List Sl} {n : Nat} (h1 : vs.length = n) (h2 : ins.length = n) : (L2.start N vs).zip (ini N.length ins) = cells vs ins ++ List.replicate (N.length - n) (none, Sl.un) := by
  unfold L2.start ini
  rw [List.zip_append (by rw [List.length_map, h1, h2]), h1, h2, List.zip_replicate, Nat.min_self]
theorem st_iniG {N : List Str} {vs : List V} {ins : List Sl} {n : Nat} {W : Wd} {S : Addr → Prop} (h1 : vs.length = n) (h2 : ins.length = n) (x : StF K W H (cells vs ins) S) : SS K W H (L2.start N vs) (ini N.length ins) [] := by
  refine ⟨by unfold L2.start ini; rw [List.length_append, List.length_append, List.length_map, List.length_replicate, List.length_replicate, h1, h2], S, ?_⟩
  rw [List.append_nil, zip_iniG h1 h2]
  have more : ∀ m (cs : List Cell), StF K W H cs S → StF K W H (cs ++ List.replicate m (none, Sl.un)) S := by
    intro m
    induction m with
    | zero => intro cs z; rw [List.replicate_zero, List.append_nil]; exact z
    | succ m ih =>
      intro cs z
      rw [List.replicate_succ, List.append_cons]
      exact ih _ z.blank
  exact more _ _ x
/-- what is left of the parameters, and what comes back -/
theorem SS.outs (n : Nat) {ρ : List Cell} (s : SS K W H σ δ ρ) : ∃ ws : List (Option V), ws.length = n ∧ (fst n δ).length = n ∧ ML.St K W H (ws.zip (fst n δ) ++ ρ) := by
  refine ⟨(σ ++ List.replicate n none).take n, by rw [List.length_take, List.length_append, List.length_replicate]; omega, by unfold fst; rw [List.length_take, List.length_append, List.length_replicate]; omega, ?_⟩
  obtain ⟨S, x⟩ := s.st
  have e : ((σ ++ List.replicate n none).take n).zip (fst n δ) = ((σ.zip δ) ++ List.replicate n (none, Sl.un)).take n := by
    unfold fst
    have tz : ∀ (n : Nat) (a : List (Option V)) (b : List Sl), (a.take n).zip (b.take n) = (a.zip b).take n := by
      intro n
      induction n with
      | zero => intro a b; simp
      | succ n ih =>
        intro a b
        cases a with
        | nil => simp
        | cons x a =>
          cases b with
          | nil => simp
          | cons y b => simp [ih]
    rw [tz, List.zip_append s.len, List.zip_replicate, Nat.min_self]
  rw [e]
  have lt : (((σ.zip δ) ++ List.replicate n (none, Sl.un)).take n).length = n := by rw [List.length_take, List.length_append, List.length_replicate]; omega
  refine ⟨S, x.re (cs' := ((σ.zip δ) ++ List.replicate n (none, Sl.un)).take n ++ ρ) (fun i => if i < n then i else i - n + (σ.zip δ).length) (fun i c q => ?_) (fun i j ne q v o w p q1 q2 => ?_)⟩
  · by_cases hi : i < n
    · rw [if_pos hi]
      rw [List.getElem?_append_left (by rw [lt]; exact hi), List.getElem?_take_of_lt hi] at q
      by_cases hz : i < (σ.zip δ).length
      · rw [List.getElem?_append_left hz] at q
        rw [List.getElem?_append_left hz]
        exact .inr q
      · rw [List.getElem?_append_right (by omega)] at q
        have := List.mem_of_getElem? q
        rw [List.mem_replicate] at this
        rw [this.2]
        exact .inl rfl
    · rw [if_neg hi]
      rw [List.getElem?_append_right (by rw [lt]; omega), lt] at q
      rw [List.getElem?_append_right (by omega), Nat.add_sub_cancel]
      exact .inr q
  · have own : ∀ {i : Nat} {v : Option V} {o : Ot}, i < n → (((σ.zip δ) ++ List.replicate n (none, Sl.un)).take n ++ ρ)[i]? = some (v, .ow o) → i < (σ.zip δ).length := fun {i v o} hi q => by
      rw [List.getElem?_append_left (by rw [lt]; exact hi), List.getElem?_take_of_lt hi] at q
      by_cases hz : i < (σ.zip δ).length
      · exact hz
      · rw [List.getElem?_append_right (by omega)] at q
        have := List.mem_of_getElem? q
        rw [List.mem_replicate] at this
        cases this.2
    by_cases h1 : i < n
    · by_cases h2 : j < n
      · rw [if_pos h1, if_pos h2] at q; exact ne q
      · rw [if_pos h1, if_neg h2] at q
        have := own h1 q1
        omega
    · by_cases h2 : j < n
      · rw [if_neg h1, if_pos h2] at q
        have := own h2 q2
        omega
      · rw [if_neg h1, if_neg h2] at q; omega
end
section
variable {P : Program} {w : World} {K : PySem.W.Frag} {mg : Str → Option Value} {base : Heap}
theorem okC {x qual : Str} {st : Stmt} {f : Addr} {fd : FuncData} {N ps : List Str} {k : Nat} {sp : Sp} (F : Fun K x qual st f fd) (S : FnScope N ps (defScope st)) (len : ∀ vs H Q E, sp vs H Q E → vs.length = ps.length)
    (body : ∀ (cdv : Value), PySem.W.codeIn K cdv qual = true → ∀ (A : Around) (outer : List Env) (s : Shared) (H : Hp) (vs : List V) (Q : VK) (E : XK), Room k (A.deeper (envOfC qual (defScope st) s.heap.objs.size f cdv)) → sp vs H Q E →
      ∃ t, PSs (cxOf (L2.CX P w) P w K mg base N qual (defScope st) f cdv A outer s H E) (defBody st) t ∧ t { nx := fun _ H' => Q .non H', rt := Q } (start N vs) H) : FnOk P w K mg base (L2.CX P w) (k + 1) f fd ps sp := by
  obtain ⟨_, _, _, _, _, _, cdv, _, _, rfl, lk, hcd⟩ := F.ex
  exact fn_of lk hcd S len fun A outer s H vs Q E hr hsp => body cdv hcd A outer s H vs Q E hr hsp
theorem kds_of {cd : Value} {q : Str} (h : PySem.W.codeIn K cd q = true) : PySem.W.kdsCode K cd = true := by
  unfold PySem.W.codeIn at h
  unfold PySem.W.kdsCode
  split at h
  · split at h
    · rename_i e
      simp only [e]
    · cases h
  · cases h
theorem fn_g {x qual : Str} {st : Stmt} {f : Addr} {fd : FuncData} {N ps : List Str} {k n : Nat} {sem : SemG} {t : VSt} (F : Fun K x qual st f fd) (S : FnScope N ps (defScope st)) (hn : ps.length = n)
    (der : ∀ (cdv : Value), PySem.W.codeIn K cdv qual = true → ∀ (A : Around) (outer : List Env) (s : Shared) (H : Hp) (E : XK) (W : Wd) (wx : WX), Room k (A.deeper (envOfC qual (defScope st) s.heap.objs.size f cdv)) →
      Takes (cxOf (L2.CX P w) P w K mg base N qual (defScope st) f cdv A outer s H E) wx → PassesOwn (model P w) (A.deeper (envOfC qual (defScope st) s.heap.objs.size f cdv)) (envOfC qual (defScope st) s.heap.objs.size f cdv) (cxOf (L2.CX P w) P w K mg base N qual (defScope st) f cdv A outer s H E).xe →
      VSs (cxOf (L2.CX P w) P w K mg base N qual (defScope st) f cdv A outer s H E) W wx (defBody st) t)
    (hsem : ∀ ins Qd Xd, ins.length = n → sem ins Qd Xd → t (enG n Qd Xd) (ini N.length ins)) : FnOk P w K mg base (L2.CX P w) (k + 1) f fd ps (spG K n sem) := by
  have hpl : n ≤ N.length := by
    have := congrArg List.length S.pre
    rw [List.length_take, hn] at this
    omega
  refine okC F S (fun vs H Q E h => ?_) (fun cdv hcd A outer s H vs Q E hr h => ?_)
  · obtain ⟨A, F0, ins, Qd, Xd, h1, _⟩ := h
    rw [h1, hn]
  · obtain ⟨Av, F0, ins, Qd, Xd, h1, h2, h3, h4, h5, h6⟩ := h
    refine ⟨_, (der cdv hcd A outer s H E ⟨H, F0, Av⟩ (fun cls d _ H => E cls d H) hr (takes_of rfl rfl rfl rfl) (passes_of rfl)).ps, ?_⟩
    refine ⟨_, [], _, st_iniG h1 h2 h3, hsem ins Qd Xd h2 h4, ⟨fun δ' q σ' H' s' => ?_, fun rv δ' q v σ' H' s' => ?_, fun _ q => q.elim, fun _ q => q.elim, fun σ x δ' q d H' us s' l ds' => ?_⟩⟩
    · obtain ⟨ws, l1, l2, y⟩ := (s'.push (v := .non) (d := .none) fun _ => .non).outs n
      exact h5 _ _ q .non H' _ l1 l2 y
    · obtain ⟨ws, l1, l2, y⟩ := s'.outs n
      exact h5 rv _ q v H' _ l1 l2 y
    · obtain ⟨ws, l1, l2, y⟩ := s'.outs n
      exact h6 x _ q d H' us _ l1 l2 y l ds'
end
end ML

/-! ## M8 -/
set_option Elab.async false
set_option linter.all false
set_option autoImplicit false
set_option maxRecDepth 100000
set_option maxHeartbeats 4000000
namespace ML
open PySem PySem.Spec PyProof.Rows L2

/-- how an iterator goes over the data its, while the cells ν wait -/
structure ItOk (K : PySem.W.Frag) (W : Wd) (J : It) (its : List D) (ν : List Cell) : Prop where
  stop : ∀ σ δ H π ρ (i : Nat), SS K W H σ δ (π ++ ν ++ ρ) → its.length ≤ i → J.stop i H
  go : ∀ σ δ H π ρ (i : Nat) d, SS K W H σ δ (π ++ ν ++ ρ) → its[i]? = some d → J.go i H ∧ ∀ x H', J.yld i H x H' → SS K W H' σ δ (π ++ ν ++ ρ ++ [(some x, .sh d)])
def lI (K : PySem.W.Frag) (W : Wd) (wx : WX) (t : VTs) : TI := fun σ H R => ∃ δ π Qd Xd, SS K W H σ δ π ∧ t δ Qd Xd ∧
  (∀ its δ', Qd its δ' → ∀ J ν H', SS K W H' σ δ' (π ++ ν) → ItOk K W J its ν → R J H') ∧ XR K W wx σ π Xd
structure VI (X : Cx) (W : Wd) (wx : WX) (tg iter : Expr) (t : VTs) : Prop where
  pi : PI X tg iter (lI X.K W wx t)

section
variable {X : Cx} {W : Wd} {wx : WX} {K : PySem.W.Frag} {H H' : Hp} {σ : L2.St} {δ δ' : List Sl} {π ν ρ : List Cell} {e a b c tg iter : Expr} {es : List Expr} {t u : VT} {ts : VTs} {pos p : Pos}
theorem PI.imp {t t' : TI} (h : PI X tg iter t) (i : ∀ σ H Q, t' σ H Q → t σ H Q) : PI X tg iter t' := ⟨fun pins s σ H Q I q => h.run pins s σ H Q I (i σ H Q q)⟩
/-- a cell that waits in the middle -/
theorem SS.at {v : V} {d : D} (s : SS K W H σ δ (π ++ (some v, .sh d) :: ν ++ ρ)) : ∃ S, StF K W H (σ.zip δ ++ (π ++ (some v, .sh d) :: ν ++ ρ)) S ∧ Rp K S H v d := by
  obtain ⟨S, x⟩ := s.st
  have e : (σ.zip δ ++ (π ++ (some v, Sl.sh d) :: ν ++ ρ))[(σ.zip δ).length + π.length]? = some (some v, Sl.sh d) := by
    rw [List.getElem?_append_right (by omega), Nat.add_sub_cancel_left, List.append_assoc, List.getElem?_append_right (Nat.le_refl _), Nat.sub_self]
    rfl
  obtain ⟨u, eu, r⟩ := x.sh _ _ _ e
  cases eu
  exact ⟨S, x, r⟩
def iL (t : VT) : VTs := fun δ Q Xc => vS t δ (fun rv δ' => ∃ ds, rv = .sh (.list ds) ∧ Q ds δ') Xc
def iT (t : VT) : VTs := fun δ Q Xc => vS t δ (fun rv δ' => ∃ ds, rv = .sh (.tuple ds) ∧ Q ds δ') Xc
theorem SS.list {ds : List D} {v : V} (s : SS K W H σ δ (π ++ [(some v, .sh (.list ds))])) : ∃ a xs, v = .ref a ∧ SqL K H a xs := by
  obtain ⟨S, x, r⟩ := SS.at (ν := []) (ρ := []) (by rw [List.append_nil]; exact s)
  cases r with
  | lst h1 h2 => exact ⟨_, _, rfl, h1.sq⟩
theorem SS.tuple {ds : List D} {v : V} (s : SS K W H σ δ (π ++ [(some v, .sh (.tuple ds))])) : ∃ a xs, v = .ref a ∧ SqT K H a xs := by
  obtain ⟨S, x, r⟩ := SS.at (ν := []) (ρ := []) (by rw [List.append_nil]; exact s)
  cases r with
  | tup h1 h2 => exact ⟨_, _, rfl, h1.sq⟩
theorem itok_list {a : Addr} {ds : List D} : ItOk K W (Itl K a) ds [(some (.ref a), .sh (.list ds))] where
  stop := fun σ δ H π ρ i s hi => by
    obtain ⟨S, x, r⟩ := s.at
    cases r with
    | lst h1 h2 => exact ⟨_, h1.sq, by rw [h2.length]; exact hi⟩
  go := fun σ δ H π ρ i d s hd => by
    obtain ⟨S, x, r⟩ := s.at
    cases r with
    | lst h1 h2 =>
      obtain ⟨v, hv, rv⟩ := h2.get hd
      refine ⟨⟨_, v, h1.sq, hv⟩, fun y H' hy => ?_⟩
      obtain ⟨rfl, hy⟩ := hy
      rw [hy _ h1.sq] at hv
      cases hv
      exact s.pushF x rv
theorem itok_tup {a : Addr} {ds : List D} : ItOk K W (Itt K a) ds [(some (.ref a), .sh (.tuple ds))] where
  stop := fun σ δ H π ρ i s hi => by
    obtain ⟨S, x, r⟩ := s.at
    cases r with
    | tup h1 h2 => exact ⟨_, h1.sq, by rw [h2.length]; exact hi⟩
  go := fun σ δ H π ρ i d s hd => by
    obtain ⟨S, x, r⟩ := s.at
    cases r with
    | tup h1 h2 =>
      obtain ⟨v, hv, rv⟩ := h2.get hd
      refine ⟨⟨_, v, h1.sq, hv⟩, fun y H' hy => ?_⟩
      obtain ⟨rfl, hy⟩ := hy
      rw [hy _ h1.sq] at hv
      cases hv
      exact s.pushF x rv
theorem vi_list (he : VE X W wx e t) : VI X W wx tg e (iL t) :=
  ⟨PI.imp (pi_list he.pe) fun σ H R ⟨δ, π, Qd, Xd, s, h, k, xr⟩ => ⟨δ, π, _, Xd, s, h, fun rv δ' q v H' s' => by
    obtain ⟨q1, ds, q2, q⟩ := q
    have s2 := s'.shr q1
    rw [q2] at s2
    obtain ⟨a, xs, rfl, hl⟩ := s2.list
    exact ⟨a, rfl, ⟨xs, hl⟩, k _ _ q _ _ _ s2 itok_list⟩, xr⟩⟩
theorem vi_tup (he : VE X W wx e t) : VI X W wx tg e (iT t) :=
  ⟨PI.imp (pi_tup he.pe) fun σ H R ⟨δ, π, Qd, Xd, s, h, k, xr⟩ => ⟨δ, π, _, Xd, s, h, fun rv δ' q v H' s' => by
    obtain ⟨q1, ds, q2, q⟩ := q
    have s2 := s'.shr q1
    rw [q2] at s2
    obtain ⟨a, xs, rfl, hl⟩ := s2.tuple
    exact ⟨a, rfl, ⟨xs, hl⟩, k _ _ q _ _ _ s2 itok_tup⟩, xr⟩⟩
/-- a locked list is walked -/
def iK (t : VT) : VTs := fun δ Q Xc => vS t δ (fun rv δ' => ∃ ds, rv = .sh (lkD ds) ∧ Q ds δ') Xc
theorem itok_lck {a : Addr} {ds : List D} : ItOk K W (Itl K a) ds [(some (.ref a), .sh (lkD ds))] where
  stop := fun σ δ H π ρ i s hi => by
    obtain ⟨S, x, r⟩ := s.at
    obtain ⟨p, xs, e, h1, h2⟩ := Rq.lck (.inl r)
    cases e
    exact ⟨_, h1, by rw [Rps.length h2]; exact hi⟩
  go := fun σ δ H π ρ i d s hd => by
    obtain ⟨S, x, r⟩ := s.at
    obtain ⟨p, xs, e, h1, h2⟩ := Rq.lck (.inl r)
    cases e
    obtain ⟨v, hv, rv⟩ := h2.get hd
    refine ⟨⟨_, v, h1, hv⟩, fun y H' hy => ?_⟩
    obtain ⟨rfl, hy⟩ := hy
    rw [hy _ h1] at hv
    cases hv
    exact s.pushF x rv
theorem vi_lck (he : VE X W wx e t) : VI X W wx tg e (iK t) :=
  ⟨PI.imp (pi_list he.pe) fun σ H R ⟨δ, π, Qd, Xd, s, h, k, xr⟩ => ⟨δ, π, _, Xd, s, h, fun rv δ' q v H' s' => by
    obtain ⟨q1, ds, q2, q⟩ := q
    have s2 := s'.shr q1
    rw [q2] at s2
    obtain ⟨S, x, r⟩ := SS.at (ν := []) (ρ := []) (by rw [List.append_nil]; exact s2)
    obtain ⟨a, xs, rfl, h1, h2⟩ := Rq.lck (.inl r)
    exact ⟨a, rfl, ⟨xs, h1⟩, k _ _ q _ _ _ s2 itok_lck⟩, xr⟩⟩
/-- lo, lo + 1, .. -/
def rngD (lo : Int) (n : Nat) : List D := (List.range n).map fun i => .int (lo + (i : Nat))
theorem rngD_get {lo : Int} {n i : Nat} {d : D} (h : (rngD lo n)[i]? = some d) : i < n ∧ d = .int (lo + (i : Nat)) := by
  unfold rngD at h
  rw [List.getElem?_map] at h
  obtain ⟨j, h1, h2⟩ := Option.map_eq_some_iff.mp h
  obtain ⟨h3, h4⟩ := List.getElem?_eq_some_iff.mp h1
  rw [List.length_range] at h3
  rw [List.getElem_range] at h4
  subst h4
  exact ⟨h3, h2.symm⟩
theorem rngD_length {lo : Int} {n : Nat} : (rngD lo n).length = n := by unfold rngD; rw [List.length_map, List.length_range]
theorem itok_rng {lo : Int} {n : Nat} : ItOk K W (Itr lo n) (rngD lo n) [] where
  stop := fun σ δ H π ρ i s hi => by rw [rngD_length] at hi; exact hi
  go := fun σ δ H π ρ i d s hd => by
    obtain ⟨h1, rfl⟩ := rngD_get hd
    refine ⟨h1, fun x H' hy => ?_⟩
    obtain ⟨rfl, rfl⟩ := hy
    exact s.push fun _ => .int _
theorem SS.int {ρ : List Cell} {d : Int} {v : V} (s : SS K W H σ δ (π ++ (some v, .sh (.int d)) :: ρ)) : v = .int d := by
  obtain ⟨S, x, r⟩ := SS.at (ν := ρ) (ρ := []) (by rw [List.append_nil]; exact s)
  cases r
  rfl
def iR1 (t : VT) : VTs := fun δ Q Xc => vCons t vNil δ (fun ds δ' => ∃ j : Int, ds = [.int j] ∧ -(2 ^ 62) ≤ j ∧ j < 2 ^ 62 ∧ Q (rngD 0 j.toNat) δ') Xc
def iR2 (t u : VT) : VTs := fun δ Q Xc => vCons t (vCons u vNil) δ (fun ds δ' => ∃ i j : Int, ds = [.int i, .int j] ∧ (-(2 ^ 62) ≤ i ∧ i < 2 ^ 62 ∧ -(2 ^ 62) ≤ j ∧ j < 2 ^ 62) ∧ Q (rngD i (j - i).toNat) δ') Xc
theorem len1 {α : Type} {l : List α} (h : l.length = 1) : ∃ x, l = [x] := by
  cases l with
  | nil => simp at h
  | cons x r =>
    cases r with
    | nil => exact ⟨x, rfl⟩
    | cons y s => simp at h
theorem len2 {α : Type} {l : List α} (h : l.length = 2) : ∃ x y, l = [x, y] := by
  cases l with
  | nil => simp at h
  | cons x r =>
    obtain ⟨y, e⟩ := len1 (l := r) (by simpa using h)
    subst e
    exact ⟨x, y, rfl⟩
theorem vi_r1 (hm : X.mg "range" = none) (he : VE X W wx a t) (hg : Gl X "range" := by rfl) (hs : starEach [a] X.env = [(false, eval a X.env)] := by rfl) : VI X W wx tg (.Call (.Name "range" p) [a] [] pos) (iR1 t) :=
  ⟨PI.imp (pi_range1 hg hm (va_cons he va_nil hs).pa hs) fun σ H R ⟨δ, π, Qd, Xd, s, h, k, xr⟩ => ⟨δ, π, _, Xd, s, h, fun ds δ' q vs H' l n s' => by
    obtain ⟨j, rfl, q1, q2, q⟩ := q
    obtain ⟨v, rfl⟩ := len1 l
    rw [shs_cons] at s'
    obtain rfl := s'.int
    exact ⟨j, rfl, q1, q2, k _ _ q _ [] _ (by rw [List.append_nil]; exact s'.drop) itok_rng⟩, xr⟩⟩
theorem vi_r2 (hm : X.mg "range" = none) (he : VE X W wx a t) (hf : VE X W wx b u) (hg : Gl X "range" := by rfl) (hs : starEach [a, b] X.env = [(false, eval a X.env), (false, eval b X.env)] := by rfl) (hs2 : starEach [b] X.env = [(false, eval b X.env)] := by rfl) :
    VI X W wx tg (.Call (.Name "range" p) [a, b] [] pos) (iR2 t u) :=
  ⟨PI.imp (pi_range2 hg hm (va_cons he (va_cons hf va_nil hs2) (by rw [hs, hs2])).pa hs hs2) fun σ H R ⟨δ, π, Qd, Xd, s, h, k, xr⟩ => ⟨δ, π, _, Xd, s, h, fun ds δ' q vs H' l n s' => by
    obtain ⟨i, j, rfl, q1, q⟩ := q
    obtain ⟨v, v2, rfl⟩ := len2 l
    rw [shs_cons, shs_cons] at s'
    obtain rfl := s'.int
    have s2 : SS X.K W H' σ δ' ((π ++ [(some (V.int i), Sl.sh (.int i))]) ++ (some v2, Sl.sh (.int j)) :: shs [] []) := by rw [← List.append_cons]; exact s'
    obtain rfl := s2.int
    exact ⟨i, j, rfl, q1, k _ _ q _ [] _ (by rw [List.append_nil]; exact s'.drop) itok_rng⟩, xr⟩⟩
/-- the signs of a text -/
def signD (x : Str) : List D := x.cps.toList.map fun c => .str ⟨#[c]⟩
def iSt (t : VT) : VTs := fun δ Q Xc => vS t δ (fun rv δ' => ∃ x, rv = .sh (.str x) ∧ Q (signD x) δ') Xc
theorem okS_sign {x : Str} {c : Nat} (h : okS x = true) (hc : c ∈ x.cps.toList) : okS ⟨#[c]⟩ = true := by
  unfold okS PyData.strOk at *
  rw [Bool.and_eq_true] at *
  refine ⟨?_, decide_eq_true (by show 1 ≤ sizeLine; rw [sizeLine_eq]; omega)⟩
  have h1 := h.1
  simp only [Array.all_eq_true_iff_forall_mem] at h1 ⊢
  intro y hy
  simp at hy
  subst hy
  exact h1 y (by simpa using hc)
theorem itok_str {x : Str} (ok : okS x = true) : ItOk K W (Its x) (signD x) [] where
  stop := fun σ δ H π ρ i s hi => by
    unfold signD at hi
    rw [List.length_map, Array.length_toList] at hi
    exact hi
  go := fun σ δ H π ρ i d s hd => by
    unfold signD at hd
    rw [List.getElem?_map] at hd
    obtain ⟨c, h1, rfl⟩ := Option.map_eq_some_iff.mp hd
    have h2 : x.cps[i]? = some c := by rw [← Array.getElem?_toList]; exact h1
    refine ⟨(Array.getElem?_eq_some_iff.mp h2).1, fun y H' hy => ?_⟩
    obtain ⟨rfl, c', e, rfl⟩ := hy
    rw [h2] at e
    cases e
    exact s.push fun _ => .str _ (okS_sign ok (List.mem_of_getElem? h1))
theorem SS.str {ρ : List Cell} {d : Str} {v : V} (s : SS K W H σ δ (π ++ (some v, .sh (.str d)) :: ρ)) : v = .str d ∧ okS d = true := by
  obtain ⟨S, x, r⟩ := SS.at (ν := ρ) (ρ := []) (by rw [List.append_nil]; exact s)
  cases r with
  | str _ h => exact ⟨rfl, h⟩
theorem vi_str (he : VE X W wx e t) : VI X W wx tg e (iSt t) :=
  ⟨PI.imp (pi_str he.pe) fun σ H R ⟨δ, π, Qd, Xd, s, h, k, xr⟩ => ⟨δ, π, _, Xd, s, h, fun rv δ' q v H' s' => by
    obtain ⟨q1, x, q2, q⟩ := q
    have s2 := s'.shr q1
    rw [q2] at s2
    obtain ⟨rfl, hok⟩ := s2.str
    exact ⟨x, rfl, k _ _ q _ [] _ (by rw [List.append_nil]; exact s2.drop) (itok_str hok)⟩, xr⟩⟩
/-- (0, x), (1, y), .. -/
def enumD (ds : List D) : List D := ds.zipIdx.map fun p => .tuple [.int (p.2 : Nat), p.1]
theorem enumD_get {ds : List D} {i : Nat} {d : D} (h : (enumD ds)[i]? = some d) : ∃ x, ds[i]? = some x ∧ d = .tuple [.int (i : Nat), x] := by
  unfold enumD at h
  rw [List.getElem?_map] at h
  obtain ⟨p, h1, h2⟩ := Option.map_eq_some_iff.mp h
  rw [List.getElem?_zipIdx] at h1
  obtain ⟨x, h3, h4⟩ := Option.map_eq_some_iff.mp h1
  subst h4
  refine ⟨x, h3, ?_⟩
  rw [← h2]
  simp
theorem enumD_length {ds : List D} : (enumD ds).length = ds.length := by unfold enumD; rw [List.length_map, List.length_zipIdx]
theorem itok_enum {a : Addr} {ds : List D} : ItOk K W (Ite K a) (enumD ds) [(some (.ref a), .sh (.list ds))] where
  stop := fun σ δ H π ρ i s hi => by
    obtain ⟨S, x, r⟩ := s.at
    rw [enumD_length] at hi
    cases r with
    | lst h1 h2 => exact ⟨_, h1.sq, by rw [h2.length]; exact hi⟩
  go := fun σ δ H π ρ i d s hd => by
    obtain ⟨S, x, r⟩ := s.at
    obtain ⟨y, hy, rfl⟩ := enumD_get hd
    cases r with
    | lst h1 h2 =>
      obtain ⟨v, hv, rv⟩ := h2.get hy
      refine ⟨⟨_, v, h1.sq, hv⟩, fun z H' hz => ?_⟩
      obtain ⟨T, v', rfl, hT, rfl, hz⟩ := hz
      rw [hz _ h1.sq] at hv
      cases hv
      obtain ⟨_, z⟩ := s.new x (.tup hT (.cons (.int _) (.cons rv .nil)))
      exact z
def iEn (t : VT) : VTs := fun δ Q Xc => vCons t vNil δ (fun ds δ' => ∃ es, ds = [.list es] ∧ Q (enumD es) δ') Xc
theorem vi_enum {elts : List Expr} {kk : Nat} {tpos : Pos} (hm : X.mg "enumerate" = none) (he : VE X W wx a t) (hg : Gl X "enumerate" := by rfl) (hs : starEach [a] X.env = [(false, eval a X.env)] := by rfl) :
    VI X W wx (.Tuple elts kk tpos) (.Call (.Name "enumerate" p) [a] [] pos) (iEn t) :=
  ⟨PI.imp (pi_enum hg hm (va_cons he va_nil hs).pa hs) fun σ H R ⟨δ, π, Qd, Xd, s, h, k, xr⟩ => ⟨δ, π, _, Xd, s, h, fun ds δ' q vs H' l n s' => by
    obtain ⟨es, rfl, q⟩ := q
    obtain ⟨v, rfl⟩ := len1 l
    rw [shs_cons, shs_nil] at s'
    obtain ⟨a', xs, rfl, hl⟩ := s'.list
    exact ⟨a', xs, rfl, hl, k _ _ q _ _ _ s' itok_enum⟩, xr⟩⟩
/-- (x, y), .. -/
def zipD (ds es : List D) : List D := (ds.zip es).map fun p => .tuple [p.1, p.2]
theorem zipD_get {ds es : List D} {i : Nat} {d : D} (h : (zipD ds es)[i]? = some d) : ∃ x y, ds[i]? = some x ∧ es[i]? = some y ∧ d = .tuple [x, y] := by
  unfold zipD at h
  rw [List.getElem?_map] at h
  obtain ⟨p, h1, h2⟩ := Option.map_eq_some_iff.mp h
  obtain ⟨h3, h4⟩ := List.getElem?_zip_eq_some.mp h1
  exact ⟨p.1, p.2, h3, h4, h2.symm⟩
theorem zipD_length {ds es : List D} : (zipD ds es).length = min ds.length es.length := by unfold zipD; rw [List.length_map, List.length_zip]
theorem itok_zip {a b : Addr} {ds es : List D} : ItOk K W (Itz K a b) (zipD ds es) [(some (.ref a), .sh (.list ds)), (some (.ref b), .sh (.list es))] where
  stop := fun σ δ H π ρ i s hi => by
    obtain ⟨S, x, r⟩ := s.at
    have s2 : SS K W H σ δ ((π ++ [(some (.ref a), Sl.sh (.list ds))]) ++ (some (.ref b), Sl.sh (.list es)) :: [] ++ ρ) := by
      rw [List.append_assoc π]
      exact s
    obtain ⟨S2, x2, r2⟩ := s2.at
    rw [zipD_length] at hi
    cases r with
    | lst h1 h2 =>
      cases r2 with
      | lst h3 h4 =>
        refine ⟨_, _, h1.sq, h3.sq, ?_⟩
        rw [h2.length, h4.length]
        omega
  go := fun σ δ H π ρ i d s hd => by
    obtain ⟨S, x, r⟩ := s.at
    have e2 : (σ.zip δ ++ (π ++ [(some (V.ref a), Sl.sh (.list ds)), (some (V.ref b), Sl.sh (.list es))] ++ ρ))[(σ.zip δ).length + (π.length + 1)]? = some (some (V.ref b), Sl.sh (.list es)) := by
      rw [List.getElem?_append_right (by omega), Nat.add_sub_cancel_left, List.append_assoc, List.getElem?_append_right (by omega), Nat.add_sub_cancel_left]
      rfl
    obtain ⟨u, eu, r2⟩ := x.sh _ _ _ e2
    cases eu
    obtain ⟨y, z, hy, hz, rfl⟩ := zipD_get hd
    cases r with
    | lst h1 h2 =>
      cases r2 with
      | lst h3 h4 =>
        obtain ⟨v, hv, rv⟩ := h2.get hy
        obtain ⟨v2, hv2, rv2⟩ := h4.get hz
        refine ⟨⟨_, _, v, v2, h1.sq, h3.sq, hv, hv2⟩, fun z H' hq => ?_⟩
        obtain ⟨T, w1, w2, rfl, hT, rfl, hz1, hz2⟩ := hq
        rw [hz1 _ h1.sq] at hv
        rw [hz2 _ h3.sq] at hv2
        cases hv
        cases hv2
        obtain ⟨_, z⟩ := s.new x (.tup hT (.cons rv (.cons rv2 .nil)))
        exact z
def iZp (t u : VT) : VTs := fun δ Q Xc => vCons t (vCons u vNil) δ (fun ds δ' => ∃ es fs, ds = [.list es, .list fs] ∧ Q (zipD es fs) δ') Xc
end
end ML

/-! ## M9 -/
set_option Elab.async false
set_option linter.all false
set_option autoImplicit false
set_option maxRecDepth 100000
set_option maxHeartbeats 4000000
namespace ML
open PySem PySem.Spec PyProof.Rows L2

/-! ### what is changed in place -/
def adrC : List Cell → List Addr
  | [] => []
  | (_, .ow o) :: r => o.adr ++ adrC r
  | _ :: r => adrC r
/-- a node of a slot's own tree -/
structure Nde where
  j : Nat
  t : Ot
  π : List Step
  s : Sh
  os : List Ot
def locAt (δ : List Sl) (j : Nat) (π : List Step) (p : Option Addr) : Option Nde := match δ[j]? with
  | some (.ow t) => match t.at π with
    | some (.nod s os) => if p = none ∨ p = some s.root then some ⟨j, t, π, s, os⟩ else none
    | _ => none
  | _ => none
def Opr.loc (o : Opr) (rv : Sl) (δ : List Sl) : Option Nde := match o with
  | .pk i => match δ[i]? with
    | some (.ow _) => locAt δ i [] none
    | some (.rf j π p) => locAt δ j π (some p)
    | _ => none
  | .pd _ => match rv with
    | .rf j π p => locAt δ j π (some p)
    | _ => none
/-- the slots with another node there -/
def Nde.set (L : Nde) (δ : List Sl) (s' : Sh) (os' : List Ot) : List Sl := δ.set L.j (.ow (Ot.put (.nod s' os') L.t L.π))
section
variable {X : Cx} {W : Wd} {wx : WX} {K : PySem.W.Frag} {H H' : Hp} {σ : L2.St} {δ δ' : List Sl} {π ρ : List Cell} {e a b c : Expr} {es : List Expr} {t u : VT} {ts : VTs} {pos p apos cpos : Pos} {S S' : Addr → Prop} {cs cs' : List Cell}
theorem adrC_mem {b : Addr} : ∀ {ρ : List Cell}, b ∈ adrC ρ → ∃ (i : Nat) (v : Option V) (o : Ot), ρ[i]? = some (v, .ow o) ∧ b ∈ o.adr
  | [], h => by cases h
  | (w, sl) :: r, h => by
    have step : b ∈ adrC r → ∃ (i : Nat) (v : Option V) (o : Ot), ((w, sl) :: r)[i]? = some (v, .ow o) ∧ b ∈ o.adr := fun z => by
      obtain ⟨i, v, o, h1, h2⟩ := adrC_mem z
      exact ⟨i + 1, v, o, by simpa using h1, h2⟩
    cases sl with
    | ow o =>
      rcases List.mem_append.mp (show b ∈ o.adr ++ adrC r from h) with z | z
      · exact ⟨0, w, o, rfl, z⟩
      · exact step z
    | _ => exact step h
theorem adrC_nodup (x : StF K W H cs S) : ∀ {A ρ : List Cell}, cs = A ++ ρ → (adrC ρ).Nodup
  | A, [], _ => List.nodup_nil
  | A, (w, sl) :: r, e => by
    have ih := adrC_nodup x (A := A ++ [(w, sl)]) (ρ := r) (by rw [e, List.append_assoc]; rfl)
    cases sl with
    | ow o =>
      have e0 : cs[A.length]? = some (w, .ow o) := by
        rw [e, List.getElem?_append_right (Nat.le_refl _), Nat.sub_self]
        rfl
      refine List.nodup_append.mpr ⟨x.nd _ _ _ e0, ih, fun b hb c hc q => ?_⟩
      subst q
      obtain ⟨i, v, o2, h1, h2⟩ := adrC_mem hc
      have e1 : cs[A.length + (i + 1)]? = some (v, .ow o2) := by
        rw [e, List.getElem?_append_right (by omega), Nat.add_sub_cancel_left]
        simpa using h1
      exact x.dj _ _ _ _ _ _ b (by omega) e0 e1 hb h2
    | _ => exact ih
theorem locAt_ok {j : Nat} {τ : List Step} {q : Option Addr} {L : Nde} (h : locAt δ j τ q = some L) : δ[L.j]? = some (.ow L.t) ∧ L.t.at L.π = some (.nod L.s L.os) ∧ (q = none ∨ q = some L.s.root) ∧ L.j = j ∧ L.π = τ := by
  unfold locAt at h
  split at h
  · rename_i t e
    split at h
    · rename_i s os e2
      by_cases z : q = none ∨ q = some s.root
      · rw [if_pos z] at h
        cases h
        exact ⟨e, e2, z, rfl, rfl⟩
      · rw [if_neg z] at h; cases h
    · cases h
  · cases h
theorem Opr.loc_ok {o : Opr} {rv : Sl} {v : V} {L : Nde} (len : σ.length = δ.length) (x : StF K W H (σ.zip δ ++ (π ++ ((some v, rv) :: ρ))) S) (hi : o.is σ v) (h : o.loc rv δ = some L) :
    δ[L.j]? = some (.ow L.t) ∧ L.t.at L.π = some (.nod L.s L.os) ∧ v = .ref L.s.root := by
  cases o with
  | pk i =>
    have hi' : σ[i]? = some (some v) := hi
    have h' : (match δ[i]? with | some (.ow _) => locAt δ i [] none | some (.rf j π p) => locAt δ j π (some p) | _ => none) = some L := h
    split at h'
    · rename_i o e
      obtain ⟨h1, h2, _, h4, h5⟩ := locAt_ok h'
      refine ⟨h1, h2, ?_⟩
      obtain ⟨w, w1, w2⟩ := zipcell (ρ := π ++ ((some v, rv) :: ρ)) len h1
      rw [h4, hi'] at w1
      cases w1
      obtain ⟨u, eu, wo⟩ := x.ow _ _ _ w2
      cases eu
      rw [h5, Ot.at] at h2
      rw [Option.some.inj h2] at wo
      exact wo.root rfl
    · rename_i j τ p e
      obtain ⟨h1, h2, h3, _, _⟩ := locAt_ok h'
      refine ⟨h1, h2, ?_⟩
      obtain ⟨w, w1, w2⟩ := zipcell (ρ := π ++ ((some v, rv) :: ρ)) len e
      rw [hi'] at w1
      cases w1
      have := x.rf _ _ _ _ _ w2
      rcases h3 with h3 | h3
      · cases h3
      · cases h3
        cases this
        rfl
    · cases h'
  | pd t =>
    cases rv with
    | rf j τ q =>
      have h' : locAt δ j τ (some q) = some L := h
      obtain ⟨h1, h2, h3, _, _⟩ := locAt_ok h'
      refine ⟨h1, h2, ?_⟩
      have e : (σ.zip δ ++ (π ++ ((some v, Sl.rf j τ q) :: ρ)))[(σ.zip δ ++ π).length]? = some (some v, Sl.rf j τ q) := by
        rw [← List.append_assoc, List.getElem?_append_right (Nat.le_refl _), Nat.sub_self]
        rfl
      have := x.rf _ _ _ _ _ e
      rcases h3 with h3 | h3
      · cases h3
      · cases h3
        cases this
        rfl
    | _ => cases h
/-- a node of a slot's tree is changed, by its own kids and what waits in ρ -/
theorem StF.mutL {L : Nde} (len : σ.length = δ.length) (x : StF K W H (σ.zip δ ++ (π ++ ρ)) S) (hj : δ[L.j]? = some (.ow L.t)) (ht : L.t.at L.π = some (.nod L.s L.os)) :
    ∃ xs, L.s.holds H xs ∧ Ows K S H xs L.os ∧ ∀ (s' : Sh) (xs' : List V) (os' : List Ot) (H' : Hp) (rest : List Addr), s'.root = L.s.root → s'.own = L.s.own → (∀ b, b ∉ L.s.own → H' b = H b) → s'.holds H' xs' → Ows K S H xs' os' →
      (Ot.adrs os' ++ rest).Perm (Ot.adrs L.os ++ adrC ρ) → StF K W H' (σ.zip (L.set δ s' os') ++ π) S ∧ Ev S H S H' := by
  obtain ⟨w, w1, w2⟩ := zipcell (ρ := π ++ ρ) len hj
  obtain ⟨xs, h1, h2, h3, h4, h5, h6⟩ := x.mutAt w2 ht
  refine ⟨xs, h1, h2, fun s' xs' os' H' rest r1 r2 kp hh ho pm => ?_⟩
  have jl : L.j < δ.length := (List.getElem?_eq_some_iff.mp hj).1
  have lz := zip_length len
  have pend : ∀ {b : Addr}, b ∈ adrC ρ → ∃ (k : Nat) (v : Option V) (o : Ot), (σ.zip δ ++ π).length ≤ k ∧ (σ.zip δ ++ (π ++ ρ))[k]? = some (v, .ow o) ∧ b ∈ o.adr := fun {b} hb => by
    obtain ⟨i, v, o, q1, q2⟩ := adrC_mem hb
    exact ⟨(σ.zip δ ++ π).length + i, v, o, by omega, by rw [← List.append_assoc, List.getElem?_append_right (by omega), Nat.add_sub_cancel_left]; exact q1, q2⟩
  have tmem : ∀ b ∈ Ot.adrs L.os, b ∈ L.t.adr := fun b hb => Ot.adr_at ht b (by rw [Ot.adr]; exact List.mem_append_right _ hb)
  have smem : ∀ b ∈ L.s.own, b ∈ L.t.adr := fun b hb => Ot.adr_at ht b (by rw [Ot.adr]; exact List.mem_append_left _ hb)
  have pj : ∀ {b : Addr}, b ∈ adrC ρ → b ∉ L.t.adr := fun {b} hb z => by
    obtain ⟨k, v, o, q1, q2, q3⟩ := pend hb
    exact x.dj L.j k _ _ _ _ b (by rw [List.length_append, lz] at q1; omega) w2 q2 z q3
  have nd0 : (Ot.adrs L.os ++ adrC ρ).Nodup := by
    have n1 := nodup_at ht (x.nd _ _ _ w2)
    rw [Ot.adr] at n1
    refine List.nodup_append.mpr ⟨(List.nodup_append.mp n1).2.1, adrC_nodup x (A := σ.zip δ ++ π) (by rw [List.append_assoc]), fun b hb c hc q => ?_⟩
    subst q
    exact pj hc (tmem b hb)
  have nd1 := pm.symm.nodup nd0
  have mem : ∀ b ∈ Ot.adrs os', b ∈ Ot.adrs L.os ∨ b ∈ adrC ρ := fun b hb => List.mem_append.mp (pm.mem_iff.mp (List.mem_append_left _ hb))
  have ev := h5 H' kp
  have ho' : Ows K S H' xs' os' := Ows.ev ev os' xs' (fun b hb u q => by
    rw [kp b (fun z => ?_)]
    · exact q
    · rcases mem b hb with y | y
      · exact h4 b z y
      · exact pj y (smem b z)) ho
  refine ⟨h6 s' xs' os' H' (fun k => (σ.zip δ ++ π).length ≤ k) _ r1 r2 kp hh ho' (List.nodup_append.mp nd1).1 (fun b hb => ?_) ?_ (fun k c nk q => ?_), ev⟩
  · rcases mem b hb with y | y
    · exact .inl y
    · obtain ⟨k, v, o, q1, q2, q3⟩ := pend y
      exact .inr ⟨k, v, o, by rw [List.length_append, lz] at q1; omega, q1, q2, q3⟩
  · show (σ.zip (δ.set L.j _) ++ π)[L.j]? = _
    rw [← zip_set w1, List.getElem?_append_left (by rw [List.length_set, lz]; exact jl), List.getElem?_set_self (by rw [lz]; exact jl)]
  · have q' : (σ.zip (δ.set L.j (.ow (Ot.put (.nod s' os') L.t L.π))) ++ π)[k]? = some c := q
    rw [← zip_set w1] at q'
    have kl := (List.getElem?_eq_some_iff.mp q').1
    rw [List.length_append, List.length_set, ← List.length_append] at kl
    refine .inr ⟨?_, by omega⟩
    by_cases hz : k < (σ.zip δ).length
    · rw [List.getElem?_append_left (by rw [List.length_set]; exact hz), List.getElem?_set_ne (fun z => nk z.symm)] at q'
      rw [List.getElem?_append_left hz]
      exact q'
    · rw [List.getElem?_append_right (by rw [List.length_set]; omega), List.length_set] at q'
      rw [List.getElem?_append_right (by omega), List.getElem?_append_left (by rw [List.length_append] at kl; omega)]
      exact q'
theorem Nde.set_len {L : Nde} {s' : Sh} {os' : List Ot} : (L.set δ s' os').length = δ.length := List.length_set

/-! ### arguments that go into what is changed -/
def mvEv : List VT → VAs
  | [] => fun δ Q _ => Q [] δ
  | t :: r => fun δ Q Xc => t δ (fun rv δ1 => rv.isIn = true ∧ mvEv r δ1 (fun l δ2 => Q (rv :: l) δ2) Xc) Xc
def lMv (K : PySem.W.Frag) (W : Wd) (wx : WX) (as : List VT) : TA := fun σ H Q => ∃ δ π Qd Xd, SS K W H σ δ π ∧ mvEv as δ Qd Xd ∧
  (∀ l δ', Qd l δ' → ∀ vs H', vs.length = as.length → l.length = as.length → SS K W H' σ δ' (π ++ cells vs l) → Q vs H') ∧ XR K W wx σ π Xd
structure VMv (X : Cx) (W : Wd) (wx : WX) (es : List Expr) (as : List VT) : Prop where
  pa : PA X es (lMv X.K W wx as)
theorem vm0 : VMv X W wx [] [] := ⟨PA.imp pa_nil fun σ H Q ⟨δ, π, Qd, Xd, s, h, k, xr⟩ => k _ _ h [] H rfl rfl (by rw [show cells [] [] = [] from rfl, List.append_nil]; exact s)⟩
theorem vm1 {as : List VT} (he : VE X W wx e t) (hr : VMv X W wx es as) (hs : starEach (e :: es) X.env = (false, eval e X.env) :: starEach es X.env := by rfl) : VMv X W wx (e :: es) (t :: as) := by
  refine ⟨PA.imp (pa_cons he.pe hr.pa hs) fun σ H Q ⟨δ, π, Qd, Xd, s, h, k, xr⟩ => ?_⟩
  refine ⟨δ, π, _, Xd, s, h, fun rv δ1 q v H1 s1 => ?_, xr⟩
  refine ⟨δ1, π ++ [(some v, rv)], _, Xd, s1, q.2, fun l δ2 q2 vs H2 l2 n2 s2 => ?_, xr.more⟩
  refine k _ _ q2 (v :: vs) H2 (by rw [List.length_cons, List.length_cons, l2]) (by rw [List.length_cons, List.length_cons, n2]) ?_
  rw [cells_cons, List.append_cons]
  exact s2
/-- what waits, by what it is -/
inductive Arg (K : PySem.W.Frag) (S : Addr → Prop) (H : Hp) : V → Sl → Prop
  | sh {v : V} {d : D} : Rp K S H v d → Arg K S H v (.sh d)
  | ow {v : V} {o : Ot} : Ow K S H v o → Arg K S H v (.ow o)
  | no {v : V} : Arg K S H v .un
inductive Args (K : PySem.W.Frag) (S : Addr → Prop) (H : Hp) : List V → List Sl → Prop
  | nil : Args K S H [] []
  | cons {v : V} {s : Sl} {vs : List V} {l : List Sl} : Arg K S H v s → Args K S H vs l → Args K S H (v :: vs) (s :: l)
def Sl.fit : Sl → Prop
  | .rf _ _ _ => False
  | _ => True
theorem StF.arg {i : Nat} {v : V} {s : Sl} (x : StF K W H cs S) (h : cs[i]? = some (some v, s)) (hf : s.fit) : Arg K S H v s := by
  cases s with
  | un => exact .no
  | sh d =>
    obtain ⟨u, eu, r⟩ := x.sh _ _ _ h
    cases eu
    exact .sh r
  | ow o =>
    obtain ⟨u, eu, r⟩ := x.ow _ _ _ h
    cases eu
    exact .ow r
  | _ => exact hf.elim
theorem StF.args : ∀ {vs : List V} {l : List Sl} {A : List Cell}, StF K W H (A ++ cells vs l) S → vs.length = l.length → (∀ s ∈ l, s.fit) → Args K S H vs l
  | [], [], _, _, _, _ => .nil
  | [], _ :: _, _, _, h, _ => by simp at h
  | _ :: _, [], _, _, h, _ => by simp at h
  | v :: vs, s :: l, A, x, h, hf => by
    rw [cells_cons] at x
    have e : (A ++ (some v, s) :: cells vs l)[A.length]? = some (some v, s) := by
      rw [List.getElem?_append_right (Nat.le_refl _), Nat.sub_self]
      rfl
    rw [List.append_cons] at x
    exact .cons (StF.arg (i := A.length) (by rw [← List.append_cons] at x; exact x) e (hf s List.mem_cons_self)) (StF.args (A := A ++ [(some v, s)]) x (by simpa using h) fun s hs => hf s (List.mem_cons_of_mem _ hs))
def adrL : List Sl → List Addr
  | [] => []
  | .ow o :: r => o.adr ++ adrL r
  | _ :: r => adrL r
theorem adrC_cells : ∀ {vs : List V} {l : List Sl}, vs.length = l.length → adrC (cells vs l) = adrL l
  | [], [], _ => rfl
  | [], _ :: _, h => by simp at h
  | _ :: _, [], h => by simp at h
  | v :: vs, s :: l, h => by
    have ih := adrC_cells (vs := vs) (l := l) (by simpa using h)
    rw [cells_cons]
    cases s with
    | ow o => show o.adr ++ adrC _ = o.adr ++ adrL l; rw [ih]
    | _ => exact ih
/-- a method that changes a list: f gives the new items and what comes back -/
def SndM (K : PySem.W.Frag) (r : V → List V → Hp → VK → Prop) (f : List Ot → List Sl → Option (List Ot × D)) : Prop :=
  ∀ S H p xs os vs l os' res (Q : VK), H p = some (.lst xs) → Ows K S H xs os → Args K S H vs l → f os l = some (os', res) →
    (∃ rest, (Ot.adrs os' ++ rest).Perm (Ot.adrs os ++ adrL l)) ∧ ((∀ v xs', Ows K S H xs' os' → Rp K S H v res → Q v (upd H p (.lst xs'))) → r (.ref p) vs H Q)
/-- o.method(args) -/
def vMet (o : Opr) (f : List Ot → List Sl → Option (List Ot × D)) (as : List VT) : VT := fun δ Q Xc => o.ev δ (fun rv δ1 => (∃ (L : Nde) (q : Addr), o.loc rv δ1 = some L ∧ L.s = .lst q) ∧
  mvEv as δ1 (fun l δ2 => ∃ (L : Nde) (q : Addr) (os' : List Ot) (r : D), o.loc rv δ2 = some L ∧ L.s = .lst q ∧ f L.os l = some (os', r) ∧ Q (.sh r) (L.set δ2 (.lst q) os')) Xc) Xc
theorem isIn_fit {s : Sl} (h : s.isIn = true) : s.fit := by
  cases s with
  | rf _ _ _ => cases h
  | _ => exact trivial
theorem mvEv_fit : ∀ {as : List VT} {δ : List Sl} {Q : List Sl → List Sl → Prop} {Xc : Exn → List Sl → Prop}, (∀ t ∈ as, ∀ δ Q Xc, t δ Q Xc → True) → True := fun _ => trivial
theorem met_run {o : Opr} {as : List VT} {te : TE} {ta : TA} {f : List Ot → List Sl → Option (List Ot × D)} {r : V → List V → Hp → VK → Prop} {Q : VK} (A : VOt X W wx e o te) (snd : SndM X.K r f) (hf : ∀ os l os' d, f os l = some (os', d) → ∀ s ∈ l, s.fit)
    (ha : ∀ σ H Q, lMv X.K W wx as σ H Q → ta σ H Q) (h : lE X.K W wx (vMet o f as) σ H Q) : tBM X.K "list" r te ta σ H Q := by
  obtain ⟨δ, π, Qd, Xd, s, h, k, xr⟩ := h
  refine A.run σ H δ π _ Xd _ s h xr fun rv δ1 q v H1 s1 i1 => ?_
  obtain ⟨⟨L0, q0, hL0, e0⟩, q⟩ := q
  refine ⟨?_, ha _ _ _ ⟨δ1, _, _, Xd, s1, q, fun l δ2 q vs H2 l1 l2 s2 => ?_, xr.more⟩⟩
  · obtain ⟨S, x⟩ := s1.st
    obtain ⟨h1, h2, h3⟩ := Opr.loc_ok (ρ := []) s1.len x i1 hL0
    obtain ⟨w, w1, w2⟩ := zipcell (ρ := π ++ [(some v, rv)]) s1.len h1
    obtain ⟨xs, g1, _⟩ := x.mutAt w2 h2
    rw [h3]
    rw [e0] at g1 ⊢
    exact .inl ⟨rfl, xs, SqL.of g1⟩
  · obtain ⟨L, q1, os', d, hL, e1, e2, z⟩ := q
    obtain ⟨S, x⟩ := s2.st
    rw [List.append_assoc] at x
    have lv : vs.length = l.length := by rw [l1, l2]
    obtain ⟨h1, h2, h3⟩ := Opr.loc_ok (ρ := cells vs l) s2.len x i1 hL
    obtain ⟨xs, g1, g2, g3⟩ := x.mutL s2.len h1 h2
    rw [e1] at g1
    have ga : Args X.K S H2 vs l := StF.args (A := σ.zip δ2 ++ (π ++ [(some v, rv)])) (by rw [List.append_assoc, List.append_assoc]; exact x) lv (hf _ _ _ _ e2)
    obtain ⟨⟨rest, pm⟩, fin⟩ := snd S H2 q1 xs L.os vs l os' d Q g1 g2 ga e2
    rw [h3, e1]
    refine fin fun v' xs' o' rv' => ?_
    obtain ⟨y, ev⟩ := g3 (.lst q1) xs' os' (upd H2 q1 (.lst xs')) (rest ++ adrC [(some v, rv)]) (by rw [e1]) (by rw [e1]) (fun b hb => by rw [e1] at hb; exact upd_ne (fun z => hb (by rw [z]; exact List.mem_cons_self))) upd_same o' (by
      have ec : adrC ((some v, rv) :: cells vs l) = adrC [(some v, rv)] ++ adrC (cells vs l) := by
        cases rv <;> simp [adrC]
      have ec' : adrC ([(some v, rv)] ++ cells vs l) = adrC [(some v, rv)] ++ adrC (cells vs l) := ec
      rw [ec', adrC_cells lv, ← List.append_assoc]
      refine (pm.append_right _).trans ?_
      rw [List.append_assoc]
      exact List.Perm.append_left _ List.perm_append_comm)
    have s3 : SS X.K W (upd H2 q1 (.lst xs')) σ (L.set δ2 (.lst q1) os') π := ⟨by rw [Nde.set_len]; exact s2.len, S, y⟩
    exact k _ _ z _ _ (s3.pushF y (Rp.ev ev d v' rv'))
abbrev Few (X : Cx) (cpos : Pos) (es : List Expr) : Prop := ((backTo cpos (starEach es X.env)).all (fun x => !x.1) && (backToKw cpos (keywordEach [] X.env)).all (fun x => x.1.isSome) && decide (es.length + ([] : List Keyword).length + (if ([] : List Keyword).isEmpty then 0 else 1) < 30)) = true
theorem ve_met {o : Opr} {name : Str} {id : String} {as : List VT} {ov : Expr} {f : List Ot → List Sl → Option (List Ot × D)} {r : V → List V → Hp → VK → Prop} (slot : Slot "list" name id) (hty : typeOf (.builtin id) = pure (.type "method_descriptor")) (hm : MtR X id r) (snd : SndM X.K r f)
    (hf : ∀ os l os' d, f os l = some (os', d) → ∀ s ∈ l, s.fit) (ho : VO X W wx ov o) (ha : VMv X W wx (e :: es) as)
    (hbase : attributeBase ov name X.env (eval ov X.env) = eval ov X.env := by rfl)
    (hfew : Few X cpos (e :: es) := by rfl) (hplain : (backTo cpos (starEach es X.env)).any (·.1) = false := by rfl)
    (hline : (apos.endLine == cpos.line) = true := by rfl) (hs : starEach (e :: es) X.env = (false, eval e X.env) :: starEach es X.env := by rfl) :
    VE X W wx (.Call (.Attribute ov name apos) (e :: es) [] cpos) (vMet o f as) := by
  obtain ⟨te, A⟩ := ho
  exact ⟨PE.imp (pe_bm PySem.F.plainAttrs_list slot hty hm A.pe ha.pa hbase hfew hline hs hplain) fun σ H Q h => met_run A snd hf (fun _ _ _ z => z) h⟩
theorem ve_met0 {o : Opr} {name : Str} {id : String} {ov : Expr} {f : List Ot → List Sl → Option (List Ot × D)} {r : V → List V → Hp → VK → Prop} (slot : Slot "list" name id) (hty : typeOf (.builtin id) = pure (.type "method_descriptor")) (hm : MtR X id r) (snd : SndM X.K r f)
    (hf : ∀ os l os' d, f os l = some (os', d) → ∀ s ∈ l, s.fit) (ho : VO X W wx ov o)
    (hbase : attributeBase ov name X.env (eval ov X.env) = eval ov X.env := by rfl) (hline : (apos.endLine == cpos.line) = true := by rfl) :
    VE X W wx (.Call (.Attribute ov name apos) [] [] cpos) (vMet o f []) := by
  obtain ⟨te, A⟩ := ho
  refine ⟨PE.imp (pe_bm0 PySem.F.plainAttrs_list slot hty hm A.pe hbase hline) fun σ H Q h => ?_⟩
  have z : tBM X.K "list" r te tNil σ H Q := met_run A snd hf (fun σ H Q z => by
    obtain ⟨δ, π, Qd, Xd, s, h, k, xr⟩ := z
    exact k _ _ h [] H rfl rfl (by rw [show cells [] [] = [] from rfl, List.append_nil]; exact s)) h
  exact z

/-! ### the methods of lists -/
/-- what is put in as it is -/
def Sl.ot : Sl → Option Ot
  | .sh d => some (.leaf d)
  | .ow o => some o
  | _ => none
theorem Arg.ot {v : V} {s : Sl} {o : Ot} (h : Arg K S H v s) (e : s.ot = some o) : Ow K S H v o := by
  cases h with
  | sh r => cases e; exact .leaf r
  | ow r => cases e; exact r
  | no => cases e
theorem adr_ot {s : Sl} {o : Ot} (e : s.ot = some o) : adrL [s] = o.adr := by
  cases s with
  | sh d => cases e; simp [adrL, Ot.adr]
  | ow o => cases e; simp [adrL]
  | _ => cases e
theorem ot_fit {s : Sl} {o : Ot} (e : s.ot = some o) : s.fit := by
  cases s with
  | rf _ _ _ => cases e
  | _ => exact trivial
def mAppend (os : List Ot) (l : List Sl) : Option (List Ot × D) := match l with
  | [s] => if os.length < 1000000 then s.ot.map fun o => (os ++ [o], .none) else none
  | _ => none
theorem sndm_append : SndM K rAppend mAppend := by
  intro S H p xs os vs l os' res Q hp hx hv hf
  cases hv with
  | nil => cases hf
  | @cons v s vs l h1 h2 =>
    cases h2 with
    | cons _ _ => cases hf
    | nil =>
      have hf' : (if os.length < 1000000 then s.ot.map fun o => (os ++ [o], PyData.none) else none) = some (os', res) := hf
      by_cases h : os.length < 1000000
      · rw [if_pos h] at hf'
        obtain ⟨o, e1, e2⟩ := Option.map_eq_some_iff.mp hf'
        cases e2
        refine ⟨⟨[], by rw [Ot.adrs_app, List.append_nil, adr_ot e1, Ot.adrs, Ot.adrs, List.append_nil]⟩, fun hq => ⟨p, xs, v, rfl, rfl, hp, by rw [hx.length]; exact Nat.lt_of_lt_of_le h (by decide), hq .non _ (hx.append (.cons (h1.ot e1) .nil)) .non⟩⟩
      · rw [if_neg h] at hf'; cases hf'
theorem fit_append : ∀ os l os' d, mAppend os l = some (os', d) → ∀ s ∈ l, s.fit := fun os l os' d h s hs => by
  match l, h with
  | [s'], h =>
    have h' : (if os.length < 1000000 then s'.ot.map fun o => (os ++ [o], PyData.none) else none) = some (os', d) := h
    rw [List.mem_singleton.mp hs]
    by_cases z : os.length < 1000000
    · rw [if_pos z] at h'
      obtain ⟨o, e1, _⟩ := Option.map_eq_some_iff.mp h'
      exact ot_fit e1
    · rw [if_neg z] at h'; cases h'
def mPop (os : List Ot) (l : List Sl) : Option (List Ot × D) := match l with
  | [] => match os.getLast? with
    | some (.leaf d) => some (os.dropLast, d)
    | _ => none
  | _ => none
theorem Ows.dropLast {vs : List V} {ds : List Ot} (r : Ows K S H vs ds) : Ows K S H vs.dropLast ds.dropLast := by
  rw [List.dropLast_eq_take, List.dropLast_eq_take, r.length]
  exact r.take _
theorem sndm_pop : SndM K rPop mPop := by
  intro S H p xs os vs l os' res Q hp hx hv hf
  cases hv with
  | cons _ _ => cases hf
  | nil =>
    have hf' : (match os.getLast? with | some (.leaf d) => some (os.dropLast, d) | _ => none) = some (os', res) := hf
    split at hf'
    · rename_i d e
      cases hf'
      have hne : os ≠ [] := fun z => by rw [z] at e; cases e
      refine ⟨⟨[], ?_⟩, fun hq => ?_⟩
      · have e2 : os = os.dropLast ++ [.leaf res] := by
          rw [List.getLast?_eq_some_getLast hne] at e
          have := List.dropLast_concat_getLast hne
          rw [Option.some.inj e] at this
          exact this.symm
        have e3 : Ot.adrs os = Ot.adrs os.dropLast := by
          conv => lhs; rw [e2]
          rw [Ot.adrs_app]; simp [Ot.adrs, Ot.adr]
        rw [e3]
        simp [adrL]
      · rw [List.getLast?_eq_getElem?] at e
        obtain ⟨v, h3, h4⟩ := hx.get e
        cases h4 with
        | leaf r => exact ⟨p, xs, v, rfl, rfl, hp, by rw [hx.length]; exact h3, hq v _ hx.dropLast r⟩
    · cases hf'
theorem fit_pop : ∀ os l os' d, mPop os l = some (os', d) → ∀ s ∈ l, s.fit := fun os l os' d h s hs => by
  match l, h with
  | [], h => cases hs
def mReverse (os : List Ot) (l : List Sl) : Option (List Ot × D) := match l with
  | [] => some (os.reverse, .none)
  | _ => none
theorem adrs_reverse : ∀ os : List Ot, (Ot.adrs os.reverse).Perm (Ot.adrs os)
  | [] => .nil
  | o :: os => by
    rw [List.reverse_cons, Ot.adrs_app, Ot.adrs, Ot.adrs, Ot.adrs, List.append_nil]
    exact (List.perm_append_comm).trans ((adrs_reverse os).append_left _)
theorem sndm_reverse : SndM K rReverse mReverse := by
  intro S H p xs os vs l os' res Q hp hx hv hf
  cases hv with
  | cons _ _ => cases hf
  | nil =>
    cases hf
    exact ⟨⟨[], by simpa [adrL] using adrs_reverse os⟩, fun hq => ⟨p, xs, rfl, rfl, hp, hq .non _ hx.reverse .non⟩⟩
theorem fit_reverse : ∀ os l os' d, mReverse os l = some (os', d) → ∀ s ∈ l, s.fit := fun os l os' d h s hs => by
  match l, h with
  | [], h => cases hs
def rInsert : V → List V → Hp → VK → Prop := fun x vs H Q => ∃ (l : Addr) (xs : List V) (i : Int) (y : V), x = .ref l ∧ vs = [.int i, y] ∧ H l = some (.lst xs) ∧ xs.length < sizeLine ∧ 0 ≤ i ∧ i < 2 ^ 63 ∧ Q .non (upd H l (.lst (xs.take i.toNat ++ [y] ++ xs.drop i.toNat)))
def mInsert (os : List Ot) (l : List Sl) : Option (List Ot × D) := match l with
  | [.sh (.int i), s] => if os.length < 1000000 ∧ 0 ≤ i ∧ i < 1000000 then s.ot.map fun o => (os.take i.toNat ++ [o] ++ os.drop i.toNat, .none) else none
  | _ => none
theorem sndm_insert : SndM K rInsert mInsert := by
  intro S H p xs os vs l os' res Q hp hx hv hf
  match l, hv, hf with
  | [.sh (.int i), s], .cons (v := v1) h1 (.cons (v := v2) h2 .nil), hf =>
    have hf' : (if os.length < 1000000 ∧ 0 ≤ i ∧ i < 1000000 then s.ot.map fun o => (os.take i.toNat ++ [o] ++ os.drop i.toNat, PyData.none) else none) = some (os', res) := hf
    by_cases h : os.length < 1000000 ∧ 0 ≤ i ∧ i < 1000000
    · rw [if_pos h] at hf'
      obtain ⟨o, e1, e2⟩ := Option.map_eq_some_iff.mp hf'
      cases e2
      cases h1 with
      | sh r =>
        cases r
        refine ⟨⟨[], ?_⟩, fun hq => ⟨p, xs, i, v2, rfl, rfl, hp, by rw [hx.length]; exact Nat.lt_of_lt_of_le h.1 (by decide), h.2.1, Int.lt_trans h.2.2 (by decide), hq .non _ (((hx.take _).append (.cons (h2.ot e1) .nil)).append (hx.drop _)) .non⟩⟩
        have ea : adrL [Sl.sh (.int i), s] = o.adr := adr_ot e1
        have eo : Ot.adrs os = Ot.adrs (os.take i.toNat) ++ Ot.adrs (os.drop i.toNat) := by rw [← Ot.adrs_app, List.take_append_drop]
        rw [List.append_nil, ea, eo, Ot.adrs_app, Ot.adrs_app, Ot.adrs, Ot.adrs, List.append_nil, List.append_assoc, List.append_assoc]
        exact List.Perm.append_left _ List.perm_append_comm
    · rw [if_neg h] at hf'; cases hf'
theorem fit_insert : ∀ os l os' d, mInsert os l = some (os', d) → ∀ s ∈ l, s.fit := fun os l os' d h s hs => by
  match l, h with
  | [.sh (.int i), s'], h =>
    have h' : (if os.length < 1000000 ∧ 0 ≤ i ∧ i < 1000000 then s'.ot.map fun o => (os.take i.toNat ++ [o] ++ os.drop i.toNat, PyData.none) else none) = some (os', d) := h
    by_cases z : os.length < 1000000 ∧ 0 ≤ i ∧ i < 1000000
    · rw [if_pos z] at h'
      obtain ⟨o, e1, _⟩ := Option.map_eq_some_iff.mp h'
      rcases List.mem_cons.mp hs with rfl | hs
      · exact trivial
      · rw [List.mem_singleton.mp hs]
        exact ot_fit e1
    · rw [if_neg z] at h'; cases h'
/-- extend by a list: its items, or, if it is one's own, its trees -/
def mExtend (os : List Ot) (l : List Sl) : Option (List Ot × D) := match l with
  | [.ow (.nod (.lst _) ps)] => if os.length + ps.length ≤ 1000000 then some (os ++ ps, .none) else none
  | [.sh (.list ds)] => if os.length + ds.length ≤ 1000000 then some (os ++ ds.map .leaf, .none) else none
  | _ => none
theorem sndm_extend : SndM K rExtend mExtend := by
  intro S H p xs os vs l os' res Q hp hx hv hf
  match l, hv, hf with
  | [.ow (.nod (.lst q) ps)], .cons (v := v1) h1 .nil, hf =>
    have hf' : (if os.length + ps.length ≤ 1000000 then some (os ++ ps, PyData.none) else none) = some (os', res) := hf
    by_cases h : os.length + ps.length ≤ 1000000
    · rw [if_pos h] at hf'
      cases hf'
      cases h1 with
      | ow w =>
        cases w with
        | @nod _ zs _ g1 g2 =>
          refine ⟨⟨[q], ?_⟩, fun hq => ⟨p, q, xs, zs, rfl, rfl, hp, g1, by rw [hx.length, g2.length]; exact Nat.le_trans h (by decide), hq .non _ (hx.append g2) .non⟩⟩
          have ea : adrL [Sl.ow (.nod (.lst q) ps)] = q :: Ot.adrs ps := by simp [adrL, Ot.adr, Sh.own]
          rw [ea, Ot.adrs_app, List.append_assoc]
          exact List.Perm.append_left _ (List.perm_append_comm)
    · rw [if_neg h] at hf'; cases hf'
  | [.sh (.list ds)], .cons (v := v1) h1 .nil, hf =>
    have hf' : (if os.length + ds.length ≤ 1000000 then some (os ++ ds.map Ot.leaf, PyData.none) else none) = some (os', res) := hf
    by_cases h : os.length + ds.length ≤ 1000000
    · rw [if_pos h] at hf'
      cases hf'
      cases h1 with
      | sh r =>
        cases r with
        | @lst q zs _ g1 g2 =>
          refine ⟨⟨[], ?_⟩, fun hq => ⟨p, q, xs, zs, rfl, rfl, hp, g1.1, by rw [hx.length, g2.length]; exact Nat.le_trans h (by decide), hq .non _ (hx.append (Ows.leaves g2)) .non⟩⟩
          rw [Ot.adrs_app, Ot.adrs_leaf]
          simp [adrL]
    · rw [if_neg h] at hf'; cases hf'
theorem fit_extend : ∀ os l os' d, mExtend os l = some (os', d) → ∀ s ∈ l, s.fit := fun os l os' d h s hs => by
  match l, h with
  | [.ow (.nod (.lst _) ps)], h => rw [List.mem_singleton.mp hs]; exact trivial
  | [.sh (.list ds)], h => rw [List.mem_singleton.mp hs]; exact trivial
end
end ML

/-! ## M10 -/
set_option Elab.async false
set_option linter.all false
set_option autoImplicit false
set_option maxRecDepth 100000
set_option maxHeartbeats 4000000
namespace ML
open PySem PySem.Spec PyProof.Rows L2
section
variable {X : Cx} {W : Wd} {wx : WX} {K : PySem.W.Frag} {H H' : Hp} {σ : L2.St} {δ δ' : List Sl} {π ν ρ : List Cell} {e a b c tg iter ie : Expr} {es : List Expr} {t u ti : VT} {ts : VTs} {pos p apos cpos : Pos} {body : List Stmt} {pb : VSt} {S S' : Addr → Prop}

theorem vi_zip {elts : List Expr} {kk : Nat} {tpos : Pos} (hm : X.mg "zip" = none) (he : VE X W wx a t) (hf : VE X W wx b u) (hg : Gl X "zip" := by rfl) (hs : starEach [a, b] X.env = (false, eval a X.env) :: starEach [b] X.env := by rfl)
    (hs2 : starEach [b] X.env = (false, eval b X.env) :: starEach [] X.env := by rfl) (hpl : (backTo pos (starEach [b] X.env)).any (·.1) = false := by rfl) : VI X W wx (.Tuple elts kk tpos) (.Call (.Name "zip" p) [a, b] [] pos) (iZp t u) :=
  ⟨PI.imp (pi_zip hg hm (va_cons he (va_cons hf va_nil hs2) hs).pa hs hpl) fun σ H R ⟨δ, π, Qd, Xd, s, h, k, xr⟩ => ⟨δ, π, _, Xd, s, h, fun ds δ' q vs H' l n s' => by
    obtain ⟨es, fs, rfl, q⟩ := q
    obtain ⟨v, v2, rfl⟩ := len2 l
    rw [shs_cons, shs_cons, shs_nil] at s'
    have s1 : SS X.K W H' σ δ' (π ++ [(some v, Sl.sh (.list es))]) := by
      rw [List.append_cons] at s'
      exact s'.drop
    have s2 : SS X.K W H' σ δ' ((π ++ [(some v, Sl.sh (.list es))]) ++ [(some v2, Sl.sh (.list fs))]) := by rw [← List.append_cons]; exact s'
    obtain ⟨a', xs, rfl, hl⟩ := s1.list
    obtain ⟨b', ys, rfl, hl2⟩ := s2.list
    exact ⟨a', b', xs, ys, rfl, hl, hl2, k _ _ q _ _ _ s' itok_zip⟩, xr⟩⟩

/-! ### for -/
def vFor (it : VTs) (g : D → List Sl → Option (List Sl)) (pb : VSt) : VSt := fun E δ => it δ (fun its δ1 => ∃ I : Nat → List Sl → Prop, I 0 δ1 ∧
  (∀ k d δ2, its[k]? = some d → I k δ2 → ∃ δ3, g d δ2 = some δ3 ∧ pb ⟨I (k + 1), E.rt, E.nx, I (k + 1), E.ex⟩ δ3) ∧ ∀ δ2, I its.length δ2 → E.nx δ2) E.ex
theorem vs_for {it : VTs} {ws : List Nat} {g : D → List Sl → Option (List Sl)} (hp : PassesOwn (model X.prog X.w) X.A X.env X.xe) (hc : X.calm = true) (hi : VI X W wx tg iter it) (hg : VG X W tg ws g) (hb : VSs X W wx body pb)
    (hs : ∀ x, foldedSetIterable iter X.env x = pure x := by intro _; rfl) : VS X W wx (.For tg iter body [] pos) (vFor it g pb) := by
  refine ⟨PS.imp (ps_for hp hc hi.pi hg.pg hb.ps hs) fun Dd σ H ⟨δ, π, E, s, h, k⟩ => ⟨δ, π, _, _, s, h, fun its δ1 q J ν H1 s1 ok => ?_, k.ex σ⟩⟩
  obtain ⟨I, i0, step, last⟩ := q
  refine ⟨fun i m σ' H' => m = its.length - i ∧ i ≤ its.length ∧ ∃ δ2, I i δ2 ∧ SS X.K W H' σ' δ2 (π ++ ν), ⟨_, rfl, Nat.zero_le _, δ1, i0, s1⟩, ?_⟩
  rintro i m σ2 H2 ⟨rfl, hi2, δ2, iv, s2⟩
  have s2' : SS X.K W H2 σ2 δ2 (π ++ ν ++ []) := by rw [List.append_nil]; exact s2
  by_cases hlt : i < its.length
  · have hd : its[i]? = some its[i] := List.getElem?_eq_getElem hlt
    obtain ⟨go, yld⟩ := ok.go σ2 δ2 H2 π [] i _ s2' hd
    obtain ⟨δ3, g3, b3⟩ := step i _ δ2 hd iv
    refine .inr ⟨go, fun σ' H' => ∃ δ2, I (i + 1) δ2 ∧ SS X.K W H' σ' δ2 (π ++ ν), fun σ' H' ⟨δ4, iv4, s4⟩ => ⟨_, by omega, rfl, hlt, δ4, iv4, s4⟩, fun x H' hy => ?_⟩
    have s3 := yld x H' hy
    rw [List.append_nil] at s3
    refine ⟨δ2, _, _, (π ++ ν).length, δ3, snoc_last, s3, g3, fun σ' w s4 => ?_⟩
    refine ⟨δ3, π ++ ν, _, s4.drop, b3, ⟨fun δ' z σ' H' s' => ⟨δ', z, s'⟩, k.more.rt, k.more.nx, fun δ' z σ' H' s' => ⟨δ', z, s'⟩, k.more.ex⟩⟩
  · obtain rfl : i = its.length := by omega
    exact .inl ⟨ok.stop σ2 δ2 H2 π [] _ s2' (Nat.le_refl _), k.nx _ (last _ iv) _ _ s2.drop⟩

/-! ### while -/
def vWh (c : VTt) (pb : VSt) : VSt := fun E δ => ∃ (I : List Sl → Prop) (μ : List Sl → Nat), I δ ∧
  ∀ δ1, I δ1 → c δ1 (fun b δ2 => if b = true then pb ⟨fun δ' => I δ' ∧ μ δ' < μ δ1, E.rt, E.nx, fun δ' => I δ' ∧ μ δ' < μ δ1, E.ex⟩ δ2 else E.nx δ2) E.ex
theorem vs_while {tc : VTt} (hp : PassesOwn (model X.prog X.w) X.A X.env X.xe) (hc : VC X W wx c tc) (hb : VSs X W wx body pb) : VS X W wx (.While c body [] pos) (vWh tc pb) := by
  refine ⟨PS.imp (ps_while hp hc.pt hb.ps) fun Dd σ H ⟨δ, π, E, s, ⟨I, μ, i0, step⟩, k⟩ => ?_⟩
  refine ⟨fun m σ' H' => ∃ δ1, m = μ δ1 ∧ I δ1 ∧ SS X.K W H' σ' δ1 π, ⟨_, δ, rfl, i0, s⟩, ?_⟩
  rintro m σ1 H1 ⟨δ1, rfl, i1, s1⟩
  refine ⟨δ1, π, _, _, s1, step δ1 i1, fun b δ2 q H2 s2 => ?_, k.ex σ1⟩
  cases b with
  | true =>
    rw [if_pos rfl]
    rw [if_pos rfl] at q
    exact ⟨fun σ' H' => ∃ δ', (I δ' ∧ μ δ' < μ δ1) ∧ SS X.K W H' σ' δ' π, fun σ' H' ⟨δ', ⟨i', l'⟩, s'⟩ => ⟨_, l', δ', rfl, i', s'⟩,
      δ2, π, _, s2, q, ⟨fun δ' z σ' H' s' => ⟨δ', z, s'⟩, k.rt, k.nx, fun δ' z σ' H' s' => ⟨δ', z, s'⟩, k.ex⟩⟩
  | false =>
    rw [if_neg (by decide)]
    rw [if_neg (by decide)] at q
    exact k.nx _ q _ _ s2

/-! ### x op= e -/
def vAug (i : Nat) (f : D → D → Option Rs) (o : Opr) : VSt := fun E δ => inAt δ i ∧ o.ev δ (fun ra δ1 => ∃ x y r, (δ1[i]?).bind (Sl.read false δ1) = some x ∧ o.fin false ra δ1 = some y ∧ f x y = some r ∧ ∀ p, E.nx (δ1.set i (r.to p))) E.ex
theorem vs_aug {i : Nat} {x : Str} {op : Operator} {r : TIp} {f : D → D → Option Rs} {o : Opr} {pos' : Pos} (hN : X.N.Nodup) (hi : X.N[i]? = some x) (hx : Loc X.env.scope x) (he : VO X W wx e o) (ho : PIp X op r) (snd : Snd2 X.K r f)
    (hf : X.fn x = true ∨ X.env.scope.names.lookup x = some .local := by first | exact .inl rfl | exact .inr rfl | assumption) : VS X W wx (.AugAssign (.Name x pos') op e pos) (vAug i f o) := by
  obtain ⟨te, A⟩ := he
  refine ⟨PS.imp (ps_aug hN hi hx A.pe ho hf) fun Dd σ H ⟨δ, π, E, s, ⟨h1, h2⟩, k⟩ => ?_⟩
  obtain ⟨v, hv⟩ := s.inAt h1
  refine ⟨v, hv, A.run σ H δ π _ _ _ s h2 (k.ex σ) fun ra δ1 q u H1 s1 i1 => ?_⟩
  obtain ⟨dx, dy, res, e1, e2, e3, q⟩ := q
  obtain ⟨S, y⟩ := s1.st
  refine snd S H1 v u dx dy res _ ?_ (Opr.read (m := false) (ρ := []) s1.len y i1 e2) e3 fun w H2 nv => ?_
  · exact Opr.read (m := false) (o := .pk i) (ρ := []) (rv := .un) (π := π ++ [(some u, ra)]) (v := v) s1.len (by rw [← List.append_assoc]; exact y.blank) hv e1
  · have hl : i < δ1.length := by
      obtain ⟨sl, q1, _⟩ := Option.bind_eq_some_iff.mp e1
      exact (List.getElem?_eq_some_iff.mp q1).1
    obtain ⟨p, s2⟩ := s1.drop.new (SS.restrict y) nv
    exact k.nx _ (q p) _ _ (s2.put hl)

/-! ### stores to items -/
/-- x[i] = e, of a list of one's own -/
def putIx (os : List Ot) (k : Int) (o : Ot) : Option (List Ot) := match ixN os.length k with
  | some j => match os[j]? with
    | some (.leaf _) => some (os.set j o)
    | _ => none
  | none => none
def kidx (d : D) : Option Key := match d with
  | .int i => some (.inl i)
  | .str x => some (.inr x)
  | _ => none
/-- d[k] = e -/
def putKey (ks : List Key) (os : List Ot) (k : Key) (o : Ot) : Option (List Key × List Ot) := if ks.length < 1000000 then (match kpos ks k with
  | none => some (ks ++ [k], os ++ [o])
  | some j => match os[j]? with
    | some (.leaf _) => some (ks, os.set j o)
    | _ => none) else none
def storeL (s : Sh) (os : List Ot) (dk : D) (o : Ot) : Option (Sh × List Ot) := match s with
  | .lst p => match dk with
    | .int k => (putIx os k o).map fun os' => (.lst p, os')
    | _ => none
  | .dct p ks => (kidx dk).bind fun k => (putKey ks os k o).map fun r => (.dct p r.1, r.2)
  | .obj _ _ _ _ => none
/-- c[i] = e: the value first; then c, and the place in it -/
def vPut (t : VT) (c : Opr) (ti : VT) : VSt := fun E δ => t δ (fun rv δ1 => rv.isIn = true ∧ c.ev δ1 (fun rc δ2 => ti δ2 (fun rk δ3 => ∃ (o : Ot) (dk : D) (L : Nde) (s' : Sh) (os' : List Ot), rv.ot = some o ∧ rk = .sh dk ∧ c.loc rc δ3 = some L ∧ storeL L.s L.os dk o = some (s', os') ∧ E.nx (L.set δ3 s' os')) E.ex) E.ex) E.ex

theorem PSet.or {t t' : TSet} (h : PSet X t) (h' : PSet X t') : PSet X (fun o i v H Q => t o i v H Q ∨ t' o i v H Q) :=
  fun pins s σ H o i v ou iu vu Q I ro ri rv q => q.elim (h pins s σ H o i v ou iu vu Q I ro ri rv) (h' pins s σ H o i v ou iu vu Q I ro ri rv)
theorem kpos_some {α : Type} [DecidableEq α] : ∀ {l : List α} {x : α} {j : Nat}, kpos l x = some j → l[j]? = some x
  | [], _, _, h => by cases h
  | y :: l, x, j, h => by
    unfold kpos at h
    by_cases e : y = x
    · rw [if_pos e] at h
      cases h
      simp [e]
    · rw [if_neg e] at h
      obtain ⟨i, h1, h2⟩ := Option.map_eq_some_iff.mp h
      subst h2
      simpa using kpos_some h1
theorem kpos_none {α : Type} [DecidableEq α] : ∀ {l : List α} {x : α}, kpos l x = none → x ∉ l
  | [], _, _ => by simp
  | y :: l, x, h => by
    unfold kpos at h
    by_cases e : y = x
    · rw [if_pos e] at h
      cases h
    · rw [if_neg e] at h
      have h2 : kpos l x = none := by simpa using h
      intro z
      rcases List.mem_cons.mp z with z | z
      · exact e z.symm
      · exact kpos_none h2 z
theorem putK_no {ks : List Key} {xs : List V} {k : Key} {v : V} (h : k ∉ ks) (l : ks.length = xs.length) : putK (ks.zip xs) k v = (ks ++ [k]).zip (xs ++ [v]) := by
  have e : ((ks.zip xs).any fun kv => decide (kv.1 = k)) = false := by
    rw [List.any_eq_false]
    intro p hp hq
    have := of_decide_eq_true hq
    exact h (this ▸ (List.of_mem_zip hp).1)
  unfold putK
  rw [e, if_neg (by decide), List.zip_append l]
  rfl
theorem putK_at : ∀ {ks : List Key} {xs : List V} {k : Key} {v : V} {j : Nat}, kpos ks k = some j → ks.Nodup → ks.length = xs.length → putK (ks.zip xs) k v = ks.zip (xs.set j v)
  | ks, xs, k, v, j, h, nd, l => by
    have hm := kpos_some h
    have hj : j < ks.length := (List.getElem?_eq_some_iff.mp hm).1
    have e : ((ks.zip xs).any fun kv => decide (kv.1 = k)) = true := by
      rw [List.any_eq_true]
      have hx : j < xs.length := by omega
      refine ⟨(k, xs[j]), ?_, by simp⟩
      have : (ks.zip xs)[j]? = some (k, xs[j]) := List.getElem?_zip_eq_some.mpr ⟨hm, List.getElem?_eq_getElem hx⟩
      exact List.mem_of_getElem? this
    unfold putK
    rw [e, if_pos rfl]
    apply List.ext_getElem?
    intro i
    rw [List.getElem?_map]
    by_cases hi : i < ks.length
    · have hx : i < xs.length := by omega
      have e1 : (ks.zip xs)[i]? = some (ks[i], xs[i]) := List.getElem?_zip_eq_some.mpr ⟨List.getElem?_eq_getElem hi, List.getElem?_eq_getElem hx⟩
      rw [e1, Option.map_some]
      by_cases ij : i = j
      · subst ij
        have ek : ks[i] = k := by
          rw [List.getElem?_eq_getElem hi] at hm
          exact Option.some.inj hm
        have e2 : (ks.zip (xs.set i v))[i]? = some (k, v) := List.getElem?_zip_eq_some.mpr ⟨hm, by rw [List.getElem?_set_self hx]⟩
        rw [e2]
        simp [ek]
      · have nk : ks[i] ≠ k := fun z => by
          rw [List.getElem?_eq_getElem hj] at hm
          have q := Option.some.inj hm
          have pw := List.pairwise_iff_getElem.mp nd
          rcases Nat.lt_or_gt_of_ne ij with l1 | l1
          · exact pw i j hi hj l1 (z.trans q.symm)
          · exact pw j i hj hi l1 (q.trans z.symm)
        have e2 : (ks.zip (xs.set j v))[i]? = some (ks[i], xs[i]) := List.getElem?_zip_eq_some.mpr ⟨List.getElem?_eq_getElem hi, by rw [List.getElem?_set_ne (fun z => ij z.symm)]; exact List.getElem?_eq_getElem hx⟩
        rw [e2]
        simp [nk]
    · rw [List.getElem?_eq_none (by rw [List.length_zip]; omega), List.getElem?_eq_none (by rw [List.length_zip]; omega)]
      rfl
theorem adrs_put_leaf {os : List Ot} {j : Nat} {d : D} {o : Ot} (h : os[j]? = some (.leaf d)) : (Ot.adrs (os.set j o)).Perm (Ot.adrs os ++ o.adr) := by
  obtain ⟨e1, e2⟩ := adrs_split h
  have e0 : (Ot.leaf d).adr = [] := by rw [Ot.adr]
  rw [e0, List.nil_append] at e1
  rw [e1, e2, List.append_assoc]
  exact List.Perm.append_left _ List.perm_append_comm
theorem kidx_v {dk : D} {k : Key} {kv : V} (h : kidx dk = some k) (r : Rp K S H kv dk) : kv = kV k ∧ okK k = true := by
  cases dk with
  | int i => cases h; cases r; exact ⟨rfl, rfl⟩
  | str x =>
    cases h
    cases r with
    | str _ q => exact ⟨rfl, q⟩
  | _ => cases h
/-- a store, by what it makes of a node -/
theorem store_ok {s s' : Sh} {os os' : List Ot} {dk : D} {o : Ot} {xs : List V} {v kv : V} (h : storeL s os dk o = some (s', os')) (hh : s.holds H xs) (ho : Ows K S H xs os) (wo : Ow K S H v o) (rk : Rp K S H kv dk) :
    s'.root = s.root ∧ s'.own = s.own ∧ (Ot.adrs os').Perm (Ot.adrs os ++ o.adr) ∧ ∃ xs' H', (∀ b, b ∉ s.own → H' b = H b) ∧ s'.holds H' xs' ∧ Ows K S H xs' os' ∧ ∀ Q : Hp → Prop, Q H' → (rSetL (.ref s.root) kv v H Q ∨ rSetD (.ref s.root) kv v H Q) := by
  cases s with
  | lst p =>
    cases dk with
    | int k =>
      obtain ⟨os1, e1, e2⟩ := Option.map_eq_some_iff.mp (show (putIx os k o).map (fun os' => (Sh.lst p, os')) = some (s', os') from h)
      cases e2
      unfold putIx at e1
      split at e1
      · rename_i j ej
        split at e1
        · rename_i d ed
          cases e1
          refine ⟨rfl, rfl, adrs_put_leaf ed, xs.set j v, upd H p (.lst (xs.set j v)), fun b hb => upd_ne (fun z => hb (by rw [z]; exact List.mem_cons_self)), upd_same, ho.set wo, fun Q q => .inl ?_⟩
          cases rk
          exact ⟨p, xs, k, j, rfl, rfl, hh, by rw [ho.length]; exact ej, q⟩
        · cases e1
      · cases e1
    | _ => cases h
  | dct p ks =>
    obtain ⟨k, e0, h⟩ := Option.bind_eq_some_iff.mp (show (kidx dk).bind (fun k => (putKey ks os k o).map fun r => (Sh.dct p r.1, r.2)) = some (s', os') from h)
    obtain ⟨r, e1, e2⟩ := Option.map_eq_some_iff.mp h
    cases e2
    obtain ⟨h1, h2, h3, h4⟩ := hh
    obtain ⟨rfl, ok⟩ := kidx_v e0 rk
    unfold putKey at e1
    by_cases hl : ks.length < 1000000
    · rw [if_pos hl] at e1
      have hz : (ks.zip xs).length < sizeLine := by rw [List.length_zip]; exact Nat.lt_of_le_of_lt (Nat.min_le_left _ _) (Nat.lt_of_lt_of_le hl (by decide))
      split at e1
      · rename_i en
        cases e1
        have nk := kpos_none en
        refine ⟨rfl, rfl, by rw [Ot.adrs_app, Ot.adrs, Ot.adrs, List.append_nil], xs ++ [v], upd H p (.dK (putK (ks.zip xs) k v)), fun b hb => upd_ne (fun z => hb (by rw [z]; exact List.mem_cons_self)), ⟨?_, ?_, ?_, ?_⟩, ho.append (.cons wo .nil), fun Q q => .inr ⟨p, _, rfl, DPut.k h1 hz, q⟩⟩
        · rw [upd_same, putK_no nk h2]
        · rw [List.length_append, List.length_append, h2]; rfl
        · exact nd_snoc h3 nk
        · intro x hx
          rcases List.mem_append.mp hx with hx | hx
          · exact h4 x hx
          · rw [List.mem_singleton.mp hx]; exact ok
      · rename_i j ej
        split at e1
        · rename_i d ed
          cases e1
          refine ⟨rfl, rfl, adrs_put_leaf ed, xs.set j v, upd H p (.dK (putK (ks.zip xs) k v)), fun b hb => upd_ne (fun z => hb (by rw [z]; exact List.mem_cons_self)), ⟨?_, by rw [List.length_set]; exact h2, h3, h4⟩, ho.set wo, fun Q q => .inr ⟨p, _, rfl, DPut.k h1 hz, q⟩⟩
          rw [upd_same, putK_at ej h3 h2]
        · cases e1
    · rw [if_neg hl] at e1; cases e1
  | obj p dx C ks => cases h

theorem vs_put {o : Opr} {ov ie : Expr} {ps : Pos} (hu : X.A.units + 1 < cLine) (he : VE X W wx e t) (ho : VO X W wx ov o) (hi : VE X W wx ie ti)
    (ha : ∀ v, assign (.Subscript ov ie ps) X.env v = (do
      let ov' ← holding [v] (eval ov X.env)
      let iv ← holding [v, ov'] (eval ie X.env)
      standAt ps
      holding [v, ov', iv] (setItem ov' iv v)
      release [v, ov', iv] []) := by intro _; rfl)
    (hs : swapsWithSole [.Subscript ov ie ps] e pos.line X.env = pure false := by rfl) (hw : swappedStores [.Subscript ov ie ps] e X.env = pure none := by rfl) (h1 : (assignEach [.Subscript ov ie ps] X.env).map (·.2) = [assign (.Subscript ov ie ps) X.env] := by rfl) :
    VS X W wx (.Assign [.Subscript ov ie ps] e pos) (vPut t o ti) := by
  obtain ⟨te, A⟩ := ho
  refine ⟨PS.imp (ps_asg he.pe (pg_sub A.pe hi.pe (PSet.or set_list (set_dict hu)) ha) hs hw h1) fun Dd σ H ⟨δ, π, E, s, h, k⟩ => ?_⟩
  refine ⟨δ, π, _, _, s, h, fun rv δ1 z v H1 s1 => ?_, k.ex σ⟩
  obtain ⟨z1, z2⟩ := z
  refine A.run σ H1 δ1 _ _ _ _ s1 z2 (k.ex σ).more fun rc δ2 z3 cv H2 s2 i2 => ?_
  refine ⟨δ2, _, _, _, s2, z3, fun rk δ3 z4 kv H3 s3 => ?_, (k.ex σ).more.more⟩
  obtain ⟨ot, dk, L, s', os', q1, q2, q3, q4, q5⟩ := z4
  subst q2
  obtain ⟨S, x⟩ := s3.st
  have x1 : StF X.K W H3 (σ.zip δ3 ++ ((π ++ [(some v, rv)]) ++ ((some cv, rc) :: [(some kv, Sl.sh dk)]))) S := by
    rw [List.append_assoc (π ++ [(some v, rv)])] at x
    exact x
  obtain ⟨h1, h2, h3⟩ := Opr.loc_ok s3.len x1 i2 q3
  have x2 : StF X.K W H3 (σ.zip δ3 ++ (π ++ ([(some v, rv), (some cv, rc), (some kv, Sl.sh dk)]))) S := by
    rw [List.append_assoc π] at x1
    exact x1
  obtain ⟨xs, g1, g2, g3⟩ := x2.mutL s3.len h1 h2
  have ev : (σ.zip δ3 ++ (π ++ ([(some v, rv), (some cv, rc), (some kv, Sl.sh dk)])))[(σ.zip δ3 ++ π).length]? = some (some v, rv) := by
    rw [← List.append_assoc, List.getElem?_append_right (Nat.le_refl _), Nat.sub_self]
    rfl
  have ek : (σ.zip δ3 ++ (π ++ ([(some v, rv), (some cv, rc), (some kv, Sl.sh dk)])))[(σ.zip δ3 ++ π).length + 2]? = some (some kv, Sl.sh dk) := by
    rw [← List.append_assoc, List.getElem?_append_right (by omega), Nat.add_sub_cancel_left]
    rfl
  have wo : Ow X.K S H3 v ot := (x2.arg ev (ot_fit q1)).ot q1
  obtain ⟨u, eu, rk⟩ := x2.sh _ _ _ ek
  cases eu
  obtain ⟨r1, r2, pm, xs', H', kp, hh, ho', fin⟩ := store_ok q4 g1 g2 wo rk
  rw [h3]
  refine fin _ ?_
  obtain ⟨y, _⟩ := g3 s' xs' os' H' (adrC [(some cv, rc), (some kv, Sl.sh dk)]) r1 r2 kp hh ho' (by
    have e0 : adrC [(some v, rv), (some cv, rc), (some kv, Sl.sh dk)] = ot.adr ++ adrC [(some cv, rc), (some kv, Sl.sh dk)] := by
      cases rv with
      | sh d => cases q1; simp [adrC, Ot.adr]
      | ow o => cases q1; simp [adrC]
      | _ => cases q1
    rw [e0, ← List.append_assoc]
    exact pm.append_right _)
  exact k.nx _ q5 _ _ ⟨by rw [Nde.set_len]; exact s3.len, S, y⟩
end
end ML

/-! ## M11 -/
set_option Elab.async false
set_option linter.all false
set_option autoImplicit false
set_option maxRecDepth 100000
set_option maxHeartbeats 4000000
namespace ML
open PySem PySem.Spec PyProof.Rows L2

def wipeD (δ : List Sl) : List Nat → List Sl
  | [] => δ
  | v :: vs => (wipeD δ vs).set v .un
theorem wipeD_length (δ : List Sl) : ∀ vs : List Nat, (wipeD δ vs).length = δ.length
  | [] => rfl
  | v :: vs => by unfold wipeD; rw [List.length_set, wipeD_length δ vs]
theorem wipe_at {σ : L2.St} {i : Nat} : ∀ {vs : List Nat}, (wipe σ vs)[i]? = if i ∈ vs ∧ i < σ.length then some none else σ[i]?
  | [] => by simp [wipe]
  | v :: vs => by
    unfold wipe
    by_cases h : v = i
    · subst h
      by_cases hl : v < σ.length
      · rw [List.getElem?_set_self (by rw [wipe_length]; exact hl), if_pos ⟨List.mem_cons_self, hl⟩]
      · rw [List.getElem?_eq_none (by rw [List.length_set, wipe_length]; omega), if_neg (fun q => hl q.2), List.getElem?_eq_none (by omega)]
    · rw [List.getElem?_set_ne h, wipe_at]
      by_cases q : i ∈ vs ∧ i < σ.length
      · rw [if_pos q, if_pos ⟨List.mem_cons_of_mem _ q.1, q.2⟩]
      · rw [if_neg q, if_neg fun z => q ⟨(List.mem_cons.mp z.1).resolve_left (fun e => h e.symm), z.2⟩]
theorem wipeD_at {δ : List Sl} {i : Nat} : ∀ {vs : List Nat}, (wipeD δ vs)[i]? = if i ∈ vs ∧ i < δ.length then some .un else δ[i]?
  | [] => by simp [wipeD]
  | v :: vs => by
    unfold wipeD
    by_cases h : v = i
    · subst h
      by_cases hl : v < δ.length
      · rw [List.getElem?_set_self (by rw [wipeD_length]; exact hl), if_pos ⟨List.mem_cons_self, hl⟩]
      · rw [List.getElem?_eq_none (by rw [List.length_set, wipeD_length]; omega), if_neg (fun q => hl q.2), List.getElem?_eq_none (by omega)]
    · rw [List.getElem?_set_ne h, wipeD_at]
      by_cases q : i ∈ vs ∧ i < δ.length
      · rw [if_pos q, if_pos ⟨List.mem_cons_of_mem _ q.1, q.2⟩]
      · rw [if_neg q, if_neg fun z => q ⟨(List.mem_cons.mp z.1).resolve_left (fun e => h e.symm), z.2⟩]
theorem wipe_sub {a b : L2.St} {ws vs : List Nat} (h : wipe a ws = wipe b ws) (hs : ∀ i ∈ ws, i ∈ vs) : wipe a vs = wipe b vs := by
  have hl : a.length = b.length := by
    have := congrArg List.length h
    rwa [wipe_length, wipe_length] at this
  apply List.ext_getElem?
  intro i
  rw [wipe_at, wipe_at, hl]
  by_cases q : i ∈ vs ∧ i < b.length
  · rw [if_pos q, if_pos q]
  · rw [if_neg q, if_neg q]
    have z : (wipe a ws)[i]? = (wipe b ws)[i]? := by rw [h]
    rw [wipe_at, wipe_at, hl] at z
    by_cases q2 : i ∈ ws ∧ i < b.length
    · exact absurd ⟨hs i q2.1, q2.2⟩ q
    · rw [if_neg q2, if_neg q2] at z
      exact z
theorem wipe_wipe {a : L2.St} {vs : List Nat} : wipe (wipe a vs) vs = wipe a vs := by
  apply List.ext_getElem?
  intro i
  rw [wipe_at, wipe_length]
  by_cases q : i ∈ vs ∧ i < a.length
  · rw [if_pos q, wipe_at, if_pos q]
  · rw [if_neg q]

section
variable {X : Cx} {W : Wd} {wx : WX} {K : PySem.W.Frag} {H H' : Hp} {σ : L2.St} {δ δ' : List Sl} {π ν ρ : List Cell} {e a b c tg iter elt : Expr} {es ifs : List Expr} {t u te : VT} {ts : VTs} {pos p apos cpos : Pos} {S S' : Addr → Prop} {cs cs' : List Cell}
theorem zip_at {σ : L2.St} {δ : List Sl} {i : Nat} {c : Cell} : (σ.zip δ)[i]? = some c ↔ σ[i]? = some c.1 ∧ δ[i]? = some c.2 := List.getElem?_zip_eq_some
/-- some slots are forgotten -/
theorem SS.wipe (s : SS K W H σ δ π) {vs : List Nat} : SS K W H (L2.wipe σ vs) (wipeD δ vs) π := by
  obtain ⟨S, x⟩ := s.st
  refine ⟨by rw [wipe_length, wipeD_length]; exact s.len, S, x.re (cs' := (L2.wipe σ vs).zip (wipeD δ vs) ++ π) (fun i => i) (fun i c q => ?_) (fun i j n q => absurd q n)⟩
  have l1 : ((L2.wipe σ vs).zip (wipeD δ vs)).length = (σ.zip δ).length := by rw [zip_length (by rw [wipe_length, wipeD_length]; exact s.len), wipeD_length, zip_length s.len]
  by_cases hi : i < (σ.zip δ).length
  · rw [List.getElem?_append_left (by rw [l1]; exact hi)] at q
    obtain ⟨q1, q2⟩ := zip_at.mp q
    have hiδ : i < δ.length := by rw [zip_length s.len] at hi; exact hi
    rw [wipeD_at] at q2
    by_cases hv : i ∈ vs ∧ i < δ.length
    · rw [if_pos hv] at q2
      exact .inl (Option.some.inj q2).symm
    · rw [if_neg hv] at q2
      rw [wipe_at, if_neg (fun z => hv ⟨z.1, hiδ⟩)] at q1
      rw [List.getElem?_append_left hi]
      exact .inr (zip_at.mpr ⟨q1, q2⟩)
  · rw [List.getElem?_append_right (by omega), l1] at q
    rw [List.getElem?_append_right (by omega)]
    exact .inr q
/-- what was forgotten is nowhere asked -/
theorem SS.unwipe {vs : List Nat} (s : SS K W H (L2.wipe σ vs) δ π) : SS K W H σ δ π := by
  obtain ⟨S, x⟩ := s.st
  have hl : σ.length = δ.length := by have := s.len; rwa [wipe_length] at this
  refine ⟨hl, S, x.re (cs' := σ.zip δ ++ π) (fun i => i) (fun i c q => ?_) (fun i j n q => absurd q n)⟩
  have l1 : ((L2.wipe σ vs).zip δ).length = (σ.zip δ).length := by rw [zip_length s.len, zip_length hl]
  by_cases hi : i < (σ.zip δ).length
  · rw [List.getElem?_append_left hi] at q
    obtain ⟨q1, q2⟩ := zip_at.mp q
    by_cases hv : i ∈ vs ∧ i < σ.length
    · have e : ((L2.wipe σ vs).zip δ ++ π)[i]? = some (none, c.2) := by
        rw [List.getElem?_append_left (by rw [l1]; exact hi)]
        exact zip_at.mpr ⟨by rw [wipe_at, if_pos hv], q2⟩
      obtain ⟨c1, c2⟩ := c
      cases c2 with
      | un => exact .inl rfl
      | sh d =>
        obtain ⟨u, eu, _⟩ := x.sh i _ _ e
        cases eu
      | ow o =>
        obtain ⟨u, eu, _⟩ := x.ow i _ _ e
        cases eu
      | rf j τ p => cases x.rf i _ j τ p e
    · refine .inr ?_
      rw [List.getElem?_append_left (by rw [l1]; exact hi)]
      exact zip_at.mpr ⟨by rw [wipe_at, if_neg hv]; exact q1, q2⟩
  · rw [List.getElem?_append_right (by omega)] at q
    rw [List.getElem?_append_right (by omega), l1]
    exact .inr q

def noX : Exn → List Sl → Prop := fun _ _ => False
/-- a comprehension; its items as they are (a tree of one's own goes into the new list) -/
def vLcO (it : VTs) (g : D → List Sl → Option (List Sl)) (cond : VTt) (te : VT) (vs : List Nat) : VT := fun δ Q Xc => it δ (fun its δ1 => its.length ≤ 1000000 ∧ ∃ I : Nat → List Ot → List Sl → Prop, I 0 [] (wipeD δ1 vs) ∧
  (∀ k d acc δ2, its[k]? = some d → acc.length ≤ k → I k acc δ2 → ∃ δ3, g d δ2 = some δ3 ∧ cond δ3 (fun b δ4 => if b = true then te δ4 (fun rv δ5 => ∃ o, rv.ot = some o ∧ I (k + 1) (acc ++ [o]) (wipeD δ5 vs)) noX else I (k + 1) acc (wipeD δ4 vs)) noX) ∧
  ∀ acc δ2, I its.length acc δ2 → ∀ p, Q (.ow (.lst p acc)) δ2) Xc
/-- .. its items shared -/
def vLc (it : VTs) (g : D → List Sl → Option (List Sl)) (cond : VTt) (te : VT) (vs : List Nat) : VT := fun δ Q Xc => it δ (fun its δ1 => its.length ≤ 1000000 ∧ ∃ I : Nat → List D → List Sl → Prop, I 0 [] (wipeD δ1 vs) ∧
  (∀ k d acc δ2, its[k]? = some d → acc.length ≤ k → I k acc δ2 → ∃ δ3, g d δ2 = some δ3 ∧ cond δ3 (fun b δ4 => if b = true then te δ4 (fun rv δ5 => rv.isIn = true ∧ I (k + 1) (acc ++ [rv.get]) (wipeD δ5 vs)) noX else I (k + 1) acc (wipeD δ4 vs)) noX) ∧
  ∀ acc δ2, I its.length acc δ2 → ∀ p, Q (.ow (Ot.flat p acc)) δ2) Xc
def vYes : VTt := fun δ Q _ => Q true δ
def wx0 : WX := fun _ _ _ _ => False
structure VCs (X : Cx) (W : Wd) (wx : WX) (es : List Expr) (t : VTt) : Prop where
  pt : PTs X es (lT X.K W wx t)
theorem PTs.imp {e : List Expr} {t t' : TT} (h : PTs X e t) (i : ∀ σ H Q, t' σ H Q → t σ H Q) : PTs X e t' := ⟨fun pins s σ H Q I q => h.run pins s σ H Q I (i σ H Q q)⟩
theorem vcs_nil : VCs X W wx [] vYes := ⟨PTs.imp pts_nil fun σ H Q ⟨δ, π, Qd, Xd, s, h, k, xr⟩ => k _ _ h _ s⟩
theorem vcs_one {tc : VTt} (h : VC X W wx c tc) : VCs X W wx [c] tc := ⟨pts_one h.pt⟩
theorem xr0 {Xd : Exn → List Sl → Prop} : XR K W wx0 σ π noX := fun _ _ q => q.elim
/-- something of its own, taken from the right end, goes into the last list but one -/
theorem SS.into {A B : List Cell} {Da : Addr} {acc : List Ot} {y : V} {rv : Sl} {o : Ot} (s : SS K W H σ δ (A ++ [(some (.ref Da), .ow (.lst Da acc))] ++ B ++ [(some y, rv)])) (e : rv.ot = some o) :
    ∃ xs, H Da = some (.lst xs) ∧ xs.length = acc.length ∧ SS K W (upd H Da (.lst (xs ++ [y]))) σ δ (A ++ [(some (.ref Da), .ow (.lst Da (acc ++ [o])))]) := by
  obtain ⟨S, x⟩ := s.st
  have lz := zip_length s.len
  have eD : (σ.zip δ ++ (A ++ [(some (V.ref Da), Sl.ow (.lst Da acc))] ++ B ++ [(some y, rv)]))[(σ.zip δ ++ A).length]? = some (some (V.ref Da), Sl.ow (.lst Da acc)) := by
    rw [List.append_assoc A, List.append_assoc A, ← List.append_assoc (σ.zip δ), List.getElem?_append_right (Nat.le_refl _), Nat.sub_self]
    rfl
  have eY : (σ.zip δ ++ (A ++ [(some (V.ref Da), Sl.ow (.lst Da acc))] ++ B ++ [(some y, rv)]))[(σ.zip δ ++ (A ++ [(some (V.ref Da), Sl.ow (.lst Da acc))] ++ B)).length]? = some (some y, rv) := by
    rw [← List.append_assoc, List.getElem?_append_right (Nat.le_refl _), Nat.sub_self]
    rfl
  obtain ⟨xs, h1, h2, h3, h4, h5, h6⟩ := x.mutAt (π := []) (s := .lst Da) (os := acc) eD rfl
  have wy : Ow K S H y o := (x.arg eY (ot_fit e)).ot e
  have ne : (σ.zip δ ++ (A ++ [(some (V.ref Da), Sl.ow (.lst Da acc))] ++ B)).length ≠ (σ.zip δ ++ A).length := by
    simp
  have adr_in : ∀ b ∈ o.adr, rv = .ow o := fun b hb => by
    cases rv with
    | sh d => cases e; rw [Ot.adr] at hb; cases hb
    | ow o' => cases e; rfl
    | _ => cases e
  have ydj : ∀ b ∈ o.adr, b ∉ (Ot.lst Da acc).adr := fun b hb z => by
    have er := adr_in b hb
    subst er
    exact x.dj _ _ _ _ _ _ b ne eY eD hb z
  have ynd : o.adr.Nodup := by
    cases rv with
    | sh d => cases e; rw [Ot.adr]; exact List.nodup_nil
    | ow o' => cases e; exact x.nd _ _ _ eY
    | _ => cases e
  have nd0 := x.nd _ _ _ eD
  rw [Ot.adr] at nd0 ydj
  have kp : ∀ b, b ∉ (Sh.lst Da).own → upd H Da (.lst (xs ++ [y])) b = H b := fun b hb => upd_ne (fun z => hb (by rw [z]; exact List.mem_cons_self))
  have ev := h5 _ kp
  have ho : Ows K S H (xs ++ [y]) (acc ++ [o]) := h2.append (.cons wy .nil)
  have ho' : Ows K S (upd H Da (.lst (xs ++ [y]))) (xs ++ [y]) (acc ++ [o]) := Ows.ev ev _ _ (fun b hb u q => by
    rw [kp b (fun z => ?_)]
    · exact q
    · rw [Ot.adrs_app, Ot.adrs, Ot.adrs, List.append_nil] at hb
      rcases List.mem_append.mp hb with w | w
      · exact h4 b z w
      · exact ydj b w (List.mem_append_left _ z)) ho
  refine ⟨xs, h1, h2.length, s.len, S, ?_⟩
  refine h6 (.lst Da) (xs ++ [y]) (acc ++ [o]) _ (fun j => j = (σ.zip δ ++ (A ++ [(some (V.ref Da), Sl.ow (.lst Da acc))] ++ B)).length) _ rfl rfl kp upd_same ho' ?_ (fun b hb => ?_) ?_ (fun j c nj q => ?_)
  · rw [Ot.adrs_app, Ot.adrs, Ot.adrs, List.append_nil]
    refine List.nodup_append.mpr ⟨(List.nodup_append.mp nd0).2.1, ynd, fun b hb c hc q => ?_⟩
    subst q
    exact ydj b hc (List.mem_append_right _ hb)
  · rw [Ot.adrs_app, Ot.adrs, Ot.adrs, List.append_nil] at hb
    rcases List.mem_append.mp hb with w | w
    · exact .inl w
    · have er := adr_in b w
      subst er
      exact .inr ⟨_, _, _, ne, rfl, eY, w⟩
  · rw [← List.append_assoc (σ.zip δ), List.getElem?_append_right (Nat.le_refl _), Nat.sub_self]
    rfl
  · have jl := (List.getElem?_eq_some_iff.mp q).1
    have jl' : j < (σ.zip δ ++ A).length + 1 := by
      rw [← List.append_assoc, List.length_append (bs := [_])] at jl
      exact jl
    refine .inr ⟨?_, ?_⟩
    · rw [← List.append_assoc (σ.zip δ), List.getElem?_append_left (by omega)] at q
      rw [List.append_assoc A, List.append_assoc A, ← List.append_assoc (σ.zip δ), List.getElem?_append_left (by omega)]
      exact q
    · intro z
      rw [z, ← List.append_assoc, ← List.append_assoc, List.length_append (bs := B), List.length_append (bs := [_])] at jl'
      simp at jl'
      have := nj
      rw [z] at this
      simp at this
      omega
theorem lcO_run {it : VTs} {ws vs : List Nat} {g : D → List Sl → Option (List Sl)} {tc : VTt} {te : VT} {Q : VK} (hw : ∀ i ∈ ws, i ∈ vs) (h : lE X.K W wx (vLcO it g tc te vs) σ H Q) :
    tLc (lI X.K W wx it) (lG X.K W ws g) (lT X.K W wx0 tc) (lE X.K W wx0 te) vs σ H Q := by
  obtain ⟨δ, π, Qd, Xd, s, h, k, xr⟩ := h
  refine ⟨δ, π, _, Xd, s, h, fun its δ1 q J ν H1 s1 iok => ?_, xr⟩
  obtain ⟨hlen, I, i0, step, last⟩ := q
  intro Da hD
  have s1w : SS X.K W H1 (L2.wipe σ vs) (wipeD δ1 vs) (π ++ ν) := s1.wipe
  obtain ⟨S1, x1⟩ := s1w.st
  have s2 : SS X.K W (upd H1 Da (.lst [])) (L2.wipe σ vs) (wipeD δ1 vs) (π ++ ν ++ [(some (.ref Da), .ow (.lst Da []))]) := ⟨s1w.len, _, by rw [← List.append_assoc]; exact x1.newL (ds := []) hD .nil⟩
  refine ⟨fun i m H' => m = its.length - i ∧ i ≤ its.length ∧ ∃ acc δ2, acc.length ≤ i ∧ I i acc δ2 ∧ SS X.K W H' (L2.wipe σ vs) δ2 (π ++ ν ++ [(some (.ref Da), .ow (.lst Da acc))]), ⟨_, rfl, Nat.zero_le _, [], _, Nat.le_refl _, i0, s2⟩, ?_⟩
  rintro i m H2 ⟨rfl, hi2, acc, δ2, hacc, iv, s2⟩
  by_cases hlt : i < its.length
  · have hd : its[i]? = some its[i] := List.getElem?_eq_getElem hlt
    obtain ⟨go, yld⟩ := iok.go (L2.wipe σ vs) δ2 H2 π [(some (.ref Da), .ow (.lst Da acc))] i _ s2 hd
    obtain ⟨δ3, g3, b3⟩ := step i _ acc δ2 hd hacc iv
    refine .inr ⟨go, fun H' => ∃ acc δ2, acc.length ≤ i + 1 ∧ I (i + 1) acc δ2 ∧ SS X.K W H' (L2.wipe σ vs) δ2 (π ++ ν ++ [(some (.ref Da), .ow (.lst Da acc))]), fun H' ⟨acc', δ4, l4, iv4, s4⟩ => ⟨_, by omega, rfl, hlt, acc', δ4, l4, iv4, s4⟩, fun x H' hy => ?_⟩
    have s3 := yld x H' hy
    refine ⟨δ2, _, _, (π ++ ν ++ [(some (V.ref Da), Sl.ow (.lst Da acc))]).length, δ3, snoc_last, s3, g3, fun σ2 w s4 => ?_⟩
    have ew : L2.wipe σ2 vs = L2.wipe σ vs := by rw [wipe_sub w hw, wipe_wipe]
    refine ⟨ew, δ3, _, _, _, s4, b3, fun bb δ4 q H3 s5 => ?_, fun _ _ q => q.elim⟩
    have back : ∀ {H' : Hp} {δ5 : List Sl} {ρ : List Cell}, SS X.K W H' σ2 δ5 ρ → SS X.K W H' (L2.wipe σ vs) (wipeD δ5 vs) ρ := fun {H' δ5 ρ} z => by
      have := z.wipe (vs := vs)
      rw [ew] at this
      exact this
    cases bb with
    | false =>
      have q1 : I (i + 1) acc (wipeD δ4 vs) := q
      exact iteF ⟨acc, _, by omega, q1, back s5.drop⟩
    | true =>
      have q1 : te δ4 (fun rv δ5 => ∃ o, rv.ot = some o ∧ I (i + 1) (acc ++ [o]) (wipeD δ5 vs)) noX := q
      refine iteT ?_
      refine ⟨δ4, _, _, _, s5, q1, fun rv δ5 q2 y H4 s6 => ?_, fun _ _ q => q.elim⟩
      obtain ⟨o, eo, q3⟩ := q2
      obtain ⟨xs, hl, lx, s7⟩ := s6.into eo
      refine ⟨xs, hl, ?_, acc ++ [o], _, by rw [List.length_append, List.length_cons, List.length_nil]; omega, q3, back s7⟩
      rw [lx]
      exact Nat.lt_of_le_of_lt (show acc.length ≤ 1000000 by omega) (by decide)
  · obtain rfl : i = its.length := by omega
    refine .inl ⟨iok.stop (L2.wipe σ vs) δ2 H2 π _ _ s2 (Nat.le_refl _), k _ _ (last _ _ iv Da) _ _ ?_⟩
    exact (s2.mid).unwipe
theorem ve_lcO {scope : Scope} {own : List (Str × Nat)} {it : VTs} {ws : List Nat} {g : D → List Sl → Option (List Sl)} {tc : VTt} (hc : X.calm = true) (hN : X.N.Nodup) (hi : VI X W wx tg iter it) (ok : BlkOk X.N X.env.scope scope own)
    (hg : ∀ (s : Shared) (H : Hp) (C : Addr) (cl : List (Str × Addr)) (fp : List Addr), VG (X.blk s H scope (compEnvC scope cl C X.env) fp) W tg ws g)
    (ht : ∀ (s : Shared) (H : Hp) (C : Addr) (cl : List (Str × Addr)) (fp : List Addr), VCs (X.blk s H scope (compEnvC scope cl C X.env) fp) W wx0 ifs tc)
    (he : ∀ (s : Shared) (H : Hp) (C : Addr) (cl : List (Str × Addr)) (fp : List Addr), VE (X.blk s H scope (compEnvC scope cl C X.env) fp) W wx0 elt te)
    (hw : ∀ i ∈ ws, i ∈ own.map (·.2)) (hs : ∀ x, foldedSetIterable iter X.env x = pure x := by intro _; rfl) :
    VE X W wx (.ListComp elt [⟨tg, iter, ifs, 0⟩] scope pos) (vLcO it g tc te (own.map (·.2))) :=
  ⟨PE.imp (pe_lc (g := lG X.K W ws g) (tt := lT X.K W wx0 tc) (te := lE X.K W wx0 te) hc hN hi.pi ok (fun s H C cl fp => (hg s H C cl fp).pg) (fun s H C cl fp => (ht s H C cl fp).pt) (fun s H C cl fp => (he s H C cl fp).pe) hs) fun σ H Q h => lcO_run hw h⟩
theorem lc_run {it : VTs} {ws vs : List Nat} {g : D → List Sl → Option (List Sl)} {tc : VTt} {te : VT} {Q : VK} (hw : ∀ i ∈ ws, i ∈ vs) (h : lE X.K W wx (vLc it g tc te vs) σ H Q) :
    tLc (lI X.K W wx it) (lG X.K W ws g) (lT X.K W wx0 tc) (lE X.K W wx0 te) vs σ H Q := by
  obtain ⟨δ, π, Qd, Xd, s, h, k, xr⟩ := h
  refine ⟨δ, π, _, Xd, s, h, fun its δ1 q J ν H1 s1 iok => ?_, xr⟩
  obtain ⟨hlen, I, i0, step, last⟩ := q
  intro Da hD
  have s1w : SS X.K W H1 (L2.wipe σ vs) (wipeD δ1 vs) (π ++ ν) := s1.wipe
  obtain ⟨S1, x1⟩ := s1w.st
  have s2 : SS X.K W (upd H1 Da (.lst [])) (L2.wipe σ vs) (wipeD δ1 vs) (π ++ ν ++ [(some (.ref Da), .ow (Ot.flat Da []))]) := ⟨s1w.len, _, by rw [← List.append_assoc]; exact x1.newL (ds := []) hD .nil⟩
  refine ⟨fun i m H' => m = its.length - i ∧ i ≤ its.length ∧ ∃ acc δ2, acc.length ≤ i ∧ I i acc δ2 ∧ SS X.K W H' (L2.wipe σ vs) δ2 (π ++ ν ++ [(some (.ref Da), .ow (Ot.flat Da acc))]), ⟨_, rfl, Nat.zero_le _, [], _, Nat.le_refl _, i0, s2⟩, ?_⟩
  rintro i m H2 ⟨rfl, hi2, acc, δ2, hacc, iv, s2⟩
  by_cases hlt : i < its.length
  · have hd : its[i]? = some its[i] := List.getElem?_eq_getElem hlt
    obtain ⟨go, yld⟩ := iok.go (L2.wipe σ vs) δ2 H2 π [(some (.ref Da), .ow (Ot.flat Da acc))] i _ s2 hd
    obtain ⟨δ3, g3, b3⟩ := step i _ acc δ2 hd hacc iv
    refine .inr ⟨go, fun H' => ∃ acc δ2, acc.length ≤ i + 1 ∧ I (i + 1) acc δ2 ∧ SS X.K W H' (L2.wipe σ vs) δ2 (π ++ ν ++ [(some (.ref Da), .ow (Ot.flat Da acc))]), fun H' ⟨acc', δ4, l4, iv4, s4⟩ => ⟨_, by omega, rfl, hlt, acc', δ4, l4, iv4, s4⟩, fun x H' hy => ?_⟩
    have s3 := yld x H' hy
    refine ⟨δ2, _, _, (π ++ ν ++ [(some (V.ref Da), Sl.ow (Ot.flat Da acc))]).length, δ3, snoc_last, s3, g3, fun σ2 w s4 => ?_⟩
    have ew : L2.wipe σ2 vs = L2.wipe σ vs := by rw [wipe_sub w hw, wipe_wipe]
    refine ⟨ew, δ3, _, _, _, s4, b3, fun bb δ4 q H3 s5 => ?_, fun _ _ q => q.elim⟩
    have back : ∀ {H' : Hp} {δ5 : List Sl} {ρ : List Cell}, SS X.K W H' σ2 δ5 ρ → SS X.K W H' (L2.wipe σ vs) (wipeD δ5 vs) ρ := fun {H' δ5 ρ} z => by
      have := z.wipe (vs := vs)
      rw [ew] at this
      exact this
    cases bb with
    | false =>
      have q1 : I (i + 1) acc (wipeD δ4 vs) := q
      exact iteF ⟨acc, _, by omega, q1, back s5.drop⟩
    | true =>
      have q1 : te δ4 (fun rv δ5 => rv.isIn = true ∧ I (i + 1) (acc ++ [rv.get]) (wipeD δ5 vs)) noX := q
      refine iteT ?_
      refine ⟨δ4, _, _, _, s5, q1, fun rv δ5 q2 y H4 s6 => ?_, fun _ _ q => q.elim⟩
      obtain ⟨q3, q4⟩ := q2
      obtain ⟨xs, hl, lx, s7⟩ := (s6.shr q3).into (o := .leaf rv.get) rfl
      refine ⟨xs, hl, ?_, acc ++ [rv.get], _, by rw [List.length_append, List.length_cons, List.length_nil]; omega, q4, back (by rw [show Ot.flat Da (acc ++ [rv.get]) = .lst Da (acc.map .leaf ++ [.leaf rv.get]) by simp [Ot.flat]]; exact s7)⟩
      rw [lx, List.length_map]
      exact Nat.lt_of_le_of_lt (show acc.length ≤ 1000000 by omega) (by decide)
  · obtain rfl : i = its.length := by omega
    refine .inl ⟨iok.stop (L2.wipe σ vs) δ2 H2 π _ _ s2 (Nat.le_refl _), k _ _ (last _ _ iv Da) _ _ ?_⟩
    exact (s2.mid).unwipe
theorem ve_lc {scope : Scope} {own : List (Str × Nat)} {it : VTs} {ws : List Nat} {g : D → List Sl → Option (List Sl)} {tc : VTt} (hc : X.calm = true) (hN : X.N.Nodup) (hi : VI X W wx tg iter it) (ok : BlkOk X.N X.env.scope scope own)
    (hg : ∀ (s : Shared) (H : Hp) (C : Addr) (cl : List (Str × Addr)) (fp : List Addr), VG (X.blk s H scope (compEnvC scope cl C X.env) fp) W tg ws g)
    (ht : ∀ (s : Shared) (H : Hp) (C : Addr) (cl : List (Str × Addr)) (fp : List Addr), VCs (X.blk s H scope (compEnvC scope cl C X.env) fp) W wx0 ifs tc)
    (he : ∀ (s : Shared) (H : Hp) (C : Addr) (cl : List (Str × Addr)) (fp : List Addr), VE (X.blk s H scope (compEnvC scope cl C X.env) fp) W wx0 elt te)
    (hw : ∀ i ∈ ws, i ∈ own.map (·.2)) (hs : ∀ x, foldedSetIterable iter X.env x = pure x := by intro _; rfl) :
    VE X W wx (.ListComp elt [⟨tg, iter, ifs, 0⟩] scope pos) (vLc it g tc te (own.map (·.2))) :=
  ⟨PE.imp (pe_lc (g := lG X.K W ws g) (tt := lT X.K W wx0 tc) (te := lE X.K W wx0 te) hc hN hi.pi ok (fun s H C cl fp => (hg s H C cl fp).pg) (fun s H C cl fp => (ht s H C cl fp).pt) (fun s H C cl fp => (he s H C cl fp).pe) hs) fun σ H Q h => lc_run hw h⟩
end
end ML

/-! ## M12 -/
set_option Elab.async false
set_option linter.all false
set_option autoImplicit false
set_option maxRecDepth 100000
set_option maxHeartbeats 4000000
namespace ML
open PySem PySem.Spec PyProof.Rows L2

section
variable {X : Cx} {W : Wd} {wx : WX} {K : PySem.W.Frag} {H H' : Hp} {σ : L2.St} {δ δ' : List Sl} {S : Addr → Prop}
theorem OpR.or {f : Value → Value → Sem Value} {r r' : R2} (h : OpR X f r) (h' : OpR X f r') : OpR X f (fun x y H Q => r x y H Q ∨ r' x y H Q) :=
  fun pins s σ H x y v u Q I rx ry q => q.elim (h pins s σ H x y v u Q I rx ry) (h' pins s σ H x y v u Q I rx ry)
theorem CallR.or {f : Value} {r r' : List V → Hp → VK → Prop} (h : CallR X f r) (h' : CallR X f r') : CallR X f (fun x H Q => r x H Q ∨ r' x H Q) :=
  fun pins s σ H x v Q I rx q => q.elim (h pins s σ H x v Q I rx) (h' pins s σ H x v Q I rx)

/-! ### numbers -/
def fAdd : D → D → Option Rs
  | .int i, .int j => some (.sh (.int (i + j)))
  | .str a, .str b => if a.length + b.length ≤ 1000000 then some (.sh (.str (a ++ b))) else none
  | .tuple a, .tuple b => if a.length + b.length ≤ 1000000 then some (.sh (.tuple (a ++ b))) else none
  | .list a, .list b => if a.length + b.length ≤ 1000000 then some (.nw (a ++ b)) else none
  | _, _ => none
theorem le_line {n : Nat} (h : n ≤ 1000000) : n ≤ sizeLine := Nat.le_trans h (by decide)
theorem okS_app {a b : Str} (ha : okS a = true) (hb : okS b = true) (h : a.length + b.length ≤ 1000000) : okS (a ++ b) = true := by
  unfold okS PyData.strOk at *
  rw [Bool.and_eq_true] at *
  refine ⟨?_, decide_eq_true ?_⟩
  · show (a.cps ++ b.cps).all _ = true
    rw [Array.all_append, ha.1, hb.1]
    rfl
  · show (a.cps ++ b.cps).size ≤ sizeLine
    rw [Array.size_append]
    exact le_line h
def rAddV (K : PySem.W.Frag) : R2 := fun x y H Q => (∃ i j, x = .int i ∧ y = .int j ∧ Q (.int (i + j)) H) ∨ ((∃ i j, x = .str i ∧ y = .str j ∧ i.length + j.length ≤ sizeLine ∧ Q (.str (i ++ j)) H) ∨ (rCatA K x y H Q ∨ rCat x y H Q))
theorem op_addV : OpR X (binaryOp .Add) (rAddV X.K) := op_add.or (op_add_str.or (op_catA.or op_cat))
theorem snd_add : Snd2 K (rAddV K) fAdd := by
  intro S H x y d e res Q hx hy hf hq
  cases d with
  | int i =>
    cases e with
    | int j =>
      cases hf
      exact .inl ⟨i, j, hx.int, hy.int, hq _ _ (.old (.int _))⟩
    | _ => cases hf
  | str a =>
    cases e with
    | str b =>
      have hf' : (if a.length + b.length ≤ 1000000 then some (Rs.sh (.str (a ++ b))) else none) = some res := hf
      by_cases h : a.length + b.length ≤ 1000000
      · rw [if_pos h] at hf'
        cases hf'
        exact .inr (.inl ⟨a, b, hx.str, hy.str, le_line h, hq _ _ (.old (.str _ (okS_app hx.okS hy.okS h)))⟩)
      · rw [if_neg h] at hf'; cases hf'
    | _ => cases hf
  | tuple a =>
    cases e with
    | tuple b =>
      have hf' : (if a.length + b.length ≤ 1000000 then some (Rs.sh (.tuple (a ++ b))) else none) = some res := hf
      by_cases h : a.length + b.length ≤ 1000000
      · rw [if_pos h] at hf'
        cases hf'
        obtain ⟨p, xs, rfl, h1, h2⟩ := hx.tup
        obtain ⟨q, ys, rfl, h3, h4⟩ := hy.tup
        refine .inr (.inr (.inl ⟨p, q, xs, ys, rfl, rfl, h1, h3, by rw [h2.length, h4.length]; exact le_line h, fun e1 => ?_, fun _ e2 => ?_, fun _ _ r hr => hq _ _ (.tup hr (h2.append h4))⟩))
        · subst e1
          cases a with
          | nil =>
            exact hq _ _ (.old (Rq.rp hy))
          | cons _ _ => cases h2
        · subst e2
          cases b with
          | nil =>
            rw [List.append_nil] at *
            exact hq _ _ (.old (Rq.rp hx))
          | cons _ _ => cases h4
      · rw [if_neg h] at hf'; cases hf'
    | _ => cases hf
  | list a =>
    cases e with
    | list b =>
      have hf' : (if a.length + b.length ≤ 1000000 then some (Rs.nw (a ++ b)) else none) = some res := hf
      by_cases h : a.length + b.length ≤ 1000000
      · rw [if_pos h] at hf'
        cases hf'
        obtain ⟨p, xs, rfl, h1, h2⟩ := Rq.lst hx
        obtain ⟨q, ys, rfl, h3, h4⟩ := Rq.lst hy
        exact .inr (.inr (.inr ⟨p, q, xs, ys, rfl, rfl, h1, h3, by rw [Rps.length h2, Rps.length h4]; exact le_line h, fun r hr => hq _ _ (.lst hr (Rps.append h2 h4))⟩))
      · rw [if_neg h] at hf'; cases hf'
    | _ => cases hf
  | _ => cases e <;> cases hf
/-- an operation on two ints, asked under a condition -/
def fI (c : Int → Int → Bool) (g : Int → Int → D) : D → D → Option Rs
  | .int i, .int j => if c i j = true then some (.sh (g i j)) else none
  | _, _ => none
theorem snd_I {C : Int → Int → Prop} {c : Int → Int → Bool} {g : Int → Int → V} {gd : Int → Int → D} (hc : ∀ i j, c i j = true → C i j) (hg : ∀ i j S H, Rp K S H (g i j) (gd i j)) : Snd2 K (rI C g) (fI c gd) := by
  intro S H x y d e res Q hx hy hf hq
  cases d with
  | int i =>
    cases e with
    | int j =>
      have hf' : (if c i j = true then some (Rs.sh (gd i j)) else none) = some res := hf
      by_cases h : c i j = true
      · rw [if_pos h] at hf'
        cases hf'
        exact ⟨i, j, hx.int, hy.int, hc i j h, hq _ _ (.old (hg i j S H))⟩
      · rw [if_neg h] at hf'; cases hf'
    | _ => cases hf
  | _ => cases e <;> cases hf
theorem snd_I0 {g : Int → Int → V} {gd : Int → Int → D} (hg : ∀ i j S H, Rp K S H (g i j) (gd i j)) : Snd2 K (rI0 g) (fI (fun _ _ => true) gd) := by
  intro S H x y d e res Q hx hy hf hq
  obtain ⟨i, j, e1, e2, _, q⟩ := snd_I (K := K) (C := fun _ _ => True) (c := fun _ _ => true) (g := g) (gd := gd) (fun _ _ _ => trivial) hg S H x y d e res Q hx hy hf hq
  exact ⟨i, j, e1, e2, q⟩
abbrev fSub := fI (fun _ _ => true) (fun i j => .int (i - j))
def cMul (i j : Int) : Bool := decide ((-(2 ^ 64) < i ∧ i < 2 ^ 64) ∨ (-(2 ^ 64) < j ∧ j < 2 ^ 64))
abbrev fMul := fI cMul (fun i j => .int (i * j))
abbrev fMod := fI (fun _ j => decide (0 < j)) (fun i j => .int (i % j))
def cDivD (_ j : Int) : Bool := decide (0 < j ∧ j.natAbs.log2 < 9000)
abbrev fFdv := fI cDivD (fun i j => .int (i / j))
abbrev fLt := fI (fun _ _ => true) (fun i j => .bool (decide (i < j)))
abbrev fLe := fI (fun _ _ => true) (fun i j => .bool (decide (i ≤ j)))
abbrev fGt := fI (fun _ _ => true) (fun i j => .bool (decide (j < i)))
abbrev fGe := fI (fun _ _ => true) (fun i j => .bool (decide (j ≤ i)))
theorem snd_sub : Snd2 K (rI0 fun i j => .int (i - j)) fSub := snd_I0 fun _ _ _ _ => .int _
theorem snd_mul : Snd2 K (rI CMul fun i j => .int (i * j)) fMul := snd_I (fun i j h => (of_decide_eq_true h : (-(2 ^ 64) < i ∧ i < 2 ^ 64) ∨ (-(2 ^ 64) < j ∧ j < 2 ^ 64))) fun _ _ _ _ => .int _
def fMulV : D → D → Option Rs
  | .int i, .int j => if cMul i j = true then some (.sh (.int (i * j))) else none
  | .list a, .int k => if a.length * k.toNat ≤ 1000000 ∧ -4611686018427387904 < k ∧ k < 4611686018427387904 then some (.nw (List.replicate k.toNat a).flatten) else none
  | _, _ => none
def rMulV : R2 := fun x y H Q => rI CMul (fun i j => .int (i * j)) x y H Q ∨ rRep x y H Q
theorem op_mulV : OpR X (binaryOp .Mult) rMulV := op_mul.or op_rep
theorem Rps.rep {vs : List V} {ds : List D} (r : Rps K S H vs ds) : ∀ n : Nat, Rps K S H (List.replicate n vs).flatten (List.replicate n ds).flatten
  | 0 => by simp; exact .nil
  | n + 1 => by
    rw [List.replicate_succ, List.replicate_succ, List.flatten_cons, List.flatten_cons]
    exact Rps.append r (Rps.rep r n)
theorem snd_mulV : Snd2 K rMulV fMulV := by
  intro S H x y d e res Q hx hy hf hq
  cases d with
  | int i =>
    cases e with
    | int j =>
      have hf' : (if cMul i j = true then some (Rs.sh (.int (i * j))) else none) = some res := hf
      by_cases h : cMul i j = true
      · rw [if_pos h] at hf'
        cases hf'
        exact .inl ⟨i, j, Rq.int hx, Rq.int hy, (of_decide_eq_true h : (-(2 ^ 64) < i ∧ i < 2 ^ 64) ∨ (-(2 ^ 64) < j ∧ j < 2 ^ 64)), hq _ _ (.old (.int _))⟩
      · rw [if_neg h] at hf'; cases hf'
    | _ => cases hf
  | list a =>
    cases e with
    | int k =>
      have hf' : (if a.length * k.toNat ≤ 1000000 ∧ -4611686018427387904 < k ∧ k < 4611686018427387904 then some (Rs.nw (List.replicate k.toNat a).flatten) else none) = some res := hf
      by_cases h : a.length * k.toNat ≤ 1000000 ∧ -4611686018427387904 < k ∧ k < 4611686018427387904
      · rw [if_pos h] at hf'
        cases hf'
        obtain ⟨p, xs, rfl, h1, h2⟩ := Rq.lst hx
        refine .inr ⟨p, k, xs, rfl, Rq.int hy, h1, by omega, by omega, by rw [Rps.length h2]; exact le_line h.1, fun q hq' => hq _ _ (.lst hq' (Rps.rep h2 _))⟩
      · rw [if_neg h] at hf'; cases hf'
    | _ => cases hf
  | _ => cases e <;> cases hf
def cPow (i j : Int) : Bool := decide (0 ≤ j ∧ j ≤ 1000000 ∧ i.natAbs < 18446744073709551616)
abbrev fPow := fI cPow (fun i j => .int (i ^ j.toNat))
theorem snd_pow : Snd2 K (rI CPow fun i j => .int (i ^ j.toNat)) fPow := snd_I (fun i j h => (of_decide_eq_true h : 0 ≤ j ∧ j ≤ 1000000 ∧ i.natAbs < 18446744073709551616)) fun _ _ _ _ => .int _
theorem snd_mod : Snd2 K (rI (fun _ j => 0 < j) fun i j => .int (i % j)) fMod := snd_I (fun i j h => of_decide_eq_true h) fun _ _ _ _ => .int _
theorem snd_fdv : Snd2 K (rI CDivW fun i j => .int (i / j)) fFdv := snd_I (fun i j h => (of_decide_eq_true h : 0 < j ∧ j.natAbs.log2 < 9000)) fun _ _ _ _ => .int _
theorem snd_lt : Snd2 K (rI0 fun i j => .bl (decide (i < j))) fLt := snd_I0 fun _ _ _ _ => .bl _
theorem snd_le : Snd2 K (rI0 fun i j => .bl (decide (i ≤ j))) fLe := snd_I0 fun _ _ _ _ => .bl _
theorem snd_gt : Snd2 K (rI0 fun i j => .bl (decide (j < i))) fGt := snd_I0 fun _ _ _ _ => .bl _
theorem snd_ge : Snd2 K (rI0 fun i j => .bl (decide (j ≤ i))) fGe := snd_I0 fun _ _ _ _ => .bl _
def fNeg : D → Option Rs
  | .int i => some (.sh (.int (-i)))
  | _ => none
theorem snd_neg : Snd1 K (rU fun i => .int (-i)) fNeg := by
  intro S H x d res Q hx hf hq
  cases d with
  | int i => cases hf; exact ⟨i, hx.int, hq _ _ (.old (.int _))⟩
  | _ => cases hf
def fAbs : D → Option Rs
  | .int i => some (.sh (.int (if i < 0 then -i else i)))
  | _ => none
theorem snd_abs : Snd1 K (fun v H Q => ∃ i, [v] = [V.int i] ∧ Q (.int (if i < 0 then -i else i)) H) fAbs := by
  intro S H x d res Q hx hf hq
  cases d with
  | int i => cases hf; exact ⟨i, by rw [hx.int], hq _ _ (.old (.int _))⟩
  | _ => cases hf
def fInt : D → Option Rs
  | .int i => some (.sh (.int i))
  | .bool b => some (.sh (.int (if b then 1 else 0)))
  | _ => none
theorem snd_int : Snd1 K (fun v H Q => (∃ i, [v] = [V.int i] ∧ Q (.int i) H) ∨ ∃ k, [v] = [V.bl k] ∧ Q (.int (if k then 1 else 0)) H) fInt := by
  intro S H x d res Q hx hf hq
  cases d with
  | int i => cases hf; exact .inl ⟨i, by rw [hx.int], hq _ _ (.old (.int _))⟩
  | bool b => cases hf; exact .inr ⟨b, by rw [hx.bool], hq _ _ (.old (.int _))⟩
  | _ => cases hf
def fMin2 : D → D → Option Rs := fI (fun _ _ => true) (fun i j => .int (if j < i then j else i))
def fMax2 : D → D → Option Rs := fI (fun _ _ => true) (fun i j => .int (if j > i then j else i))
theorem snd_min2 : Snd2 K (fun v u H Q => ∃ i j, [v, u] = [V.int i, V.int j] ∧ Q (.int (if j < i then j else i)) H) fMin2 := by
  intro S H x y d e res Q hx hy hf hq
  obtain ⟨i, j, rfl, rfl, q⟩ := snd_I0 (K := K) (g := fun i j => .int (if j < i then j else i)) (gd := fun i j => .int (if j < i then j else i)) (fun _ _ _ _ => .int _) S H x y d e res Q hx hy hf hq
  exact ⟨i, j, rfl, q⟩
theorem snd_max2 : Snd2 K (fun v u H Q => ∃ i j, [v, u] = [V.int i, V.int j] ∧ Q (.int (if j > i then j else i)) H) fMax2 := by
  intro S H x y d e res Q hx hy hf hq
  obtain ⟨i, j, rfl, rfl, q⟩ := snd_I0 (K := K) (g := fun i j => .int (if j > i then j else i)) (gd := fun i j => .int (if j > i then j else i)) (fun _ _ _ _ => .int _) S H x y d e res Q hx hy hf hq
  exact ⟨i, j, rfl, q⟩

/-! ### == and != of data -/
mutual
theorem Rp.lay : ∀ (d : D) (v : V), noD d = true → Rp K S H v d → d.canLay0 = true
  | .none, _, _, _ => by simp only [PyData.canLay0]
  | .bool _, _, _, _ => by simp only [PyData.canLay0]
  | .int _, _, _, _ => by simp only [PyData.canLay0]
  | .str x, _, _, h => by
    cases h with
    | str _ h =>
      unfold okS at h
      rw [Bool.and_eq_true] at h
      simp only [PyData.canLay0]
      exact h.1
  | .list ds, _, n, h => by
    cases h with
    | lst h1 h2 => simp only [PyData.canLay0]; exact Rps.lay ds _ (by simpa [noD] using n) h2
  | .tuple ds, _, n, h => by
    cases h with
    | tup h1 h2 => simp only [PyData.canLay0]; exact Rps.lay ds _ (by simpa [noD] using n) h2
  | .dict _, _, n, h => by simp [noD] at n
theorem Rps.lay : ∀ (ds : List D) (vs : List V), noDs ds = true → Rps K S H vs ds → PyData.canLayAll0 ds = true
  | [], _, _, _ => by simp only [PyData.canLayAll0]
  | d :: ds, _, n, h => by
    have n' : noD d = true ∧ noDs ds = true := by simpa [noDs] using n
    cases h with
    | cons h1 h2 => simp only [PyData.canLayAll0]; rw [Rp.lay d _ n'.1 h1, Rps.lay ds _ n'.2 h2]; rfl
end
mutual
theorem Ow.lay : ∀ (o : Ot) (v : V), noD o.get = true → Ow K S H v o → o.get.canLay0 = true
  | .leaf d, _, n, h => by
    cases h with
    | leaf r => rw [Ot.get] at n ⊢; exact Rp.lay d _ n r
  | .nod s os, _, n, h => by
    cases h with
    | nod h1 h2 =>
      rw [Ot.get] at n ⊢
      cases s with
      | lst p => simp only [Sh.data, PyData.canLay0]; exact Ows.lay os _ (by simpa [Sh.data, noD] using n) h2
      | dct p ks => simp [Sh.data, dctD, noD] at n
      | obj p dx C ks => simp [Sh.data, objD, noD] at n
theorem Ows.lay : ∀ (os : List Ot) (vs : List V), noDs (Ot.gets os) = true → Ows K S H vs os → PyData.canLayAll0 (Ot.gets os) = true
  | [], _, _, _ => by simp only [Ot.gets, PyData.canLayAll0]
  | o :: os, _, n, h => by
    cases h with
    | cons h1 h2 =>
      rw [Ot.gets] at n ⊢
      have n' : noD o.get = true ∧ noDs (Ot.gets os) = true := by simpa [noDs] using n
      simp only [PyData.canLayAll0]; rw [Ow.lay o _ n'.1 h1, Ows.lay os _ n'.2 h2]; rfl
end
theorem RqA.lay {v : V} {d : D} (n : noD d = true) (h : RqA K S H v d) : d.canLay0 = true := by
  rcases h with h | ⟨o, rfl, h⟩
  · exact Rp.lay d v n h
  · exact Ow.lay o v n h
def dep (d : D) : Bool := decide (d.depth ≤ 64) && noD d
theorem dep_n {d : D} (q : dep d = true) : noD d = true := by unfold dep at q; rw [Bool.and_eq_true] at q; exact q.2
theorem RqA.shaped {v : V} {d : D} (h : RqA K S H v d) (q : dep d = true) : SeqAt.shaped d = true := by
  show (d.canLay0 && decide (d.depth ≤ 64)) = true
  rw [h.lay (dep_n q)]
  unfold dep at q
  rw [Bool.and_eq_true] at q
  exact q.1
def fEq (d e : D) : Option Rs := if (dep d && dep e) = true then some (.sh (.bool (PyData.eqv d e))) else none
def fNe (d e : D) : Option Rs := if (dep d && dep e) = true then some (.sh (.bool (!PyData.eqv d e))) else none
theorem snd_eq : SndN2 true K (rEqD K) fEq := by
  intro S H x y d e res Q hx hy hf hq
  have hf' : (if (dep d && dep e) = true then some (Rs.sh (.bool (PyData.eqv d e))) else none) = some res := hf
  by_cases h : (dep d && dep e) = true
  · rw [if_pos h] at hf'
    cases hf'
    rw [Bool.and_eq_true] at h
    exact ⟨d, e, RqA.dp (dep_n h.1) hx, RqA.dp (dep_n h.2) hy, RqA.shaped hx h.1, RqA.shaped hy h.2, hq _ _ (.old (.bl _))⟩
  · rw [if_neg h] at hf'; cases hf'
theorem snd_ne : SndN2 true K (rNeD K) fNe := by
  intro S H x y d e res Q hx hy hf hq
  have hf' : (if (dep d && dep e) = true then some (Rs.sh (.bool (!PyData.eqv d e))) else none) = some res := hf
  by_cases h : (dep d && dep e) = true
  · rw [if_pos h] at hf'
    cases hf'
    rw [Bool.and_eq_true] at h
    exact ⟨d, e, RqA.dp (dep_n h.1) hx, RqA.dp (dep_n h.2) hy, RqA.shaped hx h.1, RqA.shaped hy h.2, hq _ _ (.old (.bl _))⟩
  · rw [if_neg h] at hf'; cases hf'
/-- is None -/
def isNon : D → Bool
  | .none => true
  | _ => false
def fIsN (d e : D) : Option Rs := if isNon e = true then some (.sh (.bool (isNon d))) else none
def fNotN (d e : D) : Option Rs := if isNon e = true then some (.sh (.bool (!isNon d))) else none
theorem RqA.isN {v : V} {d : D} (h : RqA K S H v d) : decide (v = .non) = isNon d := by
  have key : ∀ t, RpX K S H t → ∀ v d, t = .one v d → decide (v = .non) = isNon d := by
    intro t ht v d e
    cases ht <;> first | (cases e; rfl) | cases e
  rcases h with h | ⟨o, rfl, h⟩
  · exact key _ h _ _ rfl
  · cases h with
    | leaf r => rw [Ot.get]; exact key _ r _ _ rfl
    | @nod s xs os h1 h2 => rw [Ot.get]; cases s <;> rfl
theorem snd_isN : SndN2 true K rIsN fIsN := by
  intro S H x y d e res Q hx hy hf hq
  have hf' : (if isNon e = true then some (Rs.sh (.bool (isNon d))) else none) = some res := hf
  by_cases h : isNon e = true
  · rw [if_pos h] at hf'
    cases hf'
    have hn := RqA.isN hy
    rw [h] at hn
    refine ⟨of_decide_eq_true hn, ?_⟩
    rw [RqA.isN hx]
    exact hq _ _ (.old (.bl _))
  · rw [if_neg h] at hf'; cases hf'
theorem snd_notN : SndN2 true K rNotN fNotN := by
  intro S H x y d e res Q hx hy hf hq
  have hf' : (if isNon e = true then some (Rs.sh (.bool (!isNon d))) else none) = some res := hf
  by_cases h : isNon e = true
  · rw [if_pos h] at hf'
    cases hf'
    have hn := RqA.isN hy
    rw [h] at hn
    refine ⟨of_decide_eq_true hn, ?_⟩
    rw [RqA.isN hx]
    exact hq _ _ (.old (.bl _))
  · rw [if_neg h] at hf'; cases hf'
end
end ML

/-! ## M13 -/
set_option Elab.async false
set_option linter.all false
set_option autoImplicit false
set_option maxRecDepth 100000
set_option maxHeartbeats 4000000
namespace ML
open PySem PySem.Spec PyProof.Rows L2

section
variable {X : Cx} {W : Wd} {wx : WX} {K : PySem.W.Frag} {H H' : Hp} {σ : L2.St} {δ δ' : List Sl} {π : List Cell} {S : Addr → Prop} {e a b c : Expr} {es : List Expr} {t u : VT} {ts : VTs} {pos p apos cpos : Pos}
/-! ### len, items -/
def fLen : D → Option Rs
  | .str x => some (.sh (.int x.length))
  | .list ds => some (.sh (.int ds.length))
  | .tuple ds => some (.sh (.int ds.length))
  | .dict [(.bool true, .list ds)] => some (.sh (.int ds.length))
  | .dict kvs => if isDct kvs = true then some (.sh (.int kvs.length)) else none
  | _ => none
theorem okS_len {x : Str} (h : okS x = true) : x.length ≤ sizeLine := okS_line h
def rLenV (K : PySem.W.Frag) : List V → Hp → VK → Prop := fun xs H Q => (∃ x n, xs = [x] ∧ LenV K x H n ∧ Q (.int n) H) ∨ ∃ a kvs, xs = [V.ref a] ∧ H a = some (.dK kvs) ∧ Q (.int kvs.length) H
theorem call_lenV : CallR X (.builtin "len") (rLenV X.K) := call_len.or call_lenD
theorem lk_or (kvs : List (D × D)) : (∃ ds, kvs = [(.bool true, .list ds)]) ∨ ∀ ds, kvs ≠ [(.bool true, .list ds)] := by
  by_cases h : ∃ ds, kvs = [(.bool true, .list ds)]
  · exact .inl h
  · exact .inr fun ds e => h ⟨ds, e⟩
theorem RqA.lck {v : V} {ds : List D} (h : RqA K S H v (lkD ds)) : ∃ p xs, v = .ref p ∧ SqL K H p xs ∧ Rps K S H xs ds := by
  rcases h with h | ⟨o, e, h⟩
  · exact Rq.lck (.inl h)
  · cases h with
    | leaf r =>
      rw [Ot.get] at e
      subst e
      exact Rq.lck (.inl r)
    | @nod s xs os h1 h2 =>
      exfalso
      rw [Ot.get] at e
      cases s with
      | lst p => cases e
      | dct p ks =>
        have e' : lkD ds = dctD ks (Ot.gets os) := e
        unfold lkD dctD at e'
        injection e' with e'
        have := isDct_of (ks := ks) (ds := Ot.gets os)
        rw [← e'] at this
        cases this
      | obj p dx C ks =>
        have e' : lkD ds = objD C ks (Ot.gets os) := e
        unfold lkD objD at e'
        injection e' with e'
        injection e' with e' _
        cases e'
theorem fLen_dct {kvs : List (D × D)} (h : ∀ ds, kvs ≠ [(.bool true, .list ds)]) : fLen (.dict kvs) = if isDct kvs = true then some (.sh (.int kvs.length)) else none := by
  unfold fLen
  split
  · rename_i e; cases e
  · rename_i e; cases e
  · rename_i e; cases e
  · rename_i ds e
    injection e with e
    exact absurd e (h ds)
  · rename_i e
    injection e with e
    subst e
    rfl
  · rename_i q; exact absurd rfl (q kvs)
theorem snd_len : SndN1 true K (fun v H Q => rLenV K [v] H Q) fLen := by
  intro S H x d res Q hx hf hq
  cases d with
  | str z =>
    cases hf
    refine .inl ⟨x, z.length, rfl, ?_, hq _ _ (.old (.int _))⟩
    rw [Rr.str hx]
    exact ⟨okS_len (Rr.okS hx), rfl⟩
  | list ds =>
    cases hf
    obtain ⟨p, xs, rfl, h1, h2⟩ := RqA.list hx
    exact .inl ⟨_, ds.length, rfl, .inl ⟨xs, h1, h2.symm⟩, hq _ _ (.old (.int _))⟩
  | tuple ds =>
    cases hf
    obtain ⟨p, xs, rfl, h1, h2⟩ := RqA.tup hx
    exact .inl ⟨_, ds.length, rfl, .inr ⟨xs, h1, (Rps.length h2).symm⟩, hq _ _ (.old (.int _))⟩
  | dict kvs =>
    rcases lk_or kvs with ⟨ds, rfl⟩ | hk
    · cases hf
      obtain ⟨p, xs, rfl, h1, h2⟩ := RqA.lck hx
      exact .inl ⟨_, ds.length, rfl, .inl ⟨xs, h1, (Rps.length h2).symm⟩, hq _ _ (.old (.int _))⟩
    have hf' : (if isDct kvs = true then some (Rs.sh (.int kvs.length)) else none) = some res := by rw [← fLen_dct hk]; exact hf
    by_cases hd : isDct kvs = true
    · rw [if_pos hd] at hf'
      cases hf'
      obtain ⟨p, ks, xs, ds, rfl, rfl, h1, h2, h3, _, _⟩ := RqA.dictI hx hd
      have el : ((ks.map kD).zip ds).length = (ks.zip xs).length := by simp; omega
      rw [el] at hq
      exact .inr ⟨p, _, rfl, h1, hq _ _ (.old (.int _))⟩
    · rw [if_neg hd] at hf'; cases hf'
  | _ => cases hf
/-- what a dict holds at a key -/
def dlook : List (D × D) → Key → Option D
  | [], _ => none
  | (d, x) :: r, k => if kidx d = some k then some x else dlook r k
theorem kidx_kD (k : Key) : kidx (kD k) = some k := by cases k <;> rfl
theorem dlook_at : ∀ {ks : List Key} {xs : List V} {ds : List D} {k : Key}, ks.length = xs.length → xs.length = ds.length → (∀ d, dlook ((ks.map kD).zip ds) k = some d → ∃ (j : Nat) (v : V), valV (ks.zip xs) k = some v ∧ xs[j]? = some v ∧ ds[j]? = some d) ∧ (dlook ((ks.map kD).zip ds) k = none → valV (ks.zip xs) k = none)
  | [], [], [], k, _, _ => ⟨fun d h => (nomatch h), fun _ => rfl⟩
  | [], [], _ :: _, k, _, h => by simp at h
  | [], _ :: _, _, k, h, _ => by simp at h
  | _ :: _, [], _, k, h, _ => by simp at h
  | _ :: _, _ :: _, [], k, _, h => by simp at h
  | k0 :: ks, v :: xs, d :: ds, k, h1, h2 => by
    have ih := dlook_at (ks := ks) (xs := xs) (ds := ds) (k := k) (by simpa using h1) (by simpa using h2)
    have e : dlook (((k0 :: ks).map kD).zip (d :: ds)) k = if kidx (kD k0) = some k then some d else dlook ((ks.map kD).zip ds) k := rfl
    have e2 : (k0 :: ks).zip (v :: xs) = (k0, v) :: ks.zip xs := rfl
    rw [e, e2, kidx_kD]
    by_cases q : k0 = k
    · subst q
      rw [if_pos rfl]
      refine ⟨fun d' z => ?_, fun z => by cases z⟩
      cases z
      exact ⟨0, v, valV_pos rfl, rfl, rfl⟩
    · rw [if_neg (fun z => q (Option.some.inj z))]
      refine ⟨fun d' z => ?_, fun z => ?_⟩
      · obtain ⟨j, w, q1, q2, q3⟩ := ih.1 d' z
        exact ⟨j + 1, w, by rw [valV_neg q]; exact q1, by simpa using q2, by simpa using q3⟩
      · rw [valV_neg q]
        exact ih.2 z
theorem Rps.at {vs : List V} {ds : List D} {j : Nat} {v : V} {d : D} (r : Rps K S H vs ds) (h1 : vs[j]? = some v) (h2 : ds[j]? = some d) : Rp K S H v d := by
  obtain ⟨d', e, q⟩ := r.get' h1
  rw [h2] at e
  cases e
  exact q
/-- xs[i], also from the end -/
def fIx : D → D → Option Rs
  | .list ds, .int i => (L2.atI ds i).map Rs.sh
  | .tuple ds, .int i => (L2.atI ds i).map Rs.sh
  | .str x, .int i => (L2.atI x.cps.toList i).map fun c => .sh (.str ⟨#[c]⟩)
  | .dict [(.bool true, .list ds)], .int i => (L2.atI ds i).map Rs.sh
  | .dict kvs, y => if isDct kvs = true then (kidx y).bind fun k => (dlook kvs k).map Rs.sh else none
  | _, _ => none
theorem Rps.atI {vs : List V} {ds : List D} {i : Int} {d : D} (r : Rps K S H vs ds) (h : L2.atI ds i = some d) : ∃ v, L2.atI vs i = some v ∧ Rp K S H v d := by
  unfold L2.atI at *
  rw [r.length]
  obtain ⟨j, h1, h2⟩ := Option.bind_eq_some_iff.mp h
  obtain ⟨v, h3, h4⟩ := r.get h2
  exact ⟨v, by rw [h1]; exact h3, h4⟩
theorem atI_mem {α : Type} {l : List α} {i : Int} {x : α} (h : L2.atI l i = some x) : x ∈ l := by
  unfold L2.atI at h
  obtain ⟨j, h1, h2⟩ := Option.bind_eq_some_iff.mp h
  exact List.mem_of_getElem? h2
def rIxV (K : PySem.W.Frag) : R2 := fun x y H Q => (rIxL K x y H Q ∨ (rIxT K x y H Q ∨ rIxS x y H Q)) ∨ ∃ a v, x = .ref a ∧ DGet H a y (some v) ∧ Q v H
theorem IxR.or {r r' : R2} (h : IxR X r) (h' : IxR X r') : IxR X (fun x y H Q => r x y H Q ∨ r' x y H Q) :=
  fun value slice pins s σ H x y v u Q I rx ry q e => q.elim (fun z => h value slice pins s σ H x y v u Q I rx ry z e) (fun z => h' value slice pins s σ H x y v u Q I rx ry z e)
theorem ix_dict (hu : X.A.units + 1 < cLine) : IxR X (fun x y H Q => ∃ a v, x = .ref a ∧ DGet H a y (some v) ∧ Q v H) := by
  intro value slice pins s σ H x y v u Q I rx ry h e
  obtain ⟨a, w, rfl, g, q⟩ := h
  obtain rfl : v = Value.ref a := rx
  exact tail_any (dict_typeIs I g) PySem.F.slot_dict_getitem.lookup (d_getItem hu I g ry fun w' s3 I3 rw' => ⟨w, H, I3, rw', q⟩) e
theorem ix_V (hu : X.A.units + 1 < cLine) : IxR X (rIxV X.K) := IxR.or ix_seq (ix_dict hu)
theorem Rp.key_of {y : V} {e : D} {k : Key} (h : kidx e = some k) (r : Rp K S H y e) : y = kV k := (kidx_v h r).1
theorem kidx_atom {e : D} {k : Key} (h : kidx e = some k) : atom e = true := by cases e <;> first | rfl | cases h
theorem fIx_dct {kvs : List (D × D)} {e : D} (h : ∀ ds, kvs ≠ [(.bool true, .list ds)]) : fIx (.dict kvs) e = if isDct kvs = true then (kidx e).bind fun k => (dlook kvs k).map Rs.sh else none := by
  unfold fIx
  split
  · rename_i q; cases q
  · rename_i q; cases q
  · rename_i q; cases q
  · rename_i q
    injection q with q
    exact absurd q (h _)
  · rename_i q _
    injection q with q
    subst q
    rfl
  · exact (((by assumption) : ∀ (k : List (D × D)), PyData.dict kvs = .dict k → False) kvs rfl).elim
theorem snd_ix : Snd2 K (rIxV K) fIx := by
  intro S H x y d e res Q hx hy hf hq
  cases d with
  | list ds =>
    cases e with
    | int i =>
      have ey := Rq.int hy
      subst ey
      have hf' : (L2.atI ds i).map Rs.sh = some res := hf
      obtain ⟨z, h1, rfl⟩ := Option.map_eq_some_iff.mp hf'
      obtain ⟨p, xs, rfl, h2, h3⟩ := Rq.list hx
      obtain ⟨v, h4, h5⟩ := Rps.atI h3 h1
      exact .inl (.inl ⟨p, xs, i, v, rfl, rfl, h2, h4, hq _ _ (.old h5)⟩)
    | _ => cases hf
  | tuple ds =>
    cases e with
    | int i =>
      have ey := Rq.int hy
      subst ey
      have hf' : (L2.atI ds i).map Rs.sh = some res := hf
      obtain ⟨z, h1, rfl⟩ := Option.map_eq_some_iff.mp hf'
      obtain ⟨p, xs, rfl, h2, h3⟩ := Rq.tup hx
      obtain ⟨v, h4, h5⟩ := Rps.atI h3 h1
      exact .inl (.inr (.inl ⟨p, xs, i, v, rfl, rfl, h2, h4, hq _ _ (.old h5)⟩))
    | _ => cases hf
  | str x0 =>
    cases e with
    | int i =>
      have ey := Rq.int hy
      subst ey
      have hf' : ((L2.atI x0.cps.toList i).map fun c => Rs.sh (.str ⟨#[c]⟩)) = some res := hf
      obtain ⟨z, h1, rfl⟩ := Option.map_eq_some_iff.mp hf'
      exact .inl (.inr (.inr ⟨x0, i, z, Rq.str hx, rfl, okS_len (Rq.okS hx), h1, hq _ _ (.old (.str _ (okS_sign (Rq.okS hx) (atI_mem h1))))⟩))
    | _ => cases hf
  | dict kvs =>
    rcases lk_or kvs with ⟨ds, rfl⟩ | hk
    · cases e with
      | int i =>
        have ey := Rq.int hy
        subst ey
        have hf' : (L2.atI ds i).map Rs.sh = some res := hf
        obtain ⟨z, h1, rfl⟩ := Option.map_eq_some_iff.mp hf'
        obtain ⟨p, xs, rfl, h2, h3⟩ := Rq.lck hx
        obtain ⟨v, h4, h5⟩ := Rps.atI h3 h1
        exact .inl (.inl ⟨p, xs, i, v, rfl, rfl, h2, h4, hq _ _ (.old h5)⟩)
      | _ => cases hf
    have hf' : (if isDct kvs = true then (kidx e).bind fun k => (dlook kvs k).map Rs.sh else none) = some res := by
      rw [← fIx_dct hk]; exact hf
    by_cases hd : isDct kvs = true
    · rw [if_pos hd] at hf'
      obtain ⟨k, e1, e2⟩ := Option.bind_eq_some_iff.mp hf'
      obtain ⟨z, e3, rfl⟩ := Option.map_eq_some_iff.mp e2
      obtain ⟨a, ks, xs, ds, rfl, rfl, h1, h2, h3, h4, h5⟩ := Rq.dictI hx hd
      obtain ⟨j, v, q1, q2, q3⟩ := (dlook_at h2 (Rps.length h5)).1 z e3
      have ey := Rp.key_of e1 (Rr.rp (m := false) (kidx_atom e1) hy)
      subst ey
      exact .inr ⟨a, v, rfl, by rw [← q1]; exact DGet.k h1, hq _ _ (.old (Rps.at h5 q2 q3))⟩
    · rw [if_neg hd] at hf'; cases hf'
  | _ => cases hf

/-! ### slices -/
def cutD (ds : List D) (lo hi : Option Int) : List D := (ds.drop (HT.sIx ds.length 0 lo)).take (HT.sIx ds.length ds.length hi - HT.sIx ds.length 0 lo)
def cutT (x : Str) (lo hi : Option Int) : Str := cutS x lo hi
def slD (d : D) (l h : Option Int) : Option Rs := match d with
  | .list ds => some (.nw (cutD ds l h))
  | .tuple ds => some (.sh (.tuple (cutD ds l h)))
  | .str x => some (.sh (.str (cutT x l h)))
  | .dict [(.bool true, .list ds)] => some (.nw (cutD ds l h))
  | _ => none
def fSlB (d lo hi : D) : Option Rs := match lo, hi with
  | .int l, .int h => slD d (some l) (some h)
  | _, _ => none
def fSlL (d lo : D) : Option Rs := match lo with
  | .int l => slD d (some l) none
  | _ => none
def fSlU (d hi : D) : Option Rs := match hi with
  | .int h => slD d none (some h)
  | _ => none
def fSl0 (d : D) : Option Rs := slD d none none
def rSlV (K : PySem.W.Frag) : V → Option Int → Option Int → Hp → VK → Prop := fun x lo hi H Q => rSlL K x lo hi H Q ∨ (rSlA K x lo hi H Q ∨ rSlS x lo hi H Q)
theorem sl_V : SlR X (rSlV X.K) := sl_list.or (sl_tupA.or sl_str)
theorem Rps.cut {vs : List V} {ds : List D} (r : Rps K S H vs ds) (lo hi : Option Int) : Rps K S H (cutV vs lo hi) (cutD ds lo hi) := by
  unfold cutV cutD
  rw [r.length]
  exact (r.drop _).take _
theorem okS_cut {x : Str} {lo hi : Option Int} (h : okS x = true) : okS (cutT x lo hi) = true := by
  unfold okS PyData.strOk at *
  rw [Bool.and_eq_true] at *
  obtain ⟨h1, h2⟩ := h
  have h2 := of_decide_eq_true h2
  unfold cutT cutS
  refine ⟨?_, decide_eq_true ?_⟩
  · simp only [Array.all_eq_true_iff_forall_mem] at h1 ⊢
    intro y hy
    simp only [List.mem_toArray] at hy
    exact h1 y (by simpa using List.mem_of_mem_drop (List.mem_of_mem_take hy))
  · show (List.toArray _).size ≤ _
    rw [List.size_toArray, List.length_take, List.length_drop, Array.length_toList]
    have : x.cps.size ≤ sizeLine := h2
    omega
theorem snd_sl {x : V} {d : D} {l h : Option Int} {res : Rs} {Q : VK} (hx : Rq K S H x d) (hf : slD d l h = some res) (hq : ∀ v H', NewV K S H v H' res → Q v H') : rSlV K x l h H Q := by
  cases d with
  | list ds =>
    cases hf
    obtain ⟨p, xs, rfl, h1, h2⟩ := hx.list
    exact .inl ⟨p, xs, rfl, h1, fun q hq' => hq _ _ (.lst hq' (h2.cut l h))⟩
  | tuple ds =>
    cases hf
    obtain ⟨p, xs, rfl, h1, h2⟩ := hx.tup
    refine .inr (.inl ⟨p, xs, rfl, h1, fun hw => ?_, fun _ q hq' => hq _ _ (.tup hq' (h2.cut l h))⟩)
    have e : cutD ds l h = ds := by
      unfold cutD
      rw [← h2.length, hw.1, hw.2, List.drop_zero, Nat.sub_zero, h2.length]
      exact List.take_of_length_le (Nat.le_refl _)
    rw [e] at hq
    exact hq _ _ (.old (Rq.rp hx))
  | str z =>
    cases hf
    exact .inr (.inr ⟨z, hx.str, okS_len hx.okS, hq _ _ (.old (.str _ (okS_cut hx.okS)))⟩)
  | dict kvs =>
    rcases lk_or kvs with ⟨ds, rfl⟩ | hk
    · cases hf
      obtain ⟨p, xs, rfl, h1, h2⟩ := Rq.lck hx
      exact .inl ⟨p, xs, rfl, h1, fun q hq' => hq _ _ (.lst hq' (h2.cut l h))⟩
    · exfalso
      unfold slD at hf
      split at hf
      · rename_i q; cases q
      · rename_i q; cases q
      · rename_i q; cases q
      · rename_i ds q
        injection q with q
        exact hk ds q
      · cases hf
  | _ => cases hf
def vSlB (a b c : Opr) : VT := fun δ Q Xc => a.ev δ (fun ra δ1 => b.ev δ1 (fun rb δ2 => ∃ i, b.fin false rb δ2 = some (.int i) ∧ c.ev δ2 (fun rc δ3 => ∃ x j r, a.fin false ra δ3 = some x ∧ c.fin false rc δ3 = some (.int j) ∧ slD x (some i) (some j) = some r ∧ ∀ p, Q (r.to p) δ3) Xc) Xc) Xc
theorem ve_slB {lo hi : Expr} {oa ob oc : Opr} {p2 : Pos} (ha : VO X W wx a oa) (hb : VO X W wx lo ob) (hc : VO X W wx hi oc) : VE X W wx (.Subscript a (.Slice (some lo) (some hi) none p2) pos) (vSlB oa ob oc) := by
  obtain ⟨ta, A⟩ := ha
  obtain ⟨tb, B⟩ := hb
  obtain ⟨tc, C⟩ := hc
  refine ⟨PE.imp (pe_slice sl_V A.pe (po_some B.pe) (po_some C.pe)) fun σ H Q ⟨δ, π, Qd, Xd, s, h, k, xr⟩ => ?_⟩
  refine A.run σ H δ π _ Xd _ s h xr fun ra δ1 q v H1 s1 i1 => ?_
  refine B.run σ H1 δ1 _ _ Xd _ s1 q xr.more fun rb δ2 q u H2 s2 i2 => ?_
  obtain ⟨i, eb, q⟩ := q
  have eu : u = .int i := by
    obtain ⟨S, y⟩ := s2.st
    exact Rq.int (Opr.read (m := false) (ρ := []) s2.len y i2 eb)
  refine ⟨i, eu, ?_⟩
  refine C.run σ H2 δ2 _ _ Xd _ s2 q xr.more.more fun rc δ3 q w H3 s3 i3 => ?_
  obtain ⟨x, j, r, e1, e2, e3, q⟩ := q
  obtain ⟨S, zz⟩ := s3.st
  refine ⟨j, Rq.int (Opr.read (m := false) (ρ := []) s3.len zz i3 e2), ?_⟩
  have z2 : StF X.K W H3 (σ.zip δ3 ++ ((π ++ [(some v, ra)]) ++ ((some u, rb) :: [(some w, rc)]))) S := by
    rw [List.append_assoc (π ++ [(some v, ra)])] at zz
    exact zz
  have z1 : StF X.K W H3 (σ.zip δ3 ++ (π ++ ((some v, ra) :: [(some u, rb), (some w, rc)]))) S := by
    rw [List.append_assoc π] at z2
    exact z2
  exact snd_sl (Opr.read (m := false) s3.len z1 i1 e1) e3 fun v' H' nv => by
    obtain ⟨p, s4⟩ := s3.drop.drop.drop.new (SS.restrict (SS.restrict (SS.restrict zz))) nv
    exact k _ _ (q p) _ _ s4
theorem ve_slL {lo : Expr} {oa ob : Opr} {p2 : Pos} (ha : VO X W wx a oa) (hb : VO X W wx lo ob) : VE X W wx (.Subscript a (.Slice (some lo) none none p2) pos) (v2 fSlL oa ob) := by
  obtain ⟨ta, A⟩ := ha
  obtain ⟨tb, B⟩ := hb
  refine ⟨PE.imp (pe_slice sl_V A.pe (po_some B.pe) po_none) fun σ H Q h => ?_⟩
  refine run2 (r := fun x y H Q => ∃ i, y = .int i ∧ rSlV X.K x (some i) none H Q) A B ?_ h
  intro S H x y d e res Q hx hy hf hq
  cases e with
  | int i => exact ⟨i, Rq.int hy, snd_sl hx hf hq⟩
  | _ => cases hf
theorem ve_slU {hi : Expr} {oa ob : Opr} {p2 : Pos} (ha : VO X W wx a oa) (hb : VO X W wx hi ob) : VE X W wx (.Subscript a (.Slice none (some hi) none p2) pos) (v2 fSlU oa ob) := by
  obtain ⟨ta, A⟩ := ha
  obtain ⟨tb, B⟩ := hb
  refine ⟨PE.imp (pe_slice sl_V A.pe po_none (po_some B.pe)) fun σ H Q h => ?_⟩
  refine run2 (r := fun x y H Q => ∃ i, y = .int i ∧ rSlV X.K x none (some i) H Q) A B ?_ h
  intro S H x y d e res Q hx hy hf hq
  cases e with
  | int i => exact ⟨i, Rq.int hy, snd_sl hx hf hq⟩
  | _ => cases hf
theorem ve_sl0 {oa : Opr} {p2 : Pos} (ha : VO X W wx a oa) : VE X W wx (.Subscript a (.Slice none none none p2) pos) (v1 fSl0 oa) := by
  obtain ⟨ta, A⟩ := ha
  refine ⟨PE.imp (pe_slice sl_V A.pe po_none po_none) fun σ H Q h => ?_⟩
  refine run1 (r := fun x H Q => rSlV X.K x none none H Q) A ?_ h
  intro S H x d res Q hx hf hq
  exact snd_sl hx hf hq

/-! ### in -/
def oneS (x : Str) : Option Nat := match x.cps.toList with
  | [c] => some c
  | _ => none
theorem oneS_of {x : Str} {c : Nat} (h : oneS x = some c) : x = ⟨#[c]⟩ := by
  unfold oneS at h
  obtain ⟨⟨l⟩⟩ := x
  simp only at h
  split at h
  · cases h
    rfl
  · cases h
/-- x in y: a sign in a text; data in a list; a key in a dict -/
def inD (d e : D) : Option Bool := match e with
  | .str y => (match d with
    | .str x => (oneS x).map fun c => decide (c ∈ y.cps.toList)
    | _ => none)
  | .list es => if (dep d && dep (.list es)) = true then some (es.any fun z => PyData.eqv z d) else none
  | .dict kvs => if isDct kvs = true then (kidx d).map fun k => (dlook kvs k).isSome else none
  | _ => none
def fIn (d e : D) : Option Rs := (inD d e).map fun b => .sh (.bool b)
def fNotIn (d e : D) : Option Rs := (inD d e).map fun b => .sh (.bool (!b))
def rInV (K : PySem.W.Frag) : R2 := fun x y H Q => (rInS x y H Q ∨ rInD K x y H Q) ∨ ∃ a o, y = .ref a ∧ DGet H a x o ∧ Q (.bl o.isSome) H
def rNotInV (K : PySem.W.Frag) : R2 := fun x y H Q => (rNotInS x y H Q ∨ rNotInD K x y H Q) ∨ ∃ a o, y = .ref a ∧ DGet H a x o ∧ Q (.bl (!o.isSome)) H
theorem op_in_dict (hu : X.A.units + 1 < cLine) : OpR X (compareOp .In) (fun x y H Q => ∃ a o, y = .ref a ∧ DGet H a x o ∧ Q (.bl o.isSome) H) := by
  intro pins s σ H x y v u Q I rx ry h
  obtain ⟨a, o, rfl, g, q⟩ := h
  obtain rfl : u = Value.ref a := ry
  exact d_in hu I g rx fun s3 I3 => ⟨.bl o.isSome, H, I3, rfl, q⟩
theorem op_notIn_dict (hu : X.A.units + 1 < cLine) : OpR X (compareOp .NotIn) (fun x y H Q => ∃ a o, y = .ref a ∧ DGet H a x o ∧ Q (.bl (!o.isSome)) H) := by
  intro pins s σ H x y v u Q I rx ry h
  obtain ⟨a, o, rfl, g, q⟩ := h
  obtain rfl : u = Value.ref a := ry
  exact d_notIn hu I g rx fun s3 I3 => ⟨.bl (!o.isSome), H, I3, rfl, q⟩
theorem op_inV (hu : X.A.units + 65 < cLine) : OpR X (compareOp .In) (rInV X.K) := (op_inS.or (op_inD hu)).or (op_in_dict (by omega))
theorem op_notInV (hu : X.A.units + 65 < cLine) : OpR X (compareOp .NotIn) (rNotInV X.K) := (op_notInS.or (op_notInD hu)).or (op_notIn_dict (by omega))
theorem in_dict {x y : V} {d : D} {kvs : List (D × D)} {b : Bool} (hx : RqA K S H x d) (hy : RqA K S H y (.dict kvs)) (h : (if isDct kvs = true then (kidx d).map fun k => (dlook kvs k).isSome else none) = some b) : ∃ a o, y = .ref a ∧ DGet H a x o ∧ o.isSome = b := by
  by_cases hd : isDct kvs = true
  · rw [if_pos hd] at h
    obtain ⟨k, e1, e2⟩ := Option.map_eq_some_iff.mp h
    obtain ⟨a, ks, xs, ds, rfl, rfl, h1, h2, h3, h4, h5⟩ := RqA.dictI hy hd
    have ex := Rp.key_of e1 (Rr.rp (m := true) (kidx_atom e1) hx)
    subst ex
    refine ⟨a, _, rfl, DGet.k h1, ?_⟩
    rw [← e2]
    have q := dlook_at (k := k) h2 h3
    cases el : dlook ((ks.map kD).zip ds) k with
    | none => rw [q.2 el]; rfl
    | some z =>
      obtain ⟨j, v, q1, _⟩ := q.1 z el
      rw [q1]; rfl
  · rw [if_neg hd] at h; cases h
theorem snd_in : SndN2 true K (rInV K) fIn := by
  intro S H x y d e res Q hx hy hf hq
  obtain ⟨b, hb, rfl⟩ := Option.map_eq_some_iff.mp hf
  cases e with
  | str z =>
    cases d with
    | str w =>
      obtain ⟨c, h1, rfl⟩ := Option.map_eq_some_iff.mp (show (oneS w).map (fun c => decide (c ∈ z.cps.toList)) = some b from hb)
      exact .inl (.inl ⟨c, z, by rw [Rr.str hx, oneS_of h1], Rr.str hy, hq _ _ (.old (.bl _))⟩)
    | _ => cases hb
  | list es =>
    have hf' : (if (dep d && dep (.list es)) = true then some (es.any fun z => PyData.eqv z d) else none) = some b := hb
    by_cases h : (dep d && dep (.list es)) = true
    · rw [if_pos h] at hf'
      cases hf'
      rw [Bool.and_eq_true] at h
      exact .inl (.inr ⟨d, es, RqA.dp (dep_n h.1) hx, RqA.dp (dep_n h.2) hy, RqA.shaped hx h.1, RqA.shaped hy h.2, hq _ _ (.old (.bl _))⟩)
    · rw [if_neg h] at hf'; cases hf'
  | dict kvs =>
    obtain ⟨a, o, rfl, g, eo⟩ := in_dict hx hy hb
    subst eo
    exact .inr ⟨a, o, rfl, g, hq _ _ (.old (.bl _))⟩
  | _ => cases d <;> cases hb
theorem snd_notIn : SndN2 true K (rNotInV K) fNotIn := by
  intro S H x y d e res Q hx hy hf hq
  obtain ⟨b, hb, rfl⟩ := Option.map_eq_some_iff.mp hf
  cases e with
  | str z =>
    cases d with
    | str w =>
      obtain ⟨c, h1, rfl⟩ := Option.map_eq_some_iff.mp (show (oneS w).map (fun c => decide (c ∈ z.cps.toList)) = some b from hb)
      exact .inl (.inl ⟨c, z, by rw [Rr.str hx, oneS_of h1], Rr.str hy, hq _ _ (.old (.bl _))⟩)
    | _ => cases hb
  | list es =>
    have hf' : (if (dep d && dep (.list es)) = true then some (es.any fun z => PyData.eqv z d) else none) = some b := hb
    by_cases h : (dep d && dep (.list es)) = true
    · rw [if_pos h] at hf'
      cases hf'
      rw [Bool.and_eq_true] at h
      exact .inl (.inr ⟨d, es, RqA.dp (dep_n h.1) hx, RqA.dp (dep_n h.2) hy, RqA.shaped hx h.1, RqA.shaped hy h.2, hq _ _ (.old (.bl _))⟩)
    · rw [if_neg h] at hf'; cases hf'
  | dict kvs =>
    obtain ⟨a, o, rfl, g, eo⟩ := in_dict hx hy hb
    subst eo
    exact .inr ⟨a, o, rfl, g, hq _ _ (.old (.bl _))⟩
  | _ => cases d <;> cases hb

/-! ### list(x), tuple(x), join -/
def fList : D → Option Rs
  | .list ds => some (.nw ds)
  | .tuple ds => some (.nw ds)
  | _ => none
theorem snd_list : Snd1 K (fun v H Q => ∃ p ys, [v] = [V.ref p] ∧ (SqL K H p ys ∨ SqT K H p ys) ∧ ∀ l, H l = none → Q (.ref l) (upd H l (.lst ys))) fList := by
  intro S H x d res Q hx hf hq
  cases d with
  | list ds =>
    cases hf
    obtain ⟨p, xs, rfl, h1, h2⟩ := hx.list
    exact ⟨p, xs, rfl, .inl h1, fun l hl => hq _ _ (.lst hl h2)⟩
  | tuple ds =>
    cases hf
    obtain ⟨p, xs, rfl, h1, h2⟩ := hx.tup
    exact ⟨p, xs, rfl, .inr h1, fun l hl => hq _ _ (.lst hl h2)⟩
  | _ => cases hf
def fTuple : D → Option Rs
  | .list ds => some (.sh (.tuple ds))
  | .tuple ds => some (.sh (.tuple ds))
  | _ => none
theorem snd_tuple : Snd1 K (fun v H Q => ∃ p ys, [v] = [V.ref p] ∧ ((SqL K H p ys ∧ ∀ l, H l = none → Q (.ref l) (upd H l (.tup ys))) ∨ (SqT K H p ys ∧ Q (.ref p) H))) fTuple := by
  intro S H x d res Q hx hf hq
  cases d with
  | list ds =>
    cases hf
    obtain ⟨p, xs, rfl, h1, h2⟩ := hx.list
    exact ⟨p, xs, rfl, .inl ⟨h1, fun l hl => hq _ _ (.tup hl h2)⟩⟩
  | tuple ds =>
    cases hf
    obtain ⟨p, xs, rfl, h1, h2⟩ := hx.tup
    refine ⟨p, xs, rfl, .inr ⟨h1, ?_⟩⟩
    exact hq _ _ (.old (Rq.rp hx))
  | _ => cases hf
end
end ML

/-! ## M14 -/
set_option Elab.async false
set_option linter.all false
set_option autoImplicit false
set_option maxRecDepth 100000
set_option maxHeartbeats 4000000
namespace ML
open PySem PySem.Spec PyProof.Rows L2

section
variable {X : Cx} {W : Wd} {wx : WX} {K : PySem.W.Frag} {H H' : Hp} {σ : L2.St} {δ δ' : List Sl} {π : List Cell} {S : Addr → Prop} {e a b c : Expr} {es : List Expr} {t u : VT} {ts : VTs} {pos p apos cpos : Pos}
/-! ### join -/
def strs? : List D → Option (List Str)
  | [] => some []
  | .str x :: r => (strs? r).map (x :: ·)
  | _ :: _ => none
theorem strs?_of : ∀ {ds : List D} {ys : List Str}, strs? ds = some ys → ds = ys.map PyData.str
  | [], ys, h => by cases h; rfl
  | .str x :: r, ys, h => by
    obtain ⟨zs, h1, h2⟩ := Option.map_eq_some_iff.mp (show (strs? r).map (x :: ·) = some ys from h)
    subst h2
    rw [strs?_of h1]
    rfl
  | .none :: _, _, h => by cases h
  | .bool _ :: _, _, h => by cases h
  | .int _ :: _, _, h => by cases h
  | .list _ :: _, _, h => by cases h
  | .tuple _ :: _, _, h => by cases h
  | .dict _ :: _, _, h => by cases h
theorem strs?_map : ∀ ys : List Str, strs? (ys.map PyData.str) = some ys
  | [] => rfl
  | y :: ys => by rw [List.map_cons, strs?, strs?_map ys]; rfl
def joinS (a : Str) (ys : List Str) : Str := Txt.join a ys
def fJoin (a : Str) (d : D) : Option Rs := match d with
  | .list ds => (strs? ds).bind fun ys => if (ys.map (·.length)).sum + ys.length * a.length ≤ 1000000 then some (.sh (.str (joinS a ys))) else none
  | .tuple ds => (strs? ds).bind fun ys => if (ys.map (·.length)).sum + ys.length * a.length ≤ 1000000 then some (.sh (.str (joinS a ys))) else none
  | _ => none
theorem mem_joinL {S : List Nat} {c : Nat} : ∀ {ps : List (List Nat)}, c ∈ TL.joinL S ps → c ∈ S ∨ ∃ p ∈ ps, c ∈ p
  | [], h => by cases h
  | [p], h => .inr ⟨p, List.mem_singleton.mpr rfl, h⟩
  | p :: q :: r, h => by
    have h' : c ∈ p ++ (S ++ TL.joinL S (q :: r)) := h
    rcases List.mem_append.mp h' with h1 | h1
    · exact .inr ⟨p, List.mem_cons_self, h1⟩
    · rcases List.mem_append.mp h1 with h1 | h1
      · exact .inl h1
      · rcases mem_joinL h1 with h2 | ⟨x, hx, h2⟩
        · exact .inl h2
        · exact .inr ⟨x, List.mem_cons_of_mem _ hx, h2⟩
theorem len_joinL {S : List Nat} : ∀ {ps : List (List Nat)}, (TL.joinL S ps).length ≤ (ps.map (·.length)).sum + ps.length * S.length
  | [] => by simp [TL.joinL]
  | [p] => by simp [TL.joinL]
  | p :: q :: r => by
    have ih := len_joinL (S := S) (ps := q :: r)
    show (p ++ (S ++ TL.joinL S (q :: r))).length ≤ _
    rw [List.length_append, List.length_append]
    simp only [List.map_cons, List.sum_cons, List.length_cons, Nat.add_mul, Nat.one_mul] at ih ⊢
    omega
theorem joinS_codes (a : Str) (ys : List Str) : (joinS a ys).cps.toList = TL.joinL a.cps.toList (ys.map fun y => y.cps.toList) := by
  unfold joinS
  rw [TL.join_eq]
  exact TL.tl_join a ys
theorem okS_iff {x : Str} : okS x = true ↔ (∀ c ∈ x.cps.toList, c < 0x110000) ∧ x.cps.toList.length ≤ sizeLine := by
  unfold okS PyData.strOk
  rw [Bool.and_eq_true, decide_eq_true_eq, Array.all_eq_true_iff_forall_mem]
  constructor
  · rintro ⟨h1, h2⟩
    refine ⟨fun c hc => of_decide_eq_true (h1 c (by simpa using hc)), ?_⟩
    rw [Array.length_toList]
    exact h2
  · rintro ⟨h1, h2⟩
    rw [Array.length_toList] at h2
    exact ⟨fun c hc => decide_eq_true (h1 c (by simpa using hc)), h2⟩
theorem okS_join {a : Str} {ys : List Str} (ha : okS a = true) (hy : ∀ y ∈ ys, okS y = true) (h : (ys.map (·.length)).sum + ys.length * a.length ≤ 1000000) : okS (joinS a ys) = true := by
  rw [okS_iff, joinS_codes]
  refine ⟨fun c hc => ?_, ?_⟩
  · rcases mem_joinL hc with h1 | ⟨p, hp, h1⟩
    · exact (okS_iff.mp ha).1 c h1
    · obtain ⟨y, hy', rfl⟩ := List.mem_map.mp hp
      exact (okS_iff.mp (hy y hy')).1 c h1
  · refine Nat.le_trans len_joinL (le_line ?_)
    rw [List.map_map, List.length_map]
    have e : (List.map ((fun (x : List Nat) => x.length) ∘ fun (y : Str) => y.cps.toList) ys) = ys.map (·.length) := by
      apply List.map_congr_left
      intro y _
      show y.cps.toList.length = y.cps.size
      rw [Array.length_toList]
    rw [e, Array.length_toList]
    exact h
theorem ve_join {sep : Str} {oa : Opr} {j : Nat} {ps : Pos} (ha : VO X W wx e oa) (hsep : okS sep = true := by decide +kernel) (hs : starEach [e] X.env = [(false, eval e X.env)] := by rfl)
    (hbase : attributeBase (.Constant (.str sep) j ps) "join" X.env (eval (.Constant (.str sep) j ps) X.env) = eval (.Constant (.str sep) j ps) X.env := by rfl) (hline : (apos.endLine == pos.line) = true := by rfl) :
    VE X W wx (.Call (.Attribute (.Constant (.str sep) j ps) "join" apos) [e] [] pos) (v1 (fJoin sep) oa) := by
  obtain ⟨ta, A⟩ := ha
  refine ⟨PE.imp (pe_join pe_str A.pe hs hbase hline) fun σ H Q h => ⟨⟨sep, rfl⟩, ?_⟩⟩
  refine run1 (r := fun x H Q => ∃ a p, ∃ ys : List Str, V.str sep = .str a ∧ [x] = [V.ref p] ∧ (SqL X.K H p (ys.map V.str) ∨ SqT X.K H p (ys.map V.str)) ∧ (ys.map (·.length)).sum + ys.length * a.length ≤ 16777216 ∧ Q (.str (Txt.join a ys)) H) A ?_ h
  intro S H x d res Q hx hf hq
  have fin : ∀ (ds : List D) (xs : List V), Rps X.K S H xs ds → ((strs? ds).bind fun ys => if (ys.map (·.length)).sum + ys.length * sep.length ≤ 1000000 then some (Rs.sh (.str (joinS sep ys))) else none) = some res →
      ∃ ys : List Str, xs = ys.map V.str ∧ (ys.map (·.length)).sum + ys.length * sep.length ≤ 16777216 ∧ Q (.str (Txt.join sep ys)) H := fun ds xs r hh => by
    obtain ⟨ys, h1, h2⟩ := Option.bind_eq_some_iff.mp hh
    have e1 := strs?_of h1
    subst e1
    by_cases hl : (ys.map (·.length)).sum + ys.length * sep.length ≤ 1000000
    · rw [if_pos hl] at h2
      cases h2
      exact ⟨ys, r.strs_v, by omega, hq _ _ (.old (.str _ (okS_join hsep (fun y hy => r.strs_ok y hy) hl)))⟩
    · rw [if_neg hl] at h2; cases h2
  cases d with
  | list ds =>
    obtain ⟨p, xs, rfl, h1, h2⟩ := hx.list
    obtain ⟨ys, rfl, h3, h4⟩ := fin ds xs h2 hf
    exact ⟨sep, p, ys, rfl, rfl, .inl h1, h3, h4⟩
  | tuple ds =>
    obtain ⟨p, xs, rfl, h1, h2⟩ := hx.tup
    obtain ⟨ys, rfl, h3, h4⟩ := fin ds xs h2 hf
    exact ⟨sep, p, ys, rfl, rfl, .inr h1, h3, h4⟩
  | _ => cases hf

end
end ML

/-! ## M15 -/
set_option Elab.async false
set_option linter.all false
set_option autoImplicit false
set_option maxRecDepth 100000
set_option maxHeartbeats 4000000
namespace ML
open PySem PySem.Spec PyProof.Rows L2

section
variable {X : Cx} {W : Wd} {wx : WX} {K : PySem.W.Frag} {H H' : Hp} {σ : L2.St} {δ δ' : List Sl} {π : List Cell} {S : Addr → Prop} {e a b c : Expr} {es : List Expr} {t u : VT} {ts : VTs} {pos pos' p apos cpos np : Pos} {body suite : List Stmt} {pb : VSt}
/-! ### raise of an own class without fields -/
def vRaise (C : Addr) : VSt := fun E δ => E.ex ⟨C, [], []⟩ δ
theorem vs_raise {x m : Str} {C : Addr} {j : Nat} {p2 p3 : Pos} {bmB : List Value} {B newId initId : String} (F : ExcBaseFacts B newId initId bmB) (q : PySem.W.excIn X.K C bmB newId = true) (gC : X.mg x = some (.ref C)) (kC : PySem.W.keepIn X.K (.ref C) = true)
    (r : Raises X (.ref C)) (tk : Takes X wx) (hc : X.calm = true) (hg : Gl X x := by rfl) (hdb : (x == ("__debug__" : Str)) = false := by decide) : VS X W wx (.Raise (some (.Call (.Name x p) [.Constant (.str m) j p2] [] p3)) none pos) (vRaise C) :=
  ⟨PS.imp (ps_raise hc tk (pmk_own F q gC kC r hg hdb)) fun Dd σ H ⟨δ, π, E, s, h, k⟩ => k.ex σ _ _ h none H [] (by rw [shs_nil, List.append_nil]; exact s) rfl ⟨rfl, .inl ⟨rfl, rfl⟩⟩⟩

/-! ### try .. except C as e -/
def lX (K : PySem.W.Frag) (W : Wd) (i : Nat) (a : Addr) (cls : Value) (d : Option Addr) (ps : Exn → VSt) : TS := fun Dd σ H => ∃ (δ : List Sl) (π : List Cell) (E : En) (x : Exn) (vs : List V),
  SS K W H σ δ (π ++ shs vs x.vals) ∧ vs.length = x.vals.length ∧ σ[i]? = some (some (.ref a)) ∧ cls = .ref x.cls ∧ DS H d x.names vs ∧ ps x E δ ∧ EnOk K W wx0 π E Dd
structure VX (X : Cx) (W : Wd) (i : Nat) (st : List Stmt) (ps : Exn → VSt) : Prop where
  run : ∀ (a : Addr) (oe : Obj) (cls : Value) (d : Option Addr) (pn : List (Addr × Obj)), Zc cls d oe → (∃ vs, oe.data = .fields vs) → PSs (X.suite a ((a, oe) :: pn)) st (lX X.K W i a cls d ps)
def enX (E : En) (i : Nat) : En := ⟨fun δ => E.nx (δ.set i .un), E.rt, fun δ => E.bk (δ.set i .un), fun δ => E.ct (δ.set i .un), noX⟩
/-- sb: which of the classes that come are taken -/
def vTry (i : Nat) (sb : Addr → Bool → Prop) (pb : VSt) (ps : Exn → VSt) : VSt := fun E δ =>
  pb ⟨E.nx, E.rt, E.bk, E.ct, fun x δ' => i < δ'.length ∧ ∃ b, sb x.cls b ∧ (b = true → ps x (enX E i) (δ'.set i .un)) ∧ (b = false → E.ex x δ')⟩ δ
theorem SS.unput (s : SS K W H σ δ π) {i : Nat} : SS K W H (σ.set i none) (δ.set i .un) π := by
  have := s.wipe (vs := [i])
  exact this
theorem vs_try {i : Nat} {x n : Str} {cv : Value} {b0 : Stmt} {sb : Addr → Bool → Prop} {ps : Exn → VSt} (hs : X.stack = X.env :: X.outer) (hf : X.env.frame = some X.env.locals) (hN : X.N.Nodup) (hi : X.N[i]? = some n) (hln : X.env.kindOf n = some .local) (hc : Names X x cv) (tk : Takes X wx)
    (hsb : ∀ C b, sb C b → PySem.W.exmOne X.K (.ref C) cv = some b)
    (hb : ∀ (w2 : WX) (pn : List (Addr × Obj)) (xe : Value → Shared → Prop), Takes (X.tr pn xe) w2 → PassesOwn (model X.prog X.w) X.A X.env xe → VSs (X.tr pn xe) W w2 body pb) (hsu : VX X W i (b0 :: suite) ps) :
    VS X W wx (.Try body [.ExceptHandler (some (.Name x np)) (some n) (b0 :: suite) pos'] [] [] pos) (vTry i sb pb ps) := by
  refine ⟨PS.imp (ps_try_as (tb := fun w2 => lS X.K W w2 pb) (ts := fun a cls d => lX X.K W i a cls d ps) hs hf hN hi hln hc tk (fun w2 pn xe t1 t2 => (hb w2 pn xe t1 t2).ps) (fun a oe cls d pn z1 z2 => hsu.run a oe cls d pn z1 z2)) fun Dd σ H ⟨δ, π, E, s, h, k⟩ => ?_⟩
  refine ⟨δ, π, _, s, h, ⟨k.nx, k.rt, k.bk, k.ct, fun σ1 x1 δ1 q d H1 vs s1 l1 ds1 => ?_⟩⟩
  obtain ⟨hil, bb, q1, q2, q3⟩ := q
  refine ⟨bb, hsb _ _ q1, fun eb a ha => ?_, fun eb => k.ex σ1 _ _ (q3 eb) d H1 vs s1 l1 ds1⟩
  have s2 := (s1.blank (v := some (.ref a))).put hil
  refine ⟨δ1.set i .un, π, enX E i, x1, vs, s2, l1, ?_, rfl, ds1, q2 eb, ⟨fun δ' z σ' H' s' => ?_, k.rt, fun δ' z σ' H' s' => ?_, fun δ' z σ' H' s' => ?_, fun _ _ _ z => z.elim⟩⟩
  · rw [List.getElem?_set_self]
    rw [s1.len]
    exact hil
  · exact k.nx _ z _ _ (s'.unput)
  · exact k.bk _ z _ _ (s'.unput)
  · exact k.ct _ z _ _ (s'.unput)

/-! ### expressions of a suite -/
def lXE (K : PySem.W.Frag) (W : Wd) (i : Nat) (a : Addr) (cls : Value) (d : Option Addr) (t : Exn → VT) : TE := fun σ H Q => ∃ (δ : List Sl) (π : List Cell) (Qd : Sl → List Sl → Prop) (x : Exn) (vs : List V) (ρ : List Cell),
  SS K W H σ δ (π ++ shs vs x.vals ++ ρ) ∧ vs.length = x.vals.length ∧ σ[i]? = some (some (.ref a)) ∧ cls = .ref x.cls ∧ DS H d x.names vs ∧ t x δ Qd noX ∧
  ∀ rv δ', Qd rv δ' → ∀ v H', SS K W H' σ δ' (π ++ shs vs x.vals ++ ρ ++ [(some v, rv)]) → DS H' d x.names vs → Q v H'
structure XE (X : Cx) (W : Wd) (i : Nat) (e : Expr) (t : Exn → VT) : Prop where
  run : ∀ (a : Addr) (oe : Obj) (cls : Value) (d : Option Addr) (pn : List (Addr × Obj)), Zc cls d oe → (∃ vs, oe.data = .fields vs) → PE (X.suite a ((a, oe) :: pn)) e (lXE X.K W i a cls d t)
theorem xe_bl {i : Nat} {v : Bool} {j : Nat} : XE X W i (.Constant (.bool v) j pos) (fun _ => vC (.bool v)) :=
  ⟨fun a oe cls d pn z1 z2 => PE.imp pe_bl fun σ H Q ⟨δ, π, Qd, x, vs, ρ, s, l, h1, h2, ds, q, k⟩ => k _ _ q _ _ (s.push fun _ => .bl _) ds⟩
theorem xe_int {i : Nat} {v : Int} {j : Nat} : XE X W i (.Constant (.int v) j pos) (fun _ => vC (.int v)) :=
  ⟨fun a oe cls d pn z1 z2 => PE.imp pe_int fun σ H Q ⟨δ, π, Qd, x, vs, ρ, s, l, h1, h2, ds, q, k⟩ => k _ _ q _ _ (s.push fun _ => .int _) ds⟩
theorem xe_non {i : Nat} {j : Nat} : XE X W i (.Constant .none j pos) (fun _ => vC .none) :=
  ⟨fun a oe cls d pn z1 z2 => PE.imp pe_non fun σ H Q ⟨δ, π, Qd, x, vs, ρ, s, l, h1, h2, ds, q, k⟩ => k _ _ q _ _ (s.push fun _ => .non) ds⟩
theorem xe_str {i : Nat} {v : Str} {j : Nat} (hv : okS v = true := by decide +kernel) : XE X W i (.Constant (.str v) j pos) (fun _ => vC (.str v)) :=
  ⟨fun a oe cls d pn z1 z2 => PE.imp pe_str fun σ H Q ⟨δ, π, Qd, x, vs, ρ, s, l, h1, h2, ds, q, k⟩ => k _ _ q _ _ (s.push fun _ => .str _ hv) ds⟩
/-- isinstance(e, T): the exception has no fields -/
def xIs (C : Addr) (b : Bool) : Exn → VT := fun x δ Q _ => x.cls = C ∧ x.names = [] ∧ Q (.sh (.bool b)) δ
theorem xe_is {i : Nat} {C : Addr} {n T : Str} {c : V} {cv : Value} {b : Bool} {pn' pT pI : Pos} (hx : ExcC X.K C) (hT : ∀ (a : Addr) (oe : Obj) (pn : List (Addr × Obj)), PE (X.suite a ((a, oe) :: pn)) (.Name T pT) (tC c)) (hu : ∀ u, RelV c u → u = cv) (hk : PySem.W.kitOne X.K (.ref C) cv = some b)
    (hm : X.mg "isinstance" = none) (hN : X.N[i]? = some n := by rfl) (hv : Vis X.env.scope n := by first | exact Or.inl rfl | exact Or.inr (Or.inl rfl) | exact Or.inr (Or.inr rfl)) (hd : (n == ("__debug__" : Str)) = false := by decide) (hcd : (n == ("__classdict__" : Str)) = false := by decide)
    (hg : Gl X "isinstance" := by rfl) (he : starEach [.Name n pn', .Name T pT] X.env = (false, eval (.Name n pn') X.env) :: starEach [.Name T pT] X.env := by rfl) (he2 : starEach [.Name T pT] X.env = (false, eval (.Name T pT) X.env) :: starEach [] X.env := by rfl)
    (hpl : (backTo pos (starEach [.Name T pT] X.env)).any (·.1) = false := by rfl) : XE X W i (.Call (.Name "isinstance" pI) [.Name n pn', .Name T pT] [] pos) (fun x => xIs C b x) := by
  refine ⟨fun a oe cls d pn z1 z2 => ?_⟩
  cases d with
  | some dd =>
    refine ⟨fun pins sh σ H Q I hh => ?_⟩
    obtain ⟨δ, π, Qd, x, vs, ρ, s, l, h1, h2, ds, q, k⟩ := hh
    obtain ⟨_, q2, _⟩ := q
    rcases ds.2 with ⟨_, z⟩ | ⟨_, _, z, _⟩
    · cases z
    · exact absurd q2 z
  | none =>
    refine ⟨fun pins sh σ H Q I hh => ?_⟩
    obtain ⟨δ, π, Qd, x, vs, ρ, s, l, h1, h2, ds, q, k⟩ := hh
    obtain ⟨q1, q2, q3⟩ := q
    have ec : cls = .ref C := by rw [h2, q1]
    subst ec
    have P : PE (X.suite a ((a, oe) :: pn)) (.Call (.Name "isinstance" pI) [.Name n pn', .Name T pT] [] pos) (tCB (rIsE X.K C a) (tCons (tVar i) (tCons (tC c) tNil))) :=
      pe_callB (call_isE hx z1 z2) hg hm (by decide +kernel) (pa_cons (pe_var hN hv hd hcd) (pa_cons (hT a oe pn) pa_nil he2) he) (by decide) (by decide) he hpl
    refine P.run pins sh σ H Q I ⟨.ref a, h1, c, cv, b, rfl, hu, hk, k _ _ q3 _ _ (s.push fun _ => .bl _) ds⟩
theorem vx_ret {i : Nat} {t : Exn → VT} (h : XE X W i e t) : VX X W i [.Return (some e) pos] (fun x E δ => t x δ E.rt noX) :=
  ⟨fun a oe cls d pn z1 z2 => PSs.imp (pss_one (ps_ret (h.run a oe cls d pn z1 z2))) fun Dd σ H ⟨δ, π, E, x, vs, s, l, h1, h2, ds, q, k⟩ =>
    ⟨δ, π, _, x, vs, [], by rw [List.append_nil]; exact s, l, h1, h2, ds, q, fun rv δ' z v H' s' _ => by
      rw [List.append_nil] at s'
      exact k.rt _ _ z _ _ _ s'.mid⟩⟩
end
end ML

/-! ## M16 -/
set_option Elab.async false
set_option linter.all false
set_option autoImplicit false
set_option maxRecDepth 100000
set_option maxHeartbeats 4000000
namespace ML
open PySem PySem.Spec PyProof.Rows L2
theorem hu64 {k : Nat} {A : Around} (hr : Room k A) : A.units + 64 < cLine := by
  have := hr.un
  omega
theorem hu65 {k : Nat} {A : Around} (hr : Room k A) : A.units + 65 < cLine := by
  have := hr.un
  omega
/-- what is known of an own class of exceptions without fields -/
structure ExF (K : PySem.W.Frag) (mg : Str → Option Value) (x : Str) (C : Addr) : Prop where
  q : PySem.W.excIn K C [.type "ValueError", .type "Exception", .type "BaseException", .type "object"] "ValueError.__new__" = true
  g : mg x = some (.ref C)
  k : PySem.W.keepIn K (.ref C) = true
  r1 : PySem.W.subIn K (.ref C) (.type "BaseException") = some true
  r2 : PySem.W.typeIn K (.ref C) = some (.type "type")
section
variable {X : Cx} {W : Wd} {wx : WX} {K : PySem.W.Frag} {H H' : Hp} {S : Addr → Prop} {a b : Expr} {pos : Pos}
/-! ### x += e, x -= e -/
def fAug : D → D → Option Rs
  | .int i, .int j => some (.sh (.int (i + j)))
  | .str a, .str b => if a.length + b.length ≤ 1000000 then some (.sh (.str (a ++ b))) else none
  | _, _ => none
abbrev fAuS := fI (fun _ _ => true) (fun i j => .int (i - j))
theorem ip_addV : PIp X .Add (fun x y H Q => (∃ i j, x = .int i ∧ y = .int j ∧ Q (.int (i + j)) H) ∨ rAddS x y H Q) :=
  fun pins s σ H x y v u Q I rx ry q => q.elim (ip_add pins s σ H x y v u Q I rx ry) (in_addS pins s σ H x y v u Q I rx ry)
theorem snd_aug : Snd2 K (fun x y H Q => (∃ i j, x = .int i ∧ y = .int j ∧ Q (.int (i + j)) H) ∨ rAddS x y H Q) fAug := by
  intro S H x y d e res Q hx hy hf hq
  cases d with
  | int i =>
    cases e with
    | int j =>
      cases hf
      exact .inl ⟨i, j, hx.int, hy.int, hq _ _ (.old (.int _))⟩
    | _ => cases hf
  | str a =>
    cases e with
    | str b =>
      have hf' : (if a.length + b.length ≤ 1000000 then some (Rs.sh (.str (a ++ b))) else none) = some res := hf
      by_cases h : a.length + b.length ≤ 1000000
      · rw [if_pos h] at hf'
        cases hf'
        exact .inr ⟨a, b, hx.str, hy.str, le_line h, hq _ _ (.old (.str _ (okS_app hx.okS hy.okS h)))⟩
      · rw [if_neg h] at hf'; cases hf'
    | _ => cases hf
  | _ => cases e <;> cases hf
theorem snd_auS : Snd2 K (fun x y H Q => ∃ i j, x = .int i ∧ y = .int j ∧ Q (.int (i - j)) H) fAuS := snd_sub
end
end ML

/-! ## M17 -/
set_option Elab.async false
set_option linter.all false
set_option autoImplicit false
set_option maxRecDepth 100000
set_option maxHeartbeats 4000000
namespace ML
open PySem PySem.Spec PyProof.Rows L2
/-! ### s[::-1] of a text -/
def revS (z : Str) : Str := ⟨z.cps.toList.reverse.toArray⟩
theorem rev_idx (n : Nat) : PySem.Builtin.Str.strSliceIndices none none (-1) n = (List.range n).reverse := by
  show PySem.sliceRange ((n : Int) - 1) (-1) (-1) = _
  unfold PySem.sliceRange
  have hc : (if (-1 : Int) > 0 then (if (n : Int) - 1 < -1 then (-1 - ((n : Int) - 1) + -1 - 1) / -1 else 0) else (if (n : Int) - 1 > -1 then ((n : Int) - 1 - -1 - -1 - 1) / - -1 else 0)) = (n : Int) := by
    rw [if_neg (by decide)]
    by_cases h : (n : Int) - 1 > -1
    · rw [if_pos h, show (- -1 : Int) = 1 from rfl, Int.ediv_one]; omega
    · rw [if_neg h]; omega
  show List.map (fun k : Nat => ((n : Int) - 1 + -1 * (k : Int)).toNat) (List.range (Int.toNat (if (-1 : Int) > 0 then (if (n : Int) - 1 < -1 then (-1 - ((n : Int) - 1) + -1 - 1) / -1 else 0) else (if (n : Int) - 1 > -1 then ((n : Int) - 1 - -1 - -1 - 1) / - -1 else 0)))) = _
  rw [hc]
  apply List.ext_getElem
  · simp
  · intro i h1 h2
    simp at h1
    simp
    omega
theorem pick_rev {α : Type} (a : Array α) : (List.range a.size).reverse.filterMap (fun i => a[i]?) = a.toList.reverse := by
  rw [List.filterMap_reverse]
  congr 1
  apply List.ext_getElem?
  intro i
  have : (List.range a.size).filterMap (fun i => a[i]?) = a.toList := by
    have h : ∀ l : List α, (List.range l.length).filterMap (fun i => l[i]?) = l := by
      intro l
      induction l with
      | nil => rfl
      | cons x l ih =>
        rw [List.length_cons, List.range_succ_eq_map, List.filterMap_cons, List.filterMap_map]
        simp only [List.getElem?_cons_zero]
        congr 1
    have := h a.toList
    simpa using this
  rw [this]
section
variable {X : Cx} {W : Wd} {wx : WX} {K : PySem.W.Frag} {H H' : Hp} {S : Addr → Prop} {e a b : Expr} {pos : Pos} {te : TE}
def tRevS (te : TE) : TE := fun σ H Q => te σ H fun x H1 => ∃ z, x = .str z ∧ (revS z).length ≤ sizeLine ∧ Q (.str (revS z)) H1
theorem pe_revS {k : Nat} {p1 p2 p3 : Pos} (he : PE X e te) : PE X (.Subscript e (.Slice none none (some (.UnaryOp .USub (.Constant (.int 1) k p1) p2)) p3) pos) (tRevS te) :=
  ⟨fun pins s σ H Q I h => Subscript_ (thn (he.run pins s σ H _ I h) fun v s1 ⟨x, H1, I1, r1, z, ex, hz, q⟩ => by
    subst ex
    obtain ⟨t, rfl⟩ := r1
    refine wpAny_Slice (thn (po_none.run pins s1 σ H1 (fun o H2 => o = none ∧ H2 = H1) I1 ⟨rfl, rfl⟩) fun vl s2 ⟨o, H2, I2, pl, eo, e2⟩ => ?_)
    subst eo e2
    refine thn (po_none.run pins s2 σ H2 (fun o H3 => o = none ∧ H3 = H2) I2 ⟨rfl, rfl⟩) fun vu s3 ⟨o, H3, I3, pu, eo, e3⟩ => ?_
    subst eo e3
    refine thn ((po_some (pe_un un_neg pe_int)).run pins s3 σ H3 (fun o H4 => o = some (-1) ∧ H4 = H3) I3 ⟨1, rfl, -1, rfl, rfl, rfl⟩) fun vs s4 ⟨o, H4, I4, ps, eo, e4⟩ => ?_
    subst eo e4
    have I5 : L2.Inv X pins σ H4 { heap := s4.heap.push { cls := Value.type "slice", data := Data.fields #[vl, vu, vs] }, gens := s4.gens, drawn := s4.drawn, toks := s4.toks, os := s4.os } := Inv.kept I4 fun b ob q => Heap.get?_push_of_some _ q
    cases pl
    cases pu
    cases ps with
    | int _ ts =>
    refine tail_any (ops := [.str z t, .ref s4.heap.objs.size]) (typeIs_str _ z t) (by rfl) ?_ (by rfl)
    refine wpAny_getItem_str_slice (l := none) (u := none) (st := some (-1, ts)) (Heap.IsSliceOf.new _ _ _ _) (by rfl) ?_
    have em : sliceMade z t none none (some (-1, ts)) = Made.str (revS z) := by
      unfold sliceMade
      rw [if_neg (by
        intro h
        rw [Bool.and_eq_true] at h
        exact absurd h.1 (show ¬ (((-1 : Int) == 1) = true) by decide))]
      congr 2
      show List.toArray (List.filterMap (fun i => z.cps[i]?) (PySem.Builtin.Str.strSliceIndices none none (-1) z.length)) = _
      rw [rev_idx]
      show List.toArray (List.filterMap (fun i => z.cps[i]?) (List.range z.cps.size).reverse) = _
      rw [pick_rev]
    rw [em]
    exact ⟨hz, .str (revS z), H4, Inv.tok I5 _, ⟨_, rfl⟩, q⟩)⟩
def fRev : D → Option Rs
  | .str x => some (.sh (.str (revS x)))
  | _ => none
theorem okS_rev {x : Str} (h : okS x = true) : okS (revS x) = true := by
  unfold okS PyData.strOk at *
  rw [Bool.and_eq_true] at *
  obtain ⟨h1, h2⟩ := h
  have h2 := of_decide_eq_true h2
  unfold revS
  refine ⟨?_, decide_eq_true ?_⟩
  · simp only [Array.all_eq_true_iff_forall_mem] at h1 ⊢
    intro y hy
    simp only [List.mem_toArray, List.mem_reverse] at hy
    exact h1 y (by simpa using hy)
  · show (List.toArray _).size ≤ _
    rw [List.size_toArray, List.length_reverse, Array.length_toList]
    exact h2
theorem ve_rev {oa : Opr} {k : Nat} {p1 p2 p3 : Pos} (ha : VO X W wx a oa) : VE X W wx (.Subscript a (.Slice none none (some (.UnaryOp .USub (.Constant (.int 1) k p1) p2)) p3) pos) (v1 fRev oa) := by
  obtain ⟨ta, A⟩ := ha
  refine ⟨PE.imp (pe_revS A.pe) fun σ H Q h => ?_⟩
  refine run1 (r := fun x H Q => ∃ z, x = .str z ∧ (revS z).length ≤ sizeLine ∧ Q (.str (revS z)) H) A ?_ h
  intro S H x d res Q hx hf hq
  cases d with
  | str z =>
    cases hf
    exact ⟨z, hx.str, by have := okS_rev hx.okS; unfold okS at this; rw [Bool.and_eq_true] at this; exact of_decide_eq_true this.2, hq _ _ (.old (.str _ (okS_rev hx.okS)))⟩
  | _ => cases hf
end
end ML

/-! ## M18 -/
set_option Elab.async false
set_option linter.all false
set_option autoImplicit false
set_option maxRecDepth 100000
set_option maxHeartbeats 4000000
namespace ML
open PySem PySem.Spec PyProof.Rows L2
/-! ### enumerate(text) -/
def ItEs (x : Str) : It where
  go := fun i _ => i < x.cps.size
  yld := fun i H v H' => ∃ (T : Addr) (c : Nat), v = .ref T ∧ H T = none ∧ H' = upd H T (.tup [.int i, .str ⟨#[c]⟩]) ∧ x.cps[i]? = some c
  stop := fun i _ => x.cps.size ≤ i
theorem turn_enumS {P : Program} {w : World} {K : PySem.W.Frag} {elts : List Expr} {kk : Nat} {tpos : Pos} (x : Str) (t : Tok) (e it : Addr) (ty : String) (hty : ty = "str_ascii_iterator" ∨ ty = "str_iterator") :
    Turn P w K (.Tuple elts kk tpos) (ItEs x) [e, it] e (fun i h => (∃ old, IsEnum h e it (i : Int) old) ∧ h.IsStrIter it ty x t i ∧ e ≠ it ∧ i ≤ x.cps.size) := by
  have dr : ∀ {A : Around}, A.handled = none → Draws P w A it [it] x.cps.size (fun i v => ∃ c u, x.cps[i]? = some c ∧ v = Value.str { cps := #[c] } u) (fun i h => h.IsStrIter it ty x t i) := fun {A} hA => by
    rcases hty with rfl | rfl
    · exact Draws.strAscii hA it x t
    · exact Draws.strWide hA it x t
  have me : e ∈ [e, it] := List.mem_cons_self
  have mi : it ∈ [e, it] := List.mem_cons_of_mem _ List.mem_cons_self
  have cs : ∀ {b : Addr}, b ∈ [e, it] → b = e ∨ b = it := fun {b} hb => by simpa using hb
  refine ⟨me, fun i h st b hb => ?_, fun i h h' st k => ?_, fun X hP hw hK hc i pins s σ H E I hf st hg => ?_, fun X hP hw hK hc i pins s σ H E I hf st hg => ?_, fun A i s Q E st h => ?_⟩
  · obtain ⟨⟨old, he⟩, ⟨o, ho, _, hd⟩, _⟩ := st
    rcases cs hb with rfl | rfl
    · exact ⟨_, he, fun v q => nomatch q⟩
    · exact ⟨o, ho, fun v q => by rw [hd] at q; cases q⟩
  · obtain ⟨⟨old, he⟩, ⟨o, ho, hc, hd⟩, hne, hle⟩ := st
    exact ⟨⟨old, k e me _ he⟩, ⟨o, k it mi _ ho, hc, hd⟩, hne, hle⟩
  · subst hP hw hK
    obtain ⟨⟨old, he⟩, hit, hne, hle⟩ := st
    have hel := Heap.lt_size he
    have hil : it < s.heap.objs.size := by
      obtain ⟨o, ho, _⟩ := hit
      exact Heap.lt_size ho
    refine wpAny_pyNext_enum_itemD (dr (A := X.A.in1) (I.ok.hd hc)) he hit hg hne (by simpa using hne) fun xv h' tk px ho hit' hT hsz hk => ?_
    obtain ⟨c, u, hcx, rfl⟩ := px
    refine ⟨_, rfl, wpAny_letOwnedTupleGo_enum ho fun h'' he' sb => ?_⟩
    have hT2 := (sb.2 s.heap.objs.size (Nat.ne_of_gt hel)).trans hT
    have new : ObjOk X.prog X.w (upd H s.heap.objs.size (.tup [.int i, .str ⟨#[c]⟩])) h'' s.heap.objs.size (.tup [.int i, .str ⟨#[c]⟩]) :=
      ⟨by show 2 ≤ sizeLine; decide, [Value.int (i : Int) tk, Value.str { cps := #[c] } u], .cons ⟨tk, rfl⟩ (.cons ⟨u, rfl⟩ .nil), _, hT2, rfl, 0, rfl⟩
    have I1 := Inv.turnedNew (t' := tk + 1) (ch := [e, it]) I (fun b ob hb q => (sb.2 b fun z => hb (z ▸ me)).trans (hk b ob (fun z => hb (z ▸ me)) (fun z => hb (z ▸ mi)) q)) hf (Nat.le_refl s.heap.objs.size) new
    refine ⟨.ref s.heap.objs.size, _, I1, rfl, ⟨s.heap.objs.size, c, rfl, HOk.fresh I.hok (Nat.le_refl _), rfl, hcx⟩, ⟨⟨_, by
      have e1 : ((i + 1 : Nat) : Int) = (i : Int) + 1 := by omega
      rw [e1]
      exact he'⟩, ?_, hne, hg⟩, fun b hb => ?_⟩
    · obtain ⟨o, ho2, q1, q2⟩ := hit'
      exact ⟨o, (sb.2 it (Ne.symm hne)).trans ho2, q1, q2⟩
    · have hb' : b < s.heap.objs.size := by
        rcases cs hb with rfl | rfl
        · exact hel
        · exact hil
      rw [upd_ne (Nat.ne_of_lt hb')]
      exact (hf b hb).1
  · subst hP hw hK
    obtain ⟨⟨old, he⟩, hit, hne, hle⟩ := st
    have hst : x.cps.size ≤ i := hg
    have hi : i = x.cps.size := Nat.le_antisymm hle hst
    subst hi
    obtain ⟨f0, f1, f2, f3, f4, f5⟩ := hf it mi
    exact wpAny_pyNext_enum_endD (dr (A := X.A.in1) (I.ok.hd hc)) he hit fun h' eb => ⟨rfl, Inv.turned I (fun b o hb q => eb b o hb q) f0 f1 f3 f4 f5⟩
  · obtain ⟨⟨old, he⟩, _⟩ := st
    exact wpAny_pyIter_enum he h
section
variable {X : Cx} {W : Wd} {wx : WX} {K : PySem.W.Frag} {H H' : Hp} {σ : L2.St} {δ δ' : List Sl} {π : List Cell} {S : Addr → Prop} {e a b c : Expr} {t u : VT} {ta : TA} {pos p : Pos}
def iEnumS (ta : TA) : TI := fun σ H R => ta σ H fun vs H1 => ∃ x, vs = [.str x] ∧ R (ItEs x) H1
theorem pi_enumS {elts : List Expr} {kk : Nat} {tpos : Pos} (hg : Gl X "enumerate") (hm : X.mg "enumerate" = none) (ha : PA X [e] ta) (hs : starEach [e] X.env = [(false, eval e X.env)] := by rfl) :
    PI X (.Tuple elts kk tpos) (.Call (.Name "enumerate" p) [e] [] pos) (iEnumS ta) :=
  ⟨fun pins s σ H R I h => Call_ (ld_blt I hg hm boot_enumerate (PyProof.Rows.callWith_type1 (thn (ha.run pos pins s σ H (fun vs H1 => ∃ x, vs = [.str x] ∧ R (ItEs x) H1) I h) fun us s1 ⟨vs, H1, I1, r1, x, ex, q⟩ => by
    subst ex
    cases r1 with
    | cons r rr =>
    cases rr
    obtain ⟨t, rfl⟩ := r
    refine call_enumerate_str fun h' he hit hsz hk => wpAny_pyIter_enum he ?_
    have I2 := Inv.kept (t' := s1.toks) I1 hk
    have hty : strIterType x = "str_ascii_iterator" ∨ strIterType x = "str_iterator" := by
      unfold strIterType
      split
      · exact .inl rfl
      · exact .inr rfl
    refine ⟨_, [s1.heap.objs.size + 1, s1.heap.objs.size], _, ItEs x, H1, rfl, I2, turn_enumS x t (s1.heap.objs.size + 1) s1.heap.objs.size (strIterType x) hty, ⟨⟨_, he⟩, hit, Nat.succ_ne_self _, Nat.zero_le _⟩, fun b hb => ?_, q⟩
    have hle : s1.heap.objs.size ≤ b := by
      rcases (show b = s1.heap.objs.size + 1 ∨ b = s1.heap.objs.size by simpa using hb) with z | z
      · rw [z]; exact Nat.le_succ _
      · rw [z]; exact Nat.le_refl _
    exact Inv.fpOk I1 hle (HOk.fresh I1.hok hle)) hs rfl) (by decide) (by decide)) rfl⟩
end
end ML

/-! ## M19 -/
set_option Elab.async false
set_option linter.all false
set_option autoImplicit false
set_option maxRecDepth 100000
set_option maxHeartbeats 4000000
namespace ML
open PySem PySem.Spec PyProof.Rows L2
section
variable {X : Cx} {W : Wd} {wx : WX} {K : PySem.W.Frag} {H H' : Hp} {σ : L2.St} {δ δ' : List Sl} {π : List Cell} {S : Addr → Prop} {a b c : Expr} {t u : VT} {pos p : Pos}
/-! ### for i, c in enumerate(text) -/
theorem itok_enumS {x : Str} (ok : okS x = true) : ItOk K W (ItEs x) (enumD (signD x)) [] where
  stop := fun σ δ H π ρ i s hi => by
    rw [enumD_length] at hi
    unfold signD at hi
    rw [List.length_map, Array.length_toList] at hi
    exact hi
  go := fun σ δ H π ρ i d s hd => by
    obtain ⟨S, x'⟩ := s.st
    obtain ⟨y, hy, rfl⟩ := enumD_get hd
    unfold signD at hy
    rw [List.getElem?_map] at hy
    obtain ⟨c, h1, rfl⟩ := Option.map_eq_some_iff.mp hy
    have h2 : x.cps[i]? = some c := by rw [← Array.getElem?_toList]; exact h1
    refine ⟨(Array.getElem?_eq_some_iff.mp h2).1, fun z H' hz => ?_⟩
    obtain ⟨T, c', rfl, hT, rfl, e⟩ := hz
    rw [h2] at e
    cases e
    obtain ⟨_, z⟩ := s.new x' (.tup hT (.cons (.int _) (.cons (.str _ (okS_sign ok (List.mem_of_getElem? h1))) .nil)))
    exact z
def iEnS (t : VT) : VTs := fun δ Q Xc => vCons t vNil δ (fun ds δ' => ∃ x, ds = [.str x] ∧ Q (enumD (signD x)) δ') Xc
theorem vi_enumS {elts : List Expr} {kk : Nat} {tpos : Pos} (hm : X.mg "enumerate" = none) (he : VE X W wx a t) (hg : Gl X "enumerate" := by rfl) (hs : starEach [a] X.env = [(false, eval a X.env)] := by rfl) :
    VI X W wx (.Tuple elts kk tpos) (.Call (.Name "enumerate" p) [a] [] pos) (iEnS t) :=
  ⟨PI.imp (pi_enumS hg hm (va_cons he va_nil hs).pa hs) fun σ H R ⟨δ, π, Qd, Xd, s, h, k, xr⟩ => ⟨δ, π, _, Xd, s, h, fun ds δ' q vs H' l n s' => by
    obtain ⟨x, rfl, q⟩ := q
    obtain ⟨v, rfl⟩ := len1 l
    rw [shs_cons, shs_nil] at s'
    obtain ⟨rfl, ok⟩ := s'.str
    exact ⟨x, rfl, k _ _ q _ [] _ (by rw [List.append_nil]; exact s'.drop) (itok_enumS ok)⟩, xr⟩⟩
/-! ### list(range(n)) -/
def vLRg (t : VT) : VT := fun δ Q Xc => vCons t vNil δ (fun ds δ' => ∃ j : Int, ds = [.int j] ∧ 0 ≤ j ∧ j ≤ 1000000 ∧ ∀ p, Q (.ow (Ot.flat p (rngD 0 j.toNat))) δ') Xc
theorem rgV_rngD (j : Int) : Rps K S H (rgV 0 j) (rngD 0 j.toNat) := by
  unfold rgV rngD
  rw [Int.sub_zero]
  have e : (List.range j.toNat).map (fun i : Nat => V.int (0 + (i : Int))) = ((List.range j.toNat).map fun i : Nat => (0 + (i : Int) : Int)).map V.int := by rw [List.map_map]; rfl
  have e2 : (List.range j.toNat).map (fun i : Nat => PyData.int (0 + (i : Int))) = ((List.range j.toNat).map fun i : Nat => (0 + (i : Int) : Int)).map PyData.int := by rw [List.map_map]; rfl
  rw [e, e2]
  exact Rps.ints _
theorem ve_lrg {p2 pos2 : Pos} (hc : X.calm = true) (hm : X.mg "list" = none) (hm2 : X.mg "range" = none) (he : VE X W wx a t) (hg : Gl X "list" := by rfl) (hg2 : Gl X "range" := by rfl) (hs : starEach [a] X.env = (false, eval a X.env) :: starEach [] X.env := by rfl)
    : VE X W wx (.Call (.Name "list" p) [.Call (.Name "range" p2) [a] [] pos2] [] pos) (vLRg t) := by
  refine ⟨PE.imp (pe_listRg hc hg hm (prg_1 hg2 hm2 he.pe hs)) fun σ H Q ⟨δ, π, Qd, Xd, s, h, k, xr⟩ => ?_⟩
  show lE X.K W wx t σ H _
  refine ⟨δ, π, _, Xd, s, h, fun rv δ1 q v H1 s1 => ?_, xr⟩
  obtain ⟨q0, j, ej, j0, j1, q⟩ := q
  have s2 := s1.shr q0
  have ej' : rv.get = .int j := (List.cons.inj ej).1
  rw [ej'] at s2
  obtain rfl := s2.int
  refine ⟨j, rfl, ⟨by omega, by omega, by omega, by omega, by omega⟩, fun p hp => ?_⟩
  obtain ⟨S, x⟩ := s2.st
  obtain ⟨p2, z⟩ := s2.drop.new (SS.restrict x) (.lst hp (rgV_rngD j))
  exact k _ _ (q p2) _ _ z
/-! ### min of three -/
def fMin3 : D → D → D → Option Rs
  | .int i, .int j, .int k => some (.sh (.int (min (min i j) k)))
  | _, _, _ => none
theorem snd_min3 : Snd3 K (fun x y z => rNuC3 nuMin3 [x, y, z]) fMin3 := by
  intro S H x y z d e g res Q hx hy hz hf hq
  cases d with
  | int i =>
    cases e with
    | int j =>
      cases g with
      | int k =>
        cases hf
        rw [Rq.int hx, Rq.int hy, Rq.int hz]
        have e1 : nuMin2 (.int i) (.int j) = some (.int (min i j)) := by
          show some (if decide (j < i) = true then V.int j else V.int i) = _
          by_cases h : j < i
          · rw [if_pos (decide_eq_true h), Int.min_eq_right (by omega)]
          · rw [if_neg (by simpa using h), Int.min_eq_left (by omega)]
        have e2 : ∀ m : Int, nuMin2 (.int m) (.int k) = some (.int (min m k)) := fun m => by
          show some (if decide (k < m) = true then V.int k else V.int m) = _
          by_cases h : k < m
          · rw [if_pos (decide_eq_true h), Int.min_eq_right (by omega)]
          · rw [if_neg (by simpa using h), Int.min_eq_left (by omega)]
        exact ⟨_, _, _, .int (min (min i j) k), rfl, by unfold nuMin3; rw [e1]; exact e2 _, hq _ _ (.old (.int _))⟩
      | _ => cases hf
    | _ => cases hf
  | _ => cases hf
theorem ve_b3 {id : String} {x : Str} {r : List V → Hp → VK → Prop} {f : D → D → D → Option Rs} {oa ob oc : Opr} (hc : CallR X (.builtin id) r) (snd : Snd3 X.K (fun x y z => r [x, y, z]) f) (hm : X.mg x = none) (hv : bootBuiltins x = some (.builtin id)) (ha : VO X W wx a oa) (hb : VO X W wx b ob) (hcc : VO X W wx c oc)
    (hg : Gl X x := by rfl) (hn : x ≠ "__name__" := by decide) (hdb : (x == ("__debug__" : Str)) = false := by decide) (he : starEach [a, b, c] X.env = (false, eval a X.env) :: starEach [b, c] X.env := by rfl) (he2 : starEach [b, c] X.env = (false, eval b X.env) :: starEach [c] X.env := by rfl)
    (he3 : starEach [c] X.env = (false, eval c X.env) :: starEach [] X.env := by rfl) (hpl : (backTo pos (starEach [b, c] X.env)).any (·.1) = false := by rfl) : VE X W wx (.Call (.Name x p) [a, b, c] [] pos) (v3 f oa ob oc) := by
  obtain ⟨ta, A⟩ := ha
  obtain ⟨tb, B⟩ := hb
  obtain ⟨tc, C⟩ := hcc
  exact ⟨PE.imp (pe_callB hc hg hm hv (pa_cons A.pe (pa_cons B.pe (pa_cons C.pe pa_nil he3) he2) he) hn hdb he hpl) fun σ H Q h => by
    show ta σ H fun x H1 => tb σ H1 fun y H2 => tc σ H2 fun z H3 => r [x, y, z] H3 Q
    exact run3 A B C snd h⟩
/-! ### a, b = x, y -/
def vPar (i j : Nat) (ts : VTs) : VSt := fun E δ => ts δ (fun ds δ' => ∃ d e, ds = [d, e] ∧ i < δ'.length ∧ j < δ'.length ∧ E.nx ((δ'.set i (.sh d)).set j (.sh e))) E.ex
theorem vs_par {i j : Nat} {x y : Str} {ts : VTs} {px py pt pt2 : Pos} {kt k2 : Nat} (hc : X.calm = true) (hN : X.N.Nodup) (hi : X.N[i]? = some x) (hj : X.N[j]? = some y) (hij : i ≠ j) (hx : X.env.scope.names.lookup x = some .local) (hy : X.env.scope.names.lookup y = some .local)
    (ha : VA X W wx [a, b] ts) (hw : swappedStores [.Tuple [.Name x px, .Name y py] kt pt] (.Tuple [a, b] k2 pt2) X.env = pure (some [x, y]))
    (hs : swapsWithSole [.Tuple [.Name x px, .Name y py] kt pt] (.Tuple [a, b] k2 pt2) pos.line X.env = pure false := by rfl) :
    VS X W wx (.Assign [.Tuple [.Name x px, .Name y py] kt pt] (.Tuple [a, b] k2 pt2) pos) (vPar i j ts) :=
  ⟨PS.imp (ps_par hc hN hi hj hij hx hy ha.pa hw hs) fun Dd σ H ⟨δ, π, E, s, h, k⟩ => ⟨δ, π, _, _, s, h, fun ds δ' q vs H' l n s' => by
    obtain ⟨d, e, rfl, q1, q2, q⟩ := q
    obtain ⟨v, w, rfl⟩ := len2 l
    rw [shs_cons, shs_cons, shs_nil] at s'
    refine ⟨v, w, rfl, k.nx _ q _ _ ?_⟩
    have s2 : SS X.K W H' σ δ' ((π ++ [(some v, Sl.sh d)]) ++ [(some w, Sl.sh e)]) := by rw [List.append_assoc]; exact s'
    have s3 : SS X.K W H' (σ.set j (some w)) (δ'.set j (.sh e)) (π ++ [(some v, Sl.sh d)]) := s2.put q2
    have s4 := s3.put (by rw [List.length_set]; exact q1)
    rw [List.set_comm _ _ hij, List.set_comm _ _ hij]
    exact s4, k.ex σ⟩⟩
/-! ### x[::-1] of a list -/
def fRevL : D → Option Rs
  | .list ds => some (.nw ds.reverse)
  | _ => none
theorem ve_revL {oa : Opr} {k : Nat} {p1 p2 p3 : Pos} (ha : VO X W wx a oa) : VE X W wx (.Subscript a (.Slice none none (some (.UnaryOp .USub (.Constant (.int 1) k p1) p2)) p3) pos) (v1 fRevL oa) := by
  obtain ⟨ta, A⟩ := ha
  refine ⟨PE.imp (pe_revL A.pe) fun σ H Q h => ?_⟩
  refine run1 (r := fun x H Q => ∃ a xs, x = .ref a ∧ SqL X.K H a xs ∧ ∀ p, H p = none → Q (.ref p) (upd H p (.lst xs.reverse))) A ?_ h
  intro S H x d res Q hx hf hq
  cases d with
  | list ds =>
    cases hf
    obtain ⟨p, xs, rfl, h1, h2⟩ := Rq.list hx
    exact ⟨p, xs, rfl, h1, fun q hq' => hq _ _ (.lst hq' h2.reverse)⟩
  | _ => cases hf
end
end ML

/-! ## M20 -/
set_option Elab.async false
set_option linter.all false
set_option autoImplicit false
set_option maxRecDepth 100000
set_option maxHeartbeats 4000000
namespace ML
open PySem PySem.Spec PyProof.Rows L2
section
variable {X : Cx} {W : Wd} {wx : WX} {K : PySem.W.Frag} {H H' : Hp} {σ : L2.St} {δ δ' : List Sl} {π : List Cell} {S : Addr → Prop} {a b c : Expr} {t u : VT} {pos p : Pos}
/-! ### isinstance -/
def tyD : D → Option String
  | .none => some "NoneType"
  | .bool _ => some "bool"
  | .int _ => some "int"
  | .str _ => some "str"
  | .list _ => some "list"
  | .tuple _ => some "tuple"
  | .dict _ => none
theorem RqA.ty {v : V} {d : D} {T : String} (h : RqA K S H v d) (e : tyD d = some T) : TyX K H v (.type T) := by
  have lst : ∀ {p : Addr} {xs : List V}, SqL K H p xs → TyX K H (.ref p) (.type "list") := fun {p xs} h1 => by
    rcases h1 with (h1 | ⟨o, h1⟩) | ⟨o, its, n, q1, q2, _⟩
    · exact .base (.lst h1)
    · exact .base (.frz h1)
    · exact .kList q1 q2
  have tup : ∀ {p : Addr} {xs : List V}, SqT K H p xs → TyX K H (.ref p) (.type "tuple") := fun {p xs} h1 => by
    rcases h1 with (h1 | ⟨o, h1⟩) | ⟨o, its, n, q1, q2, _⟩
    · exact .base (.tup h1)
    · exact .fTuple h1
    · exact .kTuple q1 q2
  cases d with
  | none => cases e; rw [Rr.none (m := true) h]; exact .base .non
  | bool b => cases e; rw [Rr.bool (m := true) h]; exact .base (.bl b)
  | int i => cases e; rw [Rr.int (m := true) h]; exact .base (.int i)
  | str x => cases e; rw [Rr.str (m := true) h]; exact .base (.str x)
  | list ds =>
    cases e
    obtain ⟨p, xs, rfl, h1, _⟩ := h.list
    exact lst h1
  | tuple ds =>
    cases e
    obtain ⟨p, xs, rfl, h1, _⟩ := h.tup
    exact tup h1
  | dict _ => cases e
def isB (T : String) (d : D) : Option Bool := (tyD d).bind fun a => kitB a T
def isT (T : String) (d : D) : Option Rs := (isB T d).map fun b => .sh (.bool b)
def isT2 (T U : String) (d : D) : Option Rs := (isB T d).bind fun b => (isB U d).map fun c => .sh (.bool (b || c))
theorem ve_isi {T : String} {x : Str} {oa : Opr} {px pT : Pos} (hm : X.mg "isinstance" = none) (hx : X.mg x = none) (hb : bootBuiltins x = some (.type T)) (ha : VO X W wx a oa) (hg : Gl X "isinstance" := by rfl) (hgx : Gl X x := by rfl) (hnx : x ≠ "__name__" := by decide) (hdx : (x == ("__debug__" : Str)) = false := by decide)
    (he : starEach [a, .Name x pT] X.env = (false, eval a X.env) :: starEach [.Name x pT] X.env := by rfl) (he2 : starEach [.Name x pT] X.env = (false, eval (.Name x pT) X.env) :: starEach [] X.env := by rfl) (hpl : (backTo pos (starEach [.Name x pT] X.env)).any (·.1) = false := by rfl) :
    VE X W wx (.Call (.Name "isinstance" px) [a, .Name x pT] [] pos) (w1 (isT T) oa) := by
  obtain ⟨ta, A⟩ := ha
  refine ⟨PE.imp (pe_callB call_isi hg hm (by decide +kernel) (pa_cons A.pe (pa_cons (pe_bltn (v := .ty T) hgx hx hb rfl hnx hdx) pa_nil he2) he) (by decide) (by decide) he hpl) fun σ H Q h => ?_⟩
  show ta σ H fun x H1 => rIsi X.K [x, .ty T] H1 Q
  refine run1 (r := fun v H Q => rIsi X.K [v, .ty T] H Q) A ?_ h
  intro S H x d res Q hx hf hq
  unfold isT isB at hf
  cases e : tyD d with
  | none => rw [e] at hf; cases hf
  | some a =>
    rw [e] at hf
    cases e2 : kitB a T with
    | none => rw [show (some a).bind (fun a => kitB a T) = kitB a T from rfl, e2] at hf; cases hf
    | some b =>
      rw [show (some a).bind (fun a => kitB a T) = kitB a T from rfl, e2] at hf
      cases hf
      exact ⟨x, .ty T, .type a, .type T, b, rfl, .ty T, RqA.ty hx e, kit_ty e2, hq _ _ (.old (.bl b))⟩
theorem kit2 {t u1 u2 : Value} {b c : Bool} (h1 : PySem.W.kitOne K t u1 = some b) (h2 : PySem.W.kitOne K t u2 = some c) : PySem.W.kitAny K t [u1, u2] = some (b || c) := by
  cases b <;> cases c <;> simp [PySem.W.kitAny, h1, h2]
theorem ve_isi2 {T U : String} {x y : Str} {oa : Opr} {px pT pU pt : Pos} {kk : Nat} (hm : X.mg "isinstance" = none) (hx : X.mg x = none) (hy : X.mg y = none) (hb : bootBuiltins x = some (.type T)) (hb2 : bootBuiltins y = some (.type U)) (ha : VO X W wx a oa)
    (hg : Gl X "isinstance" := by rfl) (hgx : Gl X x := by rfl) (hgy : Gl X y := by rfl) (hnx : x ≠ "__name__" := by decide) (hdx : (x == ("__debug__" : Str)) = false := by decide) (hny : y ≠ "__name__" := by decide) (hdy : (y == ("__debug__" : Str)) = false := by decide)
    (he : starEach [a, .Tuple [.Name x pT, .Name y pU] kk pt] X.env = (false, eval a X.env) :: starEach [.Tuple [.Name x pT, .Name y pU] kk pt] X.env := by rfl) (he2 : starEach [.Tuple [.Name x pT, .Name y pU] kk pt] X.env = (false, eval (.Tuple [.Name x pT, .Name y pU] kk pt) X.env) :: starEach [] X.env := by rfl)
    (he3 : starEach [.Name x pT, .Name y pU] X.env = (false, eval (.Name x pT) X.env) :: starEach [.Name y pU] X.env := by rfl) (he4 : starEach [.Name y pU] X.env = (false, eval (.Name y pU) X.env) :: starEach [] X.env := by rfl) (hpl : (backTo pos (starEach [.Tuple [.Name x pT, .Name y pU] kk pt] X.env)).any (·.1) = false := by rfl) :
    VE X W wx (.Call (.Name "isinstance" px) [a, .Tuple [.Name x pT, .Name y pU] kk pt] [] pos) (w1 (isT2 T U) oa) := by
  obtain ⟨ta, A⟩ := ha
  refine ⟨PE.imp (pe_callB call_isiT hg hm (by decide +kernel) (pa_cons A.pe (pa_cons (pe_tup (pa_cons (pe_bltn (v := .ty T) hgx hx hb rfl hnx hdx) (pa_cons (pe_bltn (v := .ty U) hgy hy hb2 rfl hny hdy) pa_nil he4) he3)) pa_nil he2) he) (by decide) (by decide) he hpl) fun σ H Q ⟨δ, π, Qd, Xd, s, h, k, xr⟩ => ?_⟩
  refine A.run σ H δ π _ Xd _ s h xr fun ra δ1 q v H1 s1 i1 => ?_
  obtain ⟨x, res, e1, e2, q⟩ := q
  obtain ⟨S, y⟩ := s1.st
  refine ⟨by show 2 ≤ sizeLine; decide, fun p hp => ?_⟩
  have z := y.more (o := .tup [.ty T, .ty U]) hp
  have rq : RqA X.K _ _ v x := Opr.read (m := true) (ρ := []) s1.len z i1 e1
  unfold isT2 isB at e2
  cases e : tyD x with
  | none => rw [e] at e2; cases e2
  | some a =>
    rw [e] at e2
    cases e3 : kitB a T with
    | none => rw [show (some a).bind (fun a => kitB a T) = kitB a T from rfl, e3] at e2; cases e2
    | some b =>
      rw [show (some a).bind (fun a => kitB a T) = kitB a T from rfl, show (some a).bind (fun a => kitB a U) = kitB a U from rfl, e3] at e2
      cases e4 : kitB a U with
      | none => rw [e4] at e2; cases e2
      | some c =>
        rw [e4] at e2
        cases e2
        have s2 : SS X.K W (upd H1 p (.tup [.ty T, .ty U])) σ δ1 (π ++ [(some v, ra)]) := ⟨s1.len, S, z⟩
        exact ⟨v, p, [.ty T, .ty U], .type a, [.type T, .type U], b || c, rfl, upd_same, .cons (.ty T) (.cons (.ty U) .nil), rq.ty e, kit2 (kit_ty e3) (kit_ty e4), k _ _ (q 0) _ _ (s2.drop.push fun _ => .bl _)⟩
/-! ### a < b < c -/
def vChain (f g : D → D → Option Rs) (a b c : Opr) : VT := fun δ Q Xc => a.ev δ (fun ra δ1 => b.ev δ1 (fun rb δ2 => ∃ x y k, a.fin false ra δ2 = some x ∧ b.fin false rb δ2 = some y ∧ f x y = some (.sh (.bool k)) ∧
  if k = true then c.ev δ2 (fun rc δ3 => ∃ y z r, b.fin false rb δ3 = some y ∧ c.fin false rc δ3 = some z ∧ g y z = some r ∧ ∀ p, Q (r.to p) δ3) Xc else Q (.sh (.bool false)) δ2) Xc) Xc
theorem chain_run {r r' : R2} {f g : D → D → Option Rs} {oa ob oc : Opr} {ta tb tc : TE} {Q : VK} (A : VOt X W wx a oa ta) (B : VOt X W wx b ob tb) (C : VOt X W wx c oc tc) (snd : Snd2 X.K r f) (snd' : Snd2 X.K r' g) (h : lE X.K W wx (vChain f g oa ob oc) σ H Q) : tChain r r' ta tb tc σ H Q := by
  obtain ⟨δ, π, Qd, Xd, s, h, k, xr⟩ := h
  refine A.run σ H δ π _ Xd _ s h xr fun ra δ1 q v H1 s1 i1 => ?_
  refine B.run σ H1 δ1 _ _ Xd _ s1 q xr.more fun rb δ2 q u H2 s2 i2 => ?_
  obtain ⟨x, y, kk, e1, e2, e3, q⟩ := q
  obtain ⟨S, z⟩ := s2.st
  have z1 : StF X.K W H2 (σ.zip δ2 ++ (π ++ ((some v, ra) :: [(some u, rb)]))) S := by
    rw [List.append_assoc] at z
    exact z
  refine snd S H2 v u x y _ _ (Opr.read (m := false) s2.len z1 i1 e1) (Opr.read (m := false) (ρ := []) s2.len z i2 e2) e3 fun v' H' nv => ?_
  cases nv with
  | old rr =>
  cases rr
  refine ⟨kk, rfl, ?_⟩
  cases kk with
  | false =>
    rw [if_neg (by decide)] at q
    rw [if_neg (by decide)]
    exact k _ _ q _ _ (s2.drop.drop.push fun _ => .bl _)
  | true =>
    rw [if_pos rfl] at q
    rw [if_pos rfl]
    refine C.run σ _ δ2 _ _ Xd _ s2 q xr.more.more fun rc δ3 q w H4 s3 i3 => ?_
    obtain ⟨y', z', r'', e4, e5, e6, q⟩ := q
    obtain ⟨S3, zz⟩ := s3.st
    have z2 : StF X.K W H4 (σ.zip δ3 ++ ((π ++ [(some v, ra)]) ++ ((some u, rb) :: [(some w, rc)]))) S3 := by
      rw [List.append_assoc (π ++ [(some v, ra)])] at zz
      exact zz
    exact snd' S3 H4 u w y' z' r'' Q (Opr.read (m := false) s3.len z2 i2 e4) (Opr.read (m := false) (ρ := []) s3.len zz i3 e5) e6 fun v' H' nv => by
      obtain ⟨p, s4⟩ := s3.drop.drop.drop.new (SS.restrict (SS.restrict (SS.restrict zz))) nv
      exact k _ _ (q p) _ _ s4
theorem ve_chain {op op' : CmpOp} {r r' : R2} {f g : D → D → Option Rs} {oa ob oc : Opr} (ho : OpR X (compareOp op) r) (snd : Snd2 X.K r f) (ho' : OpR X (compareOp op') r') (snd' : Snd2 X.K r' g) (ha : VO X W wx a oa) (hb : VO X W wx b ob) (hc : VO X W wx c oc) (hm : lastMarks [op, op'] [b, c] = false := by rfl) :
    VE X W wx (.Compare a [op, op'] [b, c] pos) (vChain f g oa ob oc) := by
  obtain ⟨ta, A⟩ := ha
  obtain ⟨tb, B⟩ := hb
  obtain ⟨tc, C⟩ := hc
  exact ⟨PE.imp (pe_chain ho ho' A.pe B.pe C.pe hm) fun σ H Q h => chain_run A B C snd snd' h⟩
theorem vc_chain {op op' : CmpOp} {r r' : R2} {f g : D → D → Option Rs} {oa ob oc : Opr} (ho : OpR X (compareOp op) r) (snd : Snd2 X.K r f) (ho' : OpR X (compareOp op') r') (snd' : Snd2 X.K r' g) (ha : VO X W wx a oa) (hb : VO X W wx b ob) (hc : VO X W wx c oc) (hm : lastMarks [op, op'] [b, c] = false := by rfl) :
    VC X W wx (.Compare a [op, op'] [b, c] pos) (vB (vChain f g oa ob oc)) := by
  obtain ⟨ta, A⟩ := ha
  obtain ⟨tb, B⟩ := hb
  obtain ⟨tc, C⟩ := hc
  refine ⟨PT.imp (pt_chain ho ho' A.pe B.pe C.pe hm) fun σ H Q ⟨δ, π, Qd, Xd, s, h, k, xr⟩ => ?_⟩
  show tChain r r' ta tb tc σ H _
  refine chain_run A B C snd snd' ⟨δ, π, _, Xd, s, h, fun rv δ' q v H' s' => ?_, xr⟩
  obtain ⟨b, rfl, q⟩ := q
  obtain rfl := s'.bool
  exact ⟨b, rfl, k _ _ q _ s'.drop⟩
end
end ML

/-! ## M21 -/
set_option Elab.async false
set_option linter.all false
set_option autoImplicit false
set_option maxRecDepth 100000
set_option maxHeartbeats 4000000
namespace ML
open PySem PySem.Spec PyProof.Rows L2
section
variable {X : Cx} {W : Wd} {wx : WX} {K : PySem.W.Frag} {H H' : Hp} {σ : L2.St} {δ δ' : List Sl} {π : List Cell} {S : Addr → Prop} {e a b c ie : Expr} {t u ti : VT} {pos p : Pos}
/-! ### all(list of bools), any(..) -/
def bools? : List D → Option (List Bool)
  | [] => some []
  | .bool b :: r => (bools? r).map (b :: ·)
  | _ :: _ => none
theorem bools?_of : ∀ {ds : List D} {bs : List Bool}, bools? ds = some bs → ds = bs.map PyData.bool
  | [], bs, h => by cases h; rfl
  | .bool x :: r, bs, h => by
    obtain ⟨zs, h1, h2⟩ := Option.map_eq_some_iff.mp (show (bools? r).map (x :: ·) = some bs from h)
    subst h2
    rw [bools?_of h1]
    rfl
  | .none :: _, _, h => by cases h
  | .str _ :: _, _, h => by cases h
  | .int _ :: _, _, h => by cases h
  | .list _ :: _, _, h => by cases h
  | .tuple _ :: _, _, h => by cases h
  | .dict _ :: _, _, h => by cases h
theorem bools?_map : ∀ bs : List Bool, bools? (bs.map PyData.bool) = some bs
  | [] => rfl
  | b :: bs => by rw [List.map_cons, bools?, bools?_map bs]; rfl
def fAll (d : D) : Option Rs := match d with
  | .list ds => (bools? ds).map fun bs => .sh (.bool (bs.all id))
  | _ => none
def fAny (d : D) : Option Rs := match d with
  | .list ds => (bools? ds).map fun bs => .sh (.bool (bs.any id))
  | _ => none
theorem snd_all : Snd1 K (fun v H Q => rAll K [v] H Q) fAll := by
  intro S H x d res Q hx hf hq
  cases d with
  | list ds =>
    have hf' : (bools? ds).map (fun bs => Rs.sh (.bool (bs.all id))) = some res := hf
    obtain ⟨bs, h1, rfl⟩ := Option.map_eq_some_iff.mp hf'
    have e := bools?_of h1
    subst e
    obtain ⟨p, xs, rfl, h2, h3⟩ := Rq.list hx
    rw [h3.bools_v] at h2
    exact ⟨p, bs, rfl, h2, hq _ _ (.old (.bl _))⟩
  | _ => cases hf
theorem snd_any : Snd1 K (fun v H Q => rAny K [v] H Q) fAny := by
  intro S H x d res Q hx hf hq
  cases d with
  | list ds =>
    have hf' : (bools? ds).map (fun bs => Rs.sh (.bool (bs.any id))) = some res := hf
    obtain ⟨bs, h1, rfl⟩ := Option.map_eq_some_iff.mp hf'
    have e := bools?_of h1
    subst e
    obtain ⟨p, xs, rfl, h2, h3⟩ := Rq.list hx
    rw [h3.bools_v] at h2
    exact ⟨p, bs, rfl, h2, hq _ _ (.old (.bl _))⟩
  | _ => cases hf
/-! ### str(int) -/
def fStr (d : D) : Option Rs := match d with
  | .int i => if (decide (i.natAbs.log2 < 1920) && okS (Str.ofString (toString i))) = true then some (.sh (.str (Str.ofString (toString i)))) else none
  | _ => none
theorem snd_str1 : Snd1 K (fun v H Q => ∃ i, [v] = [V.int i] ∧ i.natAbs.log2 < 1920 ∧ Q (.str (toString i)) H) fStr := by
  intro S H x d res Q hx hf hq
  cases d with
  | int i =>
    have hf' : (if (decide (i.natAbs.log2 < 1920) && okS (Str.ofString (toString i))) = true then some (Rs.sh (.str (Str.ofString (toString i)))) else none) = some res := hf
    by_cases h : (decide (i.natAbs.log2 < 1920) && okS (Str.ofString (toString i))) = true
    · rw [if_pos h] at hf'
      cases hf'
      rw [Bool.and_eq_true] at h
      exact ⟨i, by rw [Rq.int hx], of_decide_eq_true h.1, hq _ _ (.old (.str _ h.2))⟩
    · rw [if_neg h] at hf'; cases hf'
  | _ => cases hf
end
end ML

/-! ## M22 -/
set_option Elab.async false
set_option linter.all false
set_option autoImplicit false
set_option maxRecDepth 100000
set_option maxHeartbeats 4000000
namespace ML
open PySem PySem.Spec PyProof.Rows L2
section
variable {X : Cx} {W : Wd} {wx : WX} {K : PySem.W.Frag} {H H' : Hp} {σ : L2.St} {δ δ' : List Sl} {π : List Cell} {pos pos' p np : Pos} {body suite : List Stmt} {pb : VSt}
/-! ### try .. except C (no name): the suite knows nothing of the exception -/
def vTry0 (sb : Addr → Bool → Prop) (pb ps : VSt) : VSt := fun E δ =>
  pb ⟨E.nx, E.rt, E.bk, E.ct, fun x δ' => ∃ b, sb x.cls b ∧ (b = true → ps ⟨E.nx, E.rt, E.bk, E.ct, noX⟩ δ') ∧ (b = false → E.ex x δ')⟩ δ
theorem vs_try0 {x : Str} {cv : Value} {b0 : Stmt} {sb : Addr → Bool → Prop} {ps : VSt} (hs : X.stack = X.env :: X.outer) (hf : X.env.frame = some X.env.locals) (hc : Names X x cv) (tk : Takes X wx)
    (hsb : ∀ C b, sb C b → PySem.W.exmOne X.K (.ref C) cv = some b)
    (hb : ∀ (w2 : WX) (pn : List (Addr × Obj)) (xe : Value → Shared → Prop), Takes (X.tr pn xe) w2 → PassesOwn (model X.prog X.w) X.A X.env xe → VSs (X.tr pn xe) W w2 body pb)
    (hsu : ∀ (a : Addr) (oe : Obj) (pn : List (Addr × Obj)), VSs (X.suite a ((a, oe) :: pn)) W wx0 (b0 :: suite) ps) :
    VS X W wx (.Try body [.ExceptHandler (some (.Name x np)) none (b0 :: suite) pos'] [] [] pos) (vTry0 sb pb ps) := by
  refine ⟨PS.imp (ps_try_only (tb := fun w2 => lS X.K W w2 pb) (ts := fun a cls d => lS X.K W wx0 ps) hs hf hc tk (fun w2 pn xe t1 t2 => (hb w2 pn xe t1 t2).ps) (fun a oe cls d pn z1 z2 => (hsu a oe pn).ps)) fun Dd σ H ⟨δ, π, E, s, h, k⟩ => ?_⟩
  refine ⟨δ, π, _, s, h, ⟨k.nx, k.rt, k.bk, k.ct, fun σ1 x1 δ1 q d H1 vs s1 l1 ds1 => ?_⟩⟩
  obtain ⟨bb, q1, q2, q3⟩ := q
  refine ⟨bb, hsb _ _ q1, fun eb a ha => ?_, fun eb => k.ex σ1 _ _ (q3 eb) d H1 vs s1 l1 ds1⟩
  exact ⟨δ1, π, _, s1.drop, q2 eb, ⟨k.nx, k.rt, k.bk, k.ct, fun _ _ _ z => z.elim⟩⟩
end
end ML

/-! ## M23 -/
set_option Elab.async false
set_option linter.all false
set_option autoImplicit false
set_option maxRecDepth 100000
set_option maxHeartbeats 4000000
namespace ML
open PySem PySem.Spec PyProof.Rows L2
/-! ### the ends of a law -/
theorem cx_no {P : Program} {w : World} {o : List Env} {H : Hp} {s : Shared} {u : Value} {s' : Shared} (h : L2.CX P w o H s (fun _ _ _ => False) u s') : False := by
  obtain ⟨_, _, _, _, _, _, _, _, _, _, _, _, h⟩ := h
  exact h
theorem ints_in {K : PySem.W.Frag} {H : Hp} {a : Addr} {ns : List Int} {S : Addr → Prop} (nS : ∀ b, ¬ S b) (h : SqL K H a (ns.map V.int)) : Rp K S H (.ref a) (lkD (ns.map .int)) :=
  .lck (h.elim (fun h => .inl ⟨h, nS a⟩) fun h => .inr (.inr h)) (Rps.ints ns)
theorem law_in {K : PySem.W.Frag} {sem : SemG} {H : Hp} {a : Addr} {ns : List Int} (hS : SqL K H a (ns.map V.int)) (h : sem [.sh (lkD (ns.map .int))] (fun rv _ => rv = .sh (.bool true)) (fun _ _ => False)) :
    spG K 1 sem [V.ref a] H (fun v x => v = V.bl true) (fun _ _ _ => False) := by
  have nS : ∀ b : Addr, ¬ ((fun _ => False : Addr → Prop) b ∨ (fun _ => False : Addr → Prop) b) := fun b z => z.elim (fun z => z) (fun z => z)
  refine ⟨fun _ => False, fun _ => False, [.sh (lkD (ns.map .int))], _, _, rfl, rfl, ⟨fun _ z => z.elim, fun b z => (nS b z).elim, fun _ z => z.elim, fun b o q _ => q, fun b q => q, fun i v d q => ?_, fun i v o q => ?_, fun i v j π p q => ?_, fun i v o b q => ?_, fun i j v o w p b _ q => ?_, fun i v o q => ?_⟩, h, fun rv outs hrv v H' ws lw lo y => ?_, fun _ _ z => z.elim⟩
  · cases i with
    | zero =>
      simp at q
      obtain ⟨rfl, rfl⟩ := q
      exact ⟨_, rfl, ints_in nS hS⟩
    | succ i => simp at q
  · cases i <;> simp at q
  · cases i <;> simp at q
  · cases i <;> simp at q
  · cases i <;> simp at q
  · cases i <;> simp at q
  · subst hrv
    obtain ⟨S, y⟩ := y
    obtain ⟨u, eu, r⟩ := y.sh (ws.zip outs).length _ _ snoc_last
    cases eu
    cases r
    rfl
theorem exm_cls {K : PySem.W.Frag} {C T : Addr} (h1 : PySem.W.subIn K (.ref T) (.type "BaseException") = some true) (h2 : PySem.W.isClsIn K T = true) (h3 : PySem.W.typeIn K (.ref T) = some (.type "type")) (h4 : PySem.W.subIn K (.ref C) (.ref T) = some true) : PySem.W.exmOne K (.ref C) (.ref T) = some true := by
  have h2' : (PySem.W.clsIn K T).isSome = true := h2
  unfold PySem.W.exmOne PySem.W.kitCls
  rw [if_pos (by rw [h1]; rfl)]
  show (if ((PySem.W.clsIn K T).isSome && PySem.W.typeIn K (Value.ref T) == some (Value.type "type")) = true then PySem.W.subIn K (.ref C) (Value.ref T) else none) = _
  rw [if_pos (by rw [h2', h3]; rfl), h4]
theorem kit_cls {K : PySem.W.Frag} {C T : Addr} (h2 : PySem.W.isClsIn K T = true) (h3 : PySem.W.typeIn K (.ref T) = some (.type "type")) (h4 : PySem.W.subIn K (.ref C) (.ref T) = some true) : PySem.W.kitOne K (.ref C) (.ref T) = some true := by
  have h2' : (PySem.W.clsIn K T).isSome = true := h2
  unfold PySem.W.kitOne PySem.W.kitCls
  split
  · rfl
  · show (if ((PySem.W.clsIn K T).isSome && PySem.W.typeIn K (Value.ref T) == some (Value.type "type")) = true then PySem.W.subIn K (.ref C) (Value.ref T) else none) = _
    rw [if_pos (by rw [h2', h3]; rfl), h4]
/-! ### texts as lists of signs -/
abbrev Sx (l : List Nat) : Str := ⟨l.toArray⟩
def tx (l : List Nat) : D := .str (Sx l)
theorem Sx_len (l : List Nat) : (Sx l).length = l.length := List.size_toArray
theorem Sx_inj {l m : List Nat} (h : Sx l = Sx m) : l = m := by
  have := congrArg (fun s : Str => s.cps.toList) h
  simpa using this
theorem Sx_app (l m : List Nat) : Sx l ++ Sx m = Sx (l ++ m) := by
  show Str.mk (l.toArray ++ m.toArray) = _
  rw [List.append_toArray]
theorem tx_len (l : List Nat) : fLen (tx l) = some (.sh (.int l.length)) := by
  show some (Rs.sh (.int ((Sx l).length : Nat))) = _
  rw [Sx_len]
theorem tx_add (l m : List Nat) (h : l.length + m.length ≤ 1000000) : fAdd (tx l) (tx m) = some (.sh (tx (l ++ m))) := by
  show (if (Sx l).length + (Sx m).length ≤ 1000000 then some (Rs.sh (.str (Sx l ++ Sx m))) else none) = _
  rw [Sx_len, Sx_len, if_pos h, Sx_app]
  rfl
def cutL (l : List Nat) (lo hi : Option Int) : List Nat := (l.drop (HT.sIx l.length 0 lo)).take (HT.sIx l.length l.length hi - HT.sIx l.length 0 lo)
theorem tx_sl (l : List Nat) (lo hi : Option Int) : slD (tx l) lo hi = some (.sh (tx (cutL l lo hi))) := by
  show some (Rs.sh (.str (cutT (Sx l) lo hi))) = _
  unfold cutT cutS tx cutL
  rw [Sx_len]
theorem tx_slU (l : List Nat) (h : Int) : fSlU (tx l) (.int h) = some (.sh (tx (cutL l none (some h)))) := tx_sl l none (some h)
theorem tx_slL (l : List Nat) (h : Int) : fSlL (tx l) (.int h) = some (.sh (tx (cutL l (some h) none))) := tx_sl l (some h) none
theorem cutL_to (l : List Nat) (b : Int) (h : 0 ≤ b) : cutL l none (some b) = l.take b.toNat := by
  obtain ⟨n, rfl⟩ := Int.eq_ofNat_of_zero_le h
  unfold cutL
  rw [HT.sIx_none, HT.sIx_nat, List.drop_zero, Nat.sub_zero, Int.toNat_natCast]
  rw [← List.take_take, List.take_length]
theorem cutL_from (l : List Nat) (b : Int) (h : 0 ≤ b) : cutL l (some b) none = l.drop b.toNat := by
  obtain ⟨n, rfl⟩ := Int.eq_ofNat_of_zero_le h
  unfold cutL
  rw [HT.sIx_none, HT.sIx_nat, Int.toNat_natCast]
  by_cases h : n ≤ l.length
  · rw [Nat.min_eq_left h, List.take_of_length_le (by rw [List.length_drop]; exact Nat.le_refl _)]
  · rw [Nat.min_eq_right (by omega), List.drop_of_length_le (i := n) (by omega), List.drop_length, List.take_nil]
theorem cutL_both (l : List Nat) (a b : Int) (h : 0 ≤ a) (h2 : 0 ≤ b) : cutL l (some a) (some b) = (l.take b.toNat).drop a.toNat := by
  obtain ⟨n, rfl⟩ := Int.eq_ofNat_of_zero_le h
  obtain ⟨m, rfl⟩ := Int.eq_ofNat_of_zero_le h2
  unfold cutL
  rw [HT.sIx_nat, HT.sIx_nat, Int.toNat_natCast, Int.toNat_natCast, List.drop_take]
  by_cases h : n ≤ l.length
  · rw [Nat.min_eq_left h]
    by_cases h3 : m ≤ l.length
    · rw [Nat.min_eq_left h3]
    · rw [Nat.min_eq_right (by omega), List.take_of_length_le (by rw [List.length_drop]; exact Nat.le_refl _), List.take_of_length_le (by rw [List.length_drop]; omega)]
  · rw [Nat.min_eq_right (a := n) (by omega), List.drop_length, List.drop_of_length_le (i := n) (by omega), List.take_nil, List.take_nil]
theorem tx_ix (l : List Nat) (i : Int) : fIx (tx l) (.int i) = (L2.atI l i).map fun c => .sh (tx [c]) := by
  show (L2.atI (Sx l).cps.toList i).map (fun c => Rs.sh (.str ⟨#[c]⟩)) = _
  rfl
theorem atI_pos {α : Type} (l : List α) (i : Int) (h : 0 ≤ i) : L2.atI l i = l[i.toNat]? := by
  obtain ⟨n, rfl⟩ := Int.eq_ofNat_of_zero_le h
  rw [Int.toNat_natCast]
  cases e : l[n]? with
  | some x => exact atI_nat e
  | none =>
    have := List.getElem?_eq_none_iff.mp e
    unfold L2.atI ixN
    rw [if_pos h, if_neg (by omega)]
    rfl
theorem atI_negV {α : Type} (l : List α) (i : Int) (h : i < 0) (h2 : -(l.length : Int) ≤ i) : L2.atI l i = l[(i + l.length).toNat]? := by
  unfold L2.atI ixN
  rw [if_neg (by omega), if_pos h2]
  rfl
theorem tx_rev (l : List Nat) : fRev (tx l) = some (.sh (tx l.reverse)) := by
  show some (Rs.sh (.str (revS (Sx l)))) = _
  unfold revS
  rw [show (Sx l).cps.toList = l from rfl]
  rfl
/-! ### equality -/
theorem eqv_tx (l m : List Nat) : PyData.eqv (tx l) (tx m) = decide (l = m) := by
  show PyData.eqv (.str (Sx l)) (.str (Sx m)) = _
  rw [show PyData.eqv (.str (Sx l)) (.str (Sx m)) = decide (Sx l = Sx m) from by simp [PyData.eqv]; rw [Bool.eq_iff_iff]; simp]
  by_cases h : l = m
  · subst h; simp
  · rw [decide_eq_false h, decide_eq_false (fun z => h (Sx_inj z))]
theorem eqv_int (i j : Int) : PyData.eqv (.int i) (.int j) = decide (i = j) := by
  rw [Bool.eq_iff_iff]; simp [PyData.eqv]
theorem eqv_tup2 (a b c d : D) : PyData.eqv (.tuple [a, b]) (.tuple [c, d]) = (PyData.eqv a c && PyData.eqv b d) := by
  simp [PyData.eqv, PyData.eqvAll]
theorem eqv_tup3 (a b c d e f : D) : PyData.eqv (.tuple [a, b, e]) (.tuple [c, d, f]) = (PyData.eqv a c && (PyData.eqv b d && PyData.eqv e f)) := by
  simp [PyData.eqv, PyData.eqvAll]
theorem dep_tx (l : List Nat) : dep (tx l) = true := by simp [dep, noD, noDs, tx, PyData.depth]
theorem dep_int (i : Int) : dep (.int i) = true := by simp [dep, noD, noDs, PyData.depth]
theorem dep_iit (i j : Int) (l : List Nat) : dep (.tuple [.int i, .int j, tx l]) = true := by simp [dep, noD, noDs, tx, PyData.depth, PyData.depthAll]
theorem dep_ii (i j : Int) : dep (.tuple [.int i, .int j]) = true := by simp [dep, noD, noDs, PyData.depth, PyData.depthAll]
theorem fEq_tx (l m : List Nat) : fEq (tx l) (tx m) = some (.sh (.bool (decide (l = m)))) := by
  unfold fEq; rw [dep_tx, dep_tx, eqv_tx]; rfl
theorem fNe_tx (l m : List Nat) : fNe (tx l) (tx m) = some (.sh (.bool (!decide (l = m)))) := by
  unfold fNe; rw [dep_tx, dep_tx, eqv_tx]; rfl
theorem fEq_int (l m : Int) : fEq (.int l) (.int m) = some (.sh (.bool (decide (l = m)))) := by
  unfold fEq; rw [dep_int, dep_int, eqv_int]; rfl
theorem fNe_int (l m : Int) : fNe (.int l) (.int m) = some (.sh (.bool (!decide (l = m)))) := by
  unfold fNe; rw [dep_int, dep_int, eqv_int]; rfl
theorem fNe_ii (i j k l : Int) : fNe (.tuple [.int i, .int j]) (.tuple [.int k, .int l]) = some (.sh (.bool (!(decide (i = k) && decide (j = l))))) := by
  unfold fNe; rw [dep_ii, dep_ii, eqv_tup2, eqv_int, eqv_int]; rfl
theorem fNe_iit (i j k l : Int) (s t : List Nat) : fNe (.tuple [.int i, .int j, tx s]) (.tuple [.int k, .int l, tx t]) = some (.sh (.bool (!(decide (i = k) && (decide (j = l) && decide (s = t)))))) := by
  unfold fNe; rw [dep_iit, dep_iit, eqv_tup3, eqv_int, eqv_int, eqv_tx]; rfl
theorem tru_bool (b : Bool) : truD (.bool b) = some b := rfl
/-! ### join of signs -/
theorem joinE : ∀ ps : List (List Nat), TL.joinL [] ps = ps.flatten
  | [] => rfl
  | [p] => by simp [TL.joinL]
  | p :: q :: r => by
    show p ++ ([] ++ TL.joinL [] (q :: r)) = _
    rw [joinE (q :: r)]
    rfl
theorem strs_tx : ∀ ls : List (List Nat), strs? (ls.map tx) = some (ls.map Sx)
  | [] => rfl
  | l :: ls => by
    rw [List.map_cons, show strs? (tx l :: ls.map tx) = (strs? (ls.map tx)).map (Sx l :: ·) from rfl, strs_tx ls]
    rfl
theorem tx_join (ls : List (List Nat)) (h : (ls.map List.length).sum ≤ 1000000) : fJoin (Str.ofString "") (.list (ls.map tx)) = some (.sh (tx ls.flatten)) := by
  unfold fJoin
  show (strs? (ls.map tx)).bind _ = _
  rw [strs_tx]
  show (if ((ls.map Sx).map (·.length)).sum + (ls.map Sx).length * (Str.ofString "").length ≤ 1000000 then some (Rs.sh (.str (joinS (Str.ofString "") (ls.map Sx)))) else none) = _
  have e0 : (Str.ofString "").length = 0 := by decide +kernel
  have e1 : (ls.map Sx).map (·.length) = ls.map List.length := by
    rw [List.map_map]
    exact List.map_congr_left fun l _ => Sx_len l
  rw [e0, Nat.mul_zero, Nat.add_zero, e1, if_pos h]
  congr 2
  unfold tx
  congr 1
  have hc := joinS_codes (Str.ofString "") (ls.map Sx)
  have e2 : (Str.ofString "").cps.toList = [] := by decide +kernel
  rw [e2, joinE] at hc
  have e3 : (ls.map Sx).map (fun y => y.cps.toList) = ls := by
    rw [List.map_map]
    exact (List.map_congr_left fun l _ => rfl).trans (List.map_id ls)
  rw [e3] at hc
  have : joinS (Str.ofString "") (ls.map Sx) = Sx ((joinS (Str.ofString "") (ls.map Sx)).cps.toList) := rfl
  rw [this, hc]
theorem tx_ixn (l : List Nat) (k : Nat) : fIx (tx l) (.int (k : Int)) = (l[k]?).map fun c => .sh (tx [c]) := by
  rw [tx_ix, atI_pos _ _ (Int.natCast_nonneg k), Int.toNat_natCast]
def slotInt (δ : List Sl) (i : Nat) : Int := match δ[i]? with
  | some (.sh (.int k)) => k
  | _ => 0
def cp : List Nat → List Nat → Nat
  | x :: xs, y :: ys => if x = y then cp xs ys + 1 else 0
  | _, _ => 0
theorem cp_le : ∀ x y, cp x y ≤ x.length ∧ cp x y ≤ y.length
  | [], y => by simp [cp]
  | x :: xs, [] => by simp [cp]
  | x :: xs, y :: ys => by
    have := cp_le xs ys
    unfold cp
    split <;> simp <;> omega
theorem cp_at : ∀ x y k, k < cp x y → x[k]? = y[k]?
  | [], y, k, h => by simp [cp] at h
  | x :: xs, [], k, h => by simp [cp] at h
  | x :: xs, y :: ys, k, h => by
    unfold cp at h
    split at h
    · rename_i e
      subst e
      cases k with
      | zero => simp
      | succ k => simpa using cp_at xs ys k (by omega)
    · omega
theorem cp_end : ∀ x y, cp x y < x.length → cp x y < y.length → x[cp x y]? ≠ y[cp x y]?
  | [], y, h, _ => by simp at h
  | x :: xs, [], _, h => by simp at h
  | x :: xs, y :: ys, h1, h2 => by
    by_cases e : x = y
    · subst e
      have e2 : cp (x :: xs) (x :: ys) = cp xs ys + 1 := by rw [cp, if_pos rfl]
      rw [e2] at h1 h2 ⊢
      simp at h1 h2 ⊢
      exact cp_end xs ys h1 h2
    · have e2 : cp (x :: xs) (y :: ys) = 0 := by rw [cp, if_neg e]
      rw [e2]
      simpa using e
theorem cp_iff {x y : List Nat} {k : Nat} (hk : k ≤ cp x y) (h1 : k < x.length) (h2 : k < y.length) : x[k] = y[k] ↔ k < cp x y := by
  constructor
  · intro e
    by_cases h : k < cp x y
    · exact h
    · have ek : k = cp x y := by omega
      subst ek
      exact absurd (by rw [List.getElem?_eq_getElem h1, List.getElem?_eq_getElem h2, e]) (cp_end x y h1 h2)
  · intro h
    have := cp_at x y k h
    rw [List.getElem?_eq_getElem h1, List.getElem?_eq_getElem h2] at this
    exact Option.some.inj this
theorem vWh_by {c : VTt} {pb : VSt} {E : En} {δ : List Sl} (I : List Sl → Prop) (μ : List Sl → Nat) (h0 : I δ) (hs : ∀ δ1, I δ1 → c δ1 (fun b δ2 => if b = true then pb ⟨fun δ' => I δ' ∧ μ δ' < μ δ1, E.rt, E.nx, fun δ' => I δ' ∧ μ δ' < μ δ1, E.ex⟩ δ2 else E.nx δ2) E.ex) : vWh c pb E δ := ⟨I, μ, h0, hs⟩
theorem tup3_0 (a b c : D) : fIx (.tuple [a, b, c]) (.int 0) = some (.sh a) := rfl
theorem tup3_1 (a b c : D) : fIx (.tuple [a, b, c]) (.int 1) = some (.sh b) := rfl
theorem tup3_2 (a b c : D) : fIx (.tuple [a, b, c]) (.int 2) = some (.sh c) := rfl
theorem lst2_0 (a b : D) : fIx (.list [a, b]) (.int 0) = some (.sh a) := rfl
theorem lst2_1 (a b : D) : fIx (.list [a, b]) (.int 1) = some (.sh b) := rfl
def LC (g : D → List Sl → Option (List Sl)) (cond : VTt) (te : VT) (vs : List Nat) (its : List D) (δ1 : List Sl) (Q : Sl → List Sl → Prop) : Prop := its.length ≤ 1000000 ∧ ∃ I : Nat → List D → List Sl → Prop, I 0 [] (wipeD δ1 vs) ∧
  (∀ k d acc δ2, its[k]? = some d → acc.length ≤ k → I k acc δ2 → ∃ δ3, g d δ2 = some δ3 ∧ cond δ3 (fun b δ4 => if b = true then te δ4 (fun rv δ5 => rv.isIn = true ∧ I (k + 1) (acc ++ [rv.get]) (wipeD δ5 vs)) noX else I (k + 1) acc (wipeD δ4 vs)) noX) ∧
  ∀ acc δ2, I its.length acc δ2 → ∀ p, Q (.ow (Ot.flat p acc)) δ2
def FO (g : D → List Sl → Option (List Sl)) (pb : VSt) (E : En) (its : List D) (δ1 : List Sl) : Prop := ∃ I : Nat → List Sl → Prop, I 0 δ1 ∧
  (∀ k d δ2, its[k]? = some d → I k δ2 → ∃ δ3, g d δ2 = some δ3 ∧ pb ⟨I (k + 1), E.rt, E.nx, I (k + 1), E.ex⟩ δ3) ∧ ∀ δ2, I its.length δ2 → E.nx δ2
theorem vLc_eq (it : VTs) (g : D → List Sl → Option (List Sl)) (cond : VTt) (te : VT) (vs : List Nat) (δ : List Sl) (Q : Sl → List Sl → Prop) (Xc : Exn → List Sl → Prop) : vLc it g cond te vs δ Q Xc = it δ (fun its δ1 => LC g cond te vs its δ1 Q) Xc := rfl
theorem vFor_eq (it : VTs) (g : D → List Sl → Option (List Sl)) (pb : VSt) (E : En) (δ : List Sl) : vFor it g pb E δ = it δ (fun its δ1 => FO g pb E its δ1) E.ex := rfl
theorem LC_by {g : D → List Sl → Option (List Sl)} {cond : VTt} {te : VT} {vs : List Nat} {its : List D} {δ1 : List Sl} {Q : Sl → List Sl → Prop} (I : Nat → List D → List Sl → Prop) (hl : its.length ≤ 1000000) (h0 : I 0 [] (wipeD δ1 vs))
    (hs : ∀ k d acc δ2, its[k]? = some d → acc.length ≤ k → I k acc δ2 → ∃ δ3, g d δ2 = some δ3 ∧ cond δ3 (fun b δ4 => if b = true then te δ4 (fun rv δ5 => rv.isIn = true ∧ I (k + 1) (acc ++ [rv.get]) (wipeD δ5 vs)) noX else I (k + 1) acc (wipeD δ4 vs)) noX)
    (he : ∀ acc δ2, I its.length acc δ2 → ∀ p, Q (.ow (Ot.flat p acc)) δ2) : LC g cond te vs its δ1 Q := ⟨hl, I, h0, hs, he⟩
theorem FO_by {g : D → List Sl → Option (List Sl)} {pb : VSt} {E : En} {its : List D} {δ1 : List Sl} (I : Nat → List Sl → Prop) (h0 : I 0 δ1)
    (hs : ∀ k d δ2, its[k]? = some d → I k δ2 → ∃ δ3, g d δ2 = some δ3 ∧ pb ⟨I (k + 1), E.rt, E.nx, I (k + 1), E.ex⟩ δ3) (he : ∀ δ2, I its.length δ2 → E.nx δ2) : FO g pb E its δ1 := ⟨I, h0, hs, he⟩
theorem rngD_len (lo : Int) (n : Nat) : (rngD lo n).length = n := by unfold rngD; rw [List.length_map, List.length_range]
theorem leaves_tx (ls : List (List Nat)) : leaves? (ls.map (Ot.leaf ∘ tx)) = some (ls.map tx) := by
  rw [← List.map_map, leaves_map]
theorem tup3_to2 (a b c : D) : fSlU (.tuple [a, b, c]) (.int 2) = some (.sh (.tuple [a, b])) := rfl
theorem cutL_fromN (l : List Nat) (b : Nat) : cutL l (some (b : Int)) none = l.drop b := by
  rw [cutL_from _ _ (Int.natCast_nonneg b), Int.toNat_natCast]
theorem fAug_int (i j : Int) : fAug (.int i) (.int j) = some (.sh (.int (i + j))) := rfl
theorem fAdd_int (i j : Int) : fAdd (.int i) (.int j) = some (.sh (.int (i + j))) := rfl
theorem LO_by {it : VTs} {g : D → List Sl → Option (List Sl)} {cond : VTt} {te : VT} {vs : List Nat} {δ1 : List Sl} : True := trivial
def LO (g : D → List Sl → Option (List Sl)) (cond : VTt) (te : VT) (vs : List Nat) (its : List D) (δ1 : List Sl) (Q : Sl → List Sl → Prop) : Prop := its.length ≤ 1000000 ∧ ∃ I : Nat → List Ot → List Sl → Prop, I 0 [] (wipeD δ1 vs) ∧
  (∀ k d acc δ2, its[k]? = some d → acc.length ≤ k → I k acc δ2 → ∃ δ3, g d δ2 = some δ3 ∧ cond δ3 (fun b δ4 => if b = true then te δ4 (fun rv δ5 => ∃ o, rv.ot = some o ∧ I (k + 1) (acc ++ [o]) (wipeD δ5 vs)) noX else I (k + 1) acc (wipeD δ4 vs)) noX) ∧
  ∀ acc δ2, I its.length acc δ2 → ∀ p, Q (.ow (.lst p acc)) δ2
theorem vLcO_eq (it : VTs) (g : D → List Sl → Option (List Sl)) (cond : VTt) (te : VT) (vs : List Nat) (δ : List Sl) (Q : Sl → List Sl → Prop) (Xc : Exn → List Sl → Prop) : vLcO it g cond te vs δ Q Xc = it δ (fun its δ1 => LO g cond te vs its δ1 Q) Xc := rfl
/-! ### literal texts, numbers, other data, compared -/
theorem dep_str (a : Str) : dep (.str a) = true := by simp [dep, noD, PyData.depth]
theorem dep_non : dep .none = true := by simp [dep, noD, PyData.depth]
theorem dep_bool (b : Bool) : dep (.bool b) = true := by simp [dep, noD, PyData.depth]
theorem fEq_str (a b : Str) : fEq (.str a) (.str b) = some (.sh (.bool (decide (a = b)))) := by
  unfold fEq; rw [dep_str, dep_str]; simp [PyData.eqv]
  by_cases h : a = b <;> simp [h]
theorem fNe_str (a b : Str) : fNe (.str a) (.str b) = some (.sh (.bool (!decide (a = b)))) := by
  unfold fNe; rw [dep_str, dep_str]; simp [PyData.eqv]
  by_cases h : a = b <;> simp [h]
theorem fEq_bool (a b : Bool) : fEq (.bool a) (.bool b) = some (.sh (.bool (decide (a = b)))) := by
  unfold fEq; rw [dep_bool, dep_bool]; simp [PyData.eqv]
  cases a <;> cases b <;> rfl
theorem fEq_is (i : Int) (a : Str) : fEq (.int i) (.str a) = some (.sh (.bool false)) := by
  unfold fEq; rw [dep_int, dep_str]; rfl
theorem fEq_si (i : Int) (a : Str) : fEq (.str a) (.int i) = some (.sh (.bool false)) := by
  unfold fEq; rw [dep_int, dep_str]; rfl
theorem eqv_str (a b : Str) : PyData.eqv (.str a) (.str b) = decide (a = b) := by
  simp [PyData.eqv]
  by_cases h : a = b <;> simp [h]
end ML

/-! ## M24 -/
set_option Elab.async false
set_option linter.all false
set_option autoImplicit false
set_option maxRecDepth 100000
set_option maxHeartbeats 4000000
namespace ML
open PySem PySem.Spec PyProof.Rows L2
theorem hu2 {k : Nat} {A : Around} (hr : Room k A) : A.units + 1 < cLine := by
  have := hr.un
  omega
section
variable {X : Cx} {W : Wd} {wx : WX} {K : PySem.W.Frag} {H H' : Hp} {σ : L2.St} {δ δ' : List Sl} {π : List Cell} {a b : Expr} {pos : Pos} {S : Addr → Prop}
/-! ### in a tuple of texts, numbers .. -/
def inT (d e : D) : Option Bool := match e with
  | .tuple es => if (atom d && es.all atom) = true then some (es.any fun z => PyData.eqv z d) else none
  | _ => none
def fInT (d e : D) : Option Rs := (inT d e).map fun q => .sh (.bool q)
def fNotInT (d e : D) : Option Rs := (inT d e).map fun q => .sh (.bool (!q))
theorem atom_v {v : V} {d : D} (n : atom d = true) (h : Rp K S H v d) : flatV v = true := by
  cases d <;> first | (cases n; done) | (cases h; rfl)
theorem atoms_v : ∀ {vs : List V} {ds : List D}, ds.all atom = true → Rps K S H vs ds → vs.all flatV = true
  | _, [], _, h => by cases h; rfl
  | _, d :: ds, n, h => by
    cases h with
    | cons h1 h2 =>
      rw [List.all_cons, Bool.and_eq_true] at n
      rw [List.all_cons, atom_v n.1 h1, atoms_v n.2 h2]; rfl
theorem eqv_v {v u : V} {d e : D} (n : atom d = true) (m : atom e = true) (h : Rp K S H v d) (q : Rp K S H u e) : eqV v u = PyData.eqv d e := by
  cases d <;> first | (cases n; done) | skip
  all_goals cases e <;> first | (cases m; done) | skip
  all_goals cases h
  all_goals cases q
  all_goals first | rfl | (simp [eqV, PyData.eqv]; done) | (simp [eqV, PyData.eqv]; rw [Bool.eq_iff_iff]; simp; done)
theorem in_v {v : V} {d : D} (n : atom d = true) (h : Rp K S H v d) : ∀ {vs : List V} {ds : List D}, ds.all atom = true → Rps K S H vs ds → inV v vs = ds.any fun z => PyData.eqv z d
  | _, [], _, q => by cases q; rfl
  | _, e :: ds, m, q => by
    cases q with
    | cons h1 h2 =>
      rw [List.all_cons, Bool.and_eq_true] at m
      unfold inV
      rw [List.any_cons, List.any_cons, eqv_v m.1 n h1 h]
      rw [← in_v n h m.2 h2]; rfl
theorem snd_inT : SndN2 true K (rIn K false) fInT := by
  intro S H x y d e res Q hx hy hf hq
  obtain ⟨q, hb, rfl⟩ := Option.map_eq_some_iff.mp hf
  cases e with
  | tuple es =>
    have hb' : (if (atom d && es.all atom) = true then some (es.any fun z => PyData.eqv z d) else none) = some q := hb
    by_cases c : (atom d && es.all atom) = true
    · rw [if_pos c] at hb'
      cases hb'
      rw [Bool.and_eq_true] at c
      have rx := Rr.rp (m := true) c.1 hx
      obtain ⟨p, xs, rfl, h1, h2⟩ := RqA.tup hy
      refine ⟨p, xs, rfl, .inr h1, atom_v c.1 rx, atoms_v c.2 h2, hq _ _ (.old ?_)⟩
      show Rp K S H (.bl (inV x xs)) _
      rw [in_v c.1 rx c.2 h2]
      exact .bl _
    · rw [if_neg c] at hb'; cases hb'
  | _ => cases hb
theorem snd_notInT : SndN2 true K (rIn K true) fNotInT := by
  intro S H x y d e res Q hx hy hf hq
  obtain ⟨q, hb, rfl⟩ := Option.map_eq_some_iff.mp hf
  cases e with
  | tuple es =>
    have hb' : (if (atom d && es.all atom) = true then some (es.any fun z => PyData.eqv z d) else none) = some q := hb
    by_cases c : (atom d && es.all atom) = true
    · rw [if_pos c] at hb'
      cases hb'
      rw [Bool.and_eq_true] at c
      have rx := Rr.rp (m := true) c.1 hx
      obtain ⟨p, xs, rfl, h1, h2⟩ := RqA.tup hy
      refine ⟨p, xs, rfl, .inr h1, atom_v c.1 rx, atoms_v c.2 h2, hq _ _ (.old ?_)⟩
      show Rp K S H (.bl (!inV x xs)) _
      rw [in_v c.1 rx c.2 h2]
      exact .bl _
    · rw [if_neg c] at hb'; cases hb'
  | _ => cases hb
/-! ### sorted({x[i], x[j]}) -/
/-- an expression that leaves the heap -/
def calmE (R : L2.St → Hp → V → Prop) : TE := fun σ H Q => ∃ v, R σ H v ∧ Q v H
def ixR (K : PySem.W.Frag) (i : Nat) (k : Int) : L2.St → Hp → V → Prop := fun σ H v => ∃ p xs, σ[i]? = some (some (.ref p)) ∧ SqT K H p xs ∧ L2.atI xs k = some v
theorem pe_ixK (i : Nat) {k : Int} {kk : Nat} {x : Str} {p1 p2 : Pos} (hN : X.N[i]? = some x := by rfl) (hv : Vis X.env.scope x := by first | exact Or.inl rfl | exact Or.inr (Or.inl rfl) | exact Or.inr (Or.inr rfl))
    (hd : (x == ("__debug__" : Str)) = false := by decide) (hcd : (x == ("__classdict__" : Str)) = false := by decide) (hs : PlainIx (.Constant (.int k) kk p2) := by exact fun _ _ => rfl) :
    PE X (.Subscript (.Name x p1) (.Constant (.int k) kk p2) pos) (calmE (ixR X.K i k)) :=
  PE.imp (pe_ix ix_seq (pe_var hN hv hd hcd) pe_int hs) fun σ H Q h => by
    obtain ⟨v, ⟨p, xs, h1, h2, h3⟩, q⟩ := h
    exact ⟨.ref p, h1, .inr (.inl ⟨p, xs, k, v, rfl, rfl, h2, h3, q⟩)⟩
theorem set_put {A : Around} {E : Value → Shared → Prop} {s : Shared} {p : Addr} {T : Int → Bool} {n : Nat} {k : Int} {tk : Tok} {Q : Bool → Shared → Prop} (R : SetR X.w s.heap p T n) (room : n + 1 < scanBound)
    (q : ∀ h', Heap.SameBut p s.heap h' → SetR X.w h' p (fun j => T j || decide (j = k)) (if T k = true then n else n + 1) → Q (!T k) { s with heap := h', toks := s.toks + 1 }) :
    wpAny (model X.prog X.w) A (setAdd p (.int k tk)) Q E s := by
  unfold setAdd
  refine wpAny_holding (wpAny_bind ((intKind X.prog X.w).pyHash (intKind_is X.prog X.w k tk) ?_))
  exact setR_add_hashed (s := { s with toks := s.toks + 1 }) R room q
theorem set_fresh {A : Around} {E : Value → Shared → Prop} {s : Shared} {Q : Value → Shared → Prop} (q : ∀ h', (∀ b u, s.heap.get? b = some u → h'.get? b = some u) → SetR X.w h' s.heap.objs.size (fun _ => false) 0 → Q (.ref s.heap.objs.size) { s with heap := h' }) :
    wpAny (model X.prog X.w) A (newSet (.type "set")) Q E s := by
  unfold newSet setsByText
  refine wpAny_bind ?_
  refine wpAny_bind (wpAny_askSetting (wpAny_pure ?_))
  simp only [newObj]
  refine wpAny_bind (wpAny_alloc ?_)
  exact wpAny_pure (q _ (fun b u z => Heap.get?_push_of_some _ z) (setR_fresh X.w))
def two (i j : Int) : Nat := if j = i then 1 else 2
/-- {a, b} of two numbers -/
theorem pe_set2 {R1 R2 : L2.St → Hp → V → Prop} (ha : PE X a (calmE R1)) (hb : PE X b (calmE R2)) (hcd : PySem.W.kdsCode X.K X.env.code = true) (hp : [a, b].all PySem.W.kdsPlain = true) :
    PE X (.Set [a, b] 0 pos) (fun σ H Q => ∃ i j : Int, (∀ p u, H p = none → R1 σ (upd H p u) (.int i) ∧ R2 σ (upd H p u) (.int j)) ∧
      ∀ p T u, H p = none → (∀ k, T k = true ↔ k = i ∨ k = j) → Q (.ref p) (upd (upd H p u) p (SetO X.w p T (two i j)))) := by
  refine ⟨fun pins s σ H Q I h => ?_⟩
  obtain ⟨i, j, h1, h2⟩ := h
  rw [arm_eval_Set]
  refine wpAny_bind (wpAny_standAt ?_)
  refine wpAny_bind (PySem.W.kds_main I.kIn hcd fun c => ?_)
  rw [PySem.W.kds_star [a, b] hp, List.map_map]
  have eR : displayRoad 0 [a, b] = DisplayRoad.oneByOne := rfl
  rw [eR]
  have fi : (List.map ((fun x : Bool × Sem Value => (x.1, do let v ← x.2; standAt pos; pure v)) ∘ fun t => (false, t)) (evalEach [a, b] X.env)).findIdx? (·.1) = none := by
    refine List.findIdx?_eq_none_iff.mpr fun x hx => ?_
    obtain ⟨t, _, rfl⟩ := List.mem_map.mp hx
    rfl
  have ln : (List.map ((fun x : Bool × Sem Value => (x.1, do let v ← x.2; standAt pos; pure v)) ∘ fun t => (false, t)) (evalEach [a, b] X.env)).length = 2 := by
    rw [List.length_map, PySem.W.kds_len]; rfl
  unfold setDisplay
  rw [if_neg (by decide)]
  refine wpAny_bind (set_fresh fun h' kp R0 => ?_)
  dsimp only
  have I1 : Inv X pins σ (upd H s.heap.objs.size (SetO X.w s.heap.objs.size (fun _ => false) 0)) { s with heap := h' } := I.laid (t' := s.toks) kp (Nat.le_refl _) (setO_new R0)
  have hn : H s.heap.objs.size = none := I.hok.fresh (Nat.le_refl _)
  obtain ⟨r1, r2⟩ := h1 _ (SetO X.w s.heap.objs.size (fun _ => false) 0) hn
  rw [fi, ln, if_neg (by omega), Option.getD_none, List.take_of_length_le (by rw [ln]; exact Nat.le_refl _), List.drop_of_length_le (by rw [ln]; exact Nat.le_refl _), List.map_map]
  refine wpAny_bind (wpAny_holding ?_)
  refine wpAny_bind (thn (PySem.W.kds_all pos [a, b] _ (fun vs s' => ∃ t1 t2, vs = [.int i t1, .int j t2] ∧ Inv X pins σ (upd H s.heap.objs.size (SetO X.w s.heap.objs.size (fun _ => false) 0)) s') ?_) fun vs s2 hv => ?_)
  · show wpAny _ _ (eval a X.env) _ _ _
    refine thn (ha.run pins _ σ _ (fun v H2 => v = .int i ∧ H2 = upd H s.heap.objs.size (SetO X.w s.heap.objs.size (fun _ => false) 0)) I1 ⟨_, r1, rfl, rfl⟩) fun v s2 hv => ?_
    obtain ⟨x, H2, I2, rx, e1, e2⟩ := hv
    subst e1 e2
    obtain ⟨t1, rfl⟩ := rx
    show wpAny _ _ (eval b X.env) _ _ _
    refine thn (hb.run pins _ σ _ (fun v H2 => v = .int j ∧ H2 = upd H s.heap.objs.size (SetO X.w s.heap.objs.size (fun _ => false) 0)) I2 ⟨_, r2, rfl, rfl⟩) fun v s3 hv => ?_
    obtain ⟨x, H3, I3, rx, e1, e2⟩ := hv
    subst e1 e2
    obtain ⟨t2, rfl⟩ := rx
    exact ⟨t1, t2, rfl, I3⟩
  · obtain ⟨t1, t2, rfl, I2⟩ := hv
    refine wpAny_bind (wpAny_holding ?_)
    have fill : PySem.W.KdsFill (model X.prog X.w) X.A X.xe false s.heap.objs.size (EP X pins σ Q) [.int i t1, .int j t2] s2 := by
      refine PySem.W.kds_fill_cons (set_put (setO_get I2 (upd_same ..)) (by decide) fun hA sbA RA => ?_)
      have I3 : Inv X pins σ _ { s2 with heap := hA, toks := s2.toks + 1 } := I2.write (e := s.heap.objs.size) (t' := s2.toks + 1) (by rw [upd_same]; trivial) (.inl rfl) (fun b u z1 z2 => (sbA.2 b z1).trans z2) (by obtain ⟨o, _, _, _, ho, _⟩ := RA; exact ⟨o, ho⟩) (setO_new RA)
      refine PySem.W.kds_fill_cons (set_put (setO_get I3 (upd_same ..)) (by decide) fun hB sbB RB => ?_)
      have I4 : Inv X pins σ _ { s2 with heap := hB, toks := s2.toks + 1 + 1 } := I3.write (e := s.heap.objs.size) (t' := s2.toks + 1 + 1) (by rw [upd_same]; trivial) (.inl rfl) (fun b u z1 z2 => (sbB.2 b z1).trans z2) (by obtain ⟨o, _, _, _, ho, _⟩ := RB; exact ⟨o, ho⟩) (setO_new RB)
      refine PySem.W.kds_fill_nil rfl ⟨.ref s.heap.objs.size, _, I4, rfl, ?_⟩
      have q := h2 s.heap.objs.size (fun k => (false || decide (k = i)) || decide (k = j)) (SetO X.w s.heap.objs.size (fun _ => false) 0) hn (fun k => by simp)
      rw [L2.upd_upd] at q ⊢
      rw [L2.upd_upd]
      have e0 : (if (false || decide (j = i)) = true then (if false = true then 0 else 0 + 1) else (if false = true then 0 else 0 + 1) + 1) = two i j := by
        unfold two
        by_cases z : j = i <;> simp [z]
      rw [← e0] at q
      exact q
    refine wpAny_bind (thn (PySem.W.kds_for (fun x P s hx => ?_) _ s2 fill) fun _ s1 h1 => ?_)
    · refine wpAny_bind (thn hx fun _ s2 h2 => ?_)
      first | exact wpAny_pure ⟨rfl, h2⟩ | exact wpAny_bind (wpAny_pure (wpAny_pure ⟨rfl, h2⟩))
    · have h2 : EP X pins σ Q (.ref s.heap.objs.size) s1 := by simpa [PySem.W.KdsFill] using h1
      rw [if_neg (by decide)]
      refine wpAny_pure ?_
      rw [List.forIn_nil]
      exact wpAny_pure (wpAny_pure h2)
/-- sorted({a, b}) -/
def srt2 (i j : Int) : List Int := if j = i then [i] else if i < j then [i, j] else [j, i]
theorem srt2_of {i j : Int} {ns : List Int} (s : ns.Pairwise (· < ·)) (m : ∀ k, k ∈ ns ↔ (k = i ∨ k = j)) (l : ns.length = two i j) : ns = srt2 i j := by
  unfold two at l
  unfold srt2
  by_cases z : j = i
  · rw [if_pos z] at l ⊢
    subst z
    obtain ⟨x, rfl⟩ := List.length_eq_one_iff.mp l
    have := (m x).mp (by simp)
    rcases this with rfl | rfl <;> rfl
  · rw [if_neg z] at l ⊢
    obtain ⟨x, y, rfl⟩ := len2 l
    have hxy : x < y := by simpa using s
    have h1 := (m x).mp (by simp)
    have h2 := (m y).mp (by simp)
    have h3 := (m i).mpr (.inl rfl)
    have h4 := (m j).mpr (.inr rfl)
    simp at h3 h4
    by_cases c : i < j
    · rw [if_pos c]
      have e1 : x = i := by omega
      have e2 : y = j := by omega
      rw [e1, e2]
    · rw [if_neg c]
      have e1 : x = j := by omega
      have e2 : y = i := by omega
      rw [e1, e2]
theorem pe_srt2 {R1 R2 : L2.St → Hp → V → Prop} {pn ps : Pos} (hc : X.calm = true) (hcd : PySem.W.kdsCode X.K X.env.code = true) (hm : X.mg "sorted" = none) (ha : PE X a (calmE R1)) (hb : PE X b (calmE R2)) (hp : [a, b].all PySem.W.kdsPlain = true)
    (hg : Gl X "sorted" := by rfl) (he : starEach [.Set [a, b] 0 ps] X.env = (false, eval (.Set [a, b] 0 ps) X.env) :: starEach [] X.env := by rfl) :
    PE X (.Call (.Name "sorted" pn) [.Set [a, b] 0 ps] [] pos) (fun σ H Q => ∃ i j : Int, (∀ p u, H p = none → R1 σ (upd H p u) (.int i) ∧ R2 σ (upd H p u) (.int j)) ∧
      ∀ p (H2 : Hp), (∀ b o, H b = some o → H2 b = some o) → H2 p = none → Q (.ref p) (upd H2 p (.lst ((srt2 i j).map V.int)))) :=
  PE.imp (pe_callB (cr_sortedSet hc) hg hm (by decide +kernel) (pa_cons (pe_set2 ha hb hcd hp) pa_nil he)) fun σ H Q h => by
    obtain ⟨i, j, h1, h2⟩ := h
    refine ⟨i, j, h1, fun p T u hn hT => ?_⟩
    rw [L2.upd_upd]
    refine ⟨p, T, two i j, rfl, upd_same, by unfold two; split <;> omega, fun ns q hs hk hl hq => ?_⟩
    rw [srt2_of hs (fun k => (hk k).trans (hT k)) hl]
    exact h2 q _ (upd_grow hn) hq
/-- sorted({x[i], x[j]}) of a tuple x -/
def vSrt2 (s : Nat) (k l : Int) : VT := fun δ Q _ => ∃ ds i j, δ[s]? = some (.sh (.tuple ds)) ∧ L2.atI ds k = some (.int i) ∧ L2.atI ds l = some (.int j) ∧ ∀ p, Q (.ow (Ot.flat p ((srt2 i j).map .int))) δ
theorem ve_srt2 (s : Nat) {k l : Int} {k1 k2 : Nat} {x : Str} {p1 p2 p3 p4 p5 p6 pn ps : Pos} (hc : X.calm = true) (hcd : PySem.W.kdsCode X.K X.env.code = true) (hm : X.mg "sorted" = none) (hN : X.N[s]? = some x := by rfl)
    (hv : Vis X.env.scope x := by first | exact Or.inl rfl | exact Or.inr (Or.inl rfl) | exact Or.inr (Or.inr rfl)) (hd : (x == ("__debug__" : Str)) = false := by decide) (hcl : (x == ("__classdict__" : Str)) = false := by decide) (hg : Gl X "sorted" := by rfl) :
    VE X W wx (.Call (.Name "sorted" pn) [.Set [.Subscript (.Name x p1) (.Constant (.int k) k1 p2) p3, .Subscript (.Name x p4) (.Constant (.int l) k2 p5) p6] 0 ps] [] pos) (vSrt2 s k l) := by
  refine ⟨PE.imp (pe_srt2 hc hcd hm (pe_ixK s hN hv hd hcl) (pe_ixK s hN hv hd hcl) rfl hg rfl) fun σ H Q h => ?_⟩
  obtain ⟨δ, π, Qd, Xd, st, ⟨ds, i, j, h1, h2, h3, h4⟩, kk, _⟩ := h
  obtain ⟨w, e1, e2⟩ := st.cell h1
  obtain ⟨S, y⟩ := st.st
  obtain ⟨v, rfl, r⟩ := y.sh s w _ e2
  cases r with
  | @tup p xs _ r1 r2 =>
    obtain ⟨v1, g1, q1⟩ := Rps.atI r2 h2
    obtain ⟨v2, g2, q2⟩ := Rps.atI r2 h3
    cases q1
    cases q2
    refine ⟨i, j, fun p' u hn => ?_, fun p' H2 kp hq => ?_⟩
    · have ev : Ev S H S (upd H p' u) := ⟨fun b o q _ => upd_grow hn b o q, fun b hb => .inl hb⟩
      exact ⟨⟨p, xs, e1, (r1.ev ev).sq, g1⟩, ⟨p, xs, e1, (r1.ev ev).sq, g2⟩⟩
    · have z := (y.grow kp).newL hq (Rps.ints (srt2 i j))
      rw [List.append_assoc] at z
      exact kk _ _ (h4 p') _ _ ⟨st.len, _, z⟩
/-! ### name = [..] on one line -/
variable {tg iter elt : Expr} {ifs : List Expr} {te : VT}
theorem vs_setLc {i : Nat} {x : Str} {px spos : Pos} {scope : Scope} {own : List (Str × Nat)} {it : VTs} {ws : List Nat} {g : D → List Sl → Option (List Sl)} {tc : VTt} (hc : X.calm = true) (hN : X.N.Nodup) (hx : X.N[i]? = some x) (hxl : X.env.scope.names.lookup x = some .local)
    (hsw : swapsWith (.ListComp elt [⟨tg, iter, ifs, 0⟩] scope pos) (some (.Name x px)) spos.line X.env = pure true) (hi : VI X W wx tg iter it) (ok : BlkOk X.N X.env.scope scope own)
    (hg : ∀ (s : Shared) (H : Hp) (C : Addr) (cl : List (Str × Addr)) (fp : List Addr), VG (X.blk s H scope (compEnvC scope cl C X.env) fp) W tg ws g)
    (ht : ∀ (s : Shared) (H : Hp) (C : Addr) (cl : List (Str × Addr)) (fp : List Addr), VCs (X.blk s H scope (compEnvC scope cl C X.env) fp) W wx0 ifs tc)
    (he : ∀ (s : Shared) (H : Hp) (C : Addr) (cl : List (Str × Addr)) (fp : List Addr), VE (X.blk s H scope (compEnvC scope cl C X.env) fp) W wx0 elt te)
    (hw : ∀ i ∈ ws, i ∈ own.map (·.2)) (hs : ∀ x, foldedSetIterable iter X.env x = pure x := by intro _; rfl) :
    VS X W wx (.Assign [.Name x px] (.ListComp elt [⟨tg, iter, ifs, 0⟩] scope pos) spos) (vSet i (vLc it g tc te (own.map (·.2)))) :=
  ⟨PS.imp (ps_setLc (g := lG X.K W ws g) (tt := lT X.K W wx0 tc) (te := lE X.K W wx0 te) hc hN hx hxl hsw hi.pi ok (fun s H C cl fp => (hg s H C cl fp).pg) (fun s H C cl fp => (ht s H C cl fp).pt) (fun s H C cl fp => (he s H C cl fp).pe) hs)
    fun Dd σ H ⟨δ, π, E, s, h, k⟩ => lc_run hw ⟨δ, π, _, _, s, h, fun rv δ' z v H' s' => k.nx _ z.2 _ _ (s'.put z.1), k.ex σ⟩⟩
theorem vs_setLcO {i : Nat} {x : Str} {px spos : Pos} {scope : Scope} {own : List (Str × Nat)} {it : VTs} {ws : List Nat} {g : D → List Sl → Option (List Sl)} {tc : VTt} (hc : X.calm = true) (hN : X.N.Nodup) (hx : X.N[i]? = some x) (hxl : X.env.scope.names.lookup x = some .local)
    (hsw : swapsWith (.ListComp elt [⟨tg, iter, ifs, 0⟩] scope pos) (some (.Name x px)) spos.line X.env = pure true) (hi : VI X W wx tg iter it) (ok : BlkOk X.N X.env.scope scope own)
    (hg : ∀ (s : Shared) (H : Hp) (C : Addr) (cl : List (Str × Addr)) (fp : List Addr), VG (X.blk s H scope (compEnvC scope cl C X.env) fp) W tg ws g)
    (ht : ∀ (s : Shared) (H : Hp) (C : Addr) (cl : List (Str × Addr)) (fp : List Addr), VCs (X.blk s H scope (compEnvC scope cl C X.env) fp) W wx0 ifs tc)
    (he : ∀ (s : Shared) (H : Hp) (C : Addr) (cl : List (Str × Addr)) (fp : List Addr), VE (X.blk s H scope (compEnvC scope cl C X.env) fp) W wx0 elt te)
    (hw : ∀ i ∈ ws, i ∈ own.map (·.2)) (hs : ∀ x, foldedSetIterable iter X.env x = pure x := by intro _; rfl) :
    VS X W wx (.Assign [.Name x px] (.ListComp elt [⟨tg, iter, ifs, 0⟩] scope pos) spos) (vSet i (vLcO it g tc te (own.map (·.2)))) :=
  ⟨PS.imp (ps_setLc (g := lG X.K W ws g) (tt := lT X.K W wx0 tc) (te := lE X.K W wx0 te) hc hN hx hxl hsw hi.pi ok (fun s H C cl fp => (hg s H C cl fp).pg) (fun s H C cl fp => (ht s H C cl fp).pt) (fun s H C cl fp => (he s H C cl fp).pe) hs)
    fun Dd σ H ⟨δ, π, E, s, h, k⟩ => lcO_run hw ⟨δ, π, _, _, s, h, fun rv δ' z v H' s' => k.nx _ z.2 _ _ (s'.put z.1), k.ex σ⟩⟩
end
end ML

/-! ## M25 -/
set_option Elab.async false
set_option linter.all false
set_option autoImplicit false
set_option maxRecDepth 100000
set_option maxHeartbeats 4000000
namespace ML
open PySem PySem.Spec PyProof.Rows L2
theorem nd_l {as : List Ag} {l : List Nat} (e : lnsOf as = l) (h : l.Nodup) : (lnsOf as).Nodup := e ▸ h
/-! ### constants of the module -/
structure GlC (K : PySem.W.Frag) (mg : Str → Option Value) (x : Str) (d : D) : Prop where
  ex : ∃ (u : Value) (v : V), mg x = some u ∧ RelV v u ∧ ∀ S H, Rp K S H v d
section
variable {X : Cx} {W : Wd} {wx : WX} {K : PySem.W.Frag} {pos : Pos}
theorem ve_gl {x : Str} {d : D} (G : GlC X.K X.mg x d) (hg : Gl X x := by rfl) (hd : (x == ("__debug__" : Str)) = false := by decide) : VE X W wx (.Name x pos) (vC d) := by
  obtain ⟨u, v, h1, h2, h3⟩ := G.ex
  exact ve_glob h1 h2 h3 hg hd
/-- a written tuple of texts -/
def txAll : List Value → List Str → Bool
  | [], [] => true
  | .str x _ :: vs, w :: ws => (x == w) && (okS w && txAll vs ws)
  | _, _ => false
def wrTx (K : PySem.W.Frag) (a : Addr) (ws : List Str) : Bool := match K.lookup a with
  | some ⟨.type "tuple", _, .seq its _, _⟩ => decide (its.size ≤ 1000000) && txAll its.toList ws
  | _ => false
theorem txAll_of {S : Addr → Prop} {H : Hp} : ∀ {vs : List Value} {ws : List Str}, txAll vs ws = true → Vals (ws.map V.str) vs ∧ Rps K S H (ws.map V.str) (ws.map .str)
  | [], [], _ => ⟨.nil, .nil⟩
  | [], _ :: _, h => by cases h
  | v :: vs, [], h => by cases v <;> cases h
  | v :: vs, w :: ws, h => by
    cases v with
    | str x t =>
      have h' : ((x == w) && (okS w && txAll vs ws)) = true := h
      rw [Bool.and_eq_true, Bool.and_eq_true] at h'
      obtain ⟨r1, r2⟩ := txAll_of (S := S) (H := H) h'.2.2
      have e : x = w := by simpa using h'.1
      subst e
      exact ⟨.cons ⟨t, rfl⟩ r1, .cons (.str _ h'.2.1) r2⟩
    | _ => cases h
theorem glc_tx {mg : Str → Option Value} {x : Str} {a : Addr} {ws : List Str} (hm : mg x = some (.ref a)) (h : wrTx K a ws = true) : GlC K mg x (.tuple (ws.map .str)) := by
  unfold wrTx at h
  split at h
  · rename_i dd its n sl e
    rw [Bool.and_eq_true] at h
    have hl := of_decide_eq_true h.1
    refine ⟨.ref a, .ref a, hm, rfl, fun S H => ?_⟩
    obtain ⟨r1, r2⟩ := txAll_of (K := K) (S := S) (H := H) h.2
    exact .tup (.inr (.inr ⟨_, its, n, e, rfl, rfl, Nat.le_trans hl (by decide), r1⟩)) r2
  · cases h
end
section
variable {P : Program} {w : World} {K : PySem.W.Frag} {mg : Str → Option Value} {base : Heap}
abbrev semNo : SemG := fun _ _ _ => False
/-- nothing is promised -/
theorem fn_no {f : Addr} {fd : FuncData} {ps : List Str} {n : Nat} : FnOk P w K mg base (L2.CX P w) 0 f fd ps (spG K n semNo) :=
  ⟨fun vs H Q E h => by obtain ⟨_, _, _, _, _, _, _, _, h, _⟩ := h; exact h.elim, fun A outer s H args us vs Q E _ _ _ _ h => by obtain ⟨_, _, _, _, _, _, _, _, h, _⟩ := h; exact h.elim⟩
theorem FnG.mono {j k : Nat} {x : Str} {n : Nat} {sem : SemG} (G : FnG P w K mg base j x n sem) (h : j ≤ k) : FnG P w K mg base k x n sem := by
  obtain ⟨f, fd, ps, F, r⟩ := G.ex
  exact ⟨f, fd, ps, F.mono h, r⟩
theorem FnG.imp {k : Nat} {x : Str} {n : Nat} {sem sem' : SemG} (G : FnG P w K mg base k x n sem) (h : ∀ ins Qd Xd, sem' ins Qd Xd → sem ins Qd Xd) : FnG P w K mg base k x n sem' := by
  obtain ⟨f, fd, ps, F, r⟩ := G.ex
  exact ⟨f, fd, ps, F.imp fun vs H Q E q => by
    obtain ⟨A, F0, ins, Qd, Xd, h1, h2, h3, h4, h5⟩ := q
    exact ⟨A, F0, ins, Qd, Xd, h1, h2, h3, h _ _ _ h4, h5⟩, r⟩
end
end ML

/-! ## M26 -/
set_option Elab.async false
set_option linter.all false
set_option autoImplicit false
set_option maxRecDepth 100000
set_option maxHeartbeats 4000000
namespace ML
open PySem PySem.Spec PyProof.Rows L2
/-! ### flat lists, for simp -/
def lv (ds : List D) : List Ot := ds.map .leaf
theorem lv_in (ds : List D) : List.map Ot.leaf ds = lv ds := rfl
/-- a list of one's own, its items shared -/
abbrev fd (p : Addr) (ds : List D) : Sl := .ow (.nod (.lst p) (lv ds))
theorem gets_lv (ds : List D) : Ot.gets (lv ds) = ds := by
  unfold lv
  rw [Ot.gets_map, List.map_map]
  exact (List.map_congr_left fun d _ => by rw [Function.comp_apply, Ot.get]; rfl).trans (List.map_id ds)
theorem leaves_lv (ds : List D) : leaves? (lv ds) = some ds := leaves_map ds
theorem append_lv (ds : List D) (d : D) : mAppend (lv ds) [.sh d] = if ds.length < 1000000 then some (lv (ds ++ [d]), .none) else none := by
  unfold lv mAppend
  rw [List.length_map, List.map_append]
  rfl
theorem pop_lv (ds : List D) (d : D) : mPop (lv (ds ++ [d])) [] = some (lv ds, d) := by
  unfold lv mPop
  rw [List.map_append]
  simp
theorem reverse_lv (ds : List D) : mReverse (lv ds) [] = some (lv ds.reverse, .none) := by
  unfold lv mReverse
  rw [List.map_reverse]
theorem insert_lv (ds : List D) (i : Int) (d : D) : mInsert (lv ds) [.sh (.int i), .sh d] = if ds.length < 1000000 ∧ 0 ≤ i ∧ i < 1000000 then some (lv (ds.take i.toNat ++ [d] ++ ds.drop i.toNat), .none) else none := by
  unfold lv mInsert
  rw [List.length_map, List.map_append, List.map_append, List.map_take, List.map_drop]
  rfl
theorem fst_0 (δ : List Sl) : fst 0 δ = [] := by unfold fst; rfl
theorem fst_s (n : Nat) (a : Sl) (δ : List Sl) : fst (n + 1) (a :: δ) = a :: fst n δ := by
  unfold fst
  rw [List.cons_append, List.take_succ_cons]
  congr 1
  rw [List.replicate_succ', ← List.append_assoc, List.take_append_of_le_length (by rw [List.length_append, List.length_replicate]; omega)]
theorem ini_n (m : Nat) (ins : List Sl) (n : Nat) (h : m = ins.length + n) : ini m ins = ins ++ List.replicate n .un := by
  unfold ini
  rw [h, Nat.add_sub_cancel_left]
theorem keep_fd (p : Addr) (ds es : List D) : keepO (some (fd p ds)) (fd p es) = fd p es := by
  show (if p = p then fd p es else Sl.un) = _
  rw [if_pos rfl]
theorem keepO_sh (d : D) (s : Sl) : keepO (some (.sh d)) s = .sh d := by cases s <;> rfl
theorem lnAtm_no : ∀ {as : List Ag} (l : List Sl), lnsOf as = [] → lnAtm as l = true
  | [], l, _ => by cases l <;> rfl
  | a :: r, [], _ => by cases a <;> rfl
  | .ln i :: r, s :: l, h => by cases h
  | .pd t :: r, s :: l, h => lnAtm_no (as := r) l h
  | .br o :: r, s :: l, h => lnAtm_no (as := r) l h
theorem agOut_no (δ : List Sl) : ∀ {as : List Ag} (l : List Sl), lnsOf as = [] → agOut δ as l = δ
  | [], l, _ => by cases l <;> rfl
  | a :: r, [], _ => by cases a <;> rfl
  | .ln i :: r, s :: l, h => by cases h
  | .pd t :: r, s :: l, h => agOut_no δ (as := r) l h
  | .br o :: r, s :: l, h => agOut_no δ (as := r) l h
section
variable (t : VT) (o : Opr) (i : Nat) (r : List Ag) (δ l : List Sl) (s : Sl)
theorem lns_nil : lnsOf [] = [] := Eq.trans rfl rfl
theorem lns_pd : lnsOf (.pd t :: r) = lnsOf r := Eq.trans rfl rfl
theorem lns_br : lnsOf (.br o :: r) = lnsOf r := Eq.trans rfl rfl
theorem lns_ln : lnsOf (.ln i :: r) = i :: lnsOf r := Eq.trans rfl rfl
theorem atom_i (i : Int) : atom (.int i) = true := Eq.trans rfl rfl
theorem atom_s (i : Str) : atom (.str i) = true := Eq.trans rfl rfl
theorem atom_b (i : Bool) : atom (.bool i) = true := Eq.trans rfl rfl
theorem atom_n : atom .none = true := Eq.trans rfl rfl
theorem atom_k (k : Key) : atom (kD k) = true := by cases k <;> rfl
theorem bor_nil : agBor δ [] [] = false := rfl
theorem bor_pd : agBor δ (.pd t :: r) (s :: l) = agBor δ r l := rfl
theorem bor_ln : agBor δ (.ln i :: r) (s :: l) = agBor δ r l := rfl
theorem bor_br : agBor δ (.br o :: r) (s :: l) = (match o.sl s δ with | some (.sh _) => agBor δ r l | _ => true) := rfl
theorem out_nil : agOut δ [] [] = δ := rfl
theorem out_pd : agOut δ (.pd t :: r) (s :: l) = agOut δ r l := rfl
theorem out_br : agOut δ (.br o :: r) (s :: l) = agOut δ r l := rfl
theorem out_ln : agOut δ (.ln i :: r) (s :: l) = agOut (δ.set i (keepO δ[i]? s)) r l := rfl
theorem lat_nil : lnAtm [] [] = true := rfl
theorem lat_pd : lnAtm (.pd t :: r) (s :: l) = lnAtm r l := rfl
theorem lat_br : lnAtm (.br o :: r) (s :: l) = lnAtm r l := rfl
theorem lat_ln : lnAtm (.ln i :: r) (s :: l) = (s.atm && lnAtm r l) := rfl
end
theorem ex_pair {α β : Type} {u : α} {v : β} {P : α → β → Prop} : (∃ a b, (u = a ∧ v = b) ∧ P a b) ↔ P u v :=
  ⟨fun ⟨_, _, ⟨h1, h2⟩, h⟩ => h1 ▸ h2 ▸ h, fun h => ⟨_, _, ⟨rfl, rfl⟩, h⟩⟩
/-- numbers -/
def inz (ds : List D) : Prop := ∃ ns : List Int, ds = ns.map .int
theorem inz_nil : inz [] := ⟨[], rfl⟩
theorem inz_snoc {ds : List D} (h : inz ds) (i : Int) : inz (ds ++ [.int i]) := by
  obtain ⟨ns, rfl⟩ := h
  exact ⟨ns ++ [i], by rw [List.map_append]; rfl⟩
theorem inz_rev {ds : List D} (h : inz ds) : inz ds.reverse := by
  obtain ⟨ns, rfl⟩ := h
  exact ⟨ns.reverse, by rw [List.map_reverse]⟩
theorem inz_cut {ds : List D} (h : inz ds) (a b : Option Int) : inz (cutD ds a b) := by
  obtain ⟨ns, rfl⟩ := h
  unfold cutD
  exact ⟨_, by rw [← List.map_drop, ← List.map_take]⟩
theorem inz_last {ds : List D} (h : inz ds) : ds = [] ∨ ∃ es i, ds = es ++ [.int i] ∧ inz es := by
  obtain ⟨ns, rfl⟩ := h
  rcases List.eq_nil_or_concat ns with rfl | ⟨ms, i, rfl⟩
  · exact .inl rfl
  · exact .inr ⟨ms.map .int, i, by rw [List.concat_eq_append, List.map_append]; rfl, ms, rfl⟩
theorem inz_at {ds : List D} (h : inz ds) {i : Int} (h0 : 0 ≤ i) (h1 : i < ds.length) : ∃ z, L2.atI ds i = some (.int z) := by
  obtain ⟨ns, rfl⟩ := h
  obtain ⟨n, rfl⟩ := Int.eq_ofNat_of_zero_le h0
  rw [List.length_map] at h1
  have hn : n < ns.length := by omega
  exact ⟨ns[n], atI_nat (by rw [List.getElem?_map, List.getElem?_eq_getElem hn]; rfl)⟩
theorem cut_len {ds : List D} {n : Nat} : (cutD ds none (some (n : Int))).length ≤ n := by
  unfold cutD
  rw [HT.sIx_none, HT.sIx_nat, List.length_take]
  omega
theorem fLen_list (ds : List D) : fLen (.list ds) = some (.sh (.int ds.length)) := rfl
end ML

/-! ## M27 -/
set_option Elab.async false
set_option linter.all false
set_option autoImplicit false
set_option maxRecDepth 100000
set_option maxHeartbeats 4000000
namespace ML
open PySem PySem.Spec PyProof.Rows L2
section
variable {X : Cx} {W : Wd} {wx : WX} {K : PySem.W.Frag} {H H' : Hp} {σ : L2.St} {δ δ' : List Sl} {π : List Cell} {a b e : Expr} {pos : Pos} {S : Addr → Prop} {te : TE}
/-! ### * of ints, lists, tuples -/
def fMulT : D → D → Option Rs
  | .tuple a, .int k => if a.length ≤ 1000 ∧ a ≠ [] ∧ 2 ≤ k ∧ k ≤ 1000 then some (.sh (.tuple (List.replicate k.toNat a).flatten)) else none
  | x, y => fMulV x y
def rMulT (K : PySem.W.Frag) : R2 := fun x y H Q => rMulV x y H Q ∨ rRepT K x y H Q
theorem op_mulT : OpR X (binaryOp .Mult) (rMulT X.K) := op_mulV.or op_repT
theorem snd_mulT : Snd2 K (rMulT K) fMulT := by
  intro S H x y d e res Q hx hy hf hq
  cases d with
  | tuple a =>
    cases e with
    | int k =>
      have hf' : (if a.length ≤ 1000 ∧ a ≠ [] ∧ 2 ≤ k ∧ k ≤ 1000 then some (Rs.sh (.tuple (List.replicate k.toNat a).flatten)) else none) = some res := hf
      by_cases h : a.length ≤ 1000 ∧ a ≠ [] ∧ 2 ≤ k ∧ k ≤ 1000
      · rw [if_pos h] at hf'
        cases hf'
        obtain ⟨p, xs, rfl, h1, h2⟩ := Rq.tup hx
        have hl := Rps.length h2
        refine .inr ⟨p, k, xs, rfl, Rq.int hy, h1, fun z => h.2.1 ?_, h.2.2.1, h.2.2.2, by omega, fun q hq' => hq _ _ (.tup hq' (Rps.rep h2 _))⟩
        subst z
        exact List.length_eq_zero_iff.mp hl.symm
      · rw [if_neg h] at hf'; cases hf'
    | _ => cases hf
  | _ => exact .inl (snd_mulV S H x y _ e res Q hx hy (by cases e <;> exact hf) hq)
end
/-! ### x[::-1] of a tuple -/
section
variable {prog : Program} {w : World} {A : Around} {E : Value → Shared → Prop} {s : Shared}
theorem adjust_back (n : Nat) : Builtin.Slice.sliceAdjust none none (-1) (n : Int) = ((n : Int) - 1, -1) := by
  unfold Builtin.Slice.sliceAdjust
  simp
theorem places_back (n : Nat) : Builtin.Slice.slicePlaces ((n : Int) - 1) (-1) (-1) = n := by
  unfold Builtin.Slice.slicePlaces
  rw [if_neg (by decide)]
  split
  · simp
  · omega
theorem applied_back {sl : Addr} {vs : Value} {n : Nat} {Q : Int × Int × Nat → Shared → Prop} (hs : s.heap.IsSliceOf sl .none .none vs) (ps : IsPart vs (some (-1)))
    (h : Q ((n : Int) - 1, -1, n) s) : wpAny (model prog w) A (Builtin.Slice.sliceApplied (.ref sl) (pure (n : Int))) Q E s := by
  obtain ⟨os, hos, hcs, hds⟩ := id hs
  unfold Builtin.Slice.sliceApplied Builtin.Slice.sliceFields
  refine wpAny_bind (wpAny_bind (wpAny_field hos hds (x := .none) rfl ?_))
  refine wpAny_bind (wpAny_field hos hds (x := .none) rfl ?_)
  refine wpAny_bind (wpAny_field hos hds (x := vs) rfl (wpAny_pure ?_))
  refine wpAny_bind (HT.slicePart_ ps ?_)
  show wpAny _ _ (if ((-1 : Int) == 0) = true then _ else _) _ _ s
  rw [if_neg (by decide)]
  refine wpAny_bind (HT.slicePart_ .none ?_)
  refine wpAny_bind (HT.slicePart_ .none ?_)
  refine wpAny_bind (wpAny_pure ?_)
  show wpAny _ _ (match Builtin.Slice.sliceAdjust none none (-1) (n : Int) with | (lo, hi) => pure (lo, (-1 : Int), Builtin.Slice.slicePlaces lo hi (-1))) _ _ s
  rw [adjust_back]
  show wpAny _ _ (pure ((n : Int) - 1, (-1 : Int), Builtin.Slice.slicePlaces ((n : Int) - 1) (-1) (-1))) _ _ s
  rw [places_back]
  exact wpAny_pure h
theorem fm_congr {α β : Type} {f g : α → Option β} : ∀ (l : List α), (∀ x ∈ l, f x = g x) → l.filterMap f = l.filterMap g
  | [], _ => rfl
  | x :: l, h => by rw [List.filterMap_cons, List.filterMap_cons, h x List.mem_cons_self, fm_congr l fun y hy => h y (List.mem_cons_of_mem _ hy)]
theorem pick_back (xs : Array Value) : ((List.range xs.size).filterMap fun (m : Nat) => xs[((xs.size : Int) - 1 + (m : Int) * -1).toNat]?).toArray = xs.toList.reverse.toArray := by
  congr 1
  rw [← pick_rev]
  have e : (List.range xs.size).reverse = (List.range xs.size).map fun m => xs.size - 1 - m := by
    apply List.ext_getElem
    · simp
    · intro i h1 h2
      simp
  rw [e, List.filterMap_map]
  refine fm_congr _ fun m hm => ?_
  have hm' := List.mem_range.mp hm
  show xs[((xs.size : Int) - 1 + (m : Int) * -1).toNat]? = xs[xs.size - 1 - m]?
  congr 1
  omega
theorem getItem_back {t sl : Addr} {items : Array Value} {vs : Value} {Q : Value → Shared → Prop} (ht : IsTup s.heap t items) (hs : s.heap.IsSliceOf sl .none .none vs) (ps : IsPart vs (some (-1)))
    (h : Q (.ref s.heap.objs.size) { s with heap := s.heap.push { cls := .type "tuple", data := .seq items.toList.reverse.toArray } }) (hsz : items.size ≤ sizeLine) : wpAny (model prog w) A (getItem (.ref t) (.ref sl)) Q E s := by
  have hok : sizeOk (.seq items.toList.reverse.toArray) := by
    show items.toList.reverse.toArray.size ≤ sizeLine
    rw [List.size_toArray, List.length_reverse, Array.length_toList]
    exact hsz
  obtain ⟨os, hos, hcs, hds⟩ := id hs
  have hTs : s.TypeIs (.ref sl) "slice" := ⟨os, hos, hcs⟩
  unfold getItem
  try with_reducible refine wpAny_holding ?_
  first | refine wpAny_bind (wpAny_pure ?_) | skip
  refine wpAny_bind (wpAny_sequenceKey ht.typeIs (by decide) ?_)
  refine wpAny_bind (wpAny_callSpecial?_slot (name := Str.ofString "__getitem__") ht.typeIs PyProof.Rows.slot_tuple_getitem (wpAny_call_entry PyProof.Rows.slot_tuple_getitem ht.typeIs entry_tuple_getitem ?_ (args_tuple_getitem _ _)))
  show wpAny _ _ (Builtin.Tuple.tupleItemsOf (.ref t) >>= _) _ _ s
  refine wpAny_bind (tupleItemsOf_ ht ?_)
  refine wpAny_bind (wpAny_typeOf hTs ?_)
  rw [if_pos (by decide)]
  refine wpAny_bind (applied_back hs ps ?_)
  show wpAny _ _ (if (((items.size : Int) - 1) == 0 && (-1 : Int) == 1 && items.size == items.size) = true then _ else _) _ _ s
  rw [if_neg (by simp), pick_back]
  first
    | exact wpAny_bind (m := Builtin.Tuple.tupleExact _) (wpAny_newObj_type (wpAny_pure ⟨_, rfl, wpAny_pure h⟩) hok)
    | exact wpAny_bind (m := Builtin.Tuple.tupleExact _) (wpAny_newObj_type (wpAny_bind (wpAny_pure (wpAny_pure ⟨_, rfl, wpAny_pure h⟩))) hok)
    | exact wpAny_bind (wpAny_bind (m := Builtin.Tuple.tupleExact _) (wpAny_newObj_type (wpAny_pure (wpAny_pure ⟨_, rfl, wpAny_pure h⟩)) hok))
    | exact wpAny_bind (wpAny_bind (m := Builtin.Tuple.tupleExact _) (wpAny_newObj_type (wpAny_pure ⟨_, rfl, wpAny_pure h⟩) hok))
end
section
variable {X : Cx} {W : Wd} {wx : WX} {K : PySem.W.Frag} {H H' : Hp} {a e : Expr} {pos : Pos} {S : Addr → Prop} {te : TE}
def tRevT (K : PySem.W.Frag) (te : TE) : TE := fun σ H Q => te σ H fun x H1 => ∃ t xs, x = .ref t ∧ SqT K H1 t xs ∧ ∀ p, H1 p = none → Q (.ref p) (upd H1 p (.tup xs.reverse))
theorem pe_revT {k : Nat} {p1 p2 p3 : Pos} (he : PE X e te) : PE X (.Subscript e (.Slice none none (some (.UnaryOp .USub (.Constant (.int 1) k p1) p2)) p3) pos) (tRevT X.K te) :=
  ⟨fun pins s σ H Q I h => Subscript_ (thn (he.run pins s σ H _ I h) fun v s1 ⟨x, H1, I1, r1, t, xs, ex, hx, q⟩ => by
    subst ex
    cases r1
    refine wpAny_Slice (thn (po_none.run pins s1 σ H1 (fun o H2 => o = none ∧ H2 = H1) I1 ⟨rfl, rfl⟩) fun vl s2 ⟨o, H2, I2, pl, eo, e2⟩ => ?_)
    subst eo e2
    refine thn (po_none.run pins s2 σ H2 (fun o H3 => o = none ∧ H3 = H2) I2 ⟨rfl, rfl⟩) fun vu s3 ⟨o, H3, I3, pu, eo, e3⟩ => ?_
    subst eo e3
    refine thn ((po_some (pe_un un_neg pe_int)).run pins s3 σ H3 (fun o H4 => o = some (-1) ∧ H4 = H3) I3 ⟨1, rfl, -1, rfl, rfl, rfl⟩) fun vs s4 ⟨o, H4, I4, ps, eo, e4⟩ => ?_
    subst eo e4
    have I5 : L2.Inv X pins σ H4 { heap := s4.heap.push { cls := Value.type "slice", data := Data.fields #[vl, vu, vs] }, gens := s4.gens, drawn := s4.drawn, toks := s4.toks, os := s4.os } := Inv.kept I4 fun b ob q => Heap.get?_push_of_some _ q
    cases pl
    cases pu
    obtain ⟨its, r, ht, hz⟩ := I5.tuple hx
    have hlen := r.length
    refine tail_any (ops := [.ref t, .ref s4.heap.objs.size]) ht.typeIs PyProof.Rows.slot_tuple_getitem.lookup ?_ (by with_unfolding_all rfl)
    refine getItem_back ht (Heap.IsSliceOf.new _ _ _ _) ps ?_ (by rw [List.size_toArray]; omega)
    refine ⟨.ref _, _, I5.laid (t' := s4.toks) (o := .tup xs.reverse) (fun b ob q => Heap.get?_push_of_some _ q) (Nat.le_refl _) ?_, rfl, q _ (I5.hok.fresh (Nat.le_refl _))⟩
    exact ⟨by rw [List.length_reverse]; exact hz, _, r.reverse, IsTup.new _ _⟩)⟩
def fRevT : D → Option Rs
  | .tuple ds => some (.sh (.tuple ds.reverse))
  | _ => none
theorem ve_revT {oa : Opr} {k : Nat} {p1 p2 p3 : Pos} (ha : VO X W wx a oa) : VE X W wx (.Subscript a (.Slice none none (some (.UnaryOp .USub (.Constant (.int 1) k p1) p2)) p3) pos) (v1 fRevT oa) := by
  obtain ⟨ta, A⟩ := ha
  refine ⟨PE.imp (pe_revT A.pe) fun σ H Q h => ?_⟩
  refine run1 (r := fun x H Q => ∃ t xs, x = .ref t ∧ SqT X.K H t xs ∧ ∀ p, H p = none → Q (.ref p) (upd H p (.tup xs.reverse))) A ?_ h
  intro S H x d res Q hx hf hq
  cases d with
  | tuple ds =>
    cases hf
    obtain ⟨p, xs, rfl, h1, h2⟩ := Rq.tup hx
    exact ⟨p, xs, rfl, h1, fun q hq' => hq _ _ (.tup hq' h2.reverse)⟩
  | _ => cases hf
end
section
variable {X : Cx} {W : Wd} {wx : WX} {K : PySem.W.Frag} {H H' : Hp} {a : Expr} {pos : Pos} {S : Addr → Prop}
/-! ### not x, as a value -/
theorem tru_of {H1 : Hp} {v : V} {x : D} {b : Bool} (r : RqA K S H1 v x) (e2 : truD x = some b) : TruV K v H1 b := by
  cases x with
  | none => cases e2; rw [Rr.none (m := true) r]; rfl
  | bool c => cases e2; rw [Rr.bool (m := true) r]; rfl
  | int c => cases e2; rw [Rr.int (m := true) r]; rfl
  | str c => cases e2; rw [Rr.str (m := true) r]; exact ⟨okS_line (Rr.okS (m := true) r), rfl⟩
  | list ds =>
    cases e2
    obtain ⟨p, xs, rfl, h1, h2⟩ := r.list
    exact .inl ⟨xs, h1, by rw [empty_len h2]⟩
  | tuple ds =>
    cases e2
    obtain ⟨p, xs, rfl, h1, h2⟩ := r.tup
    exact .inr (.inl ⟨xs, h1, by rw [empty_len (Rps.length h2)]⟩)
  | dict kvs =>
    have e3 : (if isDct kvs = true then some (!kvs.isEmpty) else none) = some b := e2
    by_cases hd : isDct kvs = true
    · rw [if_pos hd] at e3
      cases e3
      obtain ⟨p, ks, xs, ds, rfl, rfl, h1, h2, h3, _, _⟩ := r.dictI hd
      exact .inr (.inr ⟨_, h1, by rw [empty_len (l := (ks.map kD).zip ds) (m := ks.zip xs) (by simp; omega)]⟩)
    · rw [if_neg hd] at e3; cases e3
/-- as values -/
def vNotT (o : Opr) : VT := fun δ Q Xc => o.ev δ (fun ra δ1 => ∃ x b, o.fin true ra δ1 = some x ∧ truD x = some b ∧ Q (.sh (.bool (!b))) δ1) Xc
theorem ve_notT {o : Opr} (ha : VO X W wx a o) : VE X W wx (.UnaryOp .Not a pos) (vNotT o) := by
  obtain ⟨ta, A⟩ := ha
  refine ⟨PE.imp (pe_notT A.pe) fun σ H Q ⟨δ, π, Qd, Xd, s, h, k, xr⟩ => ?_⟩
  refine A.run σ H δ π _ Xd _ s h xr fun ra δ1 q v H1 s1 i1 => ?_
  obtain ⟨x, b, e1, e2, q⟩ := q
  obtain ⟨S, y⟩ := s1.st
  have r : RqA X.K S H1 v x := Opr.read (m := true) (ρ := []) s1.len y i1 e1
  exact ⟨b, tru_of r e2, k _ _ q _ _ (s1.drop.push fun _ => .bl _)⟩
end
theorem flat_fd (p : Addr) (ds : List D) : Ot.flat p ds = .nod (.lst p) (lv ds) := rfl
theorem glc_int {K : PySem.W.Frag} {mg : Str → Option Value} {x : Str} {i : Int} {t : Tok} (h : mg x = some (.int i t)) : GlC K mg x (.int i) := ⟨_, .int i, h, ⟨t, rfl⟩, fun _ _ => .int i⟩
end ML

/-! ## M28 -/
set_option Elab.async false
set_option linter.all false
set_option autoImplicit false
set_option maxRecDepth 100000
set_option maxHeartbeats 4000000
namespace ML
open PySem PySem.Spec PyProof.Rows L2
section
variable {X : Cx} {W : Wd} {wx : WX} {K : PySem.W.Frag} {H H' : Hp} {σ : L2.St} {δ δ' : List Sl} {π : List Cell} {a b e : Expr} {pos : Pos} {S : Addr → Prop} {te : TE}
/-! ### x[i] of a tree of one's own: a shared item, or a way into it -/
def kidQ (L : Nde) (st : Step) (n : Nat) : Option Sl := match L.os[n]? with
  | some (.leaf d) => some (.sh d)
  | some (.nod s _) => some (.rf L.j (L.π ++ [st]) s.root)
  | none => none
def ixLoc (L : Nde) (k : D) : Option Sl := match L.s, k with
  | .lst _, .int k => (ixN L.os.length k).bind fun n => kidQ L (.ix n) n
  | .dct _ ks, k => (kidx k).bind fun k => (kpos ks k).bind fun n => kidQ L (.key k) n
  | _, _ => none
theorem valV_at : ∀ {ks : List Key} {xs : List V} {k : Key} {n : Nat} {v : V}, kpos ks k = some n → xs[n]? = some v → valV (ks.zip xs) k = some v
  | [], _, _, _, _, h, _ => by cases h
  | k0 :: ks, [], _, n, _, _, q => by simp at q
  | k0 :: ks, x :: xs, k, n, v, h, q => by
    have e : valV ((k0, x) :: ks.zip xs) k = if k0 = k then some x else valV (ks.zip xs) k := by
      unfold valV
      rw [List.find?_cons]
      by_cases c : k0 = k
      · simp [c]
      · simp [c]
    rw [List.zip_cons_cons, e]
    unfold kpos at h
    by_cases c : k0 = k
    · rw [if_pos c] at h
      cases h
      rw [if_pos c]
      simpa using q
    · rw [if_neg c] at h
      obtain ⟨m, h1, rfl⟩ := Option.map_eq_some_iff.mp h
      rw [if_neg c]
      exact valV_at h1 (by simpa using q)
def vIxN (a b : Opr) : VT := fun δ Q Xc => a.ev δ (fun ra δ1 => b.ev δ1 (fun rb δ2 => ∃ L k r, a.loc ra δ2 = some L ∧ b.fin false rb δ2 = some k ∧ ixLoc L k = some r ∧ Q r δ2) Xc) Xc
theorem ve_ixN {oa ob : Opr} (hu : X.A.units + 1 < cLine) (ha : VO X W wx a oa) (hb : VO X W wx b ob) (hs : PlainIx b) : VE X W wx (.Subscript a b pos) (vIxN oa ob) := by
  obtain ⟨ta, A⟩ := ha
  obtain ⟨tb, B⟩ := hb
  refine ⟨PE.imp (pe_ix (ix_V hu) A.pe B.pe hs) fun σ H Q h => ?_⟩
  obtain ⟨δ, π, Qd, Xd, s, h, k, xr⟩ := h
  refine A.run σ H δ π _ Xd _ s h xr fun ra δ1 q v H1 s1 i1 => ?_
  refine B.run σ H1 δ1 _ _ Xd _ s1 q xr.more fun rb δ2 q u H2 s2 i2 => ?_
  obtain ⟨L, kk, r, e1, e2, e3, q⟩ := q
  obtain ⟨S, z⟩ := s2.st
  have z1 : StF X.K W H2 (σ.zip δ2 ++ (π ++ ((some v, ra) :: [(some u, rb)]))) S := by
    rw [List.append_assoc] at z
    exact z
  obtain ⟨h1, h2, h3⟩ := Opr.loc_ok s2.len z1 i1 e1
  have ru := Opr.read (m := false) (ρ := []) s2.len z i2 e2
  obtain ⟨w, w1, w2⟩ := zipcell (ρ := π ++ ((some v, ra) :: [(some u, rb)])) s2.len h1
  obtain ⟨xs, g1, g2, _⟩ := z1.mutAt w2 h2
  obtain ⟨j, t, τ, sh, os⟩ := L
  simp only at h1 h2 h3 g1 g2 w2
  have fin : ∀ (st : Step) (n : Nat) (y : V), kidQ ⟨j, t, τ, sh, os⟩ st n = some r → xs[n]? = some y → Q y H2 := by
    intro st n y e ey
    have e' : (match os[n]? with | some (.leaf d) => some (Sl.sh d) | some (.nod s _) => some (.rf j (τ ++ [st]) s.root) | none => none) = some r := e
    split at e'
    · rename_i d eo
      cases e'
      obtain ⟨y', q1, q2⟩ := Ows.get g2 eo
      rw [ey] at q1
      cases q1
      cases q2 with
      | leaf rp => exact k _ _ q _ _ (s2.drop.drop.pushF (SS.restrict (SS.restrict z)) rp)
    · rename_i s os2 eo
      cases e'
      obtain ⟨y', q1, q2⟩ := Ows.get g2 eo
      rw [ey] at q1
      cases q1
      cases q2 with
      | nod _ _ =>
        refine k _ _ q _ _ ⟨s2.len, S, ?_⟩
        have := (SS.restrict (SS.restrict z)).way (j := j) (π := τ ++ [st]) (p := s.root)
        rw [List.append_assoc] at this
        exact this
    · cases e'
  have l1 : xs.length = os.length := Ows.length g2
  rw [h3]
  cases sh with
  | lst p =>
    cases kk with
    | int i =>
      have eu := Rq.int ru
      subst eu
      obtain ⟨n, hn, hx⟩ := Option.bind_eq_some_iff.mp (show (ixN os.length i).bind (fun n => kidQ ⟨j, t, τ, .lst p, os⟩ (.ix n) n) = some r from e3)
      have hk : n < os.length := (ixN_seq hn).2.1
      have ex : xs[n]? = some xs[n] := List.getElem?_eq_getElem (by omega)
      refine .inl (.inl ⟨p, xs, i, xs[n], rfl, rfl, SqL.of g1, ?_, fin _ _ _ hx ex⟩)
      have : L2.atI xs i = (ixN os.length i).bind fun j => xs[j]? := by rw [← l1]; rfl
      rw [this, hn]
      exact ex
    | _ => cases e3
  | dct p ks =>
    obtain ⟨kx, hk1, hk2⟩ := Option.bind_eq_some_iff.mp (show ((kidx kk).bind fun k => (kpos ks k).bind fun n => kidQ ⟨j, t, τ, .dct p ks, os⟩ (.key k) n) = some r from by cases kk <;> exact e3)
    obtain ⟨n, hn, hx⟩ := Option.bind_eq_some_iff.mp hk2
    obtain ⟨g11, g12, g13, g14⟩ := g1
    have ey : u = kV kx := by
      exact Rp.key_of hk1 (Rr.rp (m := false) (S := S) (K := X.K) (H := H2) (kidx_atom hk1) ru)
    have ln : n < ks.length := (List.getElem?_eq_some_iff.mp (kpos_some hn)).1
    have ex : xs[n]? = some xs[n] := List.getElem?_eq_getElem (by omega)
    exact .inr ⟨p, xs[n], rfl, Or.inl ⟨_, kx, .inl g11, ey, (valV_at hn ex).symm⟩, fin _ _ _ hx ex⟩
  | obj p dx C ks => cases kk <;> cases e3
end
end ML

/-! ## M29 -/
set_option Elab.async false
set_option linter.all false
set_option autoImplicit false
set_option maxRecDepth 100000
set_option maxHeartbeats 4000000
namespace ML
open PySem PySem.Spec PyProof.Rows L2
section
variable {X : Cx} {W : Wd} {wx : WX} {K : PySem.W.Frag} {H H' : Hp} {σ : L2.St} {δ δ' : List Sl} {π : List Cell} {a b e : Expr} {es : List Expr} {pos : Pos} {S : Addr → Prop}
/-! ### and, of a suite -/
def xAnd (t u : Exn → VT) : Exn → VT := fun x δ Q Xc => t x δ (fun rv δ' => ∃ b, rv = .sh (.bool b) ∧ if b = true then u x δ' Q Xc else Q (.sh (.bool false)) δ') Xc
theorem xe_one {i : Nat} {op} {t : Exn → VT} (h : XE X W i a t) : XE X W i (.BoolOp op [a] pos) t := ⟨fun a' oe cls d pn z1 z2 => pe_one (h.run a' oe cls d pn z1 z2)⟩
theorem xe_and {i : Nat} {t u : Exn → VT} (ha : XE X W i a t) (hb : XE X W i (.BoolOp .And (b :: es) pos) u) : XE X W i (.BoolOp .And (a :: b :: es) pos) (xAnd t u) :=
  ⟨fun a' oe cls d pn z1 z2 => PE.imp (pe_and (ha.run a' oe cls d pn z1 z2) (hb.run a' oe cls d pn z1 z2)) fun σ H Q ⟨δ, π, Qd, x, vs, ρ, s, l, h1, h2, ds, q, k⟩ =>
    ⟨δ, π, _, x, vs, ρ, s, l, h1, h2, ds, q, fun rv δ' q v H' s' ds' => by
      obtain ⟨b, rfl, q⟩ := q
      refine ⟨b, SS.bool s', ?_⟩
      cases b with
      | true =>
        rw [if_pos rfl]
        rw [if_pos rfl] at q
        exact ⟨δ', π, Qd, x, vs, ρ, s'.drop, l, h1, h2, ds', q, k⟩
      | false =>
        rw [if_neg (by decide)]
        rw [if_neg (by decide)] at q
        exact k _ _ q _ _ (s'.drop.push fun _ => .bl _) ds'⟩⟩
def xNot (t : Exn → VT) : Exn → VT := fun x δ Q Xc => t x δ (fun rv δ' => ∃ b, rv = .sh (.bool b) ∧ Q (.sh (.bool (!b))) δ') Xc
theorem xe_not {i : Nat} {t : Exn → VT} (ha : XE X W i a t) : XE X W i (.UnaryOp .Not a pos) (xNot t) :=
  ⟨fun a' oe cls d pn z1 z2 => PE.imp (pe_not (ha.run a' oe cls d pn z1 z2)) fun σ H Q ⟨δ, π, Qd, x, vs, ρ, s, l, h1, h2, ds, q, k⟩ =>
    ⟨δ, π, _, x, vs, ρ, s, l, h1, h2, ds, q, fun rv δ' q v H' s' ds' => by
      obtain ⟨b, rfl, q⟩ := q
      exact ⟨b, SS.bool s', k _ _ q _ _ (s'.drop.push fun _ => .bl _) ds'⟩⟩⟩
end
theorem kit_type {K : PySem.W.Frag} {C : Addr} {T : String} (h : PySem.W.kitMeta T = true) (h4 : PySem.W.subIn K (.ref C) (.type T) = some true) : PySem.W.kitOne K (.ref C) (.type T) = some true := by
  unfold PySem.W.kitOne PySem.W.kitCls
  split
  · rfl
  · show (if PySem.W.kitMeta T = true then PySem.W.subIn K (.ref C) (.type T) else none) = _
    rw [if_pos h, h4]
theorem kit_clsF {K : PySem.W.Frag} {C T : Addr} (h0 : ¬ C = T) (h2 : PySem.W.isClsIn K T = true) (h3 : PySem.W.typeIn K (.ref T) = some (.type "type")) (h4 : PySem.W.subIn K (.ref C) (.ref T) = some false) : PySem.W.kitOne K (.ref C) (.ref T) = some false := by
  have h2' : (PySem.W.clsIn K T).isSome = true := h2
  unfold PySem.W.kitOne PySem.W.kitCls
  rw [if_neg (by intro h; exact h0 (by simpa using h))]
  show (if ((PySem.W.clsIn K T).isSome && PySem.W.typeIn K (Value.ref T) == some (Value.type "type")) = true then PySem.W.subIn K (.ref C) (Value.ref T) else none) = _
  rw [if_pos (by rw [h2', h3]; rfl), h4]
theorem exm_clsF {K : PySem.W.Frag} {C T : Addr} (h0 : ¬ C = T) (h1 : PySem.W.subIn K (.ref T) (.type "BaseException") = some true) (h2 : PySem.W.isClsIn K T = true) (h3 : PySem.W.typeIn K (.ref T) = some (.type "type")) (h4 : PySem.W.subIn K (.ref C) (.ref T) = some false) : PySem.W.exmOne K (.ref C) (.ref T) = some false := by
  have h2' : (PySem.W.clsIn K T).isSome = true := h2
  unfold PySem.W.exmOne PySem.W.kitCls
  rw [if_pos (by rw [h1]; rfl)]
  show (if ((PySem.W.clsIn K T).isSome && PySem.W.typeIn K (Value.ref T) == some (Value.type "type")) = true then PySem.W.subIn K (.ref C) (Value.ref T) else none) = _
  rw [if_pos (by rw [h2', h3]; rfl), h4]
end ML

/-! ## M30 -/
set_option Elab.async false
set_option linter.all false
set_option autoImplicit false
set_option maxRecDepth 100000
set_option maxHeartbeats 4000000
namespace ML
open PySem PySem.Spec PyProof.Rows L2
/-! ### words for simp: texts told apart, items of what is written out, kinds, numbers -/
theorem map_toNat_inj : ∀ {a b : List Char}, a.map Char.toNat = b.map Char.toNat → a = b
  | [], [], _ => rfl
  | [], _ :: _, h => by cases h
  | _ :: _, [], h => by cases h
  | x :: a, y :: b, h => by
    rw [List.map_cons, List.map_cons] at h
    injection h with h1 h2
    rw [map_toNat_inj h2, Char.toNat_inj.mp h1]
theorem os_inj (a b : String) : (Str.ofString a = Str.ofString b) = (a = b) := by
  refine propext ⟨fun h => ?_, fun h => by rw [h]⟩
  rw [Str.ofString_eq_toList, Str.ofString_eq_toList] at h
  injection h with h
  have := map_toNat_inj (by simpa using h)
  exact String.toList_inj.mp this
theorem ix0 {a : D} {r : List D} : fIx (.tuple (a :: r)) (.int 0) = some (.sh a) := by
  show (L2.atI (a :: r) ((0 : Nat) : Int)).map Rs.sh = _
  rw [atI_nat (v := a) rfl]; rfl
theorem ix1 {a b : D} {r : List D} : fIx (.tuple (a :: b :: r)) (.int 1) = some (.sh b) := by
  show (L2.atI (a :: b :: r) ((1 : Nat) : Int)).map Rs.sh = _
  rw [atI_nat (v := b) rfl]; rfl
theorem ix2 {a b c : D} {r : List D} : fIx (.tuple (a :: b :: c :: r)) (.int 2) = some (.sh c) := by
  show (L2.atI (a :: b :: c :: r) ((2 : Nat) : Int)).map Rs.sh = _
  rw [atI_nat (v := c) rfl]; rfl
theorem ix3 {a b c d : D} {r : List D} : fIx (.tuple (a :: b :: c :: d :: r)) (.int 3) = some (.sh d) := by
  show (L2.atI (a :: b :: c :: d :: r) ((3 : Nat) : Int)).map Rs.sh = _
  rw [atI_nat (v := d) rfl]; rfl
theorem ix4 {a b c d e : D} {r : List D} : fIx (.tuple (a :: b :: c :: d :: e :: r)) (.int 4) = some (.sh e) := by
  show (L2.atI (a :: b :: c :: d :: e :: r) ((4 : Nat) : Int)).map Rs.sh = _
  rw [atI_nat (v := e) rfl]; rfl
theorem lx0 {a : D} {r : List D} : fIx (.list (a :: r)) (.int 0) = some (.sh a) := by
  show (L2.atI (a :: r) ((0 : Nat) : Int)).map Rs.sh = _
  rw [atI_nat (v := a) rfl]; rfl
theorem lx1 {a b : D} {r : List D} : fIx (.list (a :: b :: r)) (.int 1) = some (.sh b) := by
  show (L2.atI (a :: b :: r) ((1 : Nat) : Int)).map Rs.sh = _
  rw [atI_nat (v := b) rfl]; rfl
theorem lx2 {a b c : D} {r : List D} : fIx (.list (a :: b :: c :: r)) (.int 2) = some (.sh c) := by
  show (L2.atI (a :: b :: c :: r) ((2 : Nat) : Int)).map Rs.sh = _
  rw [atI_nat (v := c) rfl]; rfl
theorem lx3 {a b c d : D} {r : List D} : fIx (.list (a :: b :: c :: d :: r)) (.int 3) = some (.sh d) := by
  show (L2.atI (a :: b :: c :: d :: r) ((3 : Nat) : Int)).map Rs.sh = _
  rw [atI_nat (v := d) rfl]; rfl
theorem fLen_tup (ds : List D) : fLen (.tuple ds) = some (.sh (.int ds.length)) := rfl
theorem isB_n : isT "bool" .none = some (.sh (.bool false)) := rfl
theorem isB_b (b : Bool) : isT "bool" (.bool b) = some (.sh (.bool true)) := rfl
theorem isB_i (b : Int) : isT "bool" (.int b) = some (.sh (.bool false)) := rfl
theorem isB_s (b : Str) : isT "bool" (.str b) = some (.sh (.bool false)) := rfl
theorem isB_l (b : List D) : isT "bool" (.list b) = some (.sh (.bool false)) := rfl
theorem isB_t (b : List D) : isT "bool" (.tuple b) = some (.sh (.bool false)) := rfl
theorem isI_n : isT "int" .none = some (.sh (.bool false)) := rfl
theorem isI_b (b : Bool) : isT "int" (.bool b) = some (.sh (.bool true)) := rfl
theorem isI_i (b : Int) : isT "int" (.int b) = some (.sh (.bool true)) := rfl
theorem isI_s (b : Str) : isT "int" (.str b) = some (.sh (.bool false)) := rfl
theorem isI_l (b : List D) : isT "int" (.list b) = some (.sh (.bool false)) := rfl
theorem isI_t (b : List D) : isT "int" (.tuple b) = some (.sh (.bool false)) := rfl
theorem isS_n : isT "str" .none = some (.sh (.bool false)) := rfl
theorem isS_b (b : Bool) : isT "str" (.bool b) = some (.sh (.bool false)) := rfl
theorem isS_i (b : Int) : isT "str" (.int b) = some (.sh (.bool false)) := rfl
theorem isS_s (b : Str) : isT "str" (.str b) = some (.sh (.bool true)) := rfl
theorem isS_l (b : List D) : isT "str" (.list b) = some (.sh (.bool false)) := rfl
theorem isS_t (b : List D) : isT "str" (.tuple b) = some (.sh (.bool false)) := rfl
theorem isL_n : isT "list" .none = some (.sh (.bool false)) := rfl
theorem isL_b (b : Bool) : isT "list" (.bool b) = some (.sh (.bool false)) := rfl
theorem isL_i (b : Int) : isT "list" (.int b) = some (.sh (.bool false)) := rfl
theorem isL_s (b : Str) : isT "list" (.str b) = some (.sh (.bool false)) := rfl
theorem isL_l (b : List D) : isT "list" (.list b) = some (.sh (.bool true)) := rfl
theorem isL_t (b : List D) : isT "list" (.tuple b) = some (.sh (.bool false)) := rfl
theorem isT_n : isT "tuple" .none = some (.sh (.bool false)) := rfl
theorem isT_b (b : Bool) : isT "tuple" (.bool b) = some (.sh (.bool false)) := rfl
theorem isT_i (b : Int) : isT "tuple" (.int b) = some (.sh (.bool false)) := rfl
theorem isT_s (b : Str) : isT "tuple" (.str b) = some (.sh (.bool false)) := rfl
theorem isT_l (b : List D) : isT "tuple" (.list b) = some (.sh (.bool false)) := rfl
theorem isT_t (b : List D) : isT "tuple" (.tuple b) = some (.sh (.bool true)) := rfl
theorem ixl {ds : List D} {k : Nat} {d : D} (h : ds[k]? = some d) : fIx (.list ds) (.int (k : Int)) = some (.sh d) := by
  show (L2.atI ds (k : Int)).map Rs.sh = _
  rw [atI_nat h]; rfl
theorem ixt {ds : List D} {k : Nat} {d : D} (h : ds[k]? = some d) : fIx (.tuple ds) (.int (k : Int)) = some (.sh d) := by
  show (L2.atI ds (k : Int)).map Rs.sh = _
  rw [atI_nat h]; rfl
theorem ixlI {ds : List D} {k : Int} {d : D} (h0 : 0 ≤ k) (h : ds[k.toNat]? = some d) : fIx (.list ds) (.int k) = some (.sh d) := by
  obtain ⟨n, rfl⟩ := Int.eq_ofNat_of_zero_le h0
  exact ixl h
theorem ixtI {ds : List D} {k : Int} {d : D} (h0 : 0 ≤ k) (h : ds[k.toNat]? = some d) : fIx (.tuple ds) (.int k) = some (.sh d) := by
  obtain ⟨n, rfl⟩ := Int.eq_ofNat_of_zero_le h0
  exact ixt h
abbrev zs (σ : List Int) : List D := σ.map .int
theorem mul_ok (a b : Int) (h : -(2 ^ 64) < a ∧ a < 2 ^ 64) : fMulV (.int a) (.int b) = some (.sh (.int (a * b))) := by
  show (if cMul a b = true then some (Rs.sh (.int (a * b))) else none) = _
  rw [if_pos (show cMul a b = true from decide_eq_true (.inl h))]
theorem mul_ok2 (a b : Int) (h : -(2 ^ 64) < b ∧ b < 2 ^ 64) : fMulV (.int a) (.int b) = some (.sh (.int (a * b))) := by
  show (if cMul a b = true then some (Rs.sh (.int (a * b))) else none) = _
  rw [if_pos (show cMul a b = true from decide_eq_true (.inr h))]
theorem cd_ok (a b : Int) (h : 0 < b) (h2 : b < 2 ^ 8999) : cDivD a b = true := by
  unfold cDivD
  refine decide_eq_true ⟨h, ?_⟩
  obtain ⟨n, rfl⟩ := Int.eq_ofNat_of_zero_le (Int.le_of_lt h)
  have h3 : n < 2 ^ 8999 := by exact_mod_cast h2
  rw [Int.natAbs_natCast]
  have h0 : n ≠ 0 := by rintro rfl; exact absurd h (by decide)
  exact Nat.lt_of_lt_of_le ((Nat.log2_lt h0).mpr h3) (by decide)
theorem nat_of {r : Int} (h : 0 ≤ r) : ∃ n : Nat, r = (n : Int) := Int.eq_ofNat_of_zero_le h
theorem len_inz {ds : List D} (h : inz ds) : ∃ l, ds = zs l := h
/-! ### data that _law_same takes for equal: themselves -/
def okd : Nat → D → Prop
  | _, .none => True
  | _, .int _ => True
  | _, .bool _ => True
  | _, .str _ => True
  | n + 1, .list ds => ds.length ≤ 1000000 ∧ ∀ d ∈ ds, okd n d
  | n + 1, .tuple ds => ds.length ≤ 1000000 ∧ ∀ d ∈ ds, okd n d
  | _, _ => False
theorem okd_mono : ∀ {n m : Nat} {d : D}, n ≤ m → okd n d → okd m d
  | n, m, .none, _, _ => by cases m <;> trivial
  | n, m, .int _, _, _ => by cases m <;> trivial
  | n, m, .str _, _, _ => by cases m <;> trivial
  | 0, _, .list _, _, h => h.elim
  | 0, _, .tuple _, _, h => h.elim
  | n + 1, 0, .list _, l, _ => absurd l (by omega)
  | n + 1, 0, .tuple _, l, _ => absurd l (by omega)
  | n + 1, m + 1, .list ds, l, h => ⟨h.1, fun d hd => okd_mono (by omega) (h.2 d hd)⟩
  | n + 1, m + 1, .tuple ds, l, h => ⟨h.1, fun d hd => okd_mono (by omega) (h.2 d hd)⟩
  | n, m, .bool _, _, _ => by cases m <;> trivial
  | n, m, .dict _, _, h => by cases n <;> exact h.elim
theorem okd_str (n : Nat) (x : Str) : okd n (.str x) := by cases n <;> trivial
theorem okd_int (n : Nat) (x : Int) : okd n (.int x) := by cases n <;> trivial
theorem okd_bool (n : Nat) (x : Bool) : okd n (.bool x) := by cases n <;> trivial
theorem okd_non (n : Nat) : okd n .none := by cases n <;> trivial
theorem all0 {n : Nat} : ∀ d ∈ ([] : List D), okd n d := fun d hd => nomatch hd
theorem all1 {n : Nat} {a : D} (ha : okd n a) : ∀ d ∈ [a], okd n d := fun d hd => by rw [List.mem_singleton.mp hd]; exact ha
theorem allc {n : Nat} {a : D} {l : List D} (ha : okd n a) (h : ∀ d ∈ l, okd n d) : ∀ d ∈ a :: l, okd n d := fun d hd => (List.mem_cons.mp hd).elim (fun e => e ▸ ha) (h d)
theorem okd_zs {n : Nat} (l : List Int) : ∀ d ∈ zs l, okd n d := fun d hd => by
  obtain ⟨z, _, rfl⟩ := List.mem_map.mp hd
  exact okd_int _ _
theorem okd_map {α : Type} {n : Nat} {f : α → D} {l : List α} (h : ∀ x ∈ l, okd n (f x)) : ∀ d ∈ l.map f, okd n d := fun d hd => by
  obtain ⟨z, hz, rfl⟩ := List.mem_map.mp hd
  exact h z hz
theorem okd_list {n : Nat} {ds : List D} (l : ds.length ≤ 1000000) (h : ∀ d ∈ ds, okd n d) : okd (n + 1) (.list ds) := ⟨l, h⟩
theorem okd_tup {n : Nat} {ds : List D} (l : ds.length ≤ 1000000) (h : ∀ d ∈ ds, okd n d) : okd (n + 1) (.tuple ds) := ⟨l, h⟩
theorem okd_zl {n : Nat} (l : List Int) (h : l.length ≤ 1000000) : okd (n + 1) (.list (zs l)) := ⟨by rw [List.length_map]; exact h, okd_zs l⟩
theorem okd_zt {n : Nat} (l : List Int) (h : l.length ≤ 1000000) : okd (n + 1) (.tuple (zs l)) := ⟨by rw [List.length_map]; exact h, okd_zs l⟩
/-! ### == of data with themselves and others of a kind -/
mutual
/-- no dict, within a depth -/
def eqd : D → Bool
  | .list ds => eqds ds
  | .tuple ds => eqds ds
  | .dict _ => false
  | _ => true
def eqds : List D → Bool
  | [] => true
  | d :: ds => eqd d && eqds ds
end
theorem extend_lv (ds es : List D) (q : Addr) : mExtend (lv ds) [.ow (.nod (.lst q) (lv es))] = if ds.length + es.length ≤ 1000000 then some (lv (ds ++ es), .none) else none := by
  unfold lv mExtend
  simp
theorem ext_ok {ds es : List D} {q : Addr} (h : ds.length + es.length ≤ 1000000) : mExtend (lv ds) [.ow (Ot.flat q es)] = some (lv (ds ++ es), .none) := (extend_lv ds es q).trans (if_pos h)
theorem store_lv (p : Addr) (ds : List D) (k : Nat) (d : D) (h : k < ds.length) : storeL (.lst p) (lv ds) (.int (k : Int)) (.leaf d) = some (.lst p, lv (ds.set k d)) := by
  unfold lv storeL putIx ixN
  simp [h]
theorem store_lvI (p : Addr) (ds : List D) (k : Int) (d : D) (h0 : 0 ≤ k) (h : k < ds.length) : storeL (.lst p) (lv ds) (.int k) (.leaf d) = some (.lst p, lv (ds.set k.toNat d)) := by
  obtain ⟨n, rfl⟩ := Int.eq_ofNat_of_zero_le h0
  exact store_lv p ds n d (by omega)
end ML

/-! ## M31 -/
set_option Elab.async false
set_option linter.all false
set_option autoImplicit false
set_option maxRecDepth 100000
set_option maxHeartbeats 4000000
namespace ML
open PySem PySem.Spec PyProof.Rows L2
mutual
theorem okd_dep : ∀ {n : Nat} {d : D}, okd n d → noD d = true ∧ d.depth ≤ n
  | n, .none, _ => ⟨rfl, by simp [PyData.depth]⟩
  | n, .int _, _ => ⟨rfl, by simp [PyData.depth]⟩
  | n, .str _, _ => ⟨rfl, by simp [PyData.depth]⟩
  | n, .bool _, _ => ⟨rfl, by simp [PyData.depth]⟩
  | 0, .list _, h => h.elim
  | 0, .tuple _, h => h.elim
  | n + 1, .list ds, h => by
    have := okds_dep (n := n) h.2
    exact ⟨by simpa [noD] using this.1, by simp [PyData.depth]; omega⟩
  | n + 1, .tuple ds, h => by
    have := okds_dep (n := n) h.2
    exact ⟨by simpa [noD] using this.1, by simp [PyData.depth]; omega⟩
  | n, .dict _, h => by cases n <;> exact h.elim
theorem okds_dep : ∀ {n : Nat} {ds : List D}, (∀ d ∈ ds, okd n d) → noDs ds = true ∧ PyData.depthAll ds ≤ n
  | n, [], _ => ⟨rfl, by simp [PyData.depthAll]⟩
  | n, d :: ds, h => by
    have h1 := okd_dep (h d List.mem_cons_self)
    have h2 := okds_dep (n := n) (ds := ds) fun e he => h e (List.mem_cons_of_mem _ he)
    exact ⟨by simp [noDs, h1.1, h2.1], by simp [PyData.depthAll]; omega⟩
end
theorem dep_okd {n : Nat} {d : D} (h : okd n d) (hn : n ≤ 64) : dep d = true := by
  have := okd_dep h
  unfold dep
  rw [this.1, Bool.and_true]
  exact decide_eq_true (by omega)
mutual
theorem eqv_okd : ∀ {n : Nat} {d : D}, okd n d → PyData.eqv d d = true
  | n, .none, _ => by simp [PyData.eqv]
  | n, .int _, _ => by simp [PyData.eqv]
  | n, .str _, _ => by simp [PyData.eqv]
  | n, .bool _, _ => by simp [PyData.eqv]
  | 0, .list _, h => h.elim
  | 0, .tuple _, h => h.elim
  | n + 1, .list ds, h => by
    have := eqvs_okd (n := n) h.2
    simpa [PyData.eqv] using this
  | n + 1, .tuple ds, h => by
    have := eqvs_okd (n := n) h.2
    simpa [PyData.eqv] using this
  | n, .dict _, h => by cases n <;> exact h.elim
theorem eqvs_okd : ∀ {n : Nat} {ds : List D}, (∀ d ∈ ds, okd n d) → PyData.eqvAll ds ds = true
  | n, [], _ => by simp [PyData.eqvAll]
  | n, d :: ds, h => by
    have h1 := eqv_okd (h d List.mem_cons_self)
    have h2 := eqvs_okd (n := n) (ds := ds) fun e he => h e (List.mem_cons_of_mem _ he)
    simp [PyData.eqvAll, h1, h2]
end
theorem fEq_okd {n : Nat} {d : D} (h : okd n d) (hn : n ≤ 64) : fEq d d = some (.sh (.bool true)) := by
  unfold fEq
  rw [dep_okd h hn, eqv_okd h]; rfl
theorem fNe_okd {n : Nat} {d : D} (h : okd n d) (hn : n ≤ 64) : fNe d d = some (.sh (.bool false)) := by
  unfold fNe
  rw [dep_okd h hn, eqv_okd h]; rfl
mutual
/-- no bool in it -/
def nob : D → Bool
  | .bool _ => false
  | .list ds => nobs ds
  | .tuple ds => nobs ds
  | .dict _ => false
  | _ => true
def nobs : List D → Bool
  | [] => true
  | d :: ds => nob d && nobs ds
end
mutual
theorem eqv_nob : ∀ (d e : D), nob d = true → nob e = true → (PyData.eqv d e = true ↔ d = e)
  | .none, e, _, h => by cases e <;> simp [PyData.eqv]
  | .int _, e, _, h => by cases e <;> simp [PyData.eqv] <;> simp [nob] at h
  | .str _, e, _, h => by cases e <;> simp [PyData.eqv]
  | .bool _, _, h, _ => by simp [nob] at h
  | .list ds, e, h, h2 => by
    cases e with
    | list es =>
      have := eqvs_nob ds es (by simpa [nob] using h) (by simpa [nob] using h2)
      simpa [PyData.eqv] using this
    | _ => simp [PyData.eqv]
  | .tuple ds, e, h, h2 => by
    cases e with
    | tuple es =>
      have := eqvs_nob ds es (by simpa [nob] using h) (by simpa [nob] using h2)
      simpa [PyData.eqv] using this
    | _ => simp [PyData.eqv]
  | .dict _, _, h, _ => by simp [nob] at h
theorem eqvs_nob : ∀ (ds es : List D), nobs ds = true → nobs es = true → (PyData.eqvAll ds es = true ↔ ds = es)
  | [], [], _, _ => by simp [PyData.eqvAll]
  | [], _ :: _, _, _ => by simp [PyData.eqvAll]
  | _ :: _, [], _, _ => by simp [PyData.eqvAll]
  | d :: ds, e :: es, h, h2 => by
    have h' : nob d = true ∧ nobs ds = true := by simpa [nobs] using h
    have h2' : nob e = true ∧ nobs es = true := by simpa [nobs] using h2
    have a := eqv_nob d e h'.1 h2'.1
    have b := eqvs_nob ds es h'.2 h2'.2
    simp [PyData.eqvAll, a, b]
end
theorem nobs_mem : ∀ {ds : List D}, (∀ d ∈ ds, nob d = true) → nobs ds = true
  | [], _ => rfl
  | d :: ds, h => by
    rw [nobs, h d List.mem_cons_self, nobs_mem fun e he => h e (List.mem_cons_of_mem _ he)]; rfl
theorem nobs_zs (l : List Int) : nobs (zs l) = true := nobs_mem fun d hd => by
  obtain ⟨z, _, rfl⟩ := List.mem_map.mp hd
  rfl
theorem fEq_nob {n m : Nat} {d e : D} [Decidable (d = e)] (h : okd n d) (h2 : okd m e) (hn : n ≤ 64) (hm : m ≤ 64) (a : nob d = true) (b : nob e = true) : fEq d e = some (.sh (.bool (decide (d = e)))) := by
  unfold fEq
  rw [dep_okd h hn, dep_okd h2 hm]
  have := eqv_nob d e a b
  rw [if_pos (show (true && true) = true from rfl)]
  congr 3
  exact Bool.eq_iff_iff.mpr (this.trans decide_eq_true_iff.symm)
theorem fNe_nob {n m : Nat} {d e : D} [Decidable (d = e)] (h : okd n d) (h2 : okd m e) (hn : n ≤ 64) (hm : m ≤ 64) (a : nob d = true) (b : nob e = true) : fNe d e = some (.sh (.bool (!decide (d = e)))) := by
  unfold fNe
  rw [dep_okd h hn, dep_okd h2 hm]
  have := eqv_nob d e a b
  rw [if_pos (show (true && true) = true from rfl)]
  congr 4
  exact Bool.eq_iff_iff.mpr (this.trans decide_eq_true_iff.symm)
end ML

/-! ## M32 -/
set_option Elab.async false
set_option linter.all false
set_option autoImplicit false
set_option maxRecDepth 100000
set_option maxHeartbeats 4000000
namespace ML
open PySem PySem.Spec PyProof.Rows L2
section
variable {X : Cx} {W : Wd} {wx : WX} {K : PySem.W.Frag} {H H' : Hp} {σ : L2.St} {δ δ' : List Sl} {π : List Cell} {a b e : Expr} {es : List Expr} {pos : Pos} {S : Addr → Prop}
/-! ### [e, ..], items as they are -/
def ots : List Sl → Option (List Ot)
  | [] => some []
  | s :: l => (s.ot).bind fun o => (ots l).map (o :: ·)
theorem ots_adr : ∀ {l : List Sl} {os : List Ot}, ots l = some os → adrL l = Ot.adrs os ∧ (∀ s ∈ l, s.fit) ∧ os.length = l.length
  | [], os, h => by cases h; exact ⟨rfl, fun s hs => (nomatch hs), rfl⟩
  | s :: l, os, h => by
    obtain ⟨o, h1, h2⟩ := Option.bind_eq_some_iff.mp h
    obtain ⟨os', h3, rfl⟩ := Option.map_eq_some_iff.mp h2
    obtain ⟨i1, i2, i3⟩ := ots_adr h3
    have e1 := adr_ot h1
    refine ⟨?_, fun t ht => ?_, by rw [List.length_cons, List.length_cons, i3]⟩
    · rw [Ot.adrs, ← i1, ← e1]
      cases s <;> simp [adrL]
    · rcases List.mem_cons.mp ht with rfl | ht
      · exact ot_fit h1
      · exact i2 t ht
theorem Args.ows : ∀ {vs : List V} {l : List Sl} {os : List Ot}, Args K S H vs l → ots l = some os → Ows K S H vs os
  | _, [], os, h, e => by cases h; cases e; exact .nil
  | _, s :: l, os, h, e => by
    obtain ⟨o, h1, h2⟩ := Option.bind_eq_some_iff.mp e
    obtain ⟨os', h3, rfl⟩ := Option.map_eq_some_iff.mp h2
    cases h with
    | cons a r => exact .cons (a.ot h1) (r.ows h3)
theorem SS.gather {vs : List V} {l : List Sl} {os : List Ot} {p : Addr} (s : SS K W H σ δ (π ++ cells vs l)) (lv : vs.length = l.length) (ho : ots l = some os) (hp : H p = none) : SS K W (upd H p (.lst vs)) σ δ (π ++ [(some (.ref p), .ow (.nod (.lst p) os))]) := by
  obtain ⟨S, x⟩ := s.st
  obtain ⟨ea, hf, hlen⟩ := ots_adr ho
  have x1 := x.newL (p := p) hp (xs := []) (ds := []) .nil
  generalize hS1 : (fun b => S b ∨ b = p) = S1 at x1
  have e0 : (σ.zip δ ++ (π ++ cells vs l) ++ [(some (V.ref p), Sl.ow (Ot.flat p []))])[(σ.zip δ ++ (π ++ cells vs l)).length]? = some (some (V.ref p), Sl.ow (Ot.flat p [])) := snoc_last
  obtain ⟨xs, g1, g2, g3, g4, g5, g6⟩ := x1.mutAt (π := []) (s := .lst p) (os := []) e0 rfl
  have y : StF K W (upd H p (.lst [])) (σ.zip δ ++ (π ++ cells vs l)) S1 := by
    have x1' := x1
    rw [List.append_assoc] at x1'
    exact SS.restrict x1'
  have y' := y
  rw [← List.append_assoc] at y'
  have ga := StF.args y' lv hf
  have ow1 : Ows K S1 (upd H p (.lst [])) vs os := ga.ows ho
  have kp : ∀ b, b ∉ (Sh.lst p).own → upd H p (.lst vs) b = upd H p (.lst []) b := fun b hb => by
    have hne : b ≠ p := fun z => hb (by rw [z]; exact List.mem_cons_self)
    rw [upd_ne hne, upd_ne hne]
  -- where the addresses of os stand
  have hin : ∀ b ∈ Ot.adrs os, ∃ (j : Nat) (w : Option V) (oj : Ot), (σ.zip δ ++ π).length ≤ j ∧ j < (σ.zip δ ++ (π ++ cells vs l)).length ∧ (σ.zip δ ++ (π ++ cells vs l) ++ [(some (V.ref p), Sl.ow (Ot.flat p []))])[j]? = some (w, .ow oj) ∧ b ∈ oj.adr := by
    intro b hb
    rw [← ea, ← adrC_cells lv] at hb
    obtain ⟨k, w, oj, h1, h2⟩ := adrC_mem hb
    have hk : k < (cells vs l).length := (List.getElem?_eq_some_iff.mp h1).1
    refine ⟨(σ.zip δ ++ π).length + k, w, oj, by omega, ?_, ?_, h2⟩
    · rw [← List.append_assoc, List.length_append (as := σ.zip δ ++ π)]; omega
    · apply snoc_old
      rw [← List.append_assoc, List.getElem?_append_right (by omega), Nat.add_sub_cancel_left]
      exact h1
  have pno : ∀ b ∈ Ot.adrs os, b ≠ p := fun b hb z => by
    obtain ⟨j, w, oj, h1, h2, h3, h4⟩ := hin b hb
    refine x1.dj j _ _ _ _ _ b (by omega) h3 e0 h4 ?_
    rw [z, Ot.adr]
    exact List.mem_append_left _ (List.mem_cons_self)
  have ow2 : Ows K S1 (upd H p (.lst vs)) vs os := Ows.ev (g5 _ kp) _ _ (fun b hb u q => by
    rw [kp b (fun z => pno b hb (by simpa [Sh.own] using z))]
    exact q) ow1
  have z := g6 (.lst p) vs os (upd H p (.lst vs)) (fun j => (σ.zip δ ++ π).length ≤ j ∧ j < (σ.zip δ ++ (π ++ cells vs l)).length) ((σ.zip δ ++ π) ++ ((cells vs l).map (fun c => (c.1, Sl.un)) ++ [(some (.ref p), .ow (.nod (.lst p) os))])) rfl rfl kp upd_same ow2
    (by rw [← ea, ← adrC_cells lv]; exact adrC_nodup (A := σ.zip δ ++ π) x (by rw [List.append_assoc]))
    (fun b hb => by
      obtain ⟨j, w, oj, h1, h2, h3, h4⟩ := hin b hb
      exact .inr ⟨j, w, oj, by omega, ⟨h1, h2⟩, h3, h4⟩)
    (by
      rw [← List.append_assoc, List.getElem?_append_right (by simp)]
      have : (σ.zip δ ++ (π ++ cells vs l)).length - (σ.zip δ ++ π ++ List.map (fun c => (c.1, Sl.un)) (cells vs l)).length = 0 := by simp
      rw [this]
      rfl)
    (fun j c hj hc => by
      by_cases h1 : j < (σ.zip δ ++ π).length
      · rw [List.getElem?_append_left h1] at hc
        refine .inr ⟨?_, fun q => by omega⟩
        apply snoc_old
        rw [← List.append_assoc, List.getElem?_append_left h1]
        exact hc
      · rw [List.getElem?_append_right (by omega)] at hc
        by_cases h2 : j - (σ.zip δ ++ π).length < (cells vs l).length
        · rw [List.getElem?_append_left (by rw [List.length_map]; exact h2)] at hc
          rw [List.getElem?_map] at hc
          obtain ⟨c0, _, rfl⟩ := Option.map_eq_some_iff.mp hc
          exact .inl rfl
        · rw [List.getElem?_append_right (by rw [List.length_map]; omega)] at hc
          have := (List.getElem?_eq_some_iff.mp hc).1
          simp at this
          exfalso
          apply hj
          simp at *
          omega)
  rw [List.append_assoc] at z
  refine ⟨s.len, S1, ?_⟩
  have z2 : StF K W (upd H p (.lst vs)) (σ.zip δ ++ π ++ ((cells vs l).map (fun c => (c.1, Sl.un)) ++ [(some (.ref p), .ow (.nod (.lst p) os))])) S1 := by
    rw [List.append_assoc]; exact z
  have z3 := z2.mid
  rw [List.append_assoc] at z3
  exact z3
def vLstO (as : List VT) : VT := fun δ Q Xc => mvEv as δ (fun l δ' => ∃ os, ots l = some os ∧ ∀ p, Q (.ow (.nod (.lst p) os)) δ') Xc
theorem ve_lstO {as : List VT} (h : VMv X W wx es as) (hl : es.length ≤ 1000) (he : es.length = as.length := by rfl) : VE X W wx (.List es pos) (vLstO as) :=
  ⟨PE.imp (pe_lst h.pa) fun σ H Q ⟨δ, π, Qd, Xd, s, h, kk, xr⟩ => ⟨δ, π, _, Xd, s, h, fun l δ' q vs H' lv ll s' => by
    refine ⟨Nat.le_of_lt (small1000 (by omega)), fun p hp => ?_⟩
    obtain ⟨os, ho, q⟩ := q
    exact kk _ _ (q p) _ _ (s'.gather (by rw [lv, ll]) ho hp), xr⟩⟩
end
end ML

/-! ## LP -/
set_option Elab.async false
set_option linter.all false
set_option autoImplicit false
set_option maxRecDepth 100000
set_option maxHeartbeats 8000000
namespace LP
open PySem PySem.Spec PyProof.Rows L2 ML
/-! ### _law_numbers -/
/- N ['script', 'row', 'cell', 'k', 'seed'] -/
def b101__law_numbers  : VSt :=
  (vSet 2 (v2 fFdv (.pk 2) (.pd (vC (.int 1000)))))
def q1__law_numbers  : VSt :=
  (vSeq (vDrp (vMet (.pk 1) mAppend [(vS (v2 fMod (.pd (v1 fInt (.pk 2))) (.pd (vC (.int 1000)))))]))
    (b101__law_numbers ))
def w1__law_numbers  : VSt :=
  vFor (iR1 (vC (.int 60))) (bName 3) (vIfS (vB (v2 fGt (.pk 2) (.pd (vC (.int 0))))) (q1__law_numbers ) vEnd)
def b105__law_numbers  : VSt :=
  (vDrp (vMet (.pk 1) mAppend [(vS (v2 fMod (.pd (v1 fInt (.pd (v2 fAdd (.pd (v2 fMulV (.pd (v2 fMod (.pd (v1 fInt (.pk 4))) (.pd (vC (.int 1000003))))) (.pd (vC (.int 7919))))) (.pd (v2 fFdv (.pk 4) (.pd (vC (.int 1009))))))))) (.pd (vC (.int 1000)))))]))
def w2__law_numbers  : VSt :=
  vFor (iR1 (vC (.int 9))) (bName 3) (vSeq (vSet 4 (v2 fMod (.pd (v1 fInt (.pd (v2 fAdd (.pd (v2 fAdd (.pd (v2 fMulV (.pk 4) (.pd (vC (.int 69621))))) (.pd (v2 fMulV (.pd (vC (.int 7))) (.pk 3))))) (.pd (vC (.int 1))))))) (.pd (vC (.int 2147483647)))))
    (b105__law_numbers ))
def b107__law_numbers  : VSt :=
  (w2__law_numbers )
def q2__law_numbers  : VSt :=
  (vSeq (vSet 4 (v2 fMod (.pd (v1 fInt (.pd (v2 fAdd (.pd (v2 fMulV (.pk 2) (.pd (vC (.int 48271))))) (.pd (vC (.int 11))))))) (.pd (vC (.int 2147483647)))))
    (b107__law_numbers ))
def w3__law_numbers  : VSt :=
  vFor (iL (v2 fSlU (.pk 0) (.pd (vC (.int 63))))) (bName 2) (vIfS (vB (v2 fGe (.pk 2) (.pd (v2 fPow (.pd (vC (.int 10))) (.pd (vC (.int 18))))))) (w1__law_numbers ) (q2__law_numbers ))
def b4__law_numbers  : VSt :=
  (vRet (vMv 1))
def b3__law_numbers  : VSt :=
  (vSeq (vDrp (vMet (.pk 1) mReverse []))
    (b4__law_numbers ))
def b2__law_numbers  : VSt :=
  (vSeq (vSet 1 (v2 fSlU (.pk 1) (.pd (vC (.int 300)))))
    (b3__law_numbers ))
def b1__law_numbers  : VSt :=
  (vSeq (w3__law_numbers )
    (b2__law_numbers ))
def t__law_numbers  : VSt :=
  (vSeq (vSet 1 (vLst vNil))
    (b1__law_numbers ))
/-! ### _law_pick -/
/- N ['feed', 'many'] -/
def t__law_pick  : VSt :=
  (vSeq (vIfS (vB (w2 fEq (.pd (w1 fLen (.pk 0))) (.pd (vC (.int 0))))) (vRet (vC (.int 0))) vEnd)
    (vRet (v2 fMod (.pd (v1 fInt (.pd (vMet (.pk 0) mPop [])))) (.pk 1))))
/-! ### _law_wrap -/
/- N ['number'] -/
def t__law_wrap  : VSt :=
  (vRet (v2 fSub (.pd (v2 fMod (.pd (v1 fInt (.pd (v2 fAdd (.pk 0) (.pd (vC (.int 2147483648))))))) (.pd (vC (.int 4294967296))))) (.pd (vC (.int 2147483648)))))
/-! ### _law_number -/
/- N ['feed', 'kind', 'edges', 'number'] -/
def t__law_number (s__law_pick : SemG) (s__law_wrap : SemG) : VSt :=
  (vSeq (vSet 1 (vCal s__law_pick [.ln 0, .pd (vC (.int 4))]))
    (vSeq (vIfS (vB (w2 fEq (.pk 1) (.pd (vC (.int 0))))) (vRet (v2 fSub (.pd (vCal s__law_pick [.ln 0, .pd (vC (.int 10))])) (.pd (vC (.int 3))))) vEnd)
    (vSeq (vIfS (vB (w2 fEq (.pk 1) (.pd (vC (.int 1))))) (vSeq (vSet 2 (vLst (vCons (vC (.int 0)) (vCons (vC (.int 1)) (vCons (v1 fNeg (.pd (vC (.int 1)))) (vCons (vC (.int 2147483647)) (vCons (v1 fNeg (.pd (vC (.int 2147483648)))) (vCons (vC (.int 524287)) (vCons (vC (.int 524288)) (vCons (v1 fNeg (.pd (vC (.int 524288)))) (vCons (v1 fNeg (.pd (vC (.int 524289)))) (vCons (vC (.int 65536)) vNil))))))))))))
    (vRet (v2 fIx (.pk 2) (.pd (vCal s__law_pick [.ln 0, .pd (vC (.int 10))]))))) vEnd)
    (vSeq (vSet 3 (v2 fAdd (.pd (vCal s__law_pick [.ln 0, .pd (vC (.int 1000))])) (.pd (v2 fMulV (.pd (vC (.int 1000))) (.pd (vCal s__law_pick [.ln 0, .pd (vC (.int 1000))]))))))
    (vRet (vCal s__law_wrap [.pd (v2 fAdd (.pk 3) (.pd (v2 fMulV (.pd (v2 fPow (.pd (vC (.int 10))) (.pd (vC (.int 6))))) (.pd (v2 fAdd (.pd (vCal s__law_pick [.ln 0, .pd (vC (.int 1000))])) (.pd (v2 fMulV (.pd (vC (.int 1000))) (.pd (vCal s__law_pick [.ln 0, .pd (vC (.int 1000))])))))))))]))))))
/-! ### _law_instruction -/
/- N ['feed', 'pool', 'labels', 'slots', 'kind', 'd', 'a', 'name', 'label'] -/
def q1__law_instruction (s__law_number : SemG) (s__law_pick : SemG) : VSt :=
  (vRet (vTup (vCons (vC (.str (Str.ofString "li"))) (vCons (vV 5) (vCons (vCal s__law_number [.ln 0]) vNil)))))
def q2__law_instruction (s__law_number : SemG) (s__law_pick : SemG) : VSt :=
  (vRet (vTup (vCons (vC (.str (Str.ofString "mov"))) (vCons (vV 5) (vCons (vV 6) vNil)))))
def b103__law_instruction (s__law_number : SemG) (s__law_pick : SemG) : VSt :=
  (vRet (vTup (vCons (vC (.str (Str.ofString "op"))) (vCons (vV 7) (vCons (vV 5) (vCons (vV 6) (vCons (v2 fIx (.pk 1) (.pd (vCal s__law_pick [.ln 0, .pd (w1 fLen (.pk 1))]))) vNil)))))))
def q3__law_instruction (s__law_number : SemG) (s__law_pick : SemG) : VSt :=
  (vSeq (vSet 7 (v2 fIx (.pd (vLst (vCons (vC (.str (Str.ofString "add"))) (vCons (vC (.str (Str.ofString "sub"))) (vCons (vC (.str (Str.ofString "mul"))) (vCons (vC (.str (Str.ofString "less"))) (vCons (vC (.str (Str.ofString "same"))) vNil))))))) (.pd (vCal s__law_pick [.ln 0, .pd (vC (.int 5))]))))
    (b103__law_instruction s__law_number s__law_pick))
def q4__law_instruction (s__law_number : SemG) (s__law_pick : SemG) : VSt :=
  (vRet (vTup (vCons (vC (.str (Str.ofString "ld"))) (vCons (vV 5) (vCons (vCal s__law_pick [.ln 0, .pd (vV 3)]) vNil)))))
def q5__law_instruction (s__law_number : SemG) (s__law_pick : SemG) : VSt :=
  (vRet (vTup (vCons (vC (.str (Str.ofString "st"))) (vCons (vV 6) (vCons (vCal s__law_pick [.ln 0, .pd (vV 3)]) vNil)))))
def q6__law_instruction (s__law_number : SemG) (s__law_pick : SemG) : VSt :=
  (vRet (vTup (vCons (vC (.str (Str.ofString "show"))) (vCons (vV 6) vNil))))
def q7__law_instruction (s__law_number : SemG) (s__law_pick : SemG) : VSt :=
  (vRet (vTup (vCons (vC (.str (Str.ofString "jz"))) (vCons (vV 6) (vCons (vV 8) vNil)))))
def b12__law_instruction (s__law_number : SemG) (s__law_pick : SemG) : VSt :=
  (vRet (vTup (vCons (vC (.str (Str.ofString "jump"))) (vCons (vV 8) vNil))))
def b11__law_instruction (s__law_number : SemG) (s__law_pick : SemG) : VSt :=
  (vSeq (vIfS (vB (w2 fEq (.pd (vCal s__law_pick [.ln 0, .pd (vC (.int 4))])) (.pd (vC (.int 1))))) (vRet (vTup (vCons (vC (.str (Str.ofString "halt"))) vNil))) vEnd)
    (b12__law_instruction s__law_number s__law_pick))
def b10__law_instruction (s__law_number : SemG) (s__law_pick : SemG) : VSt :=
  (vSeq (vIfS (vB (v2 fLt (.pk 4) (.pd (vC (.int 15))))) (q7__law_instruction s__law_number s__law_pick) vEnd)
    (b11__law_instruction s__law_number s__law_pick))
def b9__law_instruction (s__law_number : SemG) (s__law_pick : SemG) : VSt :=
  (vSeq (vSet 8 (v2 fIx (.pk 2) (.pd (vCal s__law_pick [.ln 0, .pd (w1 fLen (.pk 2))]))))
    (b10__law_instruction s__law_number s__law_pick))
def b8__law_instruction (s__law_number : SemG) (s__law_pick : SemG) : VSt :=
  (vSeq (vIfS (vB (v2 fLt (.pk 4) (.pd (vC (.int 13))))) (q6__law_instruction s__law_number s__law_pick) vEnd)
    (b9__law_instruction s__law_number s__law_pick))
def b7__law_instruction (s__law_number : SemG) (s__law_pick : SemG) : VSt :=
  (vSeq (vIfS (vB (w2 fEq (.pk 4) (.pd (vC (.int 10))))) (q5__law_instruction s__law_number s__law_pick) vEnd)
    (b8__law_instruction s__law_number s__law_pick))
def b6__law_instruction (s__law_number : SemG) (s__law_pick : SemG) : VSt :=
  (vSeq (vIfS (vB (w2 fEq (.pk 4) (.pd (vC (.int 9))))) (q4__law_instruction s__law_number s__law_pick) vEnd)
    (b7__law_instruction s__law_number s__law_pick))
def b5__law_instruction (s__law_number : SemG) (s__law_pick : SemG) : VSt :=
  (vSeq (vIfS (vB (v2 fLt (.pk 4) (.pd (vC (.int 9))))) (q3__law_instruction s__law_number s__law_pick) vEnd)
    (b6__law_instruction s__law_number s__law_pick))
def b4__law_instruction (s__law_number : SemG) (s__law_pick : SemG) : VSt :=
  (vSeq (vIfS (vB (v2 fLt (.pk 4) (.pd (vC (.int 5))))) (q2__law_instruction s__law_number s__law_pick) vEnd)
    (b5__law_instruction s__law_number s__law_pick))
def b3__law_instruction (s__law_number : SemG) (s__law_pick : SemG) : VSt :=
  (vSeq (vIfS (vB (v2 fLt (.pk 4) (.pd (vC (.int 3))))) (q1__law_instruction s__law_number s__law_pick) vEnd)
    (b4__law_instruction s__law_number s__law_pick))
def b2__law_instruction (s__law_number : SemG) (s__law_pick : SemG) : VSt :=
  (vSeq (vSet 6 (v2 fIx (.pk 1) (.pd (vCal s__law_pick [.ln 0, .pd (w1 fLen (.pk 1))]))))
    (b3__law_instruction s__law_number s__law_pick))
def b1__law_instruction (s__law_number : SemG) (s__law_pick : SemG) : VSt :=
  (vSeq (vSet 5 (v2 fIx (.pk 1) (.pd (vCal s__law_pick [.ln 0, .pd (w1 fLen (.pk 1))]))))
    (b2__law_instruction s__law_number s__law_pick))
def t__law_instruction (s__law_number : SemG) (s__law_pick : SemG) : VSt :=
  (vSeq (vSet 4 (vCal s__law_pick [.ln 0, .pd (vC (.int 16))]))
    (b1__law_instruction s__law_number s__law_pick))
/-! ### _law_same -/
/- N ['actual', 'due', 'k'] -/
def q1__law_same (s__law_same : SemG) : VSt :=
  (vRet (vAndV (w1 (isT "bool") (.pk 0)) (w2 fEq (.pk 0) (.pk 1))))
def q2__law_same (s__law_same : SemG) : VSt :=
  (vRet (vAndV (w1 (isT "int") (.pk 0)) (vAndV (vNotV (w1 (isT "bool") (.pk 0))) (w2 fEq (.pk 0) (.pk 1)))))
def q3__law_same (s__law_same : SemG) : VSt :=
  (vRet (vAndV (w1 (isT "str") (.pk 0)) (w2 fEq (.pk 0) (.pk 1))))
def w1__law_same (s__law_same : SemG) : VSt :=
  vFor (iR1 (w1 fLen (.pk 1))) (bName 2) (vIfS (vNot (vTru (.pd (vCal s__law_same [.pd (v2 fIx (.pk 0) (.pk 2)), .pd (v2 fIx (.pk 1) (.pk 2))])))) (vRet (vC (.bool false))) vEnd)
def b8__law_same (s__law_same : SemG) : VSt :=
  (vRet (vC (.bool true)))
def b7__law_same (s__law_same : SemG) : VSt :=
  (vSeq (w1__law_same s__law_same)
    (b8__law_same s__law_same))
def b6__law_same (s__law_same : SemG) : VSt :=
  (vSeq (vIfS (vB (w2 fNe (.pd (w1 fLen (.pk 0))) (.pd (w1 fLen (.pk 1))))) (vRet (vC (.bool false))) vEnd)
    (b7__law_same s__law_same))
def b5__law_same (s__law_same : SemG) : VSt :=
  (vSeq (vIfS ((vAnd (vTru (.pd (w1 (isT "tuple") (.pk 1)))) (vNot (vTru (.pd (w1 (isT "tuple") (.pk 0))))))) (vRet (vC (.bool false))) vEnd)
    (b6__law_same s__law_same))
def b4__law_same (s__law_same : SemG) : VSt :=
  (vSeq (vIfS ((vAnd (vTru (.pd (w1 (isT "list") (.pk 1)))) (vNot (vTru (.pd (w1 (isT "list") (.pk 0))))))) (vRet (vC (.bool false))) vEnd)
    (b5__law_same s__law_same))
def b3__law_same (s__law_same : SemG) : VSt :=
  (vSeq (vIfS (vTru (.pd (w1 (isT "str") (.pk 1)))) (q3__law_same s__law_same) vEnd)
    (b4__law_same s__law_same))
def b2__law_same (s__law_same : SemG) : VSt :=
  (vSeq (vIfS (vTru (.pd (w1 (isT "int") (.pk 1)))) (q2__law_same s__law_same) vEnd)
    (b3__law_same s__law_same))
def b1__law_same (s__law_same : SemG) : VSt :=
  (vSeq (vIfS (vTru (.pd (w1 (isT "bool") (.pk 1)))) (q1__law_same s__law_same) vEnd)
    (b2__law_same s__law_same))
def t__law_same (s__law_same : SemG) : VSt :=
  (vSeq (vIfS (vB (w2 fIsN (.pk 1) (.pd (vC .none)))) (vRet (w2 fIsN (.pk 0) (.pd (vC .none)))) vEnd)
    (b1__law_same s__law_same))
end LP

/-! ## LPs -/
set_option Elab.async false
set_option linter.all false
set_option exponentiation.threshold 10000
set_option autoImplicit false
set_option maxRecDepth 100000
set_option maxHeartbeats 8000000
namespace LP
open PySem PySem.Spec PyProof.Rows L2 ML
/-! ### numbers, picks -/
def sm_pick : SemG := fun ins Qd _ => ∃ p ds m, ins = [fd p ds, .sh (.int m)] ∧ inz ds ∧ 0 < m ∧ ∀ r es, inz es → 0 ≤ r → r < m → Qd (.sh (.int r)) [fd p es, .sh (.int m)]
theorem pick {p : Addr} {ds : List D} {m : Int} {Qd : Sl → List Sl → Prop} {Xd : Exn → List Sl → Prop} (h : inz ds) (hm : 0 < m) (k : ∀ r es, inz es → 0 ≤ r → r < m → Qd (.sh (.int r)) [fd p es, .sh (.int m)]) : sm_pick [fd p ds, .sh (.int m)] Qd Xd := ⟨p, ds, m, rfl, h, hm, k⟩
theorem len_s (es : List D) (x : D) : ¬ (((es ++ [x]).length : Nat) : Int) = 0 := by rw [List.length_append]; simp; omega
theorem s_pick {ins : List Sl} {Qd : Sl → List Sl → Prop} {Xd : Exn → List Sl → Prop} (hl : ins.length = 2) (h : sm_pick ins Qd Xd) : t__law_pick (enG 2 Qd Xd) (ini 2 ins) := by
  obtain ⟨p, ds, m, rfl, hi, hm, h1⟩ := h
  rcases inz_last hi with rfl | ⟨es, i, rfl, he⟩
  · simp [-Bool.exists_bool, vSeq, vAsg, vV, vMv, vS, vIfS, vOr, vAnd, vNot, vB, vv1, vv2, vv3, Opr.ev, Opr.fin, Opr.sl, Opr.base, Sl.read, Sl.rd, Sl.ra, Sl.get, Sl.isIn, Sl.ot, Ot.rd, Ot.get, gets_lv, leaves_lv, Sh.data, Sh.root, Rs.to, ↓lv_in, -List.map_map, fst_0, fst_s, ini, List.replicate_succ, enG, bTup, bCons, bName, bNil, inAt, vC, vEnd, vBrk, vCnt, vRaise, fLt, fAdd_int, fGt, fGe, fLe, fSub, fMod, fI, fFdv, cPow, fPow, fMin2, fMax2, fInt, fAbs, fNeg, Option.bind, vRet, vSet, vDrp, vCal, agEv, agIn, agIn1, lns_nil, lns_pd, lns_br, lns_ln, bor_nil, bor_pd, bor_ln, bor_br, out_nil, out_pd, out_br, out_ln, lat_nil, lat_pd, lat_br, lat_ln, keep_fd, ex_pair, keepO_sh, lnAtm_no, agOut_no, Sl.atm, atom_i, atom_s, atom_b, atom_n, atom_k, vCons, vNil, vTup, vLst, vIf, vTru, truD, vNotV, vNotT, flat_fd, vAndV, vOrV, fEq_int, fNe_int, fEq_str, fNe_str, fEq_is, fEq_si, vMet, mvEv, Opr.loc, locAt, Ot.at, Ot.put, Nde.set, append_lv, pop_lv, reverse_lv, insert_lv, vLc_eq, vFor_eq, wipeD, vYes, iR1, iL, iK, vAug, fAug_int, slotInt, fLen_list, ML.isNon, fIsN, fNotN, vIxN, ixLoc, kidQ, ixN, os_inj, ix0, ix1, ix2, ix3, ix4, lx0, lx1, lx2, lx3, fLen_tup, xAnd, xNot, xIs, vTry, enX, keepO, Ot.root, Ot.rd, fInt, vTry0, isB_n, isB_b, isB_i, isB_s, isB_l, isB_t, isI_n, isI_b, isI_i, isI_s, isI_l, isI_t, isS_n, isS_b, isS_i, isS_s, isS_l, isS_t, isL_n, isL_b, isL_i, isL_s, isL_l, isL_t, isT_n, isT_b, isT_i, isT_s, isT_l, isT_t, plc, Sh.pos, Sh.root, vLstO, ots, t__law_pick]
    exact h1 0 [] hi (by omega) hm
  · have h2 := h1 (i % m) es he (Int.emod_nonneg _ (by omega)) (Int.emod_lt_of_pos _ hm)
    have hl0 : ¬ ((es.length : Int) + 1 = 0) := by omega
    simp [-Bool.exists_bool, vSeq, vAsg, vV, vMv, vS, vIfS, vOr, vAnd, vNot, vB, vv1, vv2, vv3, Opr.ev, Opr.fin, Opr.sl, Opr.base, Sl.read, Sl.rd, Sl.ra, Sl.get, Sl.isIn, Sl.ot, Ot.rd, Ot.get, gets_lv, leaves_lv, Sh.data, Sh.root, Rs.to, ↓lv_in, -List.map_map, fst_0, fst_s, ini, List.replicate_succ, enG, bTup, bCons, bName, bNil, inAt, vC, vEnd, vBrk, vCnt, vRaise, fLt, fAdd_int, fGt, fGe, fLe, fSub, fMod, fI, fFdv, cPow, fPow, fMin2, fMax2, fInt, fAbs, fNeg, Option.bind, vRet, vSet, vDrp, vCal, agEv, agIn, agIn1, lns_nil, lns_pd, lns_br, lns_ln, bor_nil, bor_pd, bor_ln, bor_br, out_nil, out_pd, out_br, out_ln, lat_nil, lat_pd, lat_br, lat_ln, keep_fd, ex_pair, keepO_sh, lnAtm_no, agOut_no, Sl.atm, atom_i, atom_s, atom_b, atom_n, atom_k, vCons, vNil, vTup, vLst, vIf, vTru, truD, vNotV, vNotT, flat_fd, vAndV, vOrV, fEq_int, fNe_int, fEq_str, fNe_str, fEq_is, fEq_si, vMet, mvEv, Opr.loc, locAt, Ot.at, Ot.put, Nde.set, append_lv, pop_lv, reverse_lv, insert_lv, vLc_eq, vFor_eq, wipeD, vYes, iR1, iL, iK, vAug, fAug_int, slotInt, fLen_list, ML.isNon, fIsN, fNotN, vIxN, ixLoc, kidQ, ixN, os_inj, ix0, ix1, ix2, ix3, ix4, lx0, lx1, lx2, lx3, fLen_tup, xAnd, xNot, xIs, vTry, enX, keepO, Ot.root, Ot.rd, fInt, vTry0, isB_n, isB_b, isB_i, isB_s, isB_l, isB_t, isI_n, isI_b, isI_i, isI_s, isI_l, isI_t, isS_n, isS_b, isS_i, isS_s, isS_l, isS_t, isL_n, isL_b, isL_i, isL_s, isL_l, isL_t, isT_n, isT_b, isT_i, isT_s, isT_l, isT_t, plc, Sh.pos, Sh.root, vLstO, ots, t__law_pick, hl0, hm]
    exact h2
def rg32 (i : Int) : Prop := -2147483648 ≤ i ∧ i ≤ 2147483647
def wr (n : Int) : Int := (n + 2147483648) % 4294967296 - 2147483648
theorem rg_wr (n : Int) : rg32 (wr n) := by unfold rg32 wr; omega
def sm_wrap : SemG := semV fun ds Qd _ => ∃ n, ds = [.int n] ∧ Qd (.sh (.int (wr n)))
theorem s_wrap {ins : List Sl} {Qd : Sl → List Sl → Prop} {Xd : Exn → List Sl → Prop} (hl : ins.length = 1) (h : sm_wrap ins Qd Xd) : t__law_wrap (enG 1 Qd Xd) (ini 1 ins) := by
  obtain ⟨_, rfl, n, rfl, h1⟩ := h
  simp [-Bool.exists_bool, vSeq, vAsg, vV, vMv, vS, vIfS, vOr, vAnd, vNot, vB, vv1, vv2, vv3, Opr.ev, Opr.fin, Opr.sl, Opr.base, Sl.read, Sl.rd, Sl.ra, Sl.get, Sl.isIn, Sl.ot, Ot.rd, Ot.get, gets_lv, leaves_lv, Sh.data, Sh.root, Rs.to, ↓lv_in, -List.map_map, fst_0, fst_s, ini, List.replicate_succ, enG, bTup, bCons, bName, bNil, inAt, vC, vEnd, vBrk, vCnt, vRaise, fLt, fAdd_int, fGt, fGe, fLe, fSub, fMod, fI, fFdv, cPow, fPow, fMin2, fMax2, fInt, fAbs, fNeg, Option.bind, vRet, vSet, vDrp, vCal, agEv, agIn, agIn1, lns_nil, lns_pd, lns_br, lns_ln, bor_nil, bor_pd, bor_ln, bor_br, out_nil, out_pd, out_br, out_ln, lat_nil, lat_pd, lat_br, lat_ln, keep_fd, ex_pair, keepO_sh, lnAtm_no, agOut_no, Sl.atm, atom_i, atom_s, atom_b, atom_n, atom_k, vCons, vNil, vTup, vLst, vIf, vTru, truD, vNotV, vNotT, flat_fd, vAndV, vOrV, fEq_int, fNe_int, fEq_str, fNe_str, fEq_is, fEq_si, vMet, mvEv, Opr.loc, locAt, Ot.at, Ot.put, Nde.set, append_lv, pop_lv, reverse_lv, insert_lv, vLc_eq, vFor_eq, wipeD, vYes, iR1, iL, iK, vAug, fAug_int, slotInt, fLen_list, ML.isNon, fIsN, fNotN, vIxN, ixLoc, kidQ, ixN, os_inj, ix0, ix1, ix2, ix3, ix4, lx0, lx1, lx2, lx3, fLen_tup, xAnd, xNot, xIs, vTry, enX, keepO, Ot.root, Ot.rd, fInt, vTry0, isB_n, isB_b, isB_i, isB_s, isB_l, isB_t, isI_n, isI_b, isI_i, isI_s, isI_l, isI_t, isS_n, isS_b, isS_i, isS_s, isS_l, isS_t, isL_n, isL_b, isL_i, isL_s, isL_l, isL_t, isT_n, isT_b, isT_i, isT_s, isT_l, isT_t, plc, Sh.pos, Sh.root, vLstO, ots, t__law_wrap]
  exact h1 _
def sm_num : SemG := fun ins Qd _ => ∃ p ds, ins = [fd p ds] ∧ inz ds ∧ ∀ r es, rg32 r → inz es → Qd (.sh (.int r)) [fd p es]
theorem s_num {ins : List Sl} {Qd : Sl → List Sl → Prop} {Xd : Exn → List Sl → Prop} (hl : ins.length = 1) (h : sm_num ins Qd Xd) : t__law_number sm_pick sm_wrap (enG 1 Qd Xd) (ini 4 ins) := by
  obtain ⟨p, ds, rfl, hi, h1⟩ := h
  have m1 : ∀ b, fMulV (.int 1000) (.int b) = some (.sh (.int (1000 * b))) := fun b => mul_ok _ _ (by decide)
  have m2 : ∀ b, fMulV (.int (10 ^ 6)) (.int b) = some (.sh (.int (10 ^ 6 * b))) := fun b => mul_ok _ _ (by decide)
  have m3 : ∀ b, fMulV (.int 1000000) (.int b) = some (.sh (.int (1000000 * b))) := fun b => mul_ok _ _ (by decide)
  simp [-Bool.exists_bool, vSeq, vAsg, vV, vMv, vS, vIfS, vOr, vAnd, vNot, vB, vv1, vv2, vv3, Opr.ev, Opr.fin, Opr.sl, Opr.base, Sl.read, Sl.rd, Sl.ra, Sl.get, Sl.isIn, Sl.ot, Ot.rd, Ot.get, gets_lv, leaves_lv, Sh.data, Sh.root, Rs.to, ↓lv_in, -List.map_map, fst_0, fst_s, ini, List.replicate_succ, enG, bTup, bCons, bName, bNil, inAt, vC, vEnd, vBrk, vCnt, vRaise, fLt, fAdd_int, fGt, fGe, fLe, fSub, fMod, fI, fFdv, cPow, fPow, fMin2, fMax2, fInt, fAbs, fNeg, Option.bind, vRet, vSet, vDrp, vCal, agEv, agIn, agIn1, lns_nil, lns_pd, lns_br, lns_ln, bor_nil, bor_pd, bor_ln, bor_br, out_nil, out_pd, out_br, out_ln, lat_nil, lat_pd, lat_br, lat_ln, keep_fd, ex_pair, keepO_sh, lnAtm_no, agOut_no, Sl.atm, atom_i, atom_s, atom_b, atom_n, atom_k, vCons, vNil, vTup, vLst, vIf, vTru, truD, vNotV, vNotT, flat_fd, vAndV, vOrV, fEq_int, fNe_int, fEq_str, fNe_str, fEq_is, fEq_si, vMet, mvEv, Opr.loc, locAt, Ot.at, Ot.put, Nde.set, append_lv, pop_lv, reverse_lv, insert_lv, vLc_eq, vFor_eq, wipeD, vYes, iR1, iL, iK, vAug, fAug_int, slotInt, fLen_list, ML.isNon, fIsN, fNotN, vIxN, ixLoc, kidQ, ixN, os_inj, ix0, ix1, ix2, ix3, ix4, lx0, lx1, lx2, lx3, fLen_tup, xAnd, xNot, xIs, vTry, enX, keepO, Ot.root, Ot.rd, fInt, vTry0, isB_n, isB_b, isB_i, isB_s, isB_l, isB_t, isI_n, isI_b, isI_i, isI_s, isI_l, isI_t, isS_n, isS_b, isS_i, isS_s, isS_l, isS_t, isL_n, isL_b, isL_i, isL_s, isL_l, isL_t, isT_n, isT_b, isT_i, isT_s, isT_l, isT_t, plc, Sh.pos, Sh.root, vLstO, ots, t__law_number]
  refine pick hi (by omega) fun k d1 i1 k0 k1 => ?_
  simp [-Bool.exists_bool, vSeq, vAsg, vV, vMv, vS, vIfS, vOr, vAnd, vNot, vB, vv1, vv2, vv3, Opr.ev, Opr.fin, Opr.sl, Opr.base, Sl.read, Sl.rd, Sl.ra, Sl.get, Sl.isIn, Sl.ot, Ot.rd, Ot.get, gets_lv, leaves_lv, Sh.data, Sh.root, Rs.to, ↓lv_in, -List.map_map, fst_0, fst_s, ini, List.replicate_succ, enG, bTup, bCons, bName, bNil, inAt, vC, vEnd, vBrk, vCnt, vRaise, fLt, fAdd_int, fGt, fGe, fLe, fSub, fMod, fI, fFdv, cPow, fPow, fMin2, fMax2, fInt, fAbs, fNeg, Option.bind, vRet, vSet, vDrp, vCal, agEv, agIn, agIn1, lns_nil, lns_pd, lns_br, lns_ln, bor_nil, bor_pd, bor_ln, bor_br, out_nil, out_pd, out_br, out_ln, lat_nil, lat_pd, lat_br, lat_ln, keep_fd, ex_pair, keepO_sh, lnAtm_no, agOut_no, Sl.atm, atom_i, atom_s, atom_b, atom_n, atom_k, vCons, vNil, vTup, vLst, vIf, vTru, truD, vNotV, vNotT, flat_fd, vAndV, vOrV, fEq_int, fNe_int, fEq_str, fNe_str, fEq_is, fEq_si, vMet, mvEv, Opr.loc, locAt, Ot.at, Ot.put, Nde.set, append_lv, pop_lv, reverse_lv, insert_lv, vLc_eq, vFor_eq, wipeD, vYes, iR1, iL, iK, vAug, fAug_int, slotInt, fLen_list, ML.isNon, fIsN, fNotN, vIxN, ixLoc, kidQ, ixN, os_inj, ix0, ix1, ix2, ix3, ix4, lx0, lx1, lx2, lx3, fLen_tup, xAnd, xNot, xIs, vTry, enX, keepO, Ot.root, Ot.rd, fInt, vTry0, isB_n, isB_b, isB_i, isB_s, isB_l, isB_t, isI_n, isI_b, isI_i, isI_s, isI_l, isI_t, isS_n, isS_b, isS_i, isS_s, isS_l, isS_t, isL_n, isL_b, isL_i, isL_s, isL_l, isL_t, isT_n, isT_b, isT_i, isT_s, isT_l, isT_t, plc, Sh.pos, Sh.root, vLstO, ots]
  by_cases c0 : k = 0
  · subst c0
    simp [-Bool.exists_bool, vSeq, vAsg, vV, vMv, vS, vIfS, vOr, vAnd, vNot, vB, vv1, vv2, vv3, Opr.ev, Opr.fin, Opr.sl, Opr.base, Sl.read, Sl.rd, Sl.ra, Sl.get, Sl.isIn, Sl.ot, Ot.rd, Ot.get, gets_lv, leaves_lv, Sh.data, Sh.root, Rs.to, ↓lv_in, -List.map_map, fst_0, fst_s, ini, List.replicate_succ, enG, bTup, bCons, bName, bNil, inAt, vC, vEnd, vBrk, vCnt, vRaise, fLt, fAdd_int, fGt, fGe, fLe, fSub, fMod, fI, fFdv, cPow, fPow, fMin2, fMax2, fInt, fAbs, fNeg, Option.bind, vRet, vSet, vDrp, vCal, agEv, agIn, agIn1, lns_nil, lns_pd, lns_br, lns_ln, bor_nil, bor_pd, bor_ln, bor_br, out_nil, out_pd, out_br, out_ln, lat_nil, lat_pd, lat_br, lat_ln, keep_fd, ex_pair, keepO_sh, lnAtm_no, agOut_no, Sl.atm, atom_i, atom_s, atom_b, atom_n, atom_k, vCons, vNil, vTup, vLst, vIf, vTru, truD, vNotV, vNotT, flat_fd, vAndV, vOrV, fEq_int, fNe_int, fEq_str, fNe_str, fEq_is, fEq_si, vMet, mvEv, Opr.loc, locAt, Ot.at, Ot.put, Nde.set, append_lv, pop_lv, reverse_lv, insert_lv, vLc_eq, vFor_eq, wipeD, vYes, iR1, iL, iK, vAug, fAug_int, slotInt, fLen_list, ML.isNon, fIsN, fNotN, vIxN, ixLoc, kidQ, ixN, os_inj, ix0, ix1, ix2, ix3, ix4, lx0, lx1, lx2, lx3, fLen_tup, xAnd, xNot, xIs, vTry, enX, keepO, Ot.root, Ot.rd, fInt, vTry0, isB_n, isB_b, isB_i, isB_s, isB_l, isB_t, isI_n, isI_b, isI_i, isI_s, isI_l, isI_t, isS_n, isS_b, isS_i, isS_s, isS_l, isS_t, isL_n, isL_b, isL_i, isL_s, isL_l, isL_t, isT_n, isT_b, isT_i, isT_s, isT_l, isT_t, plc, Sh.pos, Sh.root, vLstO, ots]
    refine pick i1 (by omega) fun r d2 i2 r0 r1 => ?_
    simp [-Bool.exists_bool, vSeq, vAsg, vV, vMv, vS, vIfS, vOr, vAnd, vNot, vB, vv1, vv2, vv3, Opr.ev, Opr.fin, Opr.sl, Opr.base, Sl.read, Sl.rd, Sl.ra, Sl.get, Sl.isIn, Sl.ot, Ot.rd, Ot.get, gets_lv, leaves_lv, Sh.data, Sh.root, Rs.to, ↓lv_in, -List.map_map, fst_0, fst_s, ini, List.replicate_succ, enG, bTup, bCons, bName, bNil, inAt, vC, vEnd, vBrk, vCnt, vRaise, fLt, fAdd_int, fGt, fGe, fLe, fSub, fMod, fI, fFdv, cPow, fPow, fMin2, fMax2, fInt, fAbs, fNeg, Option.bind, vRet, vSet, vDrp, vCal, agEv, agIn, agIn1, lns_nil, lns_pd, lns_br, lns_ln, bor_nil, bor_pd, bor_ln, bor_br, out_nil, out_pd, out_br, out_ln, lat_nil, lat_pd, lat_br, lat_ln, keep_fd, ex_pair, keepO_sh, lnAtm_no, agOut_no, Sl.atm, atom_i, atom_s, atom_b, atom_n, atom_k, vCons, vNil, vTup, vLst, vIf, vTru, truD, vNotV, vNotT, flat_fd, vAndV, vOrV, fEq_int, fNe_int, fEq_str, fNe_str, fEq_is, fEq_si, vMet, mvEv, Opr.loc, locAt, Ot.at, Ot.put, Nde.set, append_lv, pop_lv, reverse_lv, insert_lv, vLc_eq, vFor_eq, wipeD, vYes, iR1, iL, iK, vAug, fAug_int, slotInt, fLen_list, ML.isNon, fIsN, fNotN, vIxN, ixLoc, kidQ, ixN, os_inj, ix0, ix1, ix2, ix3, ix4, lx0, lx1, lx2, lx3, fLen_tup, xAnd, xNot, xIs, vTry, enX, keepO, Ot.root, Ot.rd, fInt, vTry0, isB_n, isB_b, isB_i, isB_s, isB_l, isB_t, isI_n, isI_b, isI_i, isI_s, isI_l, isI_t, isS_n, isS_b, isS_i, isS_s, isS_l, isS_t, isL_n, isL_b, isL_i, isL_s, isL_l, isL_t, isT_n, isT_b, isT_i, isT_s, isT_l, isT_t, plc, Sh.pos, Sh.root, vLstO, ots]
    exact h1 _ _ (by unfold rg32; omega) i2
  · by_cases c1 : k = 1
    · subst c1
      simp [-Bool.exists_bool, vSeq, vAsg, vV, vMv, vS, vIfS, vOr, vAnd, vNot, vB, vv1, vv2, vv3, Opr.ev, Opr.fin, Opr.sl, Opr.base, Sl.read, Sl.rd, Sl.ra, Sl.get, Sl.isIn, Sl.ot, Ot.rd, Ot.get, gets_lv, leaves_lv, Sh.data, Sh.root, Rs.to, ↓lv_in, -List.map_map, fst_0, fst_s, ini, List.replicate_succ, enG, bTup, bCons, bName, bNil, inAt, vC, vEnd, vBrk, vCnt, vRaise, fLt, fAdd_int, fGt, fGe, fLe, fSub, fMod, fI, fFdv, cPow, fPow, fMin2, fMax2, fInt, fAbs, fNeg, Option.bind, vRet, vSet, vDrp, vCal, agEv, agIn, agIn1, lns_nil, lns_pd, lns_br, lns_ln, bor_nil, bor_pd, bor_ln, bor_br, out_nil, out_pd, out_br, out_ln, lat_nil, lat_pd, lat_br, lat_ln, keep_fd, ex_pair, keepO_sh, lnAtm_no, agOut_no, Sl.atm, atom_i, atom_s, atom_b, atom_n, atom_k, vCons, vNil, vTup, vLst, vIf, vTru, truD, vNotV, vNotT, flat_fd, vAndV, vOrV, fEq_int, fNe_int, fEq_str, fNe_str, fEq_is, fEq_si, vMet, mvEv, Opr.loc, locAt, Ot.at, Ot.put, Nde.set, append_lv, pop_lv, reverse_lv, insert_lv, vLc_eq, vFor_eq, wipeD, vYes, iR1, iL, iK, vAug, fAug_int, slotInt, fLen_list, ML.isNon, fIsN, fNotN, vIxN, ixLoc, kidQ, ixN, os_inj, ix0, ix1, ix2, ix3, ix4, lx0, lx1, lx2, lx3, fLen_tup, xAnd, xNot, xIs, vTry, enX, keepO, Ot.root, Ot.rd, fInt, vTry0, isB_n, isB_b, isB_i, isB_s, isB_l, isB_t, isI_n, isI_b, isI_i, isI_s, isI_l, isI_t, isS_n, isS_b, isS_i, isS_s, isS_l, isS_t, isL_n, isL_b, isL_i, isL_s, isL_l, isL_t, isT_n, isT_b, isT_i, isT_s, isT_l, isT_t, plc, Sh.pos, Sh.root, vLstO, ots]
      intro q
      refine pick i1 (by omega) fun r d2 i2 r0 r1 => ?_
      obtain ⟨z, hz, hr⟩ : ∃ z, L2.atI [PyData.int 0, .int 1, .int (-1), .int 2147483647, .int (-2147483648), .int 524287, .int 524288, .int (-524288), .int (-524289), .int 65536] r = some (.int z) ∧ rg32 z := by
        have : r = 0 ∨ r = 1 ∨ r = 2 ∨ r = 3 ∨ r = 4 ∨ r = 5 ∨ r = 6 ∨ r = 7 ∨ r = 8 ∨ r = 9 := by omega
        rcases this with rfl | rfl | rfl | rfl | rfl | rfl | rfl | rfl | rfl | rfl <;> exact ⟨_, rfl, by unfold rg32; omega⟩
      have hx : fIx (.list [.int 0, .int 1, .int (-1), .int 2147483647, .int (-2147483648), .int 524287, .int 524288, .int (-524288), .int (-524289), .int 65536]) (.int r) = some (.sh (.int z)) := by
        show (L2.atI _ r).map Rs.sh = _
        rw [hz]; rfl
      simp [-Bool.exists_bool, vSeq, vAsg, vV, vMv, vS, vIfS, vOr, vAnd, vNot, vB, vv1, vv2, vv3, Opr.ev, Opr.fin, Opr.sl, Opr.base, Sl.read, Sl.rd, Sl.ra, Sl.get, Sl.isIn, Sl.ot, Ot.rd, Ot.get, gets_lv, leaves_lv, Sh.data, Sh.root, Rs.to, ↓lv_in, -List.map_map, fst_0, fst_s, ini, List.replicate_succ, enG, bTup, bCons, bName, bNil, inAt, vC, vEnd, vBrk, vCnt, vRaise, fLt, fAdd_int, fGt, fGe, fLe, fSub, fMod, fI, fFdv, cPow, fPow, fMin2, fMax2, fInt, fAbs, fNeg, Option.bind, vRet, vSet, vDrp, vCal, agEv, agIn, agIn1, lns_nil, lns_pd, lns_br, lns_ln, bor_nil, bor_pd, bor_ln, bor_br, out_nil, out_pd, out_br, out_ln, lat_nil, lat_pd, lat_br, lat_ln, keep_fd, ex_pair, keepO_sh, lnAtm_no, agOut_no, Sl.atm, atom_i, atom_s, atom_b, atom_n, atom_k, vCons, vNil, vTup, vLst, vIf, vTru, truD, vNotV, vNotT, flat_fd, vAndV, vOrV, fEq_int, fNe_int, fEq_str, fNe_str, fEq_is, fEq_si, vMet, mvEv, Opr.loc, locAt, Ot.at, Ot.put, Nde.set, append_lv, pop_lv, reverse_lv, insert_lv, vLc_eq, vFor_eq, wipeD, vYes, iR1, iL, iK, vAug, fAug_int, slotInt, fLen_list, ML.isNon, fIsN, fNotN, vIxN, ixLoc, kidQ, ixN, os_inj, ix0, ix1, ix2, ix3, ix4, lx0, lx1, lx2, lx3, fLen_tup, xAnd, xNot, xIs, vTry, enX, keepO, Ot.root, Ot.rd, fInt, vTry0, isB_n, isB_b, isB_i, isB_s, isB_l, isB_t, isI_n, isI_b, isI_i, isI_s, isI_l, isI_t, isS_n, isS_b, isS_i, isS_s, isS_l, isS_t, isL_n, isL_b, isL_i, isL_s, isL_l, isL_t, isT_n, isT_b, isT_i, isT_s, isT_l, isT_t, plc, Sh.pos, Sh.root, vLstO, ots, hx]
      exact h1 _ _ hr i2
    · simp [-Bool.exists_bool, vSeq, vAsg, vV, vMv, vS, vIfS, vOr, vAnd, vNot, vB, vv1, vv2, vv3, Opr.ev, Opr.fin, Opr.sl, Opr.base, Sl.read, Sl.rd, Sl.ra, Sl.get, Sl.isIn, Sl.ot, Ot.rd, Ot.get, gets_lv, leaves_lv, Sh.data, Sh.root, Rs.to, ↓lv_in, -List.map_map, fst_0, fst_s, ini, List.replicate_succ, enG, bTup, bCons, bName, bNil, inAt, vC, vEnd, vBrk, vCnt, vRaise, fLt, fAdd_int, fGt, fGe, fLe, fSub, fMod, fI, fFdv, cPow, fPow, fMin2, fMax2, fInt, fAbs, fNeg, Option.bind, vRet, vSet, vDrp, vCal, agEv, agIn, agIn1, lns_nil, lns_pd, lns_br, lns_ln, bor_nil, bor_pd, bor_ln, bor_br, out_nil, out_pd, out_br, out_ln, lat_nil, lat_pd, lat_br, lat_ln, keep_fd, ex_pair, keepO_sh, lnAtm_no, agOut_no, Sl.atm, atom_i, atom_s, atom_b, atom_n, atom_k, vCons, vNil, vTup, vLst, vIf, vTru, truD, vNotV, vNotT, flat_fd, vAndV, vOrV, fEq_int, fNe_int, fEq_str, fNe_str, fEq_is, fEq_si, vMet, mvEv, Opr.loc, locAt, Ot.at, Ot.put, Nde.set, append_lv, pop_lv, reverse_lv, insert_lv, vLc_eq, vFor_eq, wipeD, vYes, iR1, iL, iK, vAug, fAug_int, slotInt, fLen_list, ML.isNon, fIsN, fNotN, vIxN, ixLoc, kidQ, ixN, os_inj, ix0, ix1, ix2, ix3, ix4, lx0, lx1, lx2, lx3, fLen_tup, xAnd, xNot, xIs, vTry, enX, keepO, Ot.root, Ot.rd, fInt, vTry0, isB_n, isB_b, isB_i, isB_s, isB_l, isB_t, isI_n, isI_b, isI_i, isI_s, isI_l, isI_t, isS_n, isS_b, isS_i, isS_s, isS_l, isS_t, isL_n, isL_b, isL_i, isL_s, isL_l, isL_t, isT_n, isT_b, isT_i, isT_s, isT_l, isT_t, plc, Sh.pos, Sh.root, vLstO, ots, c0, c1]
      refine pick i1 (by omega) fun a d2 i2 _ _ => ?_
      simp [-Bool.exists_bool, vSeq, vAsg, vV, vMv, vS, vIfS, vOr, vAnd, vNot, vB, vv1, vv2, vv3, Opr.ev, Opr.fin, Opr.sl, Opr.base, Sl.read, Sl.rd, Sl.ra, Sl.get, Sl.isIn, Sl.ot, Ot.rd, Ot.get, gets_lv, leaves_lv, Sh.data, Sh.root, Rs.to, ↓lv_in, -List.map_map, fst_0, fst_s, ini, List.replicate_succ, enG, bTup, bCons, bName, bNil, inAt, vC, vEnd, vBrk, vCnt, vRaise, fLt, fAdd_int, fGt, fGe, fLe, fSub, fMod, fI, fFdv, cPow, fPow, fMin2, fMax2, fInt, fAbs, fNeg, Option.bind, vRet, vSet, vDrp, vCal, agEv, agIn, agIn1, lns_nil, lns_pd, lns_br, lns_ln, bor_nil, bor_pd, bor_ln, bor_br, out_nil, out_pd, out_br, out_ln, lat_nil, lat_pd, lat_br, lat_ln, keep_fd, ex_pair, keepO_sh, lnAtm_no, agOut_no, Sl.atm, atom_i, atom_s, atom_b, atom_n, atom_k, vCons, vNil, vTup, vLst, vIf, vTru, truD, vNotV, vNotT, flat_fd, vAndV, vOrV, fEq_int, fNe_int, fEq_str, fNe_str, fEq_is, fEq_si, vMet, mvEv, Opr.loc, locAt, Ot.at, Ot.put, Nde.set, append_lv, pop_lv, reverse_lv, insert_lv, vLc_eq, vFor_eq, wipeD, vYes, iR1, iL, iK, vAug, fAug_int, slotInt, fLen_list, ML.isNon, fIsN, fNotN, vIxN, ixLoc, kidQ, ixN, os_inj, ix0, ix1, ix2, ix3, ix4, lx0, lx1, lx2, lx3, fLen_tup, xAnd, xNot, xIs, vTry, enX, keepO, Ot.root, Ot.rd, fInt, vTry0, isB_n, isB_b, isB_i, isB_s, isB_l, isB_t, isI_n, isI_b, isI_i, isI_s, isI_l, isI_t, isS_n, isS_b, isS_i, isS_s, isS_l, isS_t, isL_n, isL_b, isL_i, isL_s, isL_l, isL_t, isT_n, isT_b, isT_i, isT_s, isT_l, isT_t, plc, Sh.pos, Sh.root, vLstO, ots]
      refine pick i2 (by omega) fun b d3 i3 _ _ => ?_
      simp [-Bool.exists_bool, vSeq, vAsg, vV, vMv, vS, vIfS, vOr, vAnd, vNot, vB, vv1, vv2, vv3, Opr.ev, Opr.fin, Opr.sl, Opr.base, Sl.read, Sl.rd, Sl.ra, Sl.get, Sl.isIn, Sl.ot, Ot.rd, Ot.get, gets_lv, leaves_lv, Sh.data, Sh.root, Rs.to, ↓lv_in, -List.map_map, fst_0, fst_s, ini, List.replicate_succ, enG, bTup, bCons, bName, bNil, inAt, vC, vEnd, vBrk, vCnt, vRaise, fLt, fAdd_int, fGt, fGe, fLe, fSub, fMod, fI, fFdv, cPow, fPow, fMin2, fMax2, fInt, fAbs, fNeg, Option.bind, vRet, vSet, vDrp, vCal, agEv, agIn, agIn1, lns_nil, lns_pd, lns_br, lns_ln, bor_nil, bor_pd, bor_ln, bor_br, out_nil, out_pd, out_br, out_ln, lat_nil, lat_pd, lat_br, lat_ln, keep_fd, ex_pair, keepO_sh, lnAtm_no, agOut_no, Sl.atm, atom_i, atom_s, atom_b, atom_n, atom_k, vCons, vNil, vTup, vLst, vIf, vTru, truD, vNotV, vNotT, flat_fd, vAndV, vOrV, fEq_int, fNe_int, fEq_str, fNe_str, fEq_is, fEq_si, vMet, mvEv, Opr.loc, locAt, Ot.at, Ot.put, Nde.set, append_lv, pop_lv, reverse_lv, insert_lv, vLc_eq, vFor_eq, wipeD, vYes, iR1, iL, iK, vAug, fAug_int, slotInt, fLen_list, ML.isNon, fIsN, fNotN, vIxN, ixLoc, kidQ, ixN, os_inj, ix0, ix1, ix2, ix3, ix4, lx0, lx1, lx2, lx3, fLen_tup, xAnd, xNot, xIs, vTry, enX, keepO, Ot.root, Ot.rd, fInt, vTry0, isB_n, isB_b, isB_i, isB_s, isB_l, isB_t, isI_n, isI_b, isI_i, isI_s, isI_l, isI_t, isS_n, isS_b, isS_i, isS_s, isS_l, isS_t, isL_n, isL_b, isL_i, isL_s, isL_l, isL_t, isT_n, isT_b, isT_i, isT_s, isT_l, isT_t, plc, Sh.pos, Sh.root, vLstO, ots, m1]
      refine pick i3 (by omega) fun c d4 i4 _ _ => ?_
      simp [-Bool.exists_bool, vSeq, vAsg, vV, vMv, vS, vIfS, vOr, vAnd, vNot, vB, vv1, vv2, vv3, Opr.ev, Opr.fin, Opr.sl, Opr.base, Sl.read, Sl.rd, Sl.ra, Sl.get, Sl.isIn, Sl.ot, Ot.rd, Ot.get, gets_lv, leaves_lv, Sh.data, Sh.root, Rs.to, ↓lv_in, -List.map_map, fst_0, fst_s, ini, List.replicate_succ, enG, bTup, bCons, bName, bNil, inAt, vC, vEnd, vBrk, vCnt, vRaise, fLt, fAdd_int, fGt, fGe, fLe, fSub, fMod, fI, fFdv, cPow, fPow, fMin2, fMax2, fInt, fAbs, fNeg, Option.bind, vRet, vSet, vDrp, vCal, agEv, agIn, agIn1, lns_nil, lns_pd, lns_br, lns_ln, bor_nil, bor_pd, bor_ln, bor_br, out_nil, out_pd, out_br, out_ln, lat_nil, lat_pd, lat_br, lat_ln, keep_fd, ex_pair, keepO_sh, lnAtm_no, agOut_no, Sl.atm, atom_i, atom_s, atom_b, atom_n, atom_k, vCons, vNil, vTup, vLst, vIf, vTru, truD, vNotV, vNotT, flat_fd, vAndV, vOrV, fEq_int, fNe_int, fEq_str, fNe_str, fEq_is, fEq_si, vMet, mvEv, Opr.loc, locAt, Ot.at, Ot.put, Nde.set, append_lv, pop_lv, reverse_lv, insert_lv, vLc_eq, vFor_eq, wipeD, vYes, iR1, iL, iK, vAug, fAug_int, slotInt, fLen_list, ML.isNon, fIsN, fNotN, vIxN, ixLoc, kidQ, ixN, os_inj, ix0, ix1, ix2, ix3, ix4, lx0, lx1, lx2, lx3, fLen_tup, xAnd, xNot, xIs, vTry, enX, keepO, Ot.root, Ot.rd, fInt, vTry0, isB_n, isB_b, isB_i, isB_s, isB_l, isB_t, isI_n, isI_b, isI_i, isI_s, isI_l, isI_t, isS_n, isS_b, isS_i, isS_s, isS_l, isS_t, isL_n, isL_b, isL_i, isL_s, isL_l, isL_t, isT_n, isT_b, isT_i, isT_s, isT_l, isT_t, plc, Sh.pos, Sh.root, vLstO, ots]
      refine pick i4 (by omega) fun e d5 i5 _ _ => ?_
      simp [-Bool.exists_bool, vSeq, vAsg, vV, vMv, vS, vIfS, vOr, vAnd, vNot, vB, vv1, vv2, vv3, Opr.ev, Opr.fin, Opr.sl, Opr.base, Sl.read, Sl.rd, Sl.ra, Sl.get, Sl.isIn, Sl.ot, Ot.rd, Ot.get, gets_lv, leaves_lv, Sh.data, Sh.root, Rs.to, ↓lv_in, -List.map_map, fst_0, fst_s, ini, List.replicate_succ, enG, bTup, bCons, bName, bNil, inAt, vC, vEnd, vBrk, vCnt, vRaise, fLt, fAdd_int, fGt, fGe, fLe, fSub, fMod, fI, fFdv, cPow, fPow, fMin2, fMax2, fInt, fAbs, fNeg, Option.bind, vRet, vSet, vDrp, vCal, agEv, agIn, agIn1, lns_nil, lns_pd, lns_br, lns_ln, bor_nil, bor_pd, bor_ln, bor_br, out_nil, out_pd, out_br, out_ln, lat_nil, lat_pd, lat_br, lat_ln, keep_fd, ex_pair, keepO_sh, lnAtm_no, agOut_no, Sl.atm, atom_i, atom_s, atom_b, atom_n, atom_k, vCons, vNil, vTup, vLst, vIf, vTru, truD, vNotV, vNotT, flat_fd, vAndV, vOrV, fEq_int, fNe_int, fEq_str, fNe_str, fEq_is, fEq_si, vMet, mvEv, Opr.loc, locAt, Ot.at, Ot.put, Nde.set, append_lv, pop_lv, reverse_lv, insert_lv, vLc_eq, vFor_eq, wipeD, vYes, iR1, iL, iK, vAug, fAug_int, slotInt, fLen_list, ML.isNon, fIsN, fNotN, vIxN, ixLoc, kidQ, ixN, os_inj, ix0, ix1, ix2, ix3, ix4, lx0, lx1, lx2, lx3, fLen_tup, xAnd, xNot, xIs, vTry, enX, keepO, Ot.root, Ot.rd, fInt, vTry0, isB_n, isB_b, isB_i, isB_s, isB_l, isB_t, isI_n, isI_b, isI_i, isI_s, isI_l, isI_t, isS_n, isS_b, isS_i, isS_s, isS_l, isS_t, isL_n, isL_b, isL_i, isL_s, isL_l, isL_t, isT_n, isT_b, isT_i, isT_s, isT_l, isT_t, plc, Sh.pos, Sh.root, vLstO, ots, m1, m2, m3]
      refine ⟨_, rfl, _, rfl, fun outs => ?_⟩
      simp [-Bool.exists_bool, vSeq, vAsg, vV, vMv, vS, vIfS, vOr, vAnd, vNot, vB, vv1, vv2, vv3, Opr.ev, Opr.fin, Opr.sl, Opr.base, Sl.read, Sl.rd, Sl.ra, Sl.get, Sl.isIn, Sl.ot, Ot.rd, Ot.get, gets_lv, leaves_lv, Sh.data, Sh.root, Rs.to, ↓lv_in, -List.map_map, fst_0, fst_s, ini, List.replicate_succ, enG, bTup, bCons, bName, bNil, inAt, vC, vEnd, vBrk, vCnt, vRaise, fLt, fAdd_int, fGt, fGe, fLe, fSub, fMod, fI, fFdv, cPow, fPow, fMin2, fMax2, fInt, fAbs, fNeg, Option.bind, vRet, vSet, vDrp, vCal, agEv, agIn, agIn1, lns_nil, lns_pd, lns_br, lns_ln, bor_nil, bor_pd, bor_ln, bor_br, out_nil, out_pd, out_br, out_ln, lat_nil, lat_pd, lat_br, lat_ln, keep_fd, ex_pair, keepO_sh, lnAtm_no, agOut_no, Sl.atm, atom_i, atom_s, atom_b, atom_n, atom_k, vCons, vNil, vTup, vLst, vIf, vTru, truD, vNotV, vNotT, flat_fd, vAndV, vOrV, fEq_int, fNe_int, fEq_str, fNe_str, fEq_is, fEq_si, vMet, mvEv, Opr.loc, locAt, Ot.at, Ot.put, Nde.set, append_lv, pop_lv, reverse_lv, insert_lv, vLc_eq, vFor_eq, wipeD, vYes, iR1, iL, iK, vAug, fAug_int, slotInt, fLen_list, ML.isNon, fIsN, fNotN, vIxN, ixLoc, kidQ, ixN, os_inj, ix0, ix1, ix2, ix3, ix4, lx0, lx1, lx2, lx3, fLen_tup, xAnd, xNot, xIs, vTry, enX, keepO, Ot.root, Ot.rd, fInt, vTry0, isB_n, isB_b, isB_i, isB_s, isB_l, isB_t, isI_n, isI_b, isI_i, isI_s, isI_l, isI_t, isS_n, isS_b, isS_i, isS_s, isS_l, isS_t, isL_n, isL_b, isL_i, isL_s, isL_l, isL_t, isT_n, isT_b, isT_i, isT_s, isT_l, isT_t, plc, Sh.pos, Sh.root, vLstO, ots]
      exact h1 _ _ (rg_wr _) i5
theorem cd1000 (a : Int) : cDivD a 1000 = true := by
  unfold cDivD; decide
theorem cd1009 (a : Int) : cDivD a 1009 = true := by
  unfold cDivD; decide
theorem slU_l (ds : List D) (h : Int) : fSlU (.list ds) (.int h) = some (.nw (ML.cutD ds none (some h))) := rfl
theorem slU_k (ds : List D) (h : Int) : fSlU (lkD ds) (.int h) = some (.nw (ML.cutD ds none (some h))) := rfl
theorem lw1 {S x y : Sl} {p : Addr} {ds : List D} {c : Int} {E : En} (hi : inz ds) (hl : ds.length ≤ 100000) (K : ∀ es c' x', inz es → es.length ≤ ds.length + 60 → E.nx [S, fd p es, .sh (.int c'), x', y]) :
    w1__law_numbers E [S, fd p ds, .sh (.int c), x, y] := by
  simp [-Bool.exists_bool, vSeq, vAsg, vV, vMv, vS, vIfS, vOr, vAnd, vNot, vB, vv1, vv2, vv3, Opr.ev, Opr.fin, Opr.sl, Opr.base, Sl.read, Sl.rd, Sl.ra, Sl.get, Sl.isIn, Sl.ot, Ot.rd, Ot.get, gets_lv, leaves_lv, Sh.data, Sh.root, Rs.to, ↓lv_in, -List.map_map, fst_0, fst_s, ini, List.replicate_succ, enG, bTup, bCons, bName, bNil, inAt, vC, vEnd, vBrk, vCnt, vRaise, fLt, fAdd_int, fGt, fGe, fLe, fSub, fMod, fI, fFdv, cPow, fPow, fMin2, fMax2, fInt, fAbs, fNeg, Option.bind, vRet, vSet, vDrp, vCal, agEv, agIn, agIn1, lns_nil, lns_pd, lns_br, lns_ln, bor_nil, bor_pd, bor_ln, bor_br, out_nil, out_pd, out_br, out_ln, lat_nil, lat_pd, lat_br, lat_ln, keep_fd, ex_pair, keepO_sh, lnAtm_no, agOut_no, Sl.atm, atom_i, atom_s, atom_b, atom_n, atom_k, vCons, vNil, vTup, vLst, vIf, vTru, truD, vNotV, vNotT, flat_fd, vAndV, vOrV, fEq_int, fNe_int, fEq_str, fNe_str, fEq_is, fEq_si, vMet, mvEv, Opr.loc, locAt, Ot.at, Ot.put, Nde.set, append_lv, pop_lv, reverse_lv, insert_lv, vLc_eq, vFor_eq, wipeD, vYes, iR1, iL, iK, vAug, fAug_int, slotInt, fLen_list, ML.isNon, fIsN, fNotN, vIxN, ixLoc, kidQ, ixN, os_inj, ix0, ix1, ix2, ix3, ix4, lx0, lx1, lx2, lx3, fLen_tup, xAnd, xNot, xIs, vTry, enX, keepO, Ot.root, Ot.rd, fInt, vTry0, isB_n, isB_b, isB_i, isB_s, isB_l, isB_t, isI_n, isI_b, isI_i, isI_s, isI_l, isI_t, isS_n, isS_b, isS_i, isS_s, isS_l, isS_t, isL_n, isL_b, isL_i, isL_s, isL_l, isL_t, isT_n, isT_b, isT_i, isT_s, isT_l, isT_t, plc, Sh.pos, Sh.root, vLstO, ots, w1__law_numbers]
  refine FO_by (fun k δ => ∃ es c' x', inz es ∧ es.length ≤ ds.length + k ∧ δ = [S, fd p es, .sh (.int c'), x', y]) ⟨ds, c, x, hi, by omega, rfl⟩ ?_ ?_
  · rintro k d δ2 hk ⟨es, c', x', h1, h2, rfl⟩
    obtain ⟨hk1, rfl⟩ := rngD_get hk
    have hlt : es.length < 1000000 := by omega
    by_cases hc : 0 < c'
    · simp [-Bool.exists_bool, vSeq, vAsg, vV, vMv, vS, vIfS, vOr, vAnd, vNot, vB, vv1, vv2, vv3, Opr.ev, Opr.fin, Opr.sl, Opr.base, Sl.read, Sl.rd, Sl.ra, Sl.get, Sl.isIn, Sl.ot, Ot.rd, Ot.get, gets_lv, leaves_lv, Sh.data, Sh.root, Rs.to, ↓lv_in, -List.map_map, fst_0, fst_s, ini, List.replicate_succ, enG, bTup, bCons, bName, bNil, inAt, vC, vEnd, vBrk, vCnt, vRaise, fLt, fAdd_int, fGt, fGe, fLe, fSub, fMod, fI, fFdv, cPow, fPow, fMin2, fMax2, fInt, fAbs, fNeg, Option.bind, vRet, vSet, vDrp, vCal, agEv, agIn, agIn1, lns_nil, lns_pd, lns_br, lns_ln, bor_nil, bor_pd, bor_ln, bor_br, out_nil, out_pd, out_br, out_ln, lat_nil, lat_pd, lat_br, lat_ln, keep_fd, ex_pair, keepO_sh, lnAtm_no, agOut_no, Sl.atm, atom_i, atom_s, atom_b, atom_n, atom_k, vCons, vNil, vTup, vLst, vIf, vTru, truD, vNotV, vNotT, flat_fd, vAndV, vOrV, fEq_int, fNe_int, fEq_str, fNe_str, fEq_is, fEq_si, vMet, mvEv, Opr.loc, locAt, Ot.at, Ot.put, Nde.set, append_lv, pop_lv, reverse_lv, insert_lv, vLc_eq, vFor_eq, wipeD, vYes, iR1, iL, iK, vAug, fAug_int, slotInt, fLen_list, ML.isNon, fIsN, fNotN, vIxN, ixLoc, kidQ, ixN, os_inj, ix0, ix1, ix2, ix3, ix4, lx0, lx1, lx2, lx3, fLen_tup, xAnd, xNot, xIs, vTry, enX, keepO, Ot.root, Ot.rd, fInt, vTry0, isB_n, isB_b, isB_i, isB_s, isB_l, isB_t, isI_n, isI_b, isI_i, isI_s, isI_l, isI_t, isS_n, isS_b, isS_i, isS_s, isS_l, isS_t, isL_n, isL_b, isL_i, isL_s, isL_l, isL_t, isT_n, isT_b, isT_i, isT_s, isT_l, isT_t, plc, Sh.pos, Sh.root, vLstO, ots, hc, q1__law_numbers, b101__law_numbers, hlt, cd1000]
      exact ⟨_, inz_snoc h1 _, by rw [List.length_append]; simp; omega, rfl⟩
    · simp [-Bool.exists_bool, vSeq, vAsg, vV, vMv, vS, vIfS, vOr, vAnd, vNot, vB, vv1, vv2, vv3, Opr.ev, Opr.fin, Opr.sl, Opr.base, Sl.read, Sl.rd, Sl.ra, Sl.get, Sl.isIn, Sl.ot, Ot.rd, Ot.get, gets_lv, leaves_lv, Sh.data, Sh.root, Rs.to, ↓lv_in, -List.map_map, fst_0, fst_s, ini, List.replicate_succ, enG, bTup, bCons, bName, bNil, inAt, vC, vEnd, vBrk, vCnt, vRaise, fLt, fAdd_int, fGt, fGe, fLe, fSub, fMod, fI, fFdv, cPow, fPow, fMin2, fMax2, fInt, fAbs, fNeg, Option.bind, vRet, vSet, vDrp, vCal, agEv, agIn, agIn1, lns_nil, lns_pd, lns_br, lns_ln, bor_nil, bor_pd, bor_ln, bor_br, out_nil, out_pd, out_br, out_ln, lat_nil, lat_pd, lat_br, lat_ln, keep_fd, ex_pair, keepO_sh, lnAtm_no, agOut_no, Sl.atm, atom_i, atom_s, atom_b, atom_n, atom_k, vCons, vNil, vTup, vLst, vIf, vTru, truD, vNotV, vNotT, flat_fd, vAndV, vOrV, fEq_int, fNe_int, fEq_str, fNe_str, fEq_is, fEq_si, vMet, mvEv, Opr.loc, locAt, Ot.at, Ot.put, Nde.set, append_lv, pop_lv, reverse_lv, insert_lv, vLc_eq, vFor_eq, wipeD, vYes, iR1, iL, iK, vAug, fAug_int, slotInt, fLen_list, ML.isNon, fIsN, fNotN, vIxN, ixLoc, kidQ, ixN, os_inj, ix0, ix1, ix2, ix3, ix4, lx0, lx1, lx2, lx3, fLen_tup, xAnd, xNot, xIs, vTry, enX, keepO, Ot.root, Ot.rd, fInt, vTry0, isB_n, isB_b, isB_i, isB_s, isB_l, isB_t, isI_n, isI_b, isI_i, isI_s, isI_l, isI_t, isS_n, isS_b, isS_i, isS_s, isS_l, isS_t, isL_n, isL_b, isL_i, isL_s, isL_l, isL_t, isT_n, isT_b, isT_i, isT_s, isT_l, isT_t, plc, Sh.pos, Sh.root, vLstO, ots, hc]
      exact ⟨_, h1, by omega, rfl⟩
  · rintro δ2 ⟨es, c', x', h1, h2, rfl⟩
    rw [rngD_len] at h2
    exact K _ _ _ h1 h2
theorem lw2 {S x c : Sl} {p : Addr} {ds : List D} {y : Int} {E : En} (hi : inz ds) (hl : ds.length ≤ 100000) (K : ∀ es x' y', inz es → es.length ≤ ds.length + 9 → E.nx [S, fd p es, c, x', y']) :
    w2__law_numbers E [S, fd p ds, c, x, .sh (.int y)] := by
  have m1 : ∀ b, fMulV (.int b) (.int 69621) = some (.sh (.int (b * 69621))) := fun b => mul_ok2 _ _ (by decide)
  have m2 : ∀ b, fMulV (.int 7) (.int b) = some (.sh (.int (7 * b))) := fun b => mul_ok _ _ (by decide)
  have m3 : ∀ b, fMulV (.int b) (.int 7919) = some (.sh (.int (b * 7919))) := fun b => mul_ok2 _ _ (by decide)
  simp [-Bool.exists_bool, vSeq, vAsg, vV, vMv, vS, vIfS, vOr, vAnd, vNot, vB, vv1, vv2, vv3, Opr.ev, Opr.fin, Opr.sl, Opr.base, Sl.read, Sl.rd, Sl.ra, Sl.get, Sl.isIn, Sl.ot, Ot.rd, Ot.get, gets_lv, leaves_lv, Sh.data, Sh.root, Rs.to, ↓lv_in, -List.map_map, fst_0, fst_s, ini, List.replicate_succ, enG, bTup, bCons, bName, bNil, inAt, vC, vEnd, vBrk, vCnt, vRaise, fLt, fAdd_int, fGt, fGe, fLe, fSub, fMod, fI, fFdv, cPow, fPow, fMin2, fMax2, fInt, fAbs, fNeg, Option.bind, vRet, vSet, vDrp, vCal, agEv, agIn, agIn1, lns_nil, lns_pd, lns_br, lns_ln, bor_nil, bor_pd, bor_ln, bor_br, out_nil, out_pd, out_br, out_ln, lat_nil, lat_pd, lat_br, lat_ln, keep_fd, ex_pair, keepO_sh, lnAtm_no, agOut_no, Sl.atm, atom_i, atom_s, atom_b, atom_n, atom_k, vCons, vNil, vTup, vLst, vIf, vTru, truD, vNotV, vNotT, flat_fd, vAndV, vOrV, fEq_int, fNe_int, fEq_str, fNe_str, fEq_is, fEq_si, vMet, mvEv, Opr.loc, locAt, Ot.at, Ot.put, Nde.set, append_lv, pop_lv, reverse_lv, insert_lv, vLc_eq, vFor_eq, wipeD, vYes, iR1, iL, iK, vAug, fAug_int, slotInt, fLen_list, ML.isNon, fIsN, fNotN, vIxN, ixLoc, kidQ, ixN, os_inj, ix0, ix1, ix2, ix3, ix4, lx0, lx1, lx2, lx3, fLen_tup, xAnd, xNot, xIs, vTry, enX, keepO, Ot.root, Ot.rd, fInt, vTry0, isB_n, isB_b, isB_i, isB_s, isB_l, isB_t, isI_n, isI_b, isI_i, isI_s, isI_l, isI_t, isS_n, isS_b, isS_i, isS_s, isS_l, isS_t, isL_n, isL_b, isL_i, isL_s, isL_l, isL_t, isT_n, isT_b, isT_i, isT_s, isT_l, isT_t, plc, Sh.pos, Sh.root, vLstO, ots, w2__law_numbers]
  refine FO_by (fun k δ => ∃ es x' y', inz es ∧ es.length ≤ ds.length + k ∧ δ = [S, fd p es, c, x', .sh (.int y')]) ⟨ds, x, y, hi, by omega, rfl⟩ ?_ ?_
  · rintro k d δ2 hk ⟨es, x', y', h1, h2, rfl⟩
    obtain ⟨hk1, rfl⟩ := rngD_get hk
    have hlt : es.length < 1000000 := by omega
    simp [-Bool.exists_bool, vSeq, vAsg, vV, vMv, vS, vIfS, vOr, vAnd, vNot, vB, vv1, vv2, vv3, Opr.ev, Opr.fin, Opr.sl, Opr.base, Sl.read, Sl.rd, Sl.ra, Sl.get, Sl.isIn, Sl.ot, Ot.rd, Ot.get, gets_lv, leaves_lv, Sh.data, Sh.root, Rs.to, ↓lv_in, -List.map_map, fst_0, fst_s, ini, List.replicate_succ, enG, bTup, bCons, bName, bNil, inAt, vC, vEnd, vBrk, vCnt, vRaise, fLt, fAdd_int, fGt, fGe, fLe, fSub, fMod, fI, fFdv, cPow, fPow, fMin2, fMax2, fInt, fAbs, fNeg, Option.bind, vRet, vSet, vDrp, vCal, agEv, agIn, agIn1, lns_nil, lns_pd, lns_br, lns_ln, bor_nil, bor_pd, bor_ln, bor_br, out_nil, out_pd, out_br, out_ln, lat_nil, lat_pd, lat_br, lat_ln, keep_fd, ex_pair, keepO_sh, lnAtm_no, agOut_no, Sl.atm, atom_i, atom_s, atom_b, atom_n, atom_k, vCons, vNil, vTup, vLst, vIf, vTru, truD, vNotV, vNotT, flat_fd, vAndV, vOrV, fEq_int, fNe_int, fEq_str, fNe_str, fEq_is, fEq_si, vMet, mvEv, Opr.loc, locAt, Ot.at, Ot.put, Nde.set, append_lv, pop_lv, reverse_lv, insert_lv, vLc_eq, vFor_eq, wipeD, vYes, iR1, iL, iK, vAug, fAug_int, slotInt, fLen_list, ML.isNon, fIsN, fNotN, vIxN, ixLoc, kidQ, ixN, os_inj, ix0, ix1, ix2, ix3, ix4, lx0, lx1, lx2, lx3, fLen_tup, xAnd, xNot, xIs, vTry, enX, keepO, Ot.root, Ot.rd, fInt, vTry0, isB_n, isB_b, isB_i, isB_s, isB_l, isB_t, isI_n, isI_b, isI_i, isI_s, isI_l, isI_t, isS_n, isS_b, isS_i, isS_s, isS_l, isS_t, isL_n, isL_b, isL_i, isL_s, isL_l, isL_t, isT_n, isT_b, isT_i, isT_s, isT_l, isT_t, plc, Sh.pos, Sh.root, vLstO, ots, m1, m2]
    generalize (y' * 69621 + 7 * ↑k + 1) % 2147483647 = v
    simp [-Bool.exists_bool, vSeq, vAsg, vV, vMv, vS, vIfS, vOr, vAnd, vNot, vB, vv1, vv2, vv3, Opr.ev, Opr.fin, Opr.sl, Opr.base, Sl.read, Sl.rd, Sl.ra, Sl.get, Sl.isIn, Sl.ot, Ot.rd, Ot.get, gets_lv, leaves_lv, Sh.data, Sh.root, Rs.to, ↓lv_in, -List.map_map, fst_0, fst_s, ini, List.replicate_succ, enG, bTup, bCons, bName, bNil, inAt, vC, vEnd, vBrk, vCnt, vRaise, fLt, fAdd_int, fGt, fGe, fLe, fSub, fMod, fI, fFdv, cPow, fPow, fMin2, fMax2, fInt, fAbs, fNeg, Option.bind, vRet, vSet, vDrp, vCal, agEv, agIn, agIn1, lns_nil, lns_pd, lns_br, lns_ln, bor_nil, bor_pd, bor_ln, bor_br, out_nil, out_pd, out_br, out_ln, lat_nil, lat_pd, lat_br, lat_ln, keep_fd, ex_pair, keepO_sh, lnAtm_no, agOut_no, Sl.atm, atom_i, atom_s, atom_b, atom_n, atom_k, vCons, vNil, vTup, vLst, vIf, vTru, truD, vNotV, vNotT, flat_fd, vAndV, vOrV, fEq_int, fNe_int, fEq_str, fNe_str, fEq_is, fEq_si, vMet, mvEv, Opr.loc, locAt, Ot.at, Ot.put, Nde.set, append_lv, pop_lv, reverse_lv, insert_lv, vLc_eq, vFor_eq, wipeD, vYes, iR1, iL, iK, vAug, fAug_int, slotInt, fLen_list, ML.isNon, fIsN, fNotN, vIxN, ixLoc, kidQ, ixN, os_inj, ix0, ix1, ix2, ix3, ix4, lx0, lx1, lx2, lx3, fLen_tup, xAnd, xNot, xIs, vTry, enX, keepO, Ot.root, Ot.rd, fInt, vTry0, isB_n, isB_b, isB_i, isB_s, isB_l, isB_t, isI_n, isI_b, isI_i, isI_s, isI_l, isI_t, isS_n, isS_b, isS_i, isS_s, isS_l, isS_t, isL_n, isL_b, isL_i, isL_s, isL_l, isL_t, isT_n, isT_b, isT_i, isT_s, isT_l, isT_t, plc, Sh.pos, Sh.root, vLstO, ots, b105__law_numbers, hlt, m3, cd1009]
    exact ⟨_, inz_snoc h1 _, by rw [List.length_append]; simp; omega, rfl⟩
  · rintro δ2 ⟨es, x', y', h1, h2, rfl⟩
    rw [rngD_len] at h2
    exact K _ _ _ h1 h2
theorem lw3 {ns : List D} {x y c : Sl} {p : Addr} {E : En} (hn : inz ns) (K : ∀ es c' x' y', inz es → E.nx [.sh (lkD ns), fd p es, c', x', y']) : w3__law_numbers E [.sh (lkD ns), fd p [], c, x, y] := by
  have m1 : ∀ b, fMulV (.int b) (.int 48271) = some (.sh (.int (b * 48271))) := fun b => mul_ok2 _ _ (by decide)
  have hcut : inz (ML.cutD ns none (some 63)) := inz_cut hn _ _
  have hlen : (ML.cutD ns none (some 63)).length ≤ 63 := cut_len (n := 63)
  simp [-Bool.exists_bool, vSeq, vAsg, vV, vMv, vS, vIfS, vOr, vAnd, vNot, vB, vv1, vv2, vv3, Opr.ev, Opr.fin, Opr.sl, Opr.base, Sl.read, Sl.rd, Sl.ra, Sl.get, Sl.isIn, Sl.ot, Ot.rd, Ot.get, gets_lv, leaves_lv, Sh.data, Sh.root, Rs.to, ↓lv_in, -List.map_map, fst_0, fst_s, ini, List.replicate_succ, enG, bTup, bCons, bName, bNil, inAt, vC, vEnd, vBrk, vCnt, vRaise, fLt, fAdd_int, fGt, fGe, fLe, fSub, fMod, fI, fFdv, cPow, fPow, fMin2, fMax2, fInt, fAbs, fNeg, Option.bind, vRet, vSet, vDrp, vCal, agEv, agIn, agIn1, lns_nil, lns_pd, lns_br, lns_ln, bor_nil, bor_pd, bor_ln, bor_br, out_nil, out_pd, out_br, out_ln, lat_nil, lat_pd, lat_br, lat_ln, keep_fd, ex_pair, keepO_sh, lnAtm_no, agOut_no, Sl.atm, atom_i, atom_s, atom_b, atom_n, atom_k, vCons, vNil, vTup, vLst, vIf, vTru, truD, vNotV, vNotT, flat_fd, vAndV, vOrV, fEq_int, fNe_int, fEq_str, fNe_str, fEq_is, fEq_si, vMet, mvEv, Opr.loc, locAt, Ot.at, Ot.put, Nde.set, append_lv, pop_lv, reverse_lv, insert_lv, vLc_eq, vFor_eq, wipeD, vYes, iR1, iL, iK, vAug, fAug_int, slotInt, fLen_list, ML.isNon, fIsN, fNotN, vIxN, ixLoc, kidQ, ixN, os_inj, ix0, ix1, ix2, ix3, ix4, lx0, lx1, lx2, lx3, fLen_tup, xAnd, xNot, xIs, vTry, enX, keepO, Ot.root, Ot.rd, fInt, vTry0, isB_n, isB_b, isB_i, isB_s, isB_l, isB_t, isI_n, isI_b, isI_i, isI_s, isI_l, isI_t, isS_n, isS_b, isS_i, isS_s, isS_l, isS_t, isL_n, isL_b, isL_i, isL_s, isL_l, isL_t, isT_n, isT_b, isT_i, isT_s, isT_l, isT_t, plc, Sh.pos, Sh.root, vLstO, ots, w3__law_numbers, slU_k]
  generalize ML.cutD ns none (some 63) = its at hcut hlen
  obtain ⟨zs, rfl⟩ := hcut
  refine FO_by (fun k δ => ∃ es c' x' y', inz es ∧ es.length ≤ 60 * k ∧ δ = [.sh (lkD ns), fd p es, c', x', y']) ⟨[], c, x, y, inz_nil, by simp, rfl⟩ ?_ ?_
  · rintro k d δ2 hk ⟨es, c', x', y', h1, h2, rfl⟩
    have hk2 : k < 63 := Nat.lt_of_lt_of_le (List.getElem?_eq_some_iff.mp hk).1 hlen
    rw [List.getElem?_map] at hk
    obtain ⟨z, _, rfl⟩ := Option.map_eq_some_iff.mp hk
    by_cases hc : 1000000000000000000 ≤ z
    · simp [-Bool.exists_bool, vSeq, vAsg, vV, vMv, vS, vIfS, vOr, vAnd, vNot, vB, vv1, vv2, vv3, Opr.ev, Opr.fin, Opr.sl, Opr.base, Sl.read, Sl.rd, Sl.ra, Sl.get, Sl.isIn, Sl.ot, Ot.rd, Ot.get, gets_lv, leaves_lv, Sh.data, Sh.root, Rs.to, ↓lv_in, -List.map_map, fst_0, fst_s, ini, List.replicate_succ, enG, bTup, bCons, bName, bNil, inAt, vC, vEnd, vBrk, vCnt, vRaise, fLt, fAdd_int, fGt, fGe, fLe, fSub, fMod, fI, fFdv, cPow, fPow, fMin2, fMax2, fInt, fAbs, fNeg, Option.bind, vRet, vSet, vDrp, vCal, agEv, agIn, agIn1, lns_nil, lns_pd, lns_br, lns_ln, bor_nil, bor_pd, bor_ln, bor_br, out_nil, out_pd, out_br, out_ln, lat_nil, lat_pd, lat_br, lat_ln, keep_fd, ex_pair, keepO_sh, lnAtm_no, agOut_no, Sl.atm, atom_i, atom_s, atom_b, atom_n, atom_k, vCons, vNil, vTup, vLst, vIf, vTru, truD, vNotV, vNotT, flat_fd, vAndV, vOrV, fEq_int, fNe_int, fEq_str, fNe_str, fEq_is, fEq_si, vMet, mvEv, Opr.loc, locAt, Ot.at, Ot.put, Nde.set, append_lv, pop_lv, reverse_lv, insert_lv, vLc_eq, vFor_eq, wipeD, vYes, iR1, iL, iK, vAug, fAug_int, slotInt, fLen_list, ML.isNon, fIsN, fNotN, vIxN, ixLoc, kidQ, ixN, os_inj, ix0, ix1, ix2, ix3, ix4, lx0, lx1, lx2, lx3, fLen_tup, xAnd, xNot, xIs, vTry, enX, keepO, Ot.root, Ot.rd, fInt, vTry0, isB_n, isB_b, isB_i, isB_s, isB_l, isB_t, isI_n, isI_b, isI_i, isI_s, isI_l, isI_t, isS_n, isS_b, isS_i, isS_s, isS_l, isS_t, isL_n, isL_b, isL_i, isL_s, isL_l, isL_t, isT_n, isT_b, isT_i, isT_s, isT_l, isT_t, plc, Sh.pos, Sh.root, vLstO, ots, hc]
      exact lw1 h1 (by omega) fun es c' x' h3 h4 => ⟨es, h3, by omega, _, _, _, rfl⟩
    · simp [-Bool.exists_bool, vSeq, vAsg, vV, vMv, vS, vIfS, vOr, vAnd, vNot, vB, vv1, vv2, vv3, Opr.ev, Opr.fin, Opr.sl, Opr.base, Sl.read, Sl.rd, Sl.ra, Sl.get, Sl.isIn, Sl.ot, Ot.rd, Ot.get, gets_lv, leaves_lv, Sh.data, Sh.root, Rs.to, ↓lv_in, -List.map_map, fst_0, fst_s, ini, List.replicate_succ, enG, bTup, bCons, bName, bNil, inAt, vC, vEnd, vBrk, vCnt, vRaise, fLt, fAdd_int, fGt, fGe, fLe, fSub, fMod, fI, fFdv, cPow, fPow, fMin2, fMax2, fInt, fAbs, fNeg, Option.bind, vRet, vSet, vDrp, vCal, agEv, agIn, agIn1, lns_nil, lns_pd, lns_br, lns_ln, bor_nil, bor_pd, bor_ln, bor_br, out_nil, out_pd, out_br, out_ln, lat_nil, lat_pd, lat_br, lat_ln, keep_fd, ex_pair, keepO_sh, lnAtm_no, agOut_no, Sl.atm, atom_i, atom_s, atom_b, atom_n, atom_k, vCons, vNil, vTup, vLst, vIf, vTru, truD, vNotV, vNotT, flat_fd, vAndV, vOrV, fEq_int, fNe_int, fEq_str, fNe_str, fEq_is, fEq_si, vMet, mvEv, Opr.loc, locAt, Ot.at, Ot.put, Nde.set, append_lv, pop_lv, reverse_lv, insert_lv, vLc_eq, vFor_eq, wipeD, vYes, iR1, iL, iK, vAug, fAug_int, slotInt, fLen_list, ML.isNon, fIsN, fNotN, vIxN, ixLoc, kidQ, ixN, os_inj, ix0, ix1, ix2, ix3, ix4, lx0, lx1, lx2, lx3, fLen_tup, xAnd, xNot, xIs, vTry, enX, keepO, Ot.root, Ot.rd, fInt, vTry0, isB_n, isB_b, isB_i, isB_s, isB_l, isB_t, isI_n, isI_b, isI_i, isI_s, isI_l, isI_t, isS_n, isS_b, isS_i, isS_s, isS_l, isS_t, isL_n, isL_b, isL_i, isL_s, isL_l, isL_t, isT_n, isT_b, isT_i, isT_s, isT_l, isT_t, plc, Sh.pos, Sh.root, vLstO, ots, hc, q2__law_numbers, b107__law_numbers, m1]
      exact lw2 h1 (by omega) fun es c' x' h3 h4 => ⟨es, h3, by omega, _, _, _, rfl⟩
  · rintro δ2 ⟨es, c', x', y', h1, h2, rfl⟩
    exact K _ _ _ _ h1
def sm_numbers : SemG := semV fun ds Qd _ => ∃ ns, ds = [lkD ns] ∧ inz ns ∧ ∀ p es, inz es → Qd (fd p es)
theorem s_numbers {ins : List Sl} {Qd : Sl → List Sl → Prop} {Xd : Exn → List Sl → Prop} (hl : ins.length = 1) (h : sm_numbers ins Qd Xd) : t__law_numbers (enG 1 Qd Xd) (ini 5 ins) := by
  obtain ⟨_, rfl, ns, rfl, hn, h1⟩ := h
  simp [-Bool.exists_bool, vSeq, vAsg, vV, vMv, vS, vIfS, vOr, vAnd, vNot, vB, vv1, vv2, vv3, Opr.ev, Opr.fin, Opr.sl, Opr.base, Sl.read, Sl.rd, Sl.ra, Sl.get, Sl.isIn, Sl.ot, Ot.rd, Ot.get, gets_lv, leaves_lv, Sh.data, Sh.root, Rs.to, ↓lv_in, -List.map_map, fst_0, fst_s, ini, List.replicate_succ, enG, bTup, bCons, bName, bNil, inAt, vC, vEnd, vBrk, vCnt, vRaise, fLt, fAdd_int, fGt, fGe, fLe, fSub, fMod, fI, fFdv, cPow, fPow, fMin2, fMax2, fInt, fAbs, fNeg, Option.bind, vRet, vSet, vDrp, vCal, agEv, agIn, agIn1, lns_nil, lns_pd, lns_br, lns_ln, bor_nil, bor_pd, bor_ln, bor_br, out_nil, out_pd, out_br, out_ln, lat_nil, lat_pd, lat_br, lat_ln, keep_fd, ex_pair, keepO_sh, lnAtm_no, agOut_no, Sl.atm, atom_i, atom_s, atom_b, atom_n, atom_k, vCons, vNil, vTup, vLst, vIf, vTru, truD, vNotV, vNotT, flat_fd, vAndV, vOrV, fEq_int, fNe_int, fEq_str, fNe_str, fEq_is, fEq_si, vMet, mvEv, Opr.loc, locAt, Ot.at, Ot.put, Nde.set, append_lv, pop_lv, reverse_lv, insert_lv, vLc_eq, vFor_eq, wipeD, vYes, iR1, iL, iK, vAug, fAug_int, slotInt, fLen_list, ML.isNon, fIsN, fNotN, vIxN, ixLoc, kidQ, ixN, os_inj, ix0, ix1, ix2, ix3, ix4, lx0, lx1, lx2, lx3, fLen_tup, xAnd, xNot, xIs, vTry, enX, keepO, Ot.root, Ot.rd, fInt, vTry0, isB_n, isB_b, isB_i, isB_s, isB_l, isB_t, isI_n, isI_b, isI_i, isI_s, isI_l, isI_t, isS_n, isS_b, isS_i, isS_s, isS_l, isS_t, isL_n, isL_b, isL_i, isL_s, isL_l, isL_t, isT_n, isT_b, isT_i, isT_s, isT_l, isT_t, plc, Sh.pos, Sh.root, vLstO, ots, t__law_numbers, b1__law_numbers]
  intro p
  refine lw3 hn fun es c' x' y' hi => ?_
  simp [-Bool.exists_bool, vSeq, vAsg, vV, vMv, vS, vIfS, vOr, vAnd, vNot, vB, vv1, vv2, vv3, Opr.ev, Opr.fin, Opr.sl, Opr.base, Sl.read, Sl.rd, Sl.ra, Sl.get, Sl.isIn, Sl.ot, Ot.rd, Ot.get, gets_lv, leaves_lv, Sh.data, Sh.root, Rs.to, ↓lv_in, -List.map_map, fst_0, fst_s, ini, List.replicate_succ, enG, bTup, bCons, bName, bNil, inAt, vC, vEnd, vBrk, vCnt, vRaise, fLt, fAdd_int, fGt, fGe, fLe, fSub, fMod, fI, fFdv, cPow, fPow, fMin2, fMax2, fInt, fAbs, fNeg, Option.bind, vRet, vSet, vDrp, vCal, agEv, agIn, agIn1, lns_nil, lns_pd, lns_br, lns_ln, bor_nil, bor_pd, bor_ln, bor_br, out_nil, out_pd, out_br, out_ln, lat_nil, lat_pd, lat_br, lat_ln, keep_fd, ex_pair, keepO_sh, lnAtm_no, agOut_no, Sl.atm, atom_i, atom_s, atom_b, atom_n, atom_k, vCons, vNil, vTup, vLst, vIf, vTru, truD, vNotV, vNotT, flat_fd, vAndV, vOrV, fEq_int, fNe_int, fEq_str, fNe_str, fEq_is, fEq_si, vMet, mvEv, Opr.loc, locAt, Ot.at, Ot.put, Nde.set, append_lv, pop_lv, reverse_lv, insert_lv, vLc_eq, vFor_eq, wipeD, vYes, iR1, iL, iK, vAug, fAug_int, slotInt, fLen_list, ML.isNon, fIsN, fNotN, vIxN, ixLoc, kidQ, ixN, os_inj, ix0, ix1, ix2, ix3, ix4, lx0, lx1, lx2, lx3, fLen_tup, xAnd, xNot, xIs, vTry, enX, keepO, Ot.root, Ot.rd, fInt, vTry0, isB_n, isB_b, isB_i, isB_s, isB_l, isB_t, isI_n, isI_b, isI_i, isI_s, isI_l, isI_t, isS_n, isS_b, isS_i, isS_s, isS_l, isS_t, isL_n, isL_b, isL_i, isL_s, isL_l, isL_t, isT_n, isT_b, isT_i, isT_s, isT_l, isT_t, plc, Sh.pos, Sh.root, vLstO, ots, b2__law_numbers, b3__law_numbers, b4__law_numbers, slU_l]
  intro q
  exact h1 _ _ (inz_rev (inz_cut hi _ _)) _
/-! ### equal data are found the same -/
def sm_same (n : Nat) : SemG := semV fun ds Qd _ => ∃ d, ds = [d, d] ∧ okd n d ∧ Qd (.sh (.bool true))
theorem same_atom {s : SemG} {d : D} {Qd : Sl → List Sl → Prop} {Xd : Exn → List Sl → Prop} (hd : d = .none ∨ (∃ i, d = .int i) ∨ (∃ i, d = .str i) ∨ ∃ i, d = .bool i) (h : ∀ outs, Qd (.sh (.bool true)) outs) : t__law_same s (enG 2 Qd Xd) (ini 3 [.sh d, .sh d]) := by
  rcases hd with rfl | ⟨i, rfl⟩ | ⟨i, rfl⟩ | ⟨i, rfl⟩
  · simp [-Bool.exists_bool, vSeq, vAsg, vV, vMv, vS, vIfS, vOr, vAnd, vNot, vB, vv1, vv2, vv3, Opr.ev, Opr.fin, Opr.sl, Opr.base, Sl.read, Sl.rd, Sl.ra, Sl.get, Sl.isIn, Sl.ot, Ot.rd, Ot.get, gets_lv, leaves_lv, Sh.data, Sh.root, Rs.to, ↓lv_in, -List.map_map, fst_0, fst_s, ini, List.replicate_succ, enG, bTup, bCons, bName, bNil, inAt, vC, vEnd, vBrk, vCnt, vRaise, fLt, fAdd_int, fGt, fGe, fLe, fSub, fMod, fI, fFdv, cPow, fPow, fMin2, fMax2, fInt, fAbs, fNeg, Option.bind, vRet, vSet, vDrp, vCal, agEv, agIn, agIn1, lns_nil, lns_pd, lns_br, lns_ln, bor_nil, bor_pd, bor_ln, bor_br, out_nil, out_pd, out_br, out_ln, lat_nil, lat_pd, lat_br, lat_ln, keep_fd, ex_pair, keepO_sh, lnAtm_no, agOut_no, Sl.atm, atom_i, atom_s, atom_b, atom_n, atom_k, vCons, vNil, vTup, vLst, vIf, vTru, truD, vNotV, vNotT, flat_fd, vAndV, vOrV, fEq_int, fNe_int, fEq_str, fNe_str, fEq_is, fEq_si, vMet, mvEv, Opr.loc, locAt, Ot.at, Ot.put, Nde.set, append_lv, pop_lv, reverse_lv, insert_lv, vLc_eq, vFor_eq, wipeD, vYes, iR1, iL, iK, vAug, fAug_int, slotInt, fLen_list, ML.isNon, fIsN, fNotN, vIxN, ixLoc, kidQ, ixN, os_inj, ix0, ix1, ix2, ix3, ix4, lx0, lx1, lx2, lx3, fLen_tup, xAnd, xNot, xIs, vTry, enX, keepO, Ot.root, Ot.rd, fInt, vTry0, isB_n, isB_b, isB_i, isB_s, isB_l, isB_t, isI_n, isI_b, isI_i, isI_s, isI_l, isI_t, isS_n, isS_b, isS_i, isS_s, isS_l, isS_t, isL_n, isL_b, isL_i, isL_s, isL_l, isL_t, isT_n, isT_b, isT_i, isT_s, isT_l, isT_t, plc, Sh.pos, Sh.root, vLstO, ots, t__law_same]
    exact h _
  · simp [-Bool.exists_bool, vSeq, vAsg, vV, vMv, vS, vIfS, vOr, vAnd, vNot, vB, vv1, vv2, vv3, Opr.ev, Opr.fin, Opr.sl, Opr.base, Sl.read, Sl.rd, Sl.ra, Sl.get, Sl.isIn, Sl.ot, Ot.rd, Ot.get, gets_lv, leaves_lv, Sh.data, Sh.root, Rs.to, ↓lv_in, -List.map_map, fst_0, fst_s, ini, List.replicate_succ, enG, bTup, bCons, bName, bNil, inAt, vC, vEnd, vBrk, vCnt, vRaise, fLt, fAdd_int, fGt, fGe, fLe, fSub, fMod, fI, fFdv, cPow, fPow, fMin2, fMax2, fInt, fAbs, fNeg, Option.bind, vRet, vSet, vDrp, vCal, agEv, agIn, agIn1, lns_nil, lns_pd, lns_br, lns_ln, bor_nil, bor_pd, bor_ln, bor_br, out_nil, out_pd, out_br, out_ln, lat_nil, lat_pd, lat_br, lat_ln, keep_fd, ex_pair, keepO_sh, lnAtm_no, agOut_no, Sl.atm, atom_i, atom_s, atom_b, atom_n, atom_k, vCons, vNil, vTup, vLst, vIf, vTru, truD, vNotV, vNotT, flat_fd, vAndV, vOrV, fEq_int, fNe_int, fEq_str, fNe_str, fEq_is, fEq_si, vMet, mvEv, Opr.loc, locAt, Ot.at, Ot.put, Nde.set, append_lv, pop_lv, reverse_lv, insert_lv, vLc_eq, vFor_eq, wipeD, vYes, iR1, iL, iK, vAug, fAug_int, slotInt, fLen_list, ML.isNon, fIsN, fNotN, vIxN, ixLoc, kidQ, ixN, os_inj, ix0, ix1, ix2, ix3, ix4, lx0, lx1, lx2, lx3, fLen_tup, xAnd, xNot, xIs, vTry, enX, keepO, Ot.root, Ot.rd, fInt, vTry0, isB_n, isB_b, isB_i, isB_s, isB_l, isB_t, isI_n, isI_b, isI_i, isI_s, isI_l, isI_t, isS_n, isS_b, isS_i, isS_s, isS_l, isS_t, isL_n, isL_b, isL_i, isL_s, isL_l, isL_t, isT_n, isT_b, isT_i, isT_s, isT_l, isT_t, plc, Sh.pos, Sh.root, vLstO, ots, t__law_same, b1__law_same, b2__law_same, q2__law_same]
    exact h _
  · simp [-Bool.exists_bool, vSeq, vAsg, vV, vMv, vS, vIfS, vOr, vAnd, vNot, vB, vv1, vv2, vv3, Opr.ev, Opr.fin, Opr.sl, Opr.base, Sl.read, Sl.rd, Sl.ra, Sl.get, Sl.isIn, Sl.ot, Ot.rd, Ot.get, gets_lv, leaves_lv, Sh.data, Sh.root, Rs.to, ↓lv_in, -List.map_map, fst_0, fst_s, ini, List.replicate_succ, enG, bTup, bCons, bName, bNil, inAt, vC, vEnd, vBrk, vCnt, vRaise, fLt, fAdd_int, fGt, fGe, fLe, fSub, fMod, fI, fFdv, cPow, fPow, fMin2, fMax2, fInt, fAbs, fNeg, Option.bind, vRet, vSet, vDrp, vCal, agEv, agIn, agIn1, lns_nil, lns_pd, lns_br, lns_ln, bor_nil, bor_pd, bor_ln, bor_br, out_nil, out_pd, out_br, out_ln, lat_nil, lat_pd, lat_br, lat_ln, keep_fd, ex_pair, keepO_sh, lnAtm_no, agOut_no, Sl.atm, atom_i, atom_s, atom_b, atom_n, atom_k, vCons, vNil, vTup, vLst, vIf, vTru, truD, vNotV, vNotT, flat_fd, vAndV, vOrV, fEq_int, fNe_int, fEq_str, fNe_str, fEq_is, fEq_si, vMet, mvEv, Opr.loc, locAt, Ot.at, Ot.put, Nde.set, append_lv, pop_lv, reverse_lv, insert_lv, vLc_eq, vFor_eq, wipeD, vYes, iR1, iL, iK, vAug, fAug_int, slotInt, fLen_list, ML.isNon, fIsN, fNotN, vIxN, ixLoc, kidQ, ixN, os_inj, ix0, ix1, ix2, ix3, ix4, lx0, lx1, lx2, lx3, fLen_tup, xAnd, xNot, xIs, vTry, enX, keepO, Ot.root, Ot.rd, fInt, vTry0, isB_n, isB_b, isB_i, isB_s, isB_l, isB_t, isI_n, isI_b, isI_i, isI_s, isI_l, isI_t, isS_n, isS_b, isS_i, isS_s, isS_l, isS_t, isL_n, isL_b, isL_i, isL_s, isL_l, isL_t, isT_n, isT_b, isT_i, isT_s, isT_l, isT_t, plc, Sh.pos, Sh.root, vLstO, ots, t__law_same, b1__law_same, b2__law_same, b3__law_same, q3__law_same]
    exact h _
  · simp [-Bool.exists_bool, vSeq, vAsg, vV, vMv, vS, vIfS, vOr, vAnd, vNot, vB, vv1, vv2, vv3, Opr.ev, Opr.fin, Opr.sl, Opr.base, Sl.read, Sl.rd, Sl.ra, Sl.get, Sl.isIn, Sl.ot, Ot.rd, Ot.get, gets_lv, leaves_lv, Sh.data, Sh.root, Rs.to, ↓lv_in, -List.map_map, fst_0, fst_s, ini, List.replicate_succ, enG, bTup, bCons, bName, bNil, inAt, vC, vEnd, vBrk, vCnt, vRaise, fLt, fAdd_int, fGt, fGe, fLe, fSub, fMod, fI, fFdv, cPow, fPow, fMin2, fMax2, fInt, fAbs, fNeg, Option.bind, vRet, vSet, vDrp, vCal, agEv, agIn, agIn1, lns_nil, lns_pd, lns_br, lns_ln, bor_nil, bor_pd, bor_ln, bor_br, out_nil, out_pd, out_br, out_ln, lat_nil, lat_pd, lat_br, lat_ln, keep_fd, ex_pair, keepO_sh, lnAtm_no, agOut_no, Sl.atm, atom_i, atom_s, atom_b, atom_n, atom_k, vCons, vNil, vTup, vLst, vIf, vTru, truD, vNotV, vNotT, flat_fd, vAndV, vOrV, fEq_int, fNe_int, fEq_str, fNe_str, fEq_is, fEq_si, vMet, mvEv, Opr.loc, locAt, Ot.at, Ot.put, Nde.set, append_lv, pop_lv, reverse_lv, insert_lv, vLc_eq, vFor_eq, wipeD, vYes, iR1, iL, iK, vAug, fAug_int, slotInt, fLen_list, ML.isNon, fIsN, fNotN, vIxN, ixLoc, kidQ, ixN, os_inj, ix0, ix1, ix2, ix3, ix4, lx0, lx1, lx2, lx3, fLen_tup, xAnd, xNot, xIs, vTry, enX, keepO, Ot.root, Ot.rd, fInt, vTry0, isB_n, isB_b, isB_i, isB_s, isB_l, isB_t, isI_n, isI_b, isI_i, isI_s, isI_l, isI_t, isS_n, isS_b, isS_i, isS_s, isS_l, isS_t, isL_n, isL_b, isL_i, isL_s, isL_l, isL_t, isT_n, isT_b, isT_i, isT_s, isT_l, isT_t, plc, Sh.pos, Sh.root, vLstO, ots, t__law_same, b1__law_same, q1__law_same, fEq_bool]
    exact h _
theorem same_loop {n : Nat} {ds : List D} {d : D} {Qd : Sl → List Sl → Prop} {Xd : Exn → List Sl → Prop} {x : Sl} (hd : d = .list ds ∨ d = .tuple ds) (hl : ds.length ≤ 1000000) (ho : ∀ d ∈ ds, okd n d) (h : ∀ outs, Qd (.sh (.bool true)) outs) :
    b7__law_same (sm_same n) (enG 2 Qd Xd) [.sh d, .sh d, x] := by
  have el : fLen d = some (.sh (.int ds.length)) := by rcases hd with rfl | rfl <;> rfl
  simp [-Bool.exists_bool, vSeq, vAsg, vV, vMv, vS, vIfS, vOr, vAnd, vNot, vB, vv1, vv2, vv3, Opr.ev, Opr.fin, Opr.sl, Opr.base, Sl.read, Sl.rd, Sl.ra, Sl.get, Sl.isIn, Sl.ot, Ot.rd, Ot.get, gets_lv, leaves_lv, Sh.data, Sh.root, Rs.to, ↓lv_in, -List.map_map, fst_0, fst_s, ini, List.replicate_succ, enG, bTup, bCons, bName, bNil, inAt, vC, vEnd, vBrk, vCnt, vRaise, fLt, fAdd_int, fGt, fGe, fLe, fSub, fMod, fI, fFdv, cPow, fPow, fMin2, fMax2, fInt, fAbs, fNeg, Option.bind, vRet, vSet, vDrp, vCal, agEv, agIn, agIn1, lns_nil, lns_pd, lns_br, lns_ln, bor_nil, bor_pd, bor_ln, bor_br, out_nil, out_pd, out_br, out_ln, lat_nil, lat_pd, lat_br, lat_ln, keep_fd, ex_pair, keepO_sh, lnAtm_no, agOut_no, Sl.atm, atom_i, atom_s, atom_b, atom_n, atom_k, vCons, vNil, vTup, vLst, vIf, vTru, truD, vNotV, vNotT, flat_fd, vAndV, vOrV, fEq_int, fNe_int, fEq_str, fNe_str, fEq_is, fEq_si, vMet, mvEv, Opr.loc, locAt, Ot.at, Ot.put, Nde.set, append_lv, pop_lv, reverse_lv, insert_lv, vLc_eq, vFor_eq, wipeD, vYes, iR1, iL, iK, vAug, fAug_int, slotInt, fLen_list, ML.isNon, fIsN, fNotN, vIxN, ixLoc, kidQ, ixN, os_inj, ix0, ix1, ix2, ix3, ix4, lx0, lx1, lx2, lx3, fLen_tup, xAnd, xNot, xIs, vTry, enX, keepO, Ot.root, Ot.rd, fInt, vTry0, isB_n, isB_b, isB_i, isB_s, isB_l, isB_t, isI_n, isI_b, isI_i, isI_s, isI_l, isI_t, isS_n, isS_b, isS_i, isS_s, isS_l, isS_t, isL_n, isL_b, isL_i, isL_s, isL_l, isL_t, isT_n, isT_b, isT_i, isT_s, isT_l, isT_t, plc, Sh.pos, Sh.root, vLstO, ots, b7__law_same, w1__law_same, el]
  refine ⟨by omega, ?_⟩
  refine FO_by (fun _ δ => ∃ x, δ = [.sh d, .sh d, x]) ⟨_, rfl⟩ ?_ ?_
  · rintro k e δ2 hk ⟨y, rfl⟩
    obtain ⟨hk1, rfl⟩ := rngD_get hk
    have hk2 : k < ds.length := by omega
    have hx : fIx d (.int (k : Int)) = some (.sh ds[k]) := by rcases hd with rfl | rfl <;> first | exact ixl (List.getElem?_eq_getElem hk2) | exact ixt (List.getElem?_eq_getElem hk2)
    simp [-Bool.exists_bool, vSeq, vAsg, vV, vMv, vS, vIfS, vOr, vAnd, vNot, vB, vv1, vv2, vv3, Opr.ev, Opr.fin, Opr.sl, Opr.base, Sl.read, Sl.rd, Sl.ra, Sl.get, Sl.isIn, Sl.ot, Ot.rd, Ot.get, gets_lv, leaves_lv, Sh.data, Sh.root, Rs.to, ↓lv_in, -List.map_map, fst_0, fst_s, ini, List.replicate_succ, enG, bTup, bCons, bName, bNil, inAt, vC, vEnd, vBrk, vCnt, vRaise, fLt, fAdd_int, fGt, fGe, fLe, fSub, fMod, fI, fFdv, cPow, fPow, fMin2, fMax2, fInt, fAbs, fNeg, Option.bind, vRet, vSet, vDrp, vCal, agEv, agIn, agIn1, lns_nil, lns_pd, lns_br, lns_ln, bor_nil, bor_pd, bor_ln, bor_br, out_nil, out_pd, out_br, out_ln, lat_nil, lat_pd, lat_br, lat_ln, keep_fd, ex_pair, keepO_sh, lnAtm_no, agOut_no, Sl.atm, atom_i, atom_s, atom_b, atom_n, atom_k, vCons, vNil, vTup, vLst, vIf, vTru, truD, vNotV, vNotT, flat_fd, vAndV, vOrV, fEq_int, fNe_int, fEq_str, fNe_str, fEq_is, fEq_si, vMet, mvEv, Opr.loc, locAt, Ot.at, Ot.put, Nde.set, append_lv, pop_lv, reverse_lv, insert_lv, vLc_eq, vFor_eq, wipeD, vYes, iR1, iL, iK, vAug, fAug_int, slotInt, fLen_list, ML.isNon, fIsN, fNotN, vIxN, ixLoc, kidQ, ixN, os_inj, ix0, ix1, ix2, ix3, ix4, lx0, lx1, lx2, lx3, fLen_tup, xAnd, xNot, xIs, vTry, enX, keepO, Ot.root, Ot.rd, fInt, vTry0, isB_n, isB_b, isB_i, isB_s, isB_l, isB_t, isI_n, isI_b, isI_i, isI_s, isI_l, isI_t, isS_n, isS_b, isS_i, isS_s, isS_l, isS_t, isL_n, isL_b, isL_i, isL_s, isL_l, isL_t, isT_n, isT_b, isT_i, isT_s, isT_l, isT_t, plc, Sh.pos, Sh.root, vLstO, ots, hx]
    refine ⟨[ds[k], ds[k]], rfl, ds[k], rfl, ho _ (List.getElem_mem hk2), fun outs => ?_⟩
    simp [-Bool.exists_bool, vSeq, vAsg, vV, vMv, vS, vIfS, vOr, vAnd, vNot, vB, vv1, vv2, vv3, Opr.ev, Opr.fin, Opr.sl, Opr.base, Sl.read, Sl.rd, Sl.ra, Sl.get, Sl.isIn, Sl.ot, Ot.rd, Ot.get, gets_lv, leaves_lv, Sh.data, Sh.root, Rs.to, ↓lv_in, -List.map_map, fst_0, fst_s, ini, List.replicate_succ, enG, bTup, bCons, bName, bNil, inAt, vC, vEnd, vBrk, vCnt, vRaise, fLt, fAdd_int, fGt, fGe, fLe, fSub, fMod, fI, fFdv, cPow, fPow, fMin2, fMax2, fInt, fAbs, fNeg, Option.bind, vRet, vSet, vDrp, vCal, agEv, agIn, agIn1, lns_nil, lns_pd, lns_br, lns_ln, bor_nil, bor_pd, bor_ln, bor_br, out_nil, out_pd, out_br, out_ln, lat_nil, lat_pd, lat_br, lat_ln, keep_fd, ex_pair, keepO_sh, lnAtm_no, agOut_no, Sl.atm, atom_i, atom_s, atom_b, atom_n, atom_k, vCons, vNil, vTup, vLst, vIf, vTru, truD, vNotV, vNotT, flat_fd, vAndV, vOrV, fEq_int, fNe_int, fEq_str, fNe_str, fEq_is, fEq_si, vMet, mvEv, Opr.loc, locAt, Ot.at, Ot.put, Nde.set, append_lv, pop_lv, reverse_lv, insert_lv, vLc_eq, vFor_eq, wipeD, vYes, iR1, iL, iK, vAug, fAug_int, slotInt, fLen_list, ML.isNon, fIsN, fNotN, vIxN, ixLoc, kidQ, ixN, os_inj, ix0, ix1, ix2, ix3, ix4, lx0, lx1, lx2, lx3, fLen_tup, xAnd, xNot, xIs, vTry, enX, keepO, Ot.root, Ot.rd, fInt, vTry0, isB_n, isB_b, isB_i, isB_s, isB_l, isB_t, isI_n, isI_b, isI_i, isI_s, isI_l, isI_t, isS_n, isS_b, isS_i, isS_s, isS_l, isS_t, isL_n, isL_b, isL_i, isL_s, isL_l, isL_t, isT_n, isT_b, isT_i, isT_s, isT_l, isT_t, plc, Sh.pos, Sh.root, vLstO, ots]
  · rintro δ2 ⟨y, rfl⟩
    simp [-Bool.exists_bool, vSeq, vAsg, vV, vMv, vS, vIfS, vOr, vAnd, vNot, vB, vv1, vv2, vv3, Opr.ev, Opr.fin, Opr.sl, Opr.base, Sl.read, Sl.rd, Sl.ra, Sl.get, Sl.isIn, Sl.ot, Ot.rd, Ot.get, gets_lv, leaves_lv, Sh.data, Sh.root, Rs.to, ↓lv_in, -List.map_map, fst_0, fst_s, ini, List.replicate_succ, enG, bTup, bCons, bName, bNil, inAt, vC, vEnd, vBrk, vCnt, vRaise, fLt, fAdd_int, fGt, fGe, fLe, fSub, fMod, fI, fFdv, cPow, fPow, fMin2, fMax2, fInt, fAbs, fNeg, Option.bind, vRet, vSet, vDrp, vCal, agEv, agIn, agIn1, lns_nil, lns_pd, lns_br, lns_ln, bor_nil, bor_pd, bor_ln, bor_br, out_nil, out_pd, out_br, out_ln, lat_nil, lat_pd, lat_br, lat_ln, keep_fd, ex_pair, keepO_sh, lnAtm_no, agOut_no, Sl.atm, atom_i, atom_s, atom_b, atom_n, atom_k, vCons, vNil, vTup, vLst, vIf, vTru, truD, vNotV, vNotT, flat_fd, vAndV, vOrV, fEq_int, fNe_int, fEq_str, fNe_str, fEq_is, fEq_si, vMet, mvEv, Opr.loc, locAt, Ot.at, Ot.put, Nde.set, append_lv, pop_lv, reverse_lv, insert_lv, vLc_eq, vFor_eq, wipeD, vYes, iR1, iL, iK, vAug, fAug_int, slotInt, fLen_list, ML.isNon, fIsN, fNotN, vIxN, ixLoc, kidQ, ixN, os_inj, ix0, ix1, ix2, ix3, ix4, lx0, lx1, lx2, lx3, fLen_tup, xAnd, xNot, xIs, vTry, enX, keepO, Ot.root, Ot.rd, fInt, vTry0, isB_n, isB_b, isB_i, isB_s, isB_l, isB_t, isI_n, isI_b, isI_i, isI_s, isI_l, isI_t, isS_n, isS_b, isS_i, isS_s, isS_l, isS_t, isL_n, isL_b, isL_i, isL_s, isL_l, isL_t, isT_n, isT_b, isT_i, isT_s, isT_l, isT_t, plc, Sh.pos, Sh.root, vLstO, ots, b8__law_same]
    exact h _
theorem s_same0 {ins : List Sl} {Qd : Sl → List Sl → Prop} {Xd : Exn → List Sl → Prop} (hl : ins.length = 2) (h : sm_same 0 ins Qd Xd) : t__law_same semNo (enG 2 Qd Xd) (ini 3 ins) := by
  obtain ⟨_, rfl, d, rfl, ho, h1⟩ := h
  refine same_atom ?_ h1
  cases d <;> first | exact ho.elim | simp
theorem s_same {n : Nat} {ins : List Sl} {Qd : Sl → List Sl → Prop} {Xd : Exn → List Sl → Prop} (hl : ins.length = 2) (h : sm_same (n + 1) ins Qd Xd) : t__law_same (sm_same n) (enG 2 Qd Xd) (ini 3 ins) := by
  obtain ⟨_, rfl, d, rfl, ho, h1⟩ := h
  cases d with
  | list ds =>
    obtain ⟨h2, h3⟩ := ho
    simp [-Bool.exists_bool, vSeq, vAsg, vV, vMv, vS, vIfS, vOr, vAnd, vNot, vB, vv1, vv2, vv3, Opr.ev, Opr.fin, Opr.sl, Opr.base, Sl.read, Sl.rd, Sl.ra, Sl.get, Sl.isIn, Sl.ot, Ot.rd, Ot.get, gets_lv, leaves_lv, Sh.data, Sh.root, Rs.to, ↓lv_in, -List.map_map, fst_0, fst_s, ini, List.replicate_succ, enG, bTup, bCons, bName, bNil, inAt, vC, vEnd, vBrk, vCnt, vRaise, fLt, fAdd_int, fGt, fGe, fLe, fSub, fMod, fI, fFdv, cPow, fPow, fMin2, fMax2, fInt, fAbs, fNeg, Option.bind, vRet, vSet, vDrp, vCal, agEv, agIn, agIn1, lns_nil, lns_pd, lns_br, lns_ln, bor_nil, bor_pd, bor_ln, bor_br, out_nil, out_pd, out_br, out_ln, lat_nil, lat_pd, lat_br, lat_ln, keep_fd, ex_pair, keepO_sh, lnAtm_no, agOut_no, Sl.atm, atom_i, atom_s, atom_b, atom_n, atom_k, vCons, vNil, vTup, vLst, vIf, vTru, truD, vNotV, vNotT, flat_fd, vAndV, vOrV, fEq_int, fNe_int, fEq_str, fNe_str, fEq_is, fEq_si, vMet, mvEv, Opr.loc, locAt, Ot.at, Ot.put, Nde.set, append_lv, pop_lv, reverse_lv, insert_lv, vLc_eq, vFor_eq, wipeD, vYes, iR1, iL, iK, vAug, fAug_int, slotInt, fLen_list, ML.isNon, fIsN, fNotN, vIxN, ixLoc, kidQ, ixN, os_inj, ix0, ix1, ix2, ix3, ix4, lx0, lx1, lx2, lx3, fLen_tup, xAnd, xNot, xIs, vTry, enX, keepO, Ot.root, Ot.rd, fInt, vTry0, isB_n, isB_b, isB_i, isB_s, isB_l, isB_t, isI_n, isI_b, isI_i, isI_s, isI_l, isI_t, isS_n, isS_b, isS_i, isS_s, isS_l, isS_t, isL_n, isL_b, isL_i, isL_s, isL_l, isL_t, isT_n, isT_b, isT_i, isT_s, isT_l, isT_t, plc, Sh.pos, Sh.root, vLstO, ots, t__law_same, b1__law_same, b2__law_same, b3__law_same, b4__law_same, b5__law_same, b6__law_same]
    exact same_loop (.inl rfl) h2 h3 h1
  | tuple ds =>
    obtain ⟨h2, h3⟩ := ho
    simp [-Bool.exists_bool, vSeq, vAsg, vV, vMv, vS, vIfS, vOr, vAnd, vNot, vB, vv1, vv2, vv3, Opr.ev, Opr.fin, Opr.sl, Opr.base, Sl.read, Sl.rd, Sl.ra, Sl.get, Sl.isIn, Sl.ot, Ot.rd, Ot.get, gets_lv, leaves_lv, Sh.data, Sh.root, Rs.to, ↓lv_in, -List.map_map, fst_0, fst_s, ini, List.replicate_succ, enG, bTup, bCons, bName, bNil, inAt, vC, vEnd, vBrk, vCnt, vRaise, fLt, fAdd_int, fGt, fGe, fLe, fSub, fMod, fI, fFdv, cPow, fPow, fMin2, fMax2, fInt, fAbs, fNeg, Option.bind, vRet, vSet, vDrp, vCal, agEv, agIn, agIn1, lns_nil, lns_pd, lns_br, lns_ln, bor_nil, bor_pd, bor_ln, bor_br, out_nil, out_pd, out_br, out_ln, lat_nil, lat_pd, lat_br, lat_ln, keep_fd, ex_pair, keepO_sh, lnAtm_no, agOut_no, Sl.atm, atom_i, atom_s, atom_b, atom_n, atom_k, vCons, vNil, vTup, vLst, vIf, vTru, truD, vNotV, vNotT, flat_fd, vAndV, vOrV, fEq_int, fNe_int, fEq_str, fNe_str, fEq_is, fEq_si, vMet, mvEv, Opr.loc, locAt, Ot.at, Ot.put, Nde.set, append_lv, pop_lv, reverse_lv, insert_lv, vLc_eq, vFor_eq, wipeD, vYes, iR1, iL, iK, vAug, fAug_int, slotInt, fLen_list, ML.isNon, fIsN, fNotN, vIxN, ixLoc, kidQ, ixN, os_inj, ix0, ix1, ix2, ix3, ix4, lx0, lx1, lx2, lx3, fLen_tup, xAnd, xNot, xIs, vTry, enX, keepO, Ot.root, Ot.rd, fInt, vTry0, isB_n, isB_b, isB_i, isB_s, isB_l, isB_t, isI_n, isI_b, isI_i, isI_s, isI_l, isI_t, isS_n, isS_b, isS_i, isS_s, isS_l, isS_t, isL_n, isL_b, isL_i, isL_s, isL_l, isL_t, isT_n, isT_b, isT_i, isT_s, isT_l, isT_t, plc, Sh.pos, Sh.root, vLstO, ots, t__law_same, b1__law_same, b2__law_same, b3__law_same, b4__law_same, b5__law_same, b6__law_same]
    exact same_loop (.inr rfl) h2 h3 h1
  | none => exact same_atom (.inl rfl) h1
  | int i => exact same_atom (.inr (.inl ⟨i, rfl⟩)) h1
  | str i => exact same_atom (.inr (.inr (.inl ⟨i, rfl⟩))) h1
  | bool i => exact same_atom (.inr (.inr (.inr ⟨i, rfl⟩))) h1
  | _ => exact ho.elim
end LP

/-! ## LM -/
set_option Elab.async false
set_option linter.all false
set_option autoImplicit false
set_option maxRecDepth 100000
set_option maxHeartbeats 8000000
namespace LM
open PySem PySem.Spec PyProof.Rows L2 ML
def g_SLOTS : D := .int (16)
/-! ### wrapped -/
/- N ['n'] -/
def t_wrapped  : VSt :=
  (vRet (v2 fSub (.pd (v2 fMod (.pd (v2 fAdd (.pk 0) (.pd (vC (.int 2147483648))))) (.pd (vC (.int 4294967296))))) (.pd (vC (.int 2147483648)))))
/-! ### operate -/
/- N ['name', 'a', 'b'] -/
def q1_operate (s_wrapped : SemG) : VSt :=
  (vRet (vIf (vB (v2 fLt (.pk 1) (.pk 2))) (vC (.int 1)) (vC (.int 0))))
def b4_operate (s_wrapped : SemG) : VSt :=
  (vRet (vIf (vB (w2 fEq (.pk 1) (.pk 2))) (vC (.int 1)) (vC (.int 0))))
def b3_operate (s_wrapped : SemG) : VSt :=
  (vSeq (vIfS (vB (w2 fEq (.pk 0) (.pd (vC (.str (Str.ofString "less")))))) (q1_operate s_wrapped) vEnd)
    (b4_operate s_wrapped))
def b2_operate (s_wrapped : SemG) : VSt :=
  (vSeq (vIfS (vB (w2 fEq (.pk 0) (.pd (vC (.str (Str.ofString "mul")))))) (vRet (vCal s_wrapped [.pd (v2 fMulV (.pk 1) (.pk 2))])) vEnd)
    (b3_operate s_wrapped))
def b1_operate (s_wrapped : SemG) : VSt :=
  (vSeq (vIfS (vB (w2 fEq (.pk 0) (.pd (vC (.str (Str.ofString "sub")))))) (vRet (vCal s_wrapped [.pd (v2 fSub (.pk 1) (.pk 2))])) vEnd)
    (b2_operate s_wrapped))
def t_operate (s_wrapped : SemG) : VSt :=
  (vSeq (vIfS (vB (w2 fEq (.pk 0) (.pd (vC (.str (Str.ofString "add")))))) (vRet (vCal s_wrapped [.pd (v2 fAdd (.pk 1) (.pk 2))])) vEnd)
    (b1_operate s_wrapped))
/-! ### evaluate -/
/- N ['expression', 'store', 'name'] -/
def q1_evaluate (s_evaluate : SemG) (s_operate : SemG) : VSt :=
  (vRet (v2 fIx (.pk 1) (.pd (v2 fIx (.pk 0) (.pd (vC (.int 1)))))))
def b3_evaluate (s_evaluate : SemG) (s_operate : SemG) : VSt :=
  (vRet (vCal s_operate [.pd (vV 2), .pd (vCal s_evaluate [.pd (v2 fIx (.pk 0) (.pd (vC (.int 1)))), .br (.pk 1)]), .pd (vCal s_evaluate [.pd (v2 fIx (.pk 0) (.pd (vC (.int 2)))), .br (.pk 1)])]))
def b2_evaluate (s_evaluate : SemG) (s_operate : SemG) : VSt :=
  (vSeq (vIfS (vB (w2 fEq (.pk 2) (.pd (vC (.str (Str.ofString "var")))))) (q1_evaluate s_evaluate s_operate) vEnd)
    (b3_evaluate s_evaluate s_operate))
def b1_evaluate (s_evaluate : SemG) (s_operate : SemG) : VSt :=
  (vSeq (vIfS (vB (w2 fEq (.pk 2) (.pd (vC (.str (Str.ofString "num")))))) (vRet (v2 fIx (.pk 0) (.pd (vC (.int 1))))) vEnd)
    (b2_evaluate s_evaluate s_operate))
def t_evaluate (s_evaluate : SemG) (s_operate : SemG) : VSt :=
  (vSeq (vSet 2 (v2 fIx (.pk 0) (.pd (vC (.int 0)))))
    (b1_evaluate s_evaluate s_operate))
/-! ### begin -/
/- N ['statement'] -/
def t_begin  : VSt :=
  (vRet (vTup (vCons (vC (.str (Str.ofString "configuration"))) (vCons (vTup (vCons (vV 0) vNil)) (vCons (v1 fTuple (.pd (v2 fMulV (.pd (vLst (vCons (vC (.int 0)) vNil))) (.pd (vC g_SLOTS))))) (vCons (vTup vNil) vNil))))))
/-! ### act -/
/- N ['todo', 'store', 'shown', 'item', 'kind'] -/
def q1_act (s_evaluate : SemG) : VSt :=
  (vDrp (vMet (.pk 0) mExtend [(vLst (vCons (vV 3) (vCons (v2 fIx (.pk 3) (.pd (vC (.int 2)))) vNil)))]))
def q2_act (s_evaluate : SemG) : VSt :=
  (vDrp (vMet (.pk 0) mAppend [(vS (vTup (vCons (vC (.str (Str.ofString "test"))) (vCons (v2 fIx (.pk 3) (.pd (vC (.int 1)))) (vCons (v2 fIx (.pk 3) (.pd (vC (.int 2)))) vNil)))))]))
def q3_act (s_evaluate : SemG) : VSt :=
  (vIfS ((vAnd (vB (w2 fEq (.pk 4) (.pd (vC (.str (Str.ofString "test")))))) (vB (w2 fNe (.pd (vCal s_evaluate [.pd (v2 fIx (.pk 3) (.pd (vC (.int 1)))), .br (.pk 1)])) (.pd (vC (.int 0))))))) (q1_act s_evaluate) vEnd)
def q4_act (s_evaluate : SemG) : VSt :=
  (vDrp (vMet (.pk 0) mAppend [(vS (vIf (vB (w2 fEq (.pd (vCal s_evaluate [.pd (v2 fIx (.pk 3) (.pd (vC (.int 1)))), .br (.pk 1)])) (.pd (vC (.int 0))))) (v2 fIx (.pk 3) (.pd (vC (.int 3)))) (v2 fIx (.pk 3) (.pd (vC (.int 2))))))]))
def q5_act (s_evaluate : SemG) : VSt :=
  (vIfS (vB (w2 fEq (.pk 4) (.pd (vC (.str (Str.ofString "loop")))))) (q2_act s_evaluate) (q3_act s_evaluate))
def q6_act (s_evaluate : SemG) : VSt :=
  (vDrp (vMet (.pk 0) mExtend [(vLst (vCons (v2 fIx (.pk 3) (.pd (vC (.int 2)))) (vCons (v2 fIx (.pk 3) (.pd (vC (.int 1)))) vNil)))]))
def q7_act (s_evaluate : SemG) : VSt :=
  (vIfS (vB (w2 fEq (.pk 4) (.pd (vC (.str (Str.ofString "when")))))) (q4_act s_evaluate) (q5_act s_evaluate))
def q8_act (s_evaluate : SemG) : VSt :=
  (vDrp (vMet (.pk 2) mAppend [(vS (vCal s_evaluate [.pd (v2 fIx (.pk 3) (.pd (vC (.int 1)))), .br (.pk 1)]))]))
def q9_act (s_evaluate : SemG) : VSt :=
  (vIfS (vB (w2 fEq (.pk 4) (.pd (vC (.str (Str.ofString "seq")))))) (q6_act s_evaluate) (q7_act s_evaluate))
def q10_act (s_evaluate : SemG) : VSt :=
  (vPut (vS (vCal s_evaluate [.pd (v2 fIx (.pk 3) (.pd (vC (.int 2)))), .br (.pk 1)])) (.pk 1) (v2 fIx (.pk 3) (.pd (vC (.int 1)))))
def q11_act (s_evaluate : SemG) : VSt :=
  (vIfS (vB (w2 fEq (.pk 4) (.pd (vC (.str (Str.ofString "show")))))) (q8_act s_evaluate) (q9_act s_evaluate))
def b2_act (s_evaluate : SemG) : VSt :=
  (vIfS (vB (w2 fEq (.pk 4) (.pd (vC (.str (Str.ofString "set")))))) (q10_act s_evaluate) (q11_act s_evaluate))
def b1_act (s_evaluate : SemG) : VSt :=
  (vSeq (vSet 4 (v2 fIx (.pk 3) (.pd (vC (.int 0)))))
    (b2_act s_evaluate))
def t_act (s_evaluate : SemG) : VSt :=
  (vSeq (vSet 3 (vMet (.pk 0) mPop []))
    (b1_act s_evaluate))
/-! ### step -/
/- N ['configuration', '_', 'todo', 'store', 'shown', 'rest', 'slots', 'more'] -/
def t_step (s_act : SemG) : VSt :=
  (vSeq (vAsg (vV 0) (bTup 4 (bCons (bName 1) (bCons (bName 2) (bCons (bName 3) (bCons (bName 4) bNil))))))
    (vSeq (vIfS (vNot (vTru (.pk 2))) (vRet (vMv 0)) vEnd)
    (vSeq (vSet 5 (v1 fList (.pd (v1 fRevT (.pk 2)))))
    (vSeq (vSet 6 (v1 fList (.pk 3)))
    (vSeq (vSet 7 (v1 fList (.pk 4)))
    (vSeq (vDrp (vCal s_act [.ln 5, .ln 6, .ln 7]))
    (vRet (vTup (vCons (vC (.str (Str.ofString "configuration"))) (vCons (v1 fTuple (.pd (v1 fRevL (.pk 5)))) (vCons (v1 fTuple (.pk 6)) (vCons (v1 fTuple (.pk 7)) vNil))))))))))))
/-! ### ran -/
/- N ['statement', 'fuel', 'todo', 'store', 'shown', 'steps'] -/
def w1_ran (s_act : SemG) : VSt :=
  vWh ((vAnd (vTru (.pk 2)) (vB (v2 fLt (.pk 5) (.pk 1))))) (vSeq (vDrp (vCal s_act [.ln 2, .ln 3, .ln 4]))
    (vAug 5 fAug (.pd (vC (.int 1)))))
def t_ran (s_act : SemG) : VSt :=
  (vSeq (vSet 2 (vLst (vCons (vV 0) vNil)))
    (vSeq (vSet 3 (v2 fMulV (.pd (vLst (vCons (vC (.int 0)) vNil))) (.pd (vC g_SLOTS))))
    (vSeq (vSet 4 (vLst vNil))
    (vSeq (vSet 5 (vC (.int 0)))
    (vSeq (w1_ran s_act)
    (vRet (vTup (vCons (vNotT (.pk 2)) (vCons (vV 4) (vCons (vV 3) (vCons (vV 5) vNil)))))))))))
/-! ### run -/
/- N ['statement', 'fuel', 'ended', 'shown', 'store', 'steps'] -/
def t_run (s_ran : SemG) (c_FuelError : Addr) : VSt :=
  (vSeq (vAsg (vCal s_ran [.pd (vV 0), .pd (vV 1)]) (bTup 4 (bCons (bName 2) (bCons (bName 3) (bCons (bName 4) (bCons (bName 5) bNil))))))
    (vSeq (vIfS (vNot (vTru (.pk 2))) (vRaise c_FuelError) vEnd)
    (vRet (vTup (vCons (vV 3) (vCons (vV 4) (vCons (vV 5) vNil)))))))
/-! ### observe -/
/- N ['statement', 'fuel', 'ended', 'shown', '_'] -/
def t_observe (s_ran : SemG) : VSt :=
  (vSeq (vAsg (vCal s_ran [.pd (vV 0), .pd (vV 1)]) (bTup 4 (bCons (bName 2) (bCons (bName 3) (bCons (bName 4) (bCons (bName 4) bNil))))))
    (vRet (vTup (vCons (vV 2) (vCons (vV 3) vNil)))))
/-! ### _law_leaf -/
/- N ['feed'] -/
def t__law_leaf (s__law_number : SemG) (s__law_pick : SemG) : VSt :=
  (vSeq (vIfS (vB (w2 fEq (.pd (vCal s__law_pick [.ln 0, .pd (vC (.int 2))])) (.pd (vC (.int 0))))) (vRet (vTup (vCons (vC (.str (Str.ofString "num"))) (vCons (vCal s__law_number [.ln 0]) vNil)))) vEnd)
    (vRet (vTup (vCons (vC (.str (Str.ofString "var"))) (vCons (vCal s__law_pick [.ln 0, .pd (vC (.int 16))]) vNil)))))
/-! ### _law_expression -/
/- N ['feed', 'room', 'kind', 'name'] -/
def b3__law_expression (s__law_expression : SemG) (s__law_leaf : SemG) (s__law_pick : SemG) : VSt :=
  (vRet (vTup (vCons (vV 3) (vCons (vCal s__law_expression [.ln 0, .pd (v2 fSub (.pk 1) (.pd (vC (.int 1))))]) (vCons (vCal s__law_expression [.ln 0, .pd (v2 fSub (.pk 1) (.pd (vC (.int 1))))]) vNil)))))
def b2__law_expression (s__law_expression : SemG) (s__law_leaf : SemG) (s__law_pick : SemG) : VSt :=
  (vSeq (vSet 3 (v2 fIx (.pd (vLst (vCons (vC (.str (Str.ofString "add"))) (vCons (vC (.str (Str.ofString "sub"))) (vCons (vC (.str (Str.ofString "mul"))) (vCons (vC (.str (Str.ofString "less"))) (vCons (vC (.str (Str.ofString "same"))) vNil))))))) (.pd (v2 fSub (.pk 2) (.pd (vC (.int 3)))))))
    (b3__law_expression s__law_expression s__law_leaf s__law_pick))
def b1__law_expression (s__law_expression : SemG) (s__law_leaf : SemG) (s__law_pick : SemG) : VSt :=
  (vSeq (vIfS ((vOr (vB (w2 fEq (.pk 1) (.pd (vC (.int 0))))) (vB (v2 fLt (.pk 2) (.pd (vC (.int 3))))))) (vRet (vCal s__law_leaf [.ln 0])) vEnd)
    (b2__law_expression s__law_expression s__law_leaf s__law_pick))
def t__law_expression (s__law_expression : SemG) (s__law_leaf : SemG) (s__law_pick : SemG) : VSt :=
  (vSeq (vSet 2 (vCal s__law_pick [.ln 0, .pd (vC (.int 8))]))
    (b1__law_expression s__law_expression s__law_leaf s__law_pick))
/-! ### _law_statement -/
/- N ['feed', 'room', 'kind', 'e', 'slot', 'down', 'turns'] -/
def q1__law_statement (s__law_expression : SemG) (s__law_pick : SemG) (s__law_statement : SemG) : VSt :=
  (vRet (vTup (vCons (vC (.str (Str.ofString "set"))) (vCons (vCal s__law_pick [.ln 0, .pd (vC (.int 16))]) (vCons (vCal s__law_expression [.ln 0, .pd (vC (.int 2))]) vNil)))))
def q2__law_statement (s__law_expression : SemG) (s__law_pick : SemG) (s__law_statement : SemG) : VSt :=
  (vRet (vTup (vCons (vC (.str (Str.ofString "set"))) (vCons (vCal s__law_pick [.ln 0, .pd (vC (.int 2))]) (vCons (vCal s__law_expression [.ln 0, .pd (vC (.int 1))]) vNil)))))
def b106__law_statement (s__law_expression : SemG) (s__law_pick : SemG) (s__law_statement : SemG) : VSt :=
  (vRet (vTup (vCons (vC (.str (Str.ofString "show"))) (vCons (vCal s__law_expression [.ln 0, .pd (vC (.int 2))]) vNil))))
def b105__law_statement (s__law_expression : SemG) (s__law_pick : SemG) (s__law_statement : SemG) : VSt :=
  (vSeq (vIfS (vB (w2 fEq (.pk 2) (.pd (vC (.int 2))))) (q2__law_statement s__law_expression s__law_pick s__law_statement) vEnd)
    (b106__law_statement s__law_expression s__law_pick s__law_statement))
def b104__law_statement (s__law_expression : SemG) (s__law_pick : SemG) (s__law_statement : SemG) : VSt :=
  (vSeq (vIfS (vB (w2 fEq (.pk 2) (.pd (vC (.int 1))))) (q1__law_statement s__law_expression s__law_pick s__law_statement) vEnd)
    (b105__law_statement s__law_expression s__law_pick s__law_statement))
def q3__law_statement (s__law_expression : SemG) (s__law_pick : SemG) (s__law_statement : SemG) : VSt :=
  (vSeq (vIfS (vB (w2 fEq (.pk 2) (.pd (vC (.int 0))))) (vRet (vTup (vCons (vC (.str (Str.ofString "skip"))) vNil))) vEnd)
    (b104__law_statement s__law_expression s__law_pick s__law_statement))
def q4__law_statement (s__law_expression : SemG) (s__law_pick : SemG) (s__law_statement : SemG) : VSt :=
  (vRet (vTup (vCons (vC (.str (Str.ofString "seq"))) (vCons (vCal s__law_statement [.ln 0, .pd (v2 fSub (.pk 1) (.pd (vC (.int 1))))]) (vCons (vCal s__law_statement [.ln 0, .pd (v2 fSub (.pk 1) (.pd (vC (.int 1))))]) vNil)))))
def b109__law_statement (s__law_expression : SemG) (s__law_pick : SemG) (s__law_statement : SemG) : VSt :=
  (vRet (vTup (vCons (vC (.str (Str.ofString "when"))) (vCons (vV 3) (vCons (vCal s__law_statement [.ln 0, .pd (v2 fSub (.pk 1) (.pd (vC (.int 1))))]) (vCons (vCal s__law_statement [.ln 0, .pd (v2 fSub (.pk 1) (.pd (vC (.int 1))))]) vNil))))))
def q5__law_statement (s__law_expression : SemG) (s__law_pick : SemG) (s__law_statement : SemG) : VSt :=
  (vSeq (vSet 3 (vCal s__law_expression [.ln 0, .pd (vC (.int 1))]))
    (b109__law_statement s__law_expression s__law_pick s__law_statement))
def q6__law_statement (s__law_expression : SemG) (s__law_pick : SemG) (s__law_statement : SemG) : VSt :=
  (vRet (vTup (vCons (vC (.str (Str.ofString "loop"))) (vCons (vCal s__law_expression [.ln 0, .pd (vC (.int 1))]) (vCons (vCal s__law_statement [.ln 0, .pd (v2 fSub (.pk 1) (.pd (vC (.int 1))))]) vNil)))))
def b8__law_statement (s__law_expression : SemG) (s__law_pick : SemG) (s__law_statement : SemG) : VSt :=
  (vRet (vTup (vCons (vC (.str (Str.ofString "seq"))) (vCons (vV 6) (vCons (vTup (vCons (vC (.str (Str.ofString "loop"))) (vCons (vTup (vCons (vC (.str (Str.ofString "var"))) (vCons (vV 4) vNil))) (vCons (vTup (vCons (vC (.str (Str.ofString "seq"))) (vCons (vCal s__law_statement [.ln 0, .pd (v2 fSub (.pk 1) (.pd (vC (.int 1))))]) (vCons (vV 5) vNil)))) vNil)))) vNil)))))
def b7__law_statement (s__law_expression : SemG) (s__law_pick : SemG) (s__law_statement : SemG) : VSt :=
  (vSeq (vSet 6 (vTup (vCons (vC (.str (Str.ofString "set"))) (vCons (vV 4) (vCons (vTup (vCons (vC (.str (Str.ofString "num"))) (vCons (vCal s__law_pick [.ln 0, .pd (vC (.int 6))]) vNil))) vNil)))))
    (b8__law_statement s__law_expression s__law_pick s__law_statement))
def b6__law_statement (s__law_expression : SemG) (s__law_pick : SemG) (s__law_statement : SemG) : VSt :=
  (vSeq (vSet 5 (vTup (vCons (vC (.str (Str.ofString "set"))) (vCons (vV 4) (vCons (vTup (vCons (vC (.str (Str.ofString "sub"))) (vCons (vTup (vCons (vC (.str (Str.ofString "var"))) (vCons (vV 4) vNil))) (vCons (vTup (vCons (vC (.str (Str.ofString "num"))) (vCons (vC (.int 1)) vNil))) vNil)))) vNil)))))
    (b7__law_statement s__law_expression s__law_pick s__law_statement))
def b5__law_statement (s__law_expression : SemG) (s__law_pick : SemG) (s__law_statement : SemG) : VSt :=
  (vSeq (vSet 4 (vCal s__law_pick [.ln 0, .pd (vC (.int 3))]))
    (b6__law_statement s__law_expression s__law_pick s__law_statement))
def b4__law_statement (s__law_expression : SemG) (s__law_pick : SemG) (s__law_statement : SemG) : VSt :=
  (vSeq (vIfS (vB (w2 fEq (.pk 2) (.pd (vC (.int 7))))) (q6__law_statement s__law_expression s__law_pick s__law_statement) vEnd)
    (b5__law_statement s__law_expression s__law_pick s__law_statement))
def b3__law_statement (s__law_expression : SemG) (s__law_pick : SemG) (s__law_statement : SemG) : VSt :=
  (vSeq (vIfS (vB (w2 fEq (.pk 2) (.pd (vC (.int 6))))) (q5__law_statement s__law_expression s__law_pick s__law_statement) vEnd)
    (b4__law_statement s__law_expression s__law_pick s__law_statement))
def b2__law_statement (s__law_expression : SemG) (s__law_pick : SemG) (s__law_statement : SemG) : VSt :=
  (vSeq (vIfS (vB (v2 fLt (.pk 2) (.pd (vC (.int 6))))) (q4__law_statement s__law_expression s__law_pick s__law_statement) vEnd)
    (b3__law_statement s__law_expression s__law_pick s__law_statement))
def b1__law_statement (s__law_expression : SemG) (s__law_pick : SemG) (s__law_statement : SemG) : VSt :=
  (vSeq (vIfS ((vOr (vB (w2 fEq (.pk 1) (.pd (vC (.int 0))))) (vB (v2 fLt (.pk 2) (.pd (vC (.int 4))))))) (q3__law_statement s__law_expression s__law_pick s__law_statement) vEnd)
    (b2__law_statement s__law_expression s__law_pick s__law_statement))
def t__law_statement (s__law_expression : SemG) (s__law_pick : SemG) (s__law_statement : SemG) : VSt :=
  (vSeq (vSet 2 (vCal s__law_pick [.ln 0, .pd (vC (.int 9))]))
    (b1__law_statement s__law_expression s__law_pick s__law_statement))
end LM

/-! ## LMs -/
set_option Elab.async false
set_option linter.all false
set_option exponentiation.threshold 10000
set_option autoImplicit false
set_option maxRecDepth 100000
set_option maxHeartbeats 8000000
namespace LM
open PySem PySem.Spec PyProof.Rows L2 ML
inductive Nm where
  | add | sub | mul | less | same
inductive Ex where
  | num (i : Int)
  | var (s : Nat)
  | op (n : Nm) (a b : Ex)
open LP (wr)
def Nm.ap (a b : Int) : Nm → Int
  | .add => wr (a + b)
  | .sub => wr (a - b)
  | .mul => wr (a * b)
  | .less => if a < b then 1 else 0
  | .same => if a = b then 1 else 0
def ev (σ : List Int) : Ex → Int
  | .num i => i
  | .var s => σ.getD s 0
  | .op n a b => n.ap (ev σ a) (ev σ b)
inductive St where
  | skip
  | set (s : Nat) (e : Ex)
  | shw (e : Ex)
  | seq (a b : St)
  | when (e : Ex) (a b : St)
  | loop (e : Ex) (a : St)
  | test (e : Ex) (a : St)
structure S where
  td : List St
  σ : List Int
  sh : List Int
def act1 (r : List St) (σ sh : List Int) : St → S
  | .skip => ⟨r, σ, sh⟩
  | .set s e => ⟨r, σ.set s (ev σ e), sh⟩
  | .shw e => ⟨r, σ, sh ++ [ev σ e]⟩
  | .seq a b => ⟨a :: b :: r, σ, sh⟩
  | .when e a b => ⟨(if ev σ e = 0 then b else a) :: r, σ, sh⟩
  | .loop e a => ⟨.test e a :: r, σ, sh⟩
  | .test e a => if ev σ e = 0 then ⟨r, σ, sh⟩ else ⟨a :: .test e a :: r, σ, sh⟩
def stp : S → S
  | ⟨[], σ, sh⟩ => ⟨[], σ, sh⟩
  | ⟨i :: r, σ, sh⟩ => act1 r σ sh i
def frm (c : S) (R : List St) (B : List Int) : S := ⟨c.td ++ R, c.σ, B ++ c.sh⟩
theorem act1_frm (r R : List St) (σ sh B : List Int) (i : St) : act1 (r ++ R) σ (B ++ sh) i = frm (act1 r σ sh i) R B := by
  cases i <;> simp [act1, frm]
  split <;> simp
theorem stp_frm {c : S} (h : c.td ≠ []) (R : List St) (B : List Int) : stp (frm c R B) = frm (stp c) R B := by
  obtain ⟨td, σ, sh⟩ := c
  cases td with
  | nil => exact absurd rfl h
  | cons i r => exact act1_frm r R σ sh B i
def go : Nat → S → S × Nat
  | 0, c => (c, 0)
  | n + 1, c => match c.td with
    | [] => (c, 0)
    | _ :: _ => ((go n (stp c)).1, (go n (stp c)).2 + 1)
theorem go_nil (n : Nat) (σ sh : List Int) : go n ⟨[], σ, sh⟩ = (⟨[], σ, sh⟩, 0) := by cases n <;> rfl
theorem go_cons (n : Nat) {c : S} (h : c.td ≠ []) : go (n + 1) c = ((go n (stp c)).1, (go n (stp c)).2 + 1) := by
  obtain ⟨td, σ, sh⟩ := c
  cases td with
  | nil => exact absurd rfl h
  | cons i r => rfl
theorem go_done (n : Nat) {c : S} (h : c.td = []) : go n c = (c, 0) := by
  obtain ⟨td, σ, sh⟩ := c
  cases h
  exact go_nil _ _ _
/-- ends after k turns at c' -/
def Ends (c : S) (k : Nat) (c' : S) : Prop := c'.td = [] ∧ go k c = (c', k)
theorem ends_nil {c : S} (h : c.td = []) : Ends c 0 c := ⟨h, rfl⟩
theorem ends_cons {c c' : S} {k : Nat} (h : c.td ≠ []) (e : Ends (stp c) k c') : Ends c (k + 1) c' := ⟨e.1, by rw [go_cons _ h, e.2]⟩
theorem ends_inv {c c' : S} {k : Nat} (e : Ends c k c') : (c.td = [] ∧ k = 0 ∧ c' = c) ∨ ∃ j, k = j + 1 ∧ c.td ≠ [] ∧ Ends (stp c) j c' := by
  by_cases h : c.td = []
  · have := e.2
    rw [go_done _ h] at this
    cases this
    exact .inl ⟨h, rfl, rfl⟩
  · cases k with
    | zero =>
      have := e.2
      rw [show go 0 c = (c, 0) from rfl] at this
      cases this
      exact absurd e.1 h
    | succ j =>
      have := e.2
      rw [go_cons _ h] at this
      injection this with h1 h2
      exact .inr ⟨j, rfl, h, e.1, Prod.ext h1 (by show (go j (stp c)).2 = j; omega)⟩
/-- enough fuel -/
theorem ends_go {c c' : S} {k : Nat} (e : Ends c k c') : ∀ n, k ≤ n → go n c = (c', k) := by
  intro n
  induction n generalizing c k with
  | zero =>
    intro h
    have : k = 0 := by omega
    subst this
    exact e.2
  | succ n ih =>
    intro h
    rcases ends_inv e with ⟨h1, rfl, rfl⟩ | ⟨j, rfl, h1, h2⟩
    · exact go_done _ h1
    · rw [go_cons _ h1, ih h2 (by omega)]
theorem go_ends {c : S} {n : Nat} (h : (go n c).1.td = []) : Ends c (go n c).2 (go n c).1 ∧ (go n c).2 ≤ n := by
  induction n generalizing c with
  | zero => exact ⟨⟨h, rfl⟩, Nat.le_refl _⟩
  | succ n ih =>
    by_cases h0 : c.td = []
    · rw [go_done _ h0]
      exact ⟨ends_nil h0, Nat.zero_le _⟩
    · rw [go_cons _ h0] at h ⊢
      obtain ⟨h1, h2⟩ := ih h
      exact ⟨ends_cons h0 h1, by show (go n (stp c)).2 + 1 ≤ n + 1; omega⟩
theorem go_le (n : Nat) (c : S) : (go n c).2 ≤ n := by
  induction n generalizing c with
  | zero => exact Nat.le_refl _
  | succ n ih =>
    by_cases h0 : c.td = []
    · rw [go_done _ h0]; exact Nat.zero_le _
    · rw [go_cons _ h0]; have := ih (stp c); show (go n (stp c)).2 + 1 ≤ _; omega
theorem ends_det {c a b : S} {k j : Nat} (h1 : Ends c k a) (h2 : Ends c j b) : k = j ∧ a = b := by
  have e1 := ends_go h1 (k + j) (by omega)
  have e2 := ends_go h2 (k + j) (by omega)
  rw [e1] at e2
  cases e2
  exact ⟨rfl, rfl⟩
/-- one after the other -/
theorem ends_app {c c1 c2 : S} {k j : Nat} {R : List St} {B : List Int} (h1 : Ends c k c1) (h2 : Ends ⟨R, c1.σ, B ++ c1.sh⟩ j c2) : Ends (frm c R B) (k + j) c2 := by
  induction k generalizing c with
  | zero =>
    rcases ends_inv h1 with ⟨h, _, rfl⟩ | ⟨i, hi, _⟩
    · rw [Nat.zero_add]
      unfold frm
      rw [h]
      exact h2
    · omega
  | succ k ih =>
    rcases ends_inv h1 with ⟨_, h, _⟩ | ⟨i, hi, hne, he⟩
    · omega
    · have : i = k := by omega
      subst this
      have := ih he
      rw [← stp_frm hne] at this
      rw [show i + 1 + j = (i + j) + 1 by omega]
      refine ends_cons ?_ this
      intro z
      exact hne (List.append_eq_nil_iff.mp z).1
theorem ends_split {k : Nat} {c c2 : S} {R : List St} {B : List Int} (h : Ends (frm c R B) k c2) : ∃ i j c1, Ends c i c1 ∧ Ends ⟨R, c1.σ, B ++ c1.sh⟩ j c2 ∧ k = i + j := by
  induction k generalizing c with
  | zero =>
    by_cases h0 : c.td = []
    · refine ⟨0, 0, c, ends_nil h0, ?_, rfl⟩
      unfold frm at h
      rw [h0] at h
      exact h
    · rcases ends_inv h with ⟨z, _⟩ | ⟨i, hi, _⟩
      · exact absurd (List.append_eq_nil_iff.mp z).1 h0
      · omega
  | succ k ih =>
    by_cases h0 : c.td = []
    · refine ⟨0, k + 1, c, ends_nil h0, ?_, by omega⟩
      unfold frm at h
      rw [h0] at h
      exact h
    · rcases ends_inv h with ⟨z, _⟩ | ⟨i, hi, _, he⟩
      · exact absurd (List.append_eq_nil_iff.mp z).1 h0
      · have : i = k := by omega
        subst this
        rw [stp_frm h0] at he
        obtain ⟨a, b, c1, h1, h2, rfl⟩ := ih he
        exact ⟨a + 1, b, c1, ends_cons h0 h1, h2, by omega⟩
theorem ends_seq {a b : St} {σ sh : List Int} {k : Nat} {c : S} : Ends ⟨[.seq a b], σ, sh⟩ k c ↔ ∃ i j c1, Ends ⟨[a], σ, sh⟩ i c1 ∧ Ends ⟨[b], c1.σ, c1.sh⟩ j c ∧ k = i + j + 1 := by
  constructor
  · intro h
    rcases ends_inv h with ⟨z, _⟩ | ⟨m, rfl, _, he⟩
    · cases z
    · have he' : Ends (frm ⟨[a], σ, sh⟩ [b] []) m c := he
      obtain ⟨i, j, c1, h1, h2, rfl⟩ := ends_split he'
      exact ⟨i, j, c1, h1, h2, rfl⟩
  · rintro ⟨i, j, c1, h1, h2, rfl⟩
    have h2' : Ends ⟨[b], c1.σ, [] ++ c1.sh⟩ j c := h2
    exact ends_cons (by simp) (ends_app (c := ⟨[a], σ, sh⟩) (R := [b]) (B := []) h1 h2')
/-- the loop and its unrolling -/
theorem ends_unroll {e : Ex} {b : St} {σ sh : List Int} {k : Nat} {c : S} : Ends ⟨[.when e (.seq b (.loop e b)) .skip], σ, sh⟩ k c ↔ ∃ j, Ends ⟨[.loop e b], σ, sh⟩ j c ∧ ((ev σ e = 0 ∧ j = 2 ∧ k = 2) ∨ (ev σ e ≠ 0 ∧ 2 < j ∧ k = j + 1)) := by
  by_cases z : ev σ e = 0
  · have hl : Ends ⟨[.loop e b], σ, sh⟩ 2 ⟨[], σ, sh⟩ := ends_cons (by simp) (ends_cons (by simp [stp, act1]) (by simp [stp, act1, z]; exact ends_nil rfl))
    have hw : Ends ⟨[.when e (.seq b (.loop e b)) .skip], σ, sh⟩ 2 ⟨[], σ, sh⟩ := ends_cons (by simp) (ends_cons (by simp [stp, act1]) (by simp [stp, act1, z]; exact ends_nil rfl))
    constructor
    · intro h
      obtain ⟨rfl, rfl⟩ := ends_det h hw
      exact ⟨2, hl, .inl ⟨z, rfl, rfl⟩⟩
    · rintro ⟨j, h, h2⟩
      obtain ⟨rfl, rfl⟩ := ends_det h hl
      rcases h2 with ⟨_, _, rfl⟩ | ⟨n, _⟩
      · exact hw
      · exact absurd z n
  · have sl : ∀ j c, Ends ⟨[.loop e b], σ, sh⟩ j c ↔ ∃ m, j = m + 2 ∧ Ends ⟨[b, .test e b], σ, sh⟩ m c := by
      intro j c
      constructor
      · intro h
        rcases ends_inv h with ⟨q, _⟩ | ⟨i, rfl, _, h⟩
        · cases q
        · rcases ends_inv h with ⟨q, _⟩ | ⟨i, rfl, _, h⟩
          · simp [stp, act1] at q
          · refine ⟨i, rfl, ?_⟩
            simpa [stp, act1, z] using h
      · rintro ⟨m, rfl, h⟩
        exact ends_cons (by simp) (ends_cons (by simp [stp, act1]) (by simpa [stp, act1, z] using h))
    have sw : ∀ j c, Ends ⟨[.when e (.seq b (.loop e b)) .skip], σ, sh⟩ j c ↔ ∃ m, j = m + 2 ∧ Ends ⟨[b, .loop e b], σ, sh⟩ m c := by
      intro j c
      constructor
      · intro h
        rcases ends_inv h with ⟨q, _⟩ | ⟨i, rfl, _, h⟩
        · cases q
        · rcases ends_inv h with ⟨q, _⟩ | ⟨i, rfl, _, h⟩
          · simp [stp, act1] at q
          · refine ⟨i, rfl, ?_⟩
            simpa [stp, act1, z] using h
      · rintro ⟨m, rfl, h⟩
        exact ends_cons (by simp) (ends_cons (by simp [stp, act1]) (by simpa [stp, act1, z] using h))
    have both : ∀ m c, Ends ⟨[b, .loop e b], σ, sh⟩ (m + 1) c ↔ Ends ⟨[b, .test e b], σ, sh⟩ m c := by
      intro m c
      constructor
      · intro h
        have h' : Ends (frm ⟨[b], σ, sh⟩ [.loop e b] []) (m + 1) c := h
        obtain ⟨i, j, c1, h1, h2, hk⟩ := ends_split h'
        rcases ends_inv h2 with ⟨q, _⟩ | ⟨j, rfl, _, h2⟩
        · cases q
        · have h2' : Ends ⟨[.test e b], c1.σ, [] ++ c1.sh⟩ j c := h2
          have := ends_app (c := ⟨[b], σ, sh⟩) h1 h2'
          rw [show m = i + j by omega]
          exact this
      · intro h
        have h' : Ends (frm ⟨[b], σ, sh⟩ [.test e b] []) m c := h
        obtain ⟨i, j, c1, h1, h2, rfl⟩ := ends_split h'
        have h2' : Ends ⟨[.loop e b], c1.σ, [] ++ c1.sh⟩ (j + 1) c := ends_cons (by simp) h2
        exact ends_app (c := ⟨[b], σ, sh⟩) h1 h2'
    have pos : ∀ m c, Ends ⟨[b, .loop e b], σ, sh⟩ m c → ∃ j, m = j + 1 := by
      intro m c h
      rcases ends_inv h with ⟨q, _⟩ | ⟨i, rfl, _, h⟩
      · cases q
      · exact ⟨i, rfl⟩
    have pos2 : ∀ m c, Ends ⟨[b, .test e b], σ, sh⟩ m c → 0 < m := by
      intro m c h
      rcases ends_inv h with ⟨q, _⟩ | ⟨i, rfl, _, h⟩
      · cases q
      · omega
    constructor
    · intro h
      obtain ⟨m, rfl, hm⟩ := (sw _ _).mp h
      obtain ⟨j, rfl⟩ := pos _ _ hm
      have h3 := (both _ _).mp hm
      exact ⟨j + 2, (sl _ _).mpr ⟨j, rfl, h3⟩, .inr ⟨z, by have := pos2 _ _ h3; omega, by omega⟩⟩
    · rintro ⟨j, h, h2⟩
      rcases h2 with ⟨q, _⟩ | ⟨_, _, rfl⟩
      · exact absurd q z
      · obtain ⟨m, rfl, hm⟩ := (sl _ _).mp h
        exact (sw _ _).mpr ⟨m + 1, by omega, (both _ _).mpr hm⟩
/-! ### terms as data -/
def Nm.t : Nm → Str
  | .add => "add"
  | .sub => "sub"
  | .mul => "mul"
  | .less => "less"
  | .same => "same"
def Ex.d : Ex → D
  | .num i => .tuple [.str "num", .int i]
  | .var s => .tuple [.str "var", .int s]
  | .op n a b => .tuple [.str n.t, a.d, b.d]
def St.d : St → D
  | .skip => .tuple [.str "skip"]
  | .set s e => .tuple [.str "set", .int s, e.d]
  | .shw e => .tuple [.str "show", e.d]
  | .seq a b => .tuple [.str "seq", a.d, b.d]
  | .when e a b => .tuple [.str "when", e.d, a.d, b.d]
  | .loop e a => .tuple [.str "loop", e.d, a.d]
  | .test e a => .tuple [.str "test", e.d, a.d]
/-- in range -/
abbrev rg (i : Int) : Prop := LP.rg32 i
theorem rg_wr (n : Int) : rg (wr n) := LP.rg_wr n
/-- depth below n, numbers in range, slots below 16 -/
def Ex.ok : Nat → Ex → Prop
  | _, .num i => rg i
  | _, .var s => s < 16
  | 0, .op _ _ _ => False
  | n + 1, .op _ a b => a.ok n ∧ b.ok n
def sok (σ : List Int) : Prop := σ.length = 16 ∧ ∀ i ∈ σ, rg i
theorem ev_rg {σ : List Int} (hs : sok σ) : ∀ {n : Nat} {e : Ex}, e.ok n → rg (ev σ e)
  | n, .num i, h => by cases n <;> exact h
  | n, .var s, h => by
    have h' : s < σ.length := by rw [hs.1]; cases n <;> exact h
    show rg (σ.getD s 0)
    rw [List.getD_eq_getElem?_getD, List.getElem?_eq_getElem h']
    exact hs.2 _ (List.getElem_mem h')
  | 0, .op _ _ _, h => h.elim
  | n + 1, .op m a b, h => by
    cases m
    · exact rg_wr _
    · exact rg_wr _
    · exact rg_wr _
    · show rg (if _ then 1 else 0)
      split <;> (unfold rg LP.rg32; omega)
    · show rg (if _ then 1 else 0)
      split <;> (unfold rg LP.rg32; omega)
def sm_wrapped : SemG := semV fun ds Qd _ => ∃ n, ds = [.int n] ∧ Qd (.sh (.int (wr n)))
theorem s_wrapped {ins : List Sl} {Qd : Sl → List Sl → Prop} {Xd : Exn → List Sl → Prop} (hl : ins.length = 1) (h : sm_wrapped ins Qd Xd) : t_wrapped (enG 1 Qd Xd) (ini 1 ins) := by
  obtain ⟨_, rfl, n, rfl, h1⟩ := h
  simp [-Bool.exists_bool, vSeq, vAsg, vV, vMv, vS, vIfS, vOr, vAnd, vNot, vB, vv1, vv2, vv3, Opr.ev, Opr.fin, Opr.sl, Opr.base, Sl.read, Sl.rd, Sl.ra, Sl.get, Sl.isIn, Sl.ot, Ot.rd, Ot.get, gets_lv, leaves_lv, Sh.data, Sh.root, Rs.to, ↓lv_in, -List.map_map, fst_0, fst_s, ini, List.replicate_succ, enG, bTup, bCons, bName, bNil, inAt, vC, vEnd, vBrk, vCnt, vRaise, fLt, fAdd_int, fGt, fGe, fLe, fSub, fMod, fI, fFdv, cPow, fPow, fMin2, fMax2, fInt, fAbs, fNeg, Option.bind, vRet, vSet, vDrp, vCal, agEv, agIn, agIn1, lns_nil, lns_pd, lns_br, lns_ln, bor_nil, bor_pd, bor_ln, bor_br, out_nil, out_pd, out_br, out_ln, lat_nil, lat_pd, lat_br, lat_ln, keep_fd, ex_pair, keepO_sh, lnAtm_no, agOut_no, Sl.atm, atom_i, atom_s, atom_b, atom_n, atom_k, vCons, vNil, vTup, vLst, vIf, vTru, truD, vNotV, vNotT, flat_fd, vAndV, vOrV, fEq_int, fNe_int, fEq_str, fNe_str, fEq_is, fEq_si, vMet, mvEv, Opr.loc, locAt, Ot.at, Ot.put, Nde.set, append_lv, pop_lv, reverse_lv, insert_lv, vLc_eq, vFor_eq, wipeD, vYes, iR1, iL, iK, vAug, fAug_int, slotInt, fLen_list, ML.isNon, fIsN, fNotN, vIxN, ixLoc, kidQ, ixN, os_inj, ix0, ix1, ix2, ix3, ix4, lx0, lx1, lx2, lx3, fLen_tup, xAnd, xNot, xIs, vTry, enX, keepO, Ot.root, Ot.rd, fInt, vTry0, isB_n, isB_b, isB_i, isB_s, isB_l, isB_t, isI_n, isI_b, isI_i, isI_s, isI_l, isI_t, isS_n, isS_b, isS_i, isS_s, isS_l, isS_t, isL_n, isL_b, isL_i, isL_s, isL_l, isL_t, isT_n, isT_b, isT_i, isT_s, isT_l, isT_t, plc, Sh.pos, Sh.root, vLstO, ots, t_wrapped]
  exact h1 _
def sm_op : SemG := semV fun ds Qd _ => ∃ (n : Nm) (a b : Int), ds = [.str n.t, .int a, .int b] ∧ rg a ∧ Qd (.sh (.int (n.ap a b)))
theorem s_op {ins : List Sl} {Qd : Sl → List Sl → Prop} {Xd : Exn → List Sl → Prop} (hl : ins.length = 3) (h : sm_op ins Qd Xd) : t_operate sm_wrapped (enG 3 Qd Xd) (ini 3 ins) := by
  obtain ⟨_, rfl, n, a, b, rfl, ha, h1⟩ := h
  have m := mul_ok a b (by unfold rg LP.rg32 at ha; omega)
  cases n with
  | add =>
    simp [-Bool.exists_bool, vSeq, vAsg, vV, vMv, vS, vIfS, vOr, vAnd, vNot, vB, vv1, vv2, vv3, Opr.ev, Opr.fin, Opr.sl, Opr.base, Sl.read, Sl.rd, Sl.ra, Sl.get, Sl.isIn, Sl.ot, Ot.rd, Ot.get, gets_lv, leaves_lv, Sh.data, Sh.root, Rs.to, ↓lv_in, -List.map_map, fst_0, fst_s, ini, List.replicate_succ, enG, bTup, bCons, bName, bNil, inAt, vC, vEnd, vBrk, vCnt, vRaise, fLt, fAdd_int, fGt, fGe, fLe, fSub, fMod, fI, fFdv, cPow, fPow, fMin2, fMax2, fInt, fAbs, fNeg, Option.bind, vRet, vSet, vDrp, vCal, agEv, agIn, agIn1, lns_nil, lns_pd, lns_br, lns_ln, bor_nil, bor_pd, bor_ln, bor_br, out_nil, out_pd, out_br, out_ln, lat_nil, lat_pd, lat_br, lat_ln, keep_fd, ex_pair, keepO_sh, lnAtm_no, agOut_no, Sl.atm, atom_i, atom_s, atom_b, atom_n, atom_k, vCons, vNil, vTup, vLst, vIf, vTru, truD, vNotV, vNotT, flat_fd, vAndV, vOrV, fEq_int, fNe_int, fEq_str, fNe_str, fEq_is, fEq_si, vMet, mvEv, Opr.loc, locAt, Ot.at, Ot.put, Nde.set, append_lv, pop_lv, reverse_lv, insert_lv, vLc_eq, vFor_eq, wipeD, vYes, iR1, iL, iK, vAug, fAug_int, slotInt, fLen_list, ML.isNon, fIsN, fNotN, vIxN, ixLoc, kidQ, ixN, os_inj, ix0, ix1, ix2, ix3, ix4, lx0, lx1, lx2, lx3, fLen_tup, xAnd, xNot, xIs, vTry, enX, keepO, Ot.root, Ot.rd, fInt, vTry0, isB_n, isB_b, isB_i, isB_s, isB_l, isB_t, isI_n, isI_b, isI_i, isI_s, isI_l, isI_t, isS_n, isS_b, isS_i, isS_s, isS_l, isS_t, isL_n, isL_b, isL_i, isL_s, isL_l, isL_t, isT_n, isT_b, isT_i, isT_s, isT_l, isT_t, plc, Sh.pos, Sh.root, vLstO, ots, t_operate, Nm.t]
    exact ⟨[.int (a + b)], rfl, _, rfl, fun outs => by simp [-Bool.exists_bool, vSeq, vAsg, vV, vMv, vS, vIfS, vOr, vAnd, vNot, vB, vv1, vv2, vv3, Opr.ev, Opr.fin, Opr.sl, Opr.base, Sl.read, Sl.rd, Sl.ra, Sl.get, Sl.isIn, Sl.ot, Ot.rd, Ot.get, gets_lv, leaves_lv, Sh.data, Sh.root, Rs.to, ↓lv_in, -List.map_map, fst_0, fst_s, ini, List.replicate_succ, enG, bTup, bCons, bName, bNil, inAt, vC, vEnd, vBrk, vCnt, vRaise, fLt, fAdd_int, fGt, fGe, fLe, fSub, fMod, fI, fFdv, cPow, fPow, fMin2, fMax2, fInt, fAbs, fNeg, Option.bind, vRet, vSet, vDrp, vCal, agEv, agIn, agIn1, lns_nil, lns_pd, lns_br, lns_ln, bor_nil, bor_pd, bor_ln, bor_br, out_nil, out_pd, out_br, out_ln, lat_nil, lat_pd, lat_br, lat_ln, keep_fd, ex_pair, keepO_sh, lnAtm_no, agOut_no, Sl.atm, atom_i, atom_s, atom_b, atom_n, atom_k, vCons, vNil, vTup, vLst, vIf, vTru, truD, vNotV, vNotT, flat_fd, vAndV, vOrV, fEq_int, fNe_int, fEq_str, fNe_str, fEq_is, fEq_si, vMet, mvEv, Opr.loc, locAt, Ot.at, Ot.put, Nde.set, append_lv, pop_lv, reverse_lv, insert_lv, vLc_eq, vFor_eq, wipeD, vYes, iR1, iL, iK, vAug, fAug_int, slotInt, fLen_list, ML.isNon, fIsN, fNotN, vIxN, ixLoc, kidQ, ixN, os_inj, ix0, ix1, ix2, ix3, ix4, lx0, lx1, lx2, lx3, fLen_tup, xAnd, xNot, xIs, vTry, enX, keepO, Ot.root, Ot.rd, fInt, vTry0, isB_n, isB_b, isB_i, isB_s, isB_l, isB_t, isI_n, isI_b, isI_i, isI_s, isI_l, isI_t, isS_n, isS_b, isS_i, isS_s, isS_l, isS_t, isL_n, isL_b, isL_i, isL_s, isL_l, isL_t, isT_n, isT_b, isT_i, isT_s, isT_l, isT_t, plc, Sh.pos, Sh.root, vLstO, ots]; exact h1 _⟩
  | sub =>
    simp [-Bool.exists_bool, vSeq, vAsg, vV, vMv, vS, vIfS, vOr, vAnd, vNot, vB, vv1, vv2, vv3, Opr.ev, Opr.fin, Opr.sl, Opr.base, Sl.read, Sl.rd, Sl.ra, Sl.get, Sl.isIn, Sl.ot, Ot.rd, Ot.get, gets_lv, leaves_lv, Sh.data, Sh.root, Rs.to, ↓lv_in, -List.map_map, fst_0, fst_s, ini, List.replicate_succ, enG, bTup, bCons, bName, bNil, inAt, vC, vEnd, vBrk, vCnt, vRaise, fLt, fAdd_int, fGt, fGe, fLe, fSub, fMod, fI, fFdv, cPow, fPow, fMin2, fMax2, fInt, fAbs, fNeg, Option.bind, vRet, vSet, vDrp, vCal, agEv, agIn, agIn1, lns_nil, lns_pd, lns_br, lns_ln, bor_nil, bor_pd, bor_ln, bor_br, out_nil, out_pd, out_br, out_ln, lat_nil, lat_pd, lat_br, lat_ln, keep_fd, ex_pair, keepO_sh, lnAtm_no, agOut_no, Sl.atm, atom_i, atom_s, atom_b, atom_n, atom_k, vCons, vNil, vTup, vLst, vIf, vTru, truD, vNotV, vNotT, flat_fd, vAndV, vOrV, fEq_int, fNe_int, fEq_str, fNe_str, fEq_is, fEq_si, vMet, mvEv, Opr.loc, locAt, Ot.at, Ot.put, Nde.set, append_lv, pop_lv, reverse_lv, insert_lv, vLc_eq, vFor_eq, wipeD, vYes, iR1, iL, iK, vAug, fAug_int, slotInt, fLen_list, ML.isNon, fIsN, fNotN, vIxN, ixLoc, kidQ, ixN, os_inj, ix0, ix1, ix2, ix3, ix4, lx0, lx1, lx2, lx3, fLen_tup, xAnd, xNot, xIs, vTry, enX, keepO, Ot.root, Ot.rd, fInt, vTry0, isB_n, isB_b, isB_i, isB_s, isB_l, isB_t, isI_n, isI_b, isI_i, isI_s, isI_l, isI_t, isS_n, isS_b, isS_i, isS_s, isS_l, isS_t, isL_n, isL_b, isL_i, isL_s, isL_l, isL_t, isT_n, isT_b, isT_i, isT_s, isT_l, isT_t, plc, Sh.pos, Sh.root, vLstO, ots, t_operate, b1_operate, Nm.t]
    exact ⟨[.int (a - b)], rfl, _, rfl, fun outs => by simp [-Bool.exists_bool, vSeq, vAsg, vV, vMv, vS, vIfS, vOr, vAnd, vNot, vB, vv1, vv2, vv3, Opr.ev, Opr.fin, Opr.sl, Opr.base, Sl.read, Sl.rd, Sl.ra, Sl.get, Sl.isIn, Sl.ot, Ot.rd, Ot.get, gets_lv, leaves_lv, Sh.data, Sh.root, Rs.to, ↓lv_in, -List.map_map, fst_0, fst_s, ini, List.replicate_succ, enG, bTup, bCons, bName, bNil, inAt, vC, vEnd, vBrk, vCnt, vRaise, fLt, fAdd_int, fGt, fGe, fLe, fSub, fMod, fI, fFdv, cPow, fPow, fMin2, fMax2, fInt, fAbs, fNeg, Option.bind, vRet, vSet, vDrp, vCal, agEv, agIn, agIn1, lns_nil, lns_pd, lns_br, lns_ln, bor_nil, bor_pd, bor_ln, bor_br, out_nil, out_pd, out_br, out_ln, lat_nil, lat_pd, lat_br, lat_ln, keep_fd, ex_pair, keepO_sh, lnAtm_no, agOut_no, Sl.atm, atom_i, atom_s, atom_b, atom_n, atom_k, vCons, vNil, vTup, vLst, vIf, vTru, truD, vNotV, vNotT, flat_fd, vAndV, vOrV, fEq_int, fNe_int, fEq_str, fNe_str, fEq_is, fEq_si, vMet, mvEv, Opr.loc, locAt, Ot.at, Ot.put, Nde.set, append_lv, pop_lv, reverse_lv, insert_lv, vLc_eq, vFor_eq, wipeD, vYes, iR1, iL, iK, vAug, fAug_int, slotInt, fLen_list, ML.isNon, fIsN, fNotN, vIxN, ixLoc, kidQ, ixN, os_inj, ix0, ix1, ix2, ix3, ix4, lx0, lx1, lx2, lx3, fLen_tup, xAnd, xNot, xIs, vTry, enX, keepO, Ot.root, Ot.rd, fInt, vTry0, isB_n, isB_b, isB_i, isB_s, isB_l, isB_t, isI_n, isI_b, isI_i, isI_s, isI_l, isI_t, isS_n, isS_b, isS_i, isS_s, isS_l, isS_t, isL_n, isL_b, isL_i, isL_s, isL_l, isL_t, isT_n, isT_b, isT_i, isT_s, isT_l, isT_t, plc, Sh.pos, Sh.root, vLstO, ots]; exact h1 _⟩
  | mul =>
    simp [-Bool.exists_bool, vSeq, vAsg, vV, vMv, vS, vIfS, vOr, vAnd, vNot, vB, vv1, vv2, vv3, Opr.ev, Opr.fin, Opr.sl, Opr.base, Sl.read, Sl.rd, Sl.ra, Sl.get, Sl.isIn, Sl.ot, Ot.rd, Ot.get, gets_lv, leaves_lv, Sh.data, Sh.root, Rs.to, ↓lv_in, -List.map_map, fst_0, fst_s, ini, List.replicate_succ, enG, bTup, bCons, bName, bNil, inAt, vC, vEnd, vBrk, vCnt, vRaise, fLt, fAdd_int, fGt, fGe, fLe, fSub, fMod, fI, fFdv, cPow, fPow, fMin2, fMax2, fInt, fAbs, fNeg, Option.bind, vRet, vSet, vDrp, vCal, agEv, agIn, agIn1, lns_nil, lns_pd, lns_br, lns_ln, bor_nil, bor_pd, bor_ln, bor_br, out_nil, out_pd, out_br, out_ln, lat_nil, lat_pd, lat_br, lat_ln, keep_fd, ex_pair, keepO_sh, lnAtm_no, agOut_no, Sl.atm, atom_i, atom_s, atom_b, atom_n, atom_k, vCons, vNil, vTup, vLst, vIf, vTru, truD, vNotV, vNotT, flat_fd, vAndV, vOrV, fEq_int, fNe_int, fEq_str, fNe_str, fEq_is, fEq_si, vMet, mvEv, Opr.loc, locAt, Ot.at, Ot.put, Nde.set, append_lv, pop_lv, reverse_lv, insert_lv, vLc_eq, vFor_eq, wipeD, vYes, iR1, iL, iK, vAug, fAug_int, slotInt, fLen_list, ML.isNon, fIsN, fNotN, vIxN, ixLoc, kidQ, ixN, os_inj, ix0, ix1, ix2, ix3, ix4, lx0, lx1, lx2, lx3, fLen_tup, xAnd, xNot, xIs, vTry, enX, keepO, Ot.root, Ot.rd, fInt, vTry0, isB_n, isB_b, isB_i, isB_s, isB_l, isB_t, isI_n, isI_b, isI_i, isI_s, isI_l, isI_t, isS_n, isS_b, isS_i, isS_s, isS_l, isS_t, isL_n, isL_b, isL_i, isL_s, isL_l, isL_t, isT_n, isT_b, isT_i, isT_s, isT_l, isT_t, plc, Sh.pos, Sh.root, vLstO, ots, t_operate, b1_operate, b2_operate, Nm.t, m]
    exact ⟨[.int (a * b)], rfl, _, rfl, fun outs => by simp [-Bool.exists_bool, vSeq, vAsg, vV, vMv, vS, vIfS, vOr, vAnd, vNot, vB, vv1, vv2, vv3, Opr.ev, Opr.fin, Opr.sl, Opr.base, Sl.read, Sl.rd, Sl.ra, Sl.get, Sl.isIn, Sl.ot, Ot.rd, Ot.get, gets_lv, leaves_lv, Sh.data, Sh.root, Rs.to, ↓lv_in, -List.map_map, fst_0, fst_s, ini, List.replicate_succ, enG, bTup, bCons, bName, bNil, inAt, vC, vEnd, vBrk, vCnt, vRaise, fLt, fAdd_int, fGt, fGe, fLe, fSub, fMod, fI, fFdv, cPow, fPow, fMin2, fMax2, fInt, fAbs, fNeg, Option.bind, vRet, vSet, vDrp, vCal, agEv, agIn, agIn1, lns_nil, lns_pd, lns_br, lns_ln, bor_nil, bor_pd, bor_ln, bor_br, out_nil, out_pd, out_br, out_ln, lat_nil, lat_pd, lat_br, lat_ln, keep_fd, ex_pair, keepO_sh, lnAtm_no, agOut_no, Sl.atm, atom_i, atom_s, atom_b, atom_n, atom_k, vCons, vNil, vTup, vLst, vIf, vTru, truD, vNotV, vNotT, flat_fd, vAndV, vOrV, fEq_int, fNe_int, fEq_str, fNe_str, fEq_is, fEq_si, vMet, mvEv, Opr.loc, locAt, Ot.at, Ot.put, Nde.set, append_lv, pop_lv, reverse_lv, insert_lv, vLc_eq, vFor_eq, wipeD, vYes, iR1, iL, iK, vAug, fAug_int, slotInt, fLen_list, ML.isNon, fIsN, fNotN, vIxN, ixLoc, kidQ, ixN, os_inj, ix0, ix1, ix2, ix3, ix4, lx0, lx1, lx2, lx3, fLen_tup, xAnd, xNot, xIs, vTry, enX, keepO, Ot.root, Ot.rd, fInt, vTry0, isB_n, isB_b, isB_i, isB_s, isB_l, isB_t, isI_n, isI_b, isI_i, isI_s, isI_l, isI_t, isS_n, isS_b, isS_i, isS_s, isS_l, isS_t, isL_n, isL_b, isL_i, isL_s, isL_l, isL_t, isT_n, isT_b, isT_i, isT_s, isT_l, isT_t, plc, Sh.pos, Sh.root, vLstO, ots]; exact h1 _⟩
  | less =>
    simp [-Bool.exists_bool, vSeq, vAsg, vV, vMv, vS, vIfS, vOr, vAnd, vNot, vB, vv1, vv2, vv3, Opr.ev, Opr.fin, Opr.sl, Opr.base, Sl.read, Sl.rd, Sl.ra, Sl.get, Sl.isIn, Sl.ot, Ot.rd, Ot.get, gets_lv, leaves_lv, Sh.data, Sh.root, Rs.to, ↓lv_in, -List.map_map, fst_0, fst_s, ini, List.replicate_succ, enG, bTup, bCons, bName, bNil, inAt, vC, vEnd, vBrk, vCnt, vRaise, fLt, fAdd_int, fGt, fGe, fLe, fSub, fMod, fI, fFdv, cPow, fPow, fMin2, fMax2, fInt, fAbs, fNeg, Option.bind, vRet, vSet, vDrp, vCal, agEv, agIn, agIn1, lns_nil, lns_pd, lns_br, lns_ln, bor_nil, bor_pd, bor_ln, bor_br, out_nil, out_pd, out_br, out_ln, lat_nil, lat_pd, lat_br, lat_ln, keep_fd, ex_pair, keepO_sh, lnAtm_no, agOut_no, Sl.atm, atom_i, atom_s, atom_b, atom_n, atom_k, vCons, vNil, vTup, vLst, vIf, vTru, truD, vNotV, vNotT, flat_fd, vAndV, vOrV, fEq_int, fNe_int, fEq_str, fNe_str, fEq_is, fEq_si, vMet, mvEv, Opr.loc, locAt, Ot.at, Ot.put, Nde.set, append_lv, pop_lv, reverse_lv, insert_lv, vLc_eq, vFor_eq, wipeD, vYes, iR1, iL, iK, vAug, fAug_int, slotInt, fLen_list, ML.isNon, fIsN, fNotN, vIxN, ixLoc, kidQ, ixN, os_inj, ix0, ix1, ix2, ix3, ix4, lx0, lx1, lx2, lx3, fLen_tup, xAnd, xNot, xIs, vTry, enX, keepO, Ot.root, Ot.rd, fInt, vTry0, isB_n, isB_b, isB_i, isB_s, isB_l, isB_t, isI_n, isI_b, isI_i, isI_s, isI_l, isI_t, isS_n, isS_b, isS_i, isS_s, isS_l, isS_t, isL_n, isL_b, isL_i, isL_s, isL_l, isL_t, isT_n, isT_b, isT_i, isT_s, isT_l, isT_t, plc, Sh.pos, Sh.root, vLstO, ots, t_operate, b1_operate, b2_operate, b3_operate, q1_operate, Nm.t]
    have h1' : ∀ outs, Qd (.sh (.int (if a < b then 1 else 0))) outs := h1
    by_cases c : a < b
    · simp only [c, if_true] at h1' ⊢
      exact h1' _
    · simp only [c, if_false] at h1' ⊢
      exact h1' _
  | same =>
    simp [-Bool.exists_bool, vSeq, vAsg, vV, vMv, vS, vIfS, vOr, vAnd, vNot, vB, vv1, vv2, vv3, Opr.ev, Opr.fin, Opr.sl, Opr.base, Sl.read, Sl.rd, Sl.ra, Sl.get, Sl.isIn, Sl.ot, Ot.rd, Ot.get, gets_lv, leaves_lv, Sh.data, Sh.root, Rs.to, ↓lv_in, -List.map_map, fst_0, fst_s, ini, List.replicate_succ, enG, bTup, bCons, bName, bNil, inAt, vC, vEnd, vBrk, vCnt, vRaise, fLt, fAdd_int, fGt, fGe, fLe, fSub, fMod, fI, fFdv, cPow, fPow, fMin2, fMax2, fInt, fAbs, fNeg, Option.bind, vRet, vSet, vDrp, vCal, agEv, agIn, agIn1, lns_nil, lns_pd, lns_br, lns_ln, bor_nil, bor_pd, bor_ln, bor_br, out_nil, out_pd, out_br, out_ln, lat_nil, lat_pd, lat_br, lat_ln, keep_fd, ex_pair, keepO_sh, lnAtm_no, agOut_no, Sl.atm, atom_i, atom_s, atom_b, atom_n, atom_k, vCons, vNil, vTup, vLst, vIf, vTru, truD, vNotV, vNotT, flat_fd, vAndV, vOrV, fEq_int, fNe_int, fEq_str, fNe_str, fEq_is, fEq_si, vMet, mvEv, Opr.loc, locAt, Ot.at, Ot.put, Nde.set, append_lv, pop_lv, reverse_lv, insert_lv, vLc_eq, vFor_eq, wipeD, vYes, iR1, iL, iK, vAug, fAug_int, slotInt, fLen_list, ML.isNon, fIsN, fNotN, vIxN, ixLoc, kidQ, ixN, os_inj, ix0, ix1, ix2, ix3, ix4, lx0, lx1, lx2, lx3, fLen_tup, xAnd, xNot, xIs, vTry, enX, keepO, Ot.root, Ot.rd, fInt, vTry0, isB_n, isB_b, isB_i, isB_s, isB_l, isB_t, isI_n, isI_b, isI_i, isI_s, isI_l, isI_t, isS_n, isS_b, isS_i, isS_s, isS_l, isS_t, isL_n, isL_b, isL_i, isL_s, isL_l, isL_t, isT_n, isT_b, isT_i, isT_s, isT_l, isT_t, plc, Sh.pos, Sh.root, vLstO, ots, t_operate, b1_operate, b2_operate, b3_operate, b4_operate, Nm.t]
    have h1' : ∀ outs, Qd (.sh (.int (if a = b then 1 else 0))) outs := h1
    by_cases c : a = b
    · simp only [c, if_true] at h1' ⊢
      exact h1' _
    · simp only [c, if_false] at h1' ⊢
      exact h1' _
/-! ### the value of an expression, by its depth -/
def sm_ev (n : Nat) : SemG := semV fun ds Qd _ => ∃ (e : Ex) (σ : List Int), ds = [e.d, .list (zs σ)] ∧ e.ok n ∧ sok σ ∧ Qd (.sh (.int (ev σ e)))
theorem ev_leaf {n : Nat} {s : SemG} {e : Ex} {σ : List Int} {Qd : Sl → List Sl → Prop} {Xd : Exn → List Sl → Prop} (he : (∃ i, e = .num i) ∨ ∃ i, e = .var i) (ho : e.ok n) (hs : sok σ) (h : ∀ outs, Qd (.sh (.int (ev σ e))) outs) :
    t_evaluate s sm_op (enG 2 Qd Xd) (ini 3 [.sh e.d, .sh (.list (zs σ))]) := by
  rcases he with ⟨i, rfl⟩ | ⟨i, rfl⟩
  · simp [-Bool.exists_bool, vSeq, vAsg, vV, vMv, vS, vIfS, vOr, vAnd, vNot, vB, vv1, vv2, vv3, Opr.ev, Opr.fin, Opr.sl, Opr.base, Sl.read, Sl.rd, Sl.ra, Sl.get, Sl.isIn, Sl.ot, Ot.rd, Ot.get, gets_lv, leaves_lv, Sh.data, Sh.root, Rs.to, ↓lv_in, -List.map_map, fst_0, fst_s, ini, List.replicate_succ, enG, bTup, bCons, bName, bNil, inAt, vC, vEnd, vBrk, vCnt, vRaise, fLt, fAdd_int, fGt, fGe, fLe, fSub, fMod, fI, fFdv, cPow, fPow, fMin2, fMax2, fInt, fAbs, fNeg, Option.bind, vRet, vSet, vDrp, vCal, agEv, agIn, agIn1, lns_nil, lns_pd, lns_br, lns_ln, bor_nil, bor_pd, bor_ln, bor_br, out_nil, out_pd, out_br, out_ln, lat_nil, lat_pd, lat_br, lat_ln, keep_fd, ex_pair, keepO_sh, lnAtm_no, agOut_no, Sl.atm, atom_i, atom_s, atom_b, atom_n, atom_k, vCons, vNil, vTup, vLst, vIf, vTru, truD, vNotV, vNotT, flat_fd, vAndV, vOrV, fEq_int, fNe_int, fEq_str, fNe_str, fEq_is, fEq_si, vMet, mvEv, Opr.loc, locAt, Ot.at, Ot.put, Nde.set, append_lv, pop_lv, reverse_lv, insert_lv, vLc_eq, vFor_eq, wipeD, vYes, iR1, iL, iK, vAug, fAug_int, slotInt, fLen_list, ML.isNon, fIsN, fNotN, vIxN, ixLoc, kidQ, ixN, os_inj, ix0, ix1, ix2, ix3, ix4, lx0, lx1, lx2, lx3, fLen_tup, xAnd, xNot, xIs, vTry, enX, keepO, Ot.root, Ot.rd, fInt, vTry0, isB_n, isB_b, isB_i, isB_s, isB_l, isB_t, isI_n, isI_b, isI_i, isI_s, isI_l, isI_t, isS_n, isS_b, isS_i, isS_s, isS_l, isS_t, isL_n, isL_b, isL_i, isL_s, isL_l, isL_t, isT_n, isT_b, isT_i, isT_s, isT_l, isT_t, plc, Sh.pos, Sh.root, vLstO, ots, t_evaluate, b1_evaluate, Ex.d, ix0, ix1]
    exact h _
  · have hi : i < σ.length := by
      rw [hs.1]
      cases n <;> exact ho
    have hx : fIx (.list (zs σ)) (.int (i : Int)) = some (.sh (.int (σ.getD i 0))) := by
      show (L2.atI (zs σ) (i : Int)).map Rs.sh = _
      rw [atI_nat (v := .int (σ.getD i 0)) (by rw [List.getElem?_map, List.getElem?_eq_getElem hi, List.getD_eq_getElem?_getD, List.getElem?_eq_getElem hi]; rfl)]
      rfl
    simp [-Bool.exists_bool, vSeq, vAsg, vV, vMv, vS, vIfS, vOr, vAnd, vNot, vB, vv1, vv2, vv3, Opr.ev, Opr.fin, Opr.sl, Opr.base, Sl.read, Sl.rd, Sl.ra, Sl.get, Sl.isIn, Sl.ot, Ot.rd, Ot.get, gets_lv, leaves_lv, Sh.data, Sh.root, Rs.to, ↓lv_in, -List.map_map, fst_0, fst_s, ini, List.replicate_succ, enG, bTup, bCons, bName, bNil, inAt, vC, vEnd, vBrk, vCnt, vRaise, fLt, fAdd_int, fGt, fGe, fLe, fSub, fMod, fI, fFdv, cPow, fPow, fMin2, fMax2, fInt, fAbs, fNeg, Option.bind, vRet, vSet, vDrp, vCal, agEv, agIn, agIn1, lns_nil, lns_pd, lns_br, lns_ln, bor_nil, bor_pd, bor_ln, bor_br, out_nil, out_pd, out_br, out_ln, lat_nil, lat_pd, lat_br, lat_ln, keep_fd, ex_pair, keepO_sh, lnAtm_no, agOut_no, Sl.atm, atom_i, atom_s, atom_b, atom_n, atom_k, vCons, vNil, vTup, vLst, vIf, vTru, truD, vNotV, vNotT, flat_fd, vAndV, vOrV, fEq_int, fNe_int, fEq_str, fNe_str, fEq_is, fEq_si, vMet, mvEv, Opr.loc, locAt, Ot.at, Ot.put, Nde.set, append_lv, pop_lv, reverse_lv, insert_lv, vLc_eq, vFor_eq, wipeD, vYes, iR1, iL, iK, vAug, fAug_int, slotInt, fLen_list, ML.isNon, fIsN, fNotN, vIxN, ixLoc, kidQ, ixN, os_inj, ix0, ix1, ix2, ix3, ix4, lx0, lx1, lx2, lx3, fLen_tup, xAnd, xNot, xIs, vTry, enX, keepO, Ot.root, Ot.rd, fInt, vTry0, isB_n, isB_b, isB_i, isB_s, isB_l, isB_t, isI_n, isI_b, isI_i, isI_s, isI_l, isI_t, isS_n, isS_b, isS_i, isS_s, isS_l, isS_t, isL_n, isL_b, isL_i, isL_s, isL_l, isL_t, isT_n, isT_b, isT_i, isT_s, isT_l, isT_t, plc, Sh.pos, Sh.root, vLstO, ots, t_evaluate, b1_evaluate, b2_evaluate, q1_evaluate, Ex.d, ix0, ix1, hx]
    exact h _
theorem s_ev0 {ins : List Sl} {Qd : Sl → List Sl → Prop} {Xd : Exn → List Sl → Prop} (hl : ins.length = 2) (h : sm_ev 0 ins Qd Xd) : t_evaluate semNo sm_op (enG 2 Qd Xd) (ini 3 ins) := by
  obtain ⟨_, rfl, e, σ, rfl, ho, hs, h1⟩ := h
  refine ev_leaf ?_ ho hs h1
  cases e with
  | num i => exact .inl ⟨i, rfl⟩
  | var i => exact .inr ⟨i, rfl⟩
  | op n a b => exact ho.elim
theorem s_ev {n : Nat} {ins : List Sl} {Qd : Sl → List Sl → Prop} {Xd : Exn → List Sl → Prop} (hl : ins.length = 2) (h : sm_ev (n + 1) ins Qd Xd) : t_evaluate (sm_ev n) sm_op (enG 2 Qd Xd) (ini 3 ins) := by
  obtain ⟨_, rfl, e, σ, rfl, ho, hs, h1⟩ := h
  cases e with
  | num i => exact ev_leaf (.inl ⟨i, rfl⟩) ho hs h1
  | var i => exact ev_leaf (.inr ⟨i, rfl⟩) ho hs h1
  | op m a b =>
    have n1 : ¬ m.t = Str.ofString "num" := by cases m <;> exact by decide +kernel
    have n2 : ¬ m.t = Str.ofString "var" := by cases m <;> exact by decide +kernel
    simp [-Bool.exists_bool, vSeq, vAsg, vV, vMv, vS, vIfS, vOr, vAnd, vNot, vB, vv1, vv2, vv3, Opr.ev, Opr.fin, Opr.sl, Opr.base, Sl.read, Sl.rd, Sl.ra, Sl.get, Sl.isIn, Sl.ot, Ot.rd, Ot.get, gets_lv, leaves_lv, Sh.data, Sh.root, Rs.to, ↓lv_in, -List.map_map, fst_0, fst_s, ini, List.replicate_succ, enG, bTup, bCons, bName, bNil, inAt, vC, vEnd, vBrk, vCnt, vRaise, fLt, fAdd_int, fGt, fGe, fLe, fSub, fMod, fI, fFdv, cPow, fPow, fMin2, fMax2, fInt, fAbs, fNeg, Option.bind, vRet, vSet, vDrp, vCal, agEv, agIn, agIn1, lns_nil, lns_pd, lns_br, lns_ln, bor_nil, bor_pd, bor_ln, bor_br, out_nil, out_pd, out_br, out_ln, lat_nil, lat_pd, lat_br, lat_ln, keep_fd, ex_pair, keepO_sh, lnAtm_no, agOut_no, Sl.atm, atom_i, atom_s, atom_b, atom_n, atom_k, vCons, vNil, vTup, vLst, vIf, vTru, truD, vNotV, vNotT, flat_fd, vAndV, vOrV, fEq_int, fNe_int, fEq_str, fNe_str, fEq_is, fEq_si, vMet, mvEv, Opr.loc, locAt, Ot.at, Ot.put, Nde.set, append_lv, pop_lv, reverse_lv, insert_lv, vLc_eq, vFor_eq, wipeD, vYes, iR1, iL, iK, vAug, fAug_int, slotInt, fLen_list, ML.isNon, fIsN, fNotN, vIxN, ixLoc, kidQ, ixN, os_inj, ix0, ix1, ix2, ix3, ix4, lx0, lx1, lx2, lx3, fLen_tup, xAnd, xNot, xIs, vTry, enX, keepO, Ot.root, Ot.rd, fInt, vTry0, isB_n, isB_b, isB_i, isB_s, isB_l, isB_t, isI_n, isI_b, isI_i, isI_s, isI_l, isI_t, isS_n, isS_b, isS_i, isS_s, isS_l, isS_t, isL_n, isL_b, isL_i, isL_s, isL_l, isL_t, isT_n, isT_b, isT_i, isT_s, isT_l, isT_t, plc, Sh.pos, Sh.root, vLstO, ots, t_evaluate, b1_evaluate, Ex.d, ix0, n1]
    simp [-Bool.exists_bool, vSeq, vAsg, vV, vMv, vS, vIfS, vOr, vAnd, vNot, vB, vv1, vv2, vv3, Opr.ev, Opr.fin, Opr.sl, Opr.base, Sl.read, Sl.rd, Sl.ra, Sl.get, Sl.isIn, Sl.ot, Ot.rd, Ot.get, gets_lv, leaves_lv, Sh.data, Sh.root, Rs.to, ↓lv_in, -List.map_map, fst_0, fst_s, ini, List.replicate_succ, enG, bTup, bCons, bName, bNil, inAt, vC, vEnd, vBrk, vCnt, vRaise, fLt, fAdd_int, fGt, fGe, fLe, fSub, fMod, fI, fFdv, cPow, fPow, fMin2, fMax2, fInt, fAbs, fNeg, Option.bind, vRet, vSet, vDrp, vCal, agEv, agIn, agIn1, lns_nil, lns_pd, lns_br, lns_ln, bor_nil, bor_pd, bor_ln, bor_br, out_nil, out_pd, out_br, out_ln, lat_nil, lat_pd, lat_br, lat_ln, keep_fd, ex_pair, keepO_sh, lnAtm_no, agOut_no, Sl.atm, atom_i, atom_s, atom_b, atom_n, atom_k, vCons, vNil, vTup, vLst, vIf, vTru, truD, vNotV, vNotT, flat_fd, vAndV, vOrV, fEq_int, fNe_int, fEq_str, fNe_str, fEq_is, fEq_si, vMet, mvEv, Opr.loc, locAt, Ot.at, Ot.put, Nde.set, append_lv, pop_lv, reverse_lv, insert_lv, vLc_eq, vFor_eq, wipeD, vYes, iR1, iL, iK, vAug, fAug_int, slotInt, fLen_list, ML.isNon, fIsN, fNotN, vIxN, ixLoc, kidQ, ixN, os_inj, ix0, ix1, ix2, ix3, ix4, lx0, lx1, lx2, lx3, fLen_tup, xAnd, xNot, xIs, vTry, enX, keepO, Ot.root, Ot.rd, fInt, vTry0, isB_n, isB_b, isB_i, isB_s, isB_l, isB_t, isI_n, isI_b, isI_i, isI_s, isI_l, isI_t, isS_n, isS_b, isS_i, isS_s, isS_l, isS_t, isL_n, isL_b, isL_i, isL_s, isL_l, isL_t, isT_n, isT_b, isT_i, isT_s, isT_l, isT_t, plc, Sh.pos, Sh.root, vLstO, ots, b2_evaluate, b3_evaluate, ix1, ix2, n2]
    refine ⟨[a.d, .list (zs σ)], rfl, a, σ, rfl, ho.1, hs, fun outs => ?_⟩
    simp [-Bool.exists_bool, vSeq, vAsg, vV, vMv, vS, vIfS, vOr, vAnd, vNot, vB, vv1, vv2, vv3, Opr.ev, Opr.fin, Opr.sl, Opr.base, Sl.read, Sl.rd, Sl.ra, Sl.get, Sl.isIn, Sl.ot, Ot.rd, Ot.get, gets_lv, leaves_lv, Sh.data, Sh.root, Rs.to, ↓lv_in, -List.map_map, fst_0, fst_s, ini, List.replicate_succ, enG, bTup, bCons, bName, bNil, inAt, vC, vEnd, vBrk, vCnt, vRaise, fLt, fAdd_int, fGt, fGe, fLe, fSub, fMod, fI, fFdv, cPow, fPow, fMin2, fMax2, fInt, fAbs, fNeg, Option.bind, vRet, vSet, vDrp, vCal, agEv, agIn, agIn1, lns_nil, lns_pd, lns_br, lns_ln, bor_nil, bor_pd, bor_ln, bor_br, out_nil, out_pd, out_br, out_ln, lat_nil, lat_pd, lat_br, lat_ln, keep_fd, ex_pair, keepO_sh, lnAtm_no, agOut_no, Sl.atm, atom_i, atom_s, atom_b, atom_n, atom_k, vCons, vNil, vTup, vLst, vIf, vTru, truD, vNotV, vNotT, flat_fd, vAndV, vOrV, fEq_int, fNe_int, fEq_str, fNe_str, fEq_is, fEq_si, vMet, mvEv, Opr.loc, locAt, Ot.at, Ot.put, Nde.set, append_lv, pop_lv, reverse_lv, insert_lv, vLc_eq, vFor_eq, wipeD, vYes, iR1, iL, iK, vAug, fAug_int, slotInt, fLen_list, ML.isNon, fIsN, fNotN, vIxN, ixLoc, kidQ, ixN, os_inj, ix0, ix1, ix2, ix3, ix4, lx0, lx1, lx2, lx3, fLen_tup, xAnd, xNot, xIs, vTry, enX, keepO, Ot.root, Ot.rd, fInt, vTry0, isB_n, isB_b, isB_i, isB_s, isB_l, isB_t, isI_n, isI_b, isI_i, isI_s, isI_l, isI_t, isS_n, isS_b, isS_i, isS_s, isS_l, isS_t, isL_n, isL_b, isL_i, isL_s, isL_l, isL_t, isT_n, isT_b, isT_i, isT_s, isT_l, isT_t, plc, Sh.pos, Sh.root, vLstO, ots, ix2]
    refine ⟨[b.d, .list (zs σ)], rfl, b, σ, rfl, ho.2, hs, fun outs => ?_⟩
    simp [-Bool.exists_bool, vSeq, vAsg, vV, vMv, vS, vIfS, vOr, vAnd, vNot, vB, vv1, vv2, vv3, Opr.ev, Opr.fin, Opr.sl, Opr.base, Sl.read, Sl.rd, Sl.ra, Sl.get, Sl.isIn, Sl.ot, Ot.rd, Ot.get, gets_lv, leaves_lv, Sh.data, Sh.root, Rs.to, ↓lv_in, -List.map_map, fst_0, fst_s, ini, List.replicate_succ, enG, bTup, bCons, bName, bNil, inAt, vC, vEnd, vBrk, vCnt, vRaise, fLt, fAdd_int, fGt, fGe, fLe, fSub, fMod, fI, fFdv, cPow, fPow, fMin2, fMax2, fInt, fAbs, fNeg, Option.bind, vRet, vSet, vDrp, vCal, agEv, agIn, agIn1, lns_nil, lns_pd, lns_br, lns_ln, bor_nil, bor_pd, bor_ln, bor_br, out_nil, out_pd, out_br, out_ln, lat_nil, lat_pd, lat_br, lat_ln, keep_fd, ex_pair, keepO_sh, lnAtm_no, agOut_no, Sl.atm, atom_i, atom_s, atom_b, atom_n, atom_k, vCons, vNil, vTup, vLst, vIf, vTru, truD, vNotV, vNotT, flat_fd, vAndV, vOrV, fEq_int, fNe_int, fEq_str, fNe_str, fEq_is, fEq_si, vMet, mvEv, Opr.loc, locAt, Ot.at, Ot.put, Nde.set, append_lv, pop_lv, reverse_lv, insert_lv, vLc_eq, vFor_eq, wipeD, vYes, iR1, iL, iK, vAug, fAug_int, slotInt, fLen_list, ML.isNon, fIsN, fNotN, vIxN, ixLoc, kidQ, ixN, os_inj, ix0, ix1, ix2, ix3, ix4, lx0, lx1, lx2, lx3, fLen_tup, xAnd, xNot, xIs, vTry, enX, keepO, Ot.root, Ot.rd, fInt, vTry0, isB_n, isB_b, isB_i, isB_s, isB_l, isB_t, isI_n, isI_b, isI_i, isI_s, isI_l, isI_t, isS_n, isS_b, isS_i, isS_s, isS_l, isS_t, isL_n, isL_b, isL_i, isL_s, isL_l, isL_t, isT_n, isT_b, isT_i, isT_s, isT_l, isT_t, plc, Sh.pos, Sh.root, vLstO, ots]
    refine ⟨[.str m.t, .int (ev σ a), .int (ev σ b)], rfl, m, _, _, rfl, ev_rg hs ho.1, fun outs => ?_⟩
    simp [-Bool.exists_bool, vSeq, vAsg, vV, vMv, vS, vIfS, vOr, vAnd, vNot, vB, vv1, vv2, vv3, Opr.ev, Opr.fin, Opr.sl, Opr.base, Sl.read, Sl.rd, Sl.ra, Sl.get, Sl.isIn, Sl.ot, Ot.rd, Ot.get, gets_lv, leaves_lv, Sh.data, Sh.root, Rs.to, ↓lv_in, -List.map_map, fst_0, fst_s, ini, List.replicate_succ, enG, bTup, bCons, bName, bNil, inAt, vC, vEnd, vBrk, vCnt, vRaise, fLt, fAdd_int, fGt, fGe, fLe, fSub, fMod, fI, fFdv, cPow, fPow, fMin2, fMax2, fInt, fAbs, fNeg, Option.bind, vRet, vSet, vDrp, vCal, agEv, agIn, agIn1, lns_nil, lns_pd, lns_br, lns_ln, bor_nil, bor_pd, bor_ln, bor_br, out_nil, out_pd, out_br, out_ln, lat_nil, lat_pd, lat_br, lat_ln, keep_fd, ex_pair, keepO_sh, lnAtm_no, agOut_no, Sl.atm, atom_i, atom_s, atom_b, atom_n, atom_k, vCons, vNil, vTup, vLst, vIf, vTru, truD, vNotV, vNotT, flat_fd, vAndV, vOrV, fEq_int, fNe_int, fEq_str, fNe_str, fEq_is, fEq_si, vMet, mvEv, Opr.loc, locAt, Ot.at, Ot.put, Nde.set, append_lv, pop_lv, reverse_lv, insert_lv, vLc_eq, vFor_eq, wipeD, vYes, iR1, iL, iK, vAug, fAug_int, slotInt, fLen_list, ML.isNon, fIsN, fNotN, vIxN, ixLoc, kidQ, ixN, os_inj, ix0, ix1, ix2, ix3, ix4, lx0, lx1, lx2, lx3, fLen_tup, xAnd, xNot, xIs, vTry, enX, keepO, Ot.root, Ot.rd, fInt, vTry0, isB_n, isB_b, isB_i, isB_s, isB_l, isB_t, isI_n, isI_b, isI_i, isI_s, isI_l, isI_t, isS_n, isS_b, isS_i, isS_s, isS_l, isS_t, isL_n, isL_b, isL_i, isL_s, isL_l, isL_t, isT_n, isT_b, isT_i, isT_s, isT_l, isT_t, plc, Sh.pos, Sh.root, vLstO, ots]
    exact h1 _
def St.ok : St → Prop
  | .skip => True
  | .set s e => s < 16 ∧ e.ok 3
  | .shw e => e.ok 3
  | .seq a b => a.ok ∧ b.ok
  | .when e a b => e.ok 3 ∧ a.ok ∧ b.ok
  | .loop e a => e.ok 3 ∧ a.ok
  | .test e a => e.ok 3 ∧ a.ok
abbrev bk (l : List St) : List D := (l.map St.d).reverse
def sm_act : SemG := fun ins Qd _ => ∃ (p q r : Addr) (it : St) (rest : List St) (σ sh : List Int), ins = [fd p (bk rest ++ [it.d]), fd q (zs σ), fd r (zs sh)] ∧ it.ok ∧ sok σ ∧ rest.length < 900000 ∧ sh.length < 900000 ∧
  Qd (.sh .none) [fd p (bk (act1 rest σ sh it).td), fd q (zs (act1 rest σ sh it).σ), fd r (zs (act1 rest σ sh it).sh)]
theorem s_act {ins : List Sl} {Qd : Sl → List Sl → Prop} {Xd : Exn → List Sl → Prop} (hl : ins.length = 3) (h : sm_act ins Qd Xd) : t_act (sm_ev 3) (enG 3 Qd Xd) (ini 5 ins) := by
  obtain ⟨p, q, r, it, rest, σ, sh, rfl, ho, hs, hr, hh, h1⟩ := h
  have lr : (bk rest).length < 900000 := by simp; exact hr
  have hh2 : sh.length < 1000000 := by omega
  generalize ht : bk rest = T at lr
  cases it with
  | skip =>
    simp [-Bool.exists_bool, vSeq, vAsg, vV, vMv, vS, vIfS, vOr, vAnd, vNot, vB, vv1, vv2, vv3, Opr.ev, Opr.fin, Opr.sl, Opr.base, Sl.read, Sl.rd, Sl.ra, Sl.get, Sl.isIn, Sl.ot, Ot.rd, Ot.get, gets_lv, leaves_lv, Sh.data, Sh.root, Rs.to, ↓lv_in, -List.map_map, fst_0, fst_s, ini, List.replicate_succ, enG, bTup, bCons, bName, bNil, inAt, vC, vEnd, vBrk, vCnt, vRaise, fLt, fAdd_int, fGt, fGe, fLe, fSub, fMod, fI, fFdv, cPow, fPow, fMin2, fMax2, fInt, fAbs, fNeg, Option.bind, vRet, vSet, vDrp, vCal, agEv, agIn, agIn1, lns_nil, lns_pd, lns_br, lns_ln, bor_nil, bor_pd, bor_ln, bor_br, out_nil, out_pd, out_br, out_ln, lat_nil, lat_pd, lat_br, lat_ln, keep_fd, ex_pair, keepO_sh, lnAtm_no, agOut_no, Sl.atm, atom_i, atom_s, atom_b, atom_n, atom_k, vCons, vNil, vTup, vLst, vIf, vTru, truD, vNotV, vNotT, flat_fd, vAndV, vOrV, fEq_int, fNe_int, fEq_str, fNe_str, fEq_is, fEq_si, vMet, mvEv, Opr.loc, locAt, Ot.at, Ot.put, Nde.set, append_lv, pop_lv, reverse_lv, insert_lv, vLc_eq, vFor_eq, wipeD, vYes, iR1, iL, iK, vAug, fAug_int, slotInt, fLen_list, ML.isNon, fIsN, fNotN, vIxN, ixLoc, kidQ, ixN, os_inj, ix0, ix1, ix2, ix3, ix4, lx0, lx1, lx2, lx3, fLen_tup, xAnd, xNot, xIs, vTry, enX, keepO, Ot.root, Ot.rd, fInt, vTry0, isB_n, isB_b, isB_i, isB_s, isB_l, isB_t, isI_n, isI_b, isI_i, isI_s, isI_l, isI_t, isS_n, isS_b, isS_i, isS_s, isS_l, isS_t, isL_n, isL_b, isL_i, isL_s, isL_l, isL_t, isT_n, isT_b, isT_i, isT_s, isT_l, isT_t, plc, Sh.pos, Sh.root, vLstO, ots, t_act, b1_act, St.d, ix0]
    simp [-Bool.exists_bool, vSeq, vAsg, vV, vMv, vS, vIfS, vOr, vAnd, vNot, vB, vv1, vv2, vv3, Opr.ev, Opr.fin, Opr.sl, Opr.base, Sl.read, Sl.rd, Sl.ra, Sl.get, Sl.isIn, Sl.ot, Ot.rd, Ot.get, gets_lv, leaves_lv, Sh.data, Sh.root, Rs.to, ↓lv_in, -List.map_map, fst_0, fst_s, ini, List.replicate_succ, enG, bTup, bCons, bName, bNil, inAt, vC, vEnd, vBrk, vCnt, vRaise, fLt, fAdd_int, fGt, fGe, fLe, fSub, fMod, fI, fFdv, cPow, fPow, fMin2, fMax2, fInt, fAbs, fNeg, Option.bind, vRet, vSet, vDrp, vCal, agEv, agIn, agIn1, lns_nil, lns_pd, lns_br, lns_ln, bor_nil, bor_pd, bor_ln, bor_br, out_nil, out_pd, out_br, out_ln, lat_nil, lat_pd, lat_br, lat_ln, keep_fd, ex_pair, keepO_sh, lnAtm_no, agOut_no, Sl.atm, atom_i, atom_s, atom_b, atom_n, atom_k, vCons, vNil, vTup, vLst, vIf, vTru, truD, vNotV, vNotT, flat_fd, vAndV, vOrV, fEq_int, fNe_int, fEq_str, fNe_str, fEq_is, fEq_si, vMet, mvEv, Opr.loc, locAt, Ot.at, Ot.put, Nde.set, append_lv, pop_lv, reverse_lv, insert_lv, vLc_eq, vFor_eq, wipeD, vYes, iR1, iL, iK, vAug, fAug_int, slotInt, fLen_list, ML.isNon, fIsN, fNotN, vIxN, ixLoc, kidQ, ixN, os_inj, ix0, ix1, ix2, ix3, ix4, lx0, lx1, lx2, lx3, fLen_tup, xAnd, xNot, xIs, vTry, enX, keepO, Ot.root, Ot.rd, fInt, vTry0, isB_n, isB_b, isB_i, isB_s, isB_l, isB_t, isI_n, isI_b, isI_i, isI_s, isI_l, isI_t, isS_n, isS_b, isS_i, isS_s, isS_l, isS_t, isL_n, isL_b, isL_i, isL_s, isL_l, isL_t, isT_n, isT_b, isT_i, isT_s, isT_l, isT_t, plc, Sh.pos, Sh.root, vLstO, ots, b2_act]
    (try simp [-Bool.exists_bool, vSeq, vAsg, vV, vMv, vS, vIfS, vOr, vAnd, vNot, vB, vv1, vv2, vv3, Opr.ev, Opr.fin, Opr.sl, Opr.base, Sl.read, Sl.rd, Sl.ra, Sl.get, Sl.isIn, Sl.ot, Ot.rd, Ot.get, gets_lv, leaves_lv, Sh.data, Sh.root, Rs.to, ↓lv_in, -List.map_map, fst_0, fst_s, ini, List.replicate_succ, enG, bTup, bCons, bName, bNil, inAt, vC, vEnd, vBrk, vCnt, vRaise, fLt, fAdd_int, fGt, fGe, fLe, fSub, fMod, fI, fFdv, cPow, fPow, fMin2, fMax2, fInt, fAbs, fNeg, Option.bind, vRet, vSet, vDrp, vCal, agEv, agIn, agIn1, lns_nil, lns_pd, lns_br, lns_ln, bor_nil, bor_pd, bor_ln, bor_br, out_nil, out_pd, out_br, out_ln, lat_nil, lat_pd, lat_br, lat_ln, keep_fd, ex_pair, keepO_sh, lnAtm_no, agOut_no, Sl.atm, atom_i, atom_s, atom_b, atom_n, atom_k, vCons, vNil, vTup, vLst, vIf, vTru, truD, vNotV, vNotT, flat_fd, vAndV, vOrV, fEq_int, fNe_int, fEq_str, fNe_str, fEq_is, fEq_si, vMet, mvEv, Opr.loc, locAt, Ot.at, Ot.put, Nde.set, append_lv, pop_lv, reverse_lv, insert_lv, vLc_eq, vFor_eq, wipeD, vYes, iR1, iL, iK, vAug, fAug_int, slotInt, fLen_list, ML.isNon, fIsN, fNotN, vIxN, ixLoc, kidQ, ixN, os_inj, ix0, ix1, ix2, ix3, ix4, lx0, lx1, lx2, lx3, fLen_tup, xAnd, xNot, xIs, vTry, enX, keepO, Ot.root, Ot.rd, fInt, vTry0, isB_n, isB_b, isB_i, isB_s, isB_l, isB_t, isI_n, isI_b, isI_i, isI_s, isI_l, isI_t, isS_n, isS_b, isS_i, isS_s, isS_l, isS_t, isL_n, isL_b, isL_i, isL_s, isL_l, isL_t, isT_n, isT_b, isT_i, isT_s, isT_l, isT_t, plc, Sh.pos, Sh.root, vLstO, ots, q11_act])
    (try simp [-Bool.exists_bool, vSeq, vAsg, vV, vMv, vS, vIfS, vOr, vAnd, vNot, vB, vv1, vv2, vv3, Opr.ev, Opr.fin, Opr.sl, Opr.base, Sl.read, Sl.rd, Sl.ra, Sl.get, Sl.isIn, Sl.ot, Ot.rd, Ot.get, gets_lv, leaves_lv, Sh.data, Sh.root, Rs.to, ↓lv_in, -List.map_map, fst_0, fst_s, ini, List.replicate_succ, enG, bTup, bCons, bName, bNil, inAt, vC, vEnd, vBrk, vCnt, vRaise, fLt, fAdd_int, fGt, fGe, fLe, fSub, fMod, fI, fFdv, cPow, fPow, fMin2, fMax2, fInt, fAbs, fNeg, Option.bind, vRet, vSet, vDrp, vCal, agEv, agIn, agIn1, lns_nil, lns_pd, lns_br, lns_ln, bor_nil, bor_pd, bor_ln, bor_br, out_nil, out_pd, out_br, out_ln, lat_nil, lat_pd, lat_br, lat_ln, keep_fd, ex_pair, keepO_sh, lnAtm_no, agOut_no, Sl.atm, atom_i, atom_s, atom_b, atom_n, atom_k, vCons, vNil, vTup, vLst, vIf, vTru, truD, vNotV, vNotT, flat_fd, vAndV, vOrV, fEq_int, fNe_int, fEq_str, fNe_str, fEq_is, fEq_si, vMet, mvEv, Opr.loc, locAt, Ot.at, Ot.put, Nde.set, append_lv, pop_lv, reverse_lv, insert_lv, vLc_eq, vFor_eq, wipeD, vYes, iR1, iL, iK, vAug, fAug_int, slotInt, fLen_list, ML.isNon, fIsN, fNotN, vIxN, ixLoc, kidQ, ixN, os_inj, ix0, ix1, ix2, ix3, ix4, lx0, lx1, lx2, lx3, fLen_tup, xAnd, xNot, xIs, vTry, enX, keepO, Ot.root, Ot.rd, fInt, vTry0, isB_n, isB_b, isB_i, isB_s, isB_l, isB_t, isI_n, isI_b, isI_i, isI_s, isI_l, isI_t, isS_n, isS_b, isS_i, isS_s, isS_l, isS_t, isL_n, isL_b, isL_i, isL_s, isL_l, isL_t, isT_n, isT_b, isT_i, isT_s, isT_l, isT_t, plc, Sh.pos, Sh.root, vLstO, ots, q9_act])
    (try simp [-Bool.exists_bool, vSeq, vAsg, vV, vMv, vS, vIfS, vOr, vAnd, vNot, vB, vv1, vv2, vv3, Opr.ev, Opr.fin, Opr.sl, Opr.base, Sl.read, Sl.rd, Sl.ra, Sl.get, Sl.isIn, Sl.ot, Ot.rd, Ot.get, gets_lv, leaves_lv, Sh.data, Sh.root, Rs.to, ↓lv_in, -List.map_map, fst_0, fst_s, ini, List.replicate_succ, enG, bTup, bCons, bName, bNil, inAt, vC, vEnd, vBrk, vCnt, vRaise, fLt, fAdd_int, fGt, fGe, fLe, fSub, fMod, fI, fFdv, cPow, fPow, fMin2, fMax2, fInt, fAbs, fNeg, Option.bind, vRet, vSet, vDrp, vCal, agEv, agIn, agIn1, lns_nil, lns_pd, lns_br, lns_ln, bor_nil, bor_pd, bor_ln, bor_br, out_nil, out_pd, out_br, out_ln, lat_nil, lat_pd, lat_br, lat_ln, keep_fd, ex_pair, keepO_sh, lnAtm_no, agOut_no, Sl.atm, atom_i, atom_s, atom_b, atom_n, atom_k, vCons, vNil, vTup, vLst, vIf, vTru, truD, vNotV, vNotT, flat_fd, vAndV, vOrV, fEq_int, fNe_int, fEq_str, fNe_str, fEq_is, fEq_si, vMet, mvEv, Opr.loc, locAt, Ot.at, Ot.put, Nde.set, append_lv, pop_lv, reverse_lv, insert_lv, vLc_eq, vFor_eq, wipeD, vYes, iR1, iL, iK, vAug, fAug_int, slotInt, fLen_list, ML.isNon, fIsN, fNotN, vIxN, ixLoc, kidQ, ixN, os_inj, ix0, ix1, ix2, ix3, ix4, lx0, lx1, lx2, lx3, fLen_tup, xAnd, xNot, xIs, vTry, enX, keepO, Ot.root, Ot.rd, fInt, vTry0, isB_n, isB_b, isB_i, isB_s, isB_l, isB_t, isI_n, isI_b, isI_i, isI_s, isI_l, isI_t, isS_n, isS_b, isS_i, isS_s, isS_l, isS_t, isL_n, isL_b, isL_i, isL_s, isL_l, isL_t, isT_n, isT_b, isT_i, isT_s, isT_l, isT_t, plc, Sh.pos, Sh.root, vLstO, ots, q7_act])
    (try simp [-Bool.exists_bool, vSeq, vAsg, vV, vMv, vS, vIfS, vOr, vAnd, vNot, vB, vv1, vv2, vv3, Opr.ev, Opr.fin, Opr.sl, Opr.base, Sl.read, Sl.rd, Sl.ra, Sl.get, Sl.isIn, Sl.ot, Ot.rd, Ot.get, gets_lv, leaves_lv, Sh.data, Sh.root, Rs.to, ↓lv_in, -List.map_map, fst_0, fst_s, ini, List.replicate_succ, enG, bTup, bCons, bName, bNil, inAt, vC, vEnd, vBrk, vCnt, vRaise, fLt, fAdd_int, fGt, fGe, fLe, fSub, fMod, fI, fFdv, cPow, fPow, fMin2, fMax2, fInt, fAbs, fNeg, Option.bind, vRet, vSet, vDrp, vCal, agEv, agIn, agIn1, lns_nil, lns_pd, lns_br, lns_ln, bor_nil, bor_pd, bor_ln, bor_br, out_nil, out_pd, out_br, out_ln, lat_nil, lat_pd, lat_br, lat_ln, keep_fd, ex_pair, keepO_sh, lnAtm_no, agOut_no, Sl.atm, atom_i, atom_s, atom_b, atom_n, atom_k, vCons, vNil, vTup, vLst, vIf, vTru, truD, vNotV, vNotT, flat_fd, vAndV, vOrV, fEq_int, fNe_int, fEq_str, fNe_str, fEq_is, fEq_si, vMet, mvEv, Opr.loc, locAt, Ot.at, Ot.put, Nde.set, append_lv, pop_lv, reverse_lv, insert_lv, vLc_eq, vFor_eq, wipeD, vYes, iR1, iL, iK, vAug, fAug_int, slotInt, fLen_list, ML.isNon, fIsN, fNotN, vIxN, ixLoc, kidQ, ixN, os_inj, ix0, ix1, ix2, ix3, ix4, lx0, lx1, lx2, lx3, fLen_tup, xAnd, xNot, xIs, vTry, enX, keepO, Ot.root, Ot.rd, fInt, vTry0, isB_n, isB_b, isB_i, isB_s, isB_l, isB_t, isI_n, isI_b, isI_i, isI_s, isI_l, isI_t, isS_n, isS_b, isS_i, isS_s, isS_l, isS_t, isL_n, isL_b, isL_i, isL_s, isL_l, isL_t, isT_n, isT_b, isT_i, isT_s, isT_l, isT_t, plc, Sh.pos, Sh.root, vLstO, ots, q5_act])
    (try simp [-Bool.exists_bool, vSeq, vAsg, vV, vMv, vS, vIfS, vOr, vAnd, vNot, vB, vv1, vv2, vv3, Opr.ev, Opr.fin, Opr.sl, Opr.base, Sl.read, Sl.rd, Sl.ra, Sl.get, Sl.isIn, Sl.ot, Ot.rd, Ot.get, gets_lv, leaves_lv, Sh.data, Sh.root, Rs.to, ↓lv_in, -List.map_map, fst_0, fst_s, ini, List.replicate_succ, enG, bTup, bCons, bName, bNil, inAt, vC, vEnd, vBrk, vCnt, vRaise, fLt, fAdd_int, fGt, fGe, fLe, fSub, fMod, fI, fFdv, cPow, fPow, fMin2, fMax2, fInt, fAbs, fNeg, Option.bind, vRet, vSet, vDrp, vCal, agEv, agIn, agIn1, lns_nil, lns_pd, lns_br, lns_ln, bor_nil, bor_pd, bor_ln, bor_br, out_nil, out_pd, out_br, out_ln, lat_nil, lat_pd, lat_br, lat_ln, keep_fd, ex_pair, keepO_sh, lnAtm_no, agOut_no, Sl.atm, atom_i, atom_s, atom_b, atom_n, atom_k, vCons, vNil, vTup, vLst, vIf, vTru, truD, vNotV, vNotT, flat_fd, vAndV, vOrV, fEq_int, fNe_int, fEq_str, fNe_str, fEq_is, fEq_si, vMet, mvEv, Opr.loc, locAt, Ot.at, Ot.put, Nde.set, append_lv, pop_lv, reverse_lv, insert_lv, vLc_eq, vFor_eq, wipeD, vYes, iR1, iL, iK, vAug, fAug_int, slotInt, fLen_list, ML.isNon, fIsN, fNotN, vIxN, ixLoc, kidQ, ixN, os_inj, ix0, ix1, ix2, ix3, ix4, lx0, lx1, lx2, lx3, fLen_tup, xAnd, xNot, xIs, vTry, enX, keepO, Ot.root, Ot.rd, fInt, vTry0, isB_n, isB_b, isB_i, isB_s, isB_l, isB_t, isI_n, isI_b, isI_i, isI_s, isI_l, isI_t, isS_n, isS_b, isS_i, isS_s, isS_l, isS_t, isL_n, isL_b, isL_i, isL_s, isL_l, isL_t, isT_n, isT_b, isT_i, isT_s, isT_l, isT_t, plc, Sh.pos, Sh.root, vLstO, ots, q3_act])
    rw [← ht]
    exact h1
  | set s e =>
    have hx : s < (zs σ).length := by simp; rw [hs.1]; exact ho.1
    simp [-Bool.exists_bool, vSeq, vAsg, vV, vMv, vS, vIfS, vOr, vAnd, vNot, vB, vv1, vv2, vv3, Opr.ev, Opr.fin, Opr.sl, Opr.base, Sl.read, Sl.rd, Sl.ra, Sl.get, Sl.isIn, Sl.ot, Ot.rd, Ot.get, gets_lv, leaves_lv, Sh.data, Sh.root, Rs.to, ↓lv_in, -List.map_map, fst_0, fst_s, ini, List.replicate_succ, enG, bTup, bCons, bName, bNil, inAt, vC, vEnd, vBrk, vCnt, vRaise, fLt, fAdd_int, fGt, fGe, fLe, fSub, fMod, fI, fFdv, cPow, fPow, fMin2, fMax2, fInt, fAbs, fNeg, Option.bind, vRet, vSet, vDrp, vCal, agEv, agIn, agIn1, lns_nil, lns_pd, lns_br, lns_ln, bor_nil, bor_pd, bor_ln, bor_br, out_nil, out_pd, out_br, out_ln, lat_nil, lat_pd, lat_br, lat_ln, keep_fd, ex_pair, keepO_sh, lnAtm_no, agOut_no, Sl.atm, atom_i, atom_s, atom_b, atom_n, atom_k, vCons, vNil, vTup, vLst, vIf, vTru, truD, vNotV, vNotT, flat_fd, vAndV, vOrV, fEq_int, fNe_int, fEq_str, fNe_str, fEq_is, fEq_si, vMet, mvEv, Opr.loc, locAt, Ot.at, Ot.put, Nde.set, append_lv, pop_lv, reverse_lv, insert_lv, vLc_eq, vFor_eq, wipeD, vYes, iR1, iL, iK, vAug, fAug_int, slotInt, fLen_list, ML.isNon, fIsN, fNotN, vIxN, ixLoc, kidQ, ixN, os_inj, ix0, ix1, ix2, ix3, ix4, lx0, lx1, lx2, lx3, fLen_tup, xAnd, xNot, xIs, vTry, enX, keepO, Ot.root, Ot.rd, fInt, vTry0, isB_n, isB_b, isB_i, isB_s, isB_l, isB_t, isI_n, isI_b, isI_i, isI_s, isI_l, isI_t, isS_n, isS_b, isS_i, isS_s, isS_l, isS_t, isL_n, isL_b, isL_i, isL_s, isL_l, isL_t, isT_n, isT_b, isT_i, isT_s, isT_l, isT_t, plc, Sh.pos, Sh.root, vLstO, ots, t_act, b1_act, St.d, ix0]
    simp [-Bool.exists_bool, vSeq, vAsg, vV, vMv, vS, vIfS, vOr, vAnd, vNot, vB, vv1, vv2, vv3, Opr.ev, Opr.fin, Opr.sl, Opr.base, Sl.read, Sl.rd, Sl.ra, Sl.get, Sl.isIn, Sl.ot, Ot.rd, Ot.get, gets_lv, leaves_lv, Sh.data, Sh.root, Rs.to, ↓lv_in, -List.map_map, fst_0, fst_s, ini, List.replicate_succ, enG, bTup, bCons, bName, bNil, inAt, vC, vEnd, vBrk, vCnt, vRaise, fLt, fAdd_int, fGt, fGe, fLe, fSub, fMod, fI, fFdv, cPow, fPow, fMin2, fMax2, fInt, fAbs, fNeg, Option.bind, vRet, vSet, vDrp, vCal, agEv, agIn, agIn1, lns_nil, lns_pd, lns_br, lns_ln, bor_nil, bor_pd, bor_ln, bor_br, out_nil, out_pd, out_br, out_ln, lat_nil, lat_pd, lat_br, lat_ln, keep_fd, ex_pair, keepO_sh, lnAtm_no, agOut_no, Sl.atm, atom_i, atom_s, atom_b, atom_n, atom_k, vCons, vNil, vTup, vLst, vIf, vTru, truD, vNotV, vNotT, flat_fd, vAndV, vOrV, fEq_int, fNe_int, fEq_str, fNe_str, fEq_is, fEq_si, vMet, mvEv, Opr.loc, locAt, Ot.at, Ot.put, Nde.set, append_lv, pop_lv, reverse_lv, insert_lv, vLc_eq, vFor_eq, wipeD, vYes, iR1, iL, iK, vAug, fAug_int, slotInt, fLen_list, ML.isNon, fIsN, fNotN, vIxN, ixLoc, kidQ, ixN, os_inj, ix0, ix1, ix2, ix3, ix4, lx0, lx1, lx2, lx3, fLen_tup, xAnd, xNot, xIs, vTry, enX, keepO, Ot.root, Ot.rd, fInt, vTry0, isB_n, isB_b, isB_i, isB_s, isB_l, isB_t, isI_n, isI_b, isI_i, isI_s, isI_l, isI_t, isS_n, isS_b, isS_i, isS_s, isS_l, isS_t, isL_n, isL_b, isL_i, isL_s, isL_l, isL_t, isT_n, isT_b, isT_i, isT_s, isT_l, isT_t, plc, Sh.pos, Sh.root, vLstO, ots, b2_act, q10_act, vPut, ix2]
    refine ⟨[e.d, .list (zs σ)], rfl, e, σ, rfl, ho.2, hs, fun outs => ?_⟩
    simp [-Bool.exists_bool, vSeq, vAsg, vV, vMv, vS, vIfS, vOr, vAnd, vNot, vB, vv1, vv2, vv3, Opr.ev, Opr.fin, Opr.sl, Opr.base, Sl.read, Sl.rd, Sl.ra, Sl.get, Sl.isIn, Sl.ot, Ot.rd, Ot.get, gets_lv, leaves_lv, Sh.data, Sh.root, Rs.to, ↓lv_in, -List.map_map, fst_0, fst_s, ini, List.replicate_succ, enG, bTup, bCons, bName, bNil, inAt, vC, vEnd, vBrk, vCnt, vRaise, fLt, fAdd_int, fGt, fGe, fLe, fSub, fMod, fI, fFdv, cPow, fPow, fMin2, fMax2, fInt, fAbs, fNeg, Option.bind, vRet, vSet, vDrp, vCal, agEv, agIn, agIn1, lns_nil, lns_pd, lns_br, lns_ln, bor_nil, bor_pd, bor_ln, bor_br, out_nil, out_pd, out_br, out_ln, lat_nil, lat_pd, lat_br, lat_ln, keep_fd, ex_pair, keepO_sh, lnAtm_no, agOut_no, Sl.atm, atom_i, atom_s, atom_b, atom_n, atom_k, vCons, vNil, vTup, vLst, vIf, vTru, truD, vNotV, vNotT, flat_fd, vAndV, vOrV, fEq_int, fNe_int, fEq_str, fNe_str, fEq_is, fEq_si, vMet, mvEv, Opr.loc, locAt, Ot.at, Ot.put, Nde.set, append_lv, pop_lv, reverse_lv, insert_lv, vLc_eq, vFor_eq, wipeD, vYes, iR1, iL, iK, vAug, fAug_int, slotInt, fLen_list, ML.isNon, fIsN, fNotN, vIxN, ixLoc, kidQ, ixN, os_inj, ix0, ix1, ix2, ix3, ix4, lx0, lx1, lx2, lx3, fLen_tup, xAnd, xNot, xIs, vTry, enX, keepO, Ot.root, Ot.rd, fInt, vTry0, isB_n, isB_b, isB_i, isB_s, isB_l, isB_t, isI_n, isI_b, isI_i, isI_s, isI_l, isI_t, isS_n, isS_b, isS_i, isS_s, isS_l, isS_t, isL_n, isL_b, isL_i, isL_s, isL_l, isL_t, isT_n, isT_b, isT_i, isT_s, isT_l, isT_t, plc, Sh.pos, Sh.root, vLstO, ots, vPut, ix1]
    refine ⟨_, _, store_lv q (zs σ) s _ hx, ?_⟩
    rw [← ht, show (zs σ).set s (.int (ev σ e)) = zs (σ.set s (ev σ e)) from (List.map_set ..).symm]
    exact h1
  | shw e =>
    simp [-Bool.exists_bool, vSeq, vAsg, vV, vMv, vS, vIfS, vOr, vAnd, vNot, vB, vv1, vv2, vv3, Opr.ev, Opr.fin, Opr.sl, Opr.base, Sl.read, Sl.rd, Sl.ra, Sl.get, Sl.isIn, Sl.ot, Ot.rd, Ot.get, gets_lv, leaves_lv, Sh.data, Sh.root, Rs.to, ↓lv_in, -List.map_map, fst_0, fst_s, ini, List.replicate_succ, enG, bTup, bCons, bName, bNil, inAt, vC, vEnd, vBrk, vCnt, vRaise, fLt, fAdd_int, fGt, fGe, fLe, fSub, fMod, fI, fFdv, cPow, fPow, fMin2, fMax2, fInt, fAbs, fNeg, Option.bind, vRet, vSet, vDrp, vCal, agEv, agIn, agIn1, lns_nil, lns_pd, lns_br, lns_ln, bor_nil, bor_pd, bor_ln, bor_br, out_nil, out_pd, out_br, out_ln, lat_nil, lat_pd, lat_br, lat_ln, keep_fd, ex_pair, keepO_sh, lnAtm_no, agOut_no, Sl.atm, atom_i, atom_s, atom_b, atom_n, atom_k, vCons, vNil, vTup, vLst, vIf, vTru, truD, vNotV, vNotT, flat_fd, vAndV, vOrV, fEq_int, fNe_int, fEq_str, fNe_str, fEq_is, fEq_si, vMet, mvEv, Opr.loc, locAt, Ot.at, Ot.put, Nde.set, append_lv, pop_lv, reverse_lv, insert_lv, vLc_eq, vFor_eq, wipeD, vYes, iR1, iL, iK, vAug, fAug_int, slotInt, fLen_list, ML.isNon, fIsN, fNotN, vIxN, ixLoc, kidQ, ixN, os_inj, ix0, ix1, ix2, ix3, ix4, lx0, lx1, lx2, lx3, fLen_tup, xAnd, xNot, xIs, vTry, enX, keepO, Ot.root, Ot.rd, fInt, vTry0, isB_n, isB_b, isB_i, isB_s, isB_l, isB_t, isI_n, isI_b, isI_i, isI_s, isI_l, isI_t, isS_n, isS_b, isS_i, isS_s, isS_l, isS_t, isL_n, isL_b, isL_i, isL_s, isL_l, isL_t, isT_n, isT_b, isT_i, isT_s, isT_l, isT_t, plc, Sh.pos, Sh.root, vLstO, ots, t_act, b1_act, St.d, ix0]
    simp [-Bool.exists_bool, vSeq, vAsg, vV, vMv, vS, vIfS, vOr, vAnd, vNot, vB, vv1, vv2, vv3, Opr.ev, Opr.fin, Opr.sl, Opr.base, Sl.read, Sl.rd, Sl.ra, Sl.get, Sl.isIn, Sl.ot, Ot.rd, Ot.get, gets_lv, leaves_lv, Sh.data, Sh.root, Rs.to, ↓lv_in, -List.map_map, fst_0, fst_s, ini, List.replicate_succ, enG, bTup, bCons, bName, bNil, inAt, vC, vEnd, vBrk, vCnt, vRaise, fLt, fAdd_int, fGt, fGe, fLe, fSub, fMod, fI, fFdv, cPow, fPow, fMin2, fMax2, fInt, fAbs, fNeg, Option.bind, vRet, vSet, vDrp, vCal, agEv, agIn, agIn1, lns_nil, lns_pd, lns_br, lns_ln, bor_nil, bor_pd, bor_ln, bor_br, out_nil, out_pd, out_br, out_ln, lat_nil, lat_pd, lat_br, lat_ln, keep_fd, ex_pair, keepO_sh, lnAtm_no, agOut_no, Sl.atm, atom_i, atom_s, atom_b, atom_n, atom_k, vCons, vNil, vTup, vLst, vIf, vTru, truD, vNotV, vNotT, flat_fd, vAndV, vOrV, fEq_int, fNe_int, fEq_str, fNe_str, fEq_is, fEq_si, vMet, mvEv, Opr.loc, locAt, Ot.at, Ot.put, Nde.set, append_lv, pop_lv, reverse_lv, insert_lv, vLc_eq, vFor_eq, wipeD, vYes, iR1, iL, iK, vAug, fAug_int, slotInt, fLen_list, ML.isNon, fIsN, fNotN, vIxN, ixLoc, kidQ, ixN, os_inj, ix0, ix1, ix2, ix3, ix4, lx0, lx1, lx2, lx3, fLen_tup, xAnd, xNot, xIs, vTry, enX, keepO, Ot.root, Ot.rd, fInt, vTry0, isB_n, isB_b, isB_i, isB_s, isB_l, isB_t, isI_n, isI_b, isI_i, isI_s, isI_l, isI_t, isS_n, isS_b, isS_i, isS_s, isS_l, isS_t, isL_n, isL_b, isL_i, isL_s, isL_l, isL_t, isT_n, isT_b, isT_i, isT_s, isT_l, isT_t, plc, Sh.pos, Sh.root, vLstO, ots, b2_act]
    simp [-Bool.exists_bool, vSeq, vAsg, vV, vMv, vS, vIfS, vOr, vAnd, vNot, vB, vv1, vv2, vv3, Opr.ev, Opr.fin, Opr.sl, Opr.base, Sl.read, Sl.rd, Sl.ra, Sl.get, Sl.isIn, Sl.ot, Ot.rd, Ot.get, gets_lv, leaves_lv, Sh.data, Sh.root, Rs.to, ↓lv_in, -List.map_map, fst_0, fst_s, ini, List.replicate_succ, enG, bTup, bCons, bName, bNil, inAt, vC, vEnd, vBrk, vCnt, vRaise, fLt, fAdd_int, fGt, fGe, fLe, fSub, fMod, fI, fFdv, cPow, fPow, fMin2, fMax2, fInt, fAbs, fNeg, Option.bind, vRet, vSet, vDrp, vCal, agEv, agIn, agIn1, lns_nil, lns_pd, lns_br, lns_ln, bor_nil, bor_pd, bor_ln, bor_br, out_nil, out_pd, out_br, out_ln, lat_nil, lat_pd, lat_br, lat_ln, keep_fd, ex_pair, keepO_sh, lnAtm_no, agOut_no, Sl.atm, atom_i, atom_s, atom_b, atom_n, atom_k, vCons, vNil, vTup, vLst, vIf, vTru, truD, vNotV, vNotT, flat_fd, vAndV, vOrV, fEq_int, fNe_int, fEq_str, fNe_str, fEq_is, fEq_si, vMet, mvEv, Opr.loc, locAt, Ot.at, Ot.put, Nde.set, append_lv, pop_lv, reverse_lv, insert_lv, vLc_eq, vFor_eq, wipeD, vYes, iR1, iL, iK, vAug, fAug_int, slotInt, fLen_list, ML.isNon, fIsN, fNotN, vIxN, ixLoc, kidQ, ixN, os_inj, ix0, ix1, ix2, ix3, ix4, lx0, lx1, lx2, lx3, fLen_tup, xAnd, xNot, xIs, vTry, enX, keepO, Ot.root, Ot.rd, fInt, vTry0, isB_n, isB_b, isB_i, isB_s, isB_l, isB_t, isI_n, isI_b, isI_i, isI_s, isI_l, isI_t, isS_n, isS_b, isS_i, isS_s, isS_l, isS_t, isL_n, isL_b, isL_i, isL_s, isL_l, isL_t, isT_n, isT_b, isT_i, isT_s, isT_l, isT_t, plc, Sh.pos, Sh.root, vLstO, ots, q11_act, q8_act, ix1]
    refine ⟨[e.d, .list (zs σ)], rfl, e, σ, rfl, ho, hs, fun outs => ?_⟩
    simp [-Bool.exists_bool, vSeq, vAsg, vV, vMv, vS, vIfS, vOr, vAnd, vNot, vB, vv1, vv2, vv3, Opr.ev, Opr.fin, Opr.sl, Opr.base, Sl.read, Sl.rd, Sl.ra, Sl.get, Sl.isIn, Sl.ot, Ot.rd, Ot.get, gets_lv, leaves_lv, Sh.data, Sh.root, Rs.to, ↓lv_in, -List.map_map, fst_0, fst_s, ini, List.replicate_succ, enG, bTup, bCons, bName, bNil, inAt, vC, vEnd, vBrk, vCnt, vRaise, fLt, fAdd_int, fGt, fGe, fLe, fSub, fMod, fI, fFdv, cPow, fPow, fMin2, fMax2, fInt, fAbs, fNeg, Option.bind, vRet, vSet, vDrp, vCal, agEv, agIn, agIn1, lns_nil, lns_pd, lns_br, lns_ln, bor_nil, bor_pd, bor_ln, bor_br, out_nil, out_pd, out_br, out_ln, lat_nil, lat_pd, lat_br, lat_ln, keep_fd, ex_pair, keepO_sh, lnAtm_no, agOut_no, Sl.atm, atom_i, atom_s, atom_b, atom_n, atom_k, vCons, vNil, vTup, vLst, vIf, vTru, truD, vNotV, vNotT, flat_fd, vAndV, vOrV, fEq_int, fNe_int, fEq_str, fNe_str, fEq_is, fEq_si, vMet, mvEv, Opr.loc, locAt, Ot.at, Ot.put, Nde.set, append_lv, pop_lv, reverse_lv, insert_lv, vLc_eq, vFor_eq, wipeD, vYes, iR1, iL, iK, vAug, fAug_int, slotInt, fLen_list, ML.isNon, fIsN, fNotN, vIxN, ixLoc, kidQ, ixN, os_inj, ix0, ix1, ix2, ix3, ix4, lx0, lx1, lx2, lx3, fLen_tup, xAnd, xNot, xIs, vTry, enX, keepO, Ot.root, Ot.rd, fInt, vTry0, isB_n, isB_b, isB_i, isB_s, isB_l, isB_t, isI_n, isI_b, isI_i, isI_s, isI_l, isI_t, isS_n, isS_b, isS_i, isS_s, isS_l, isS_t, isL_n, isL_b, isL_i, isL_s, isL_l, isL_t, isT_n, isT_b, isT_i, isT_s, isT_l, isT_t, plc, Sh.pos, Sh.root, vLstO, ots, hh2]
    rw [← ht, show zs sh ++ [.int (ev σ e)] = zs (sh ++ [ev σ e]) by simp [zs]]
    exact h1
  | seq a b =>
    have le : T.length + ([b.d, a.d] : List D).length ≤ 1000000 := by simp; omega
    simp [-Bool.exists_bool, vSeq, vAsg, vV, vMv, vS, vIfS, vOr, vAnd, vNot, vB, vv1, vv2, vv3, Opr.ev, Opr.fin, Opr.sl, Opr.base, Sl.read, Sl.rd, Sl.ra, Sl.get, Sl.isIn, Sl.ot, Ot.rd, Ot.get, gets_lv, leaves_lv, Sh.data, Sh.root, Rs.to, ↓lv_in, -List.map_map, fst_0, fst_s, ini, List.replicate_succ, enG, bTup, bCons, bName, bNil, inAt, vC, vEnd, vBrk, vCnt, vRaise, fLt, fAdd_int, fGt, fGe, fLe, fSub, fMod, fI, fFdv, cPow, fPow, fMin2, fMax2, fInt, fAbs, fNeg, Option.bind, vRet, vSet, vDrp, vCal, agEv, agIn, agIn1, lns_nil, lns_pd, lns_br, lns_ln, bor_nil, bor_pd, bor_ln, bor_br, out_nil, out_pd, out_br, out_ln, lat_nil, lat_pd, lat_br, lat_ln, keep_fd, ex_pair, keepO_sh, lnAtm_no, agOut_no, Sl.atm, atom_i, atom_s, atom_b, atom_n, atom_k, vCons, vNil, vTup, vLst, vIf, vTru, truD, vNotV, vNotT, flat_fd, vAndV, vOrV, fEq_int, fNe_int, fEq_str, fNe_str, fEq_is, fEq_si, vMet, mvEv, Opr.loc, locAt, Ot.at, Ot.put, Nde.set, append_lv, pop_lv, reverse_lv, insert_lv, vLc_eq, vFor_eq, wipeD, vYes, iR1, iL, iK, vAug, fAug_int, slotInt, fLen_list, ML.isNon, fIsN, fNotN, vIxN, ixLoc, kidQ, ixN, os_inj, ix0, ix1, ix2, ix3, ix4, lx0, lx1, lx2, lx3, fLen_tup, xAnd, xNot, xIs, vTry, enX, keepO, Ot.root, Ot.rd, fInt, vTry0, isB_n, isB_b, isB_i, isB_s, isB_l, isB_t, isI_n, isI_b, isI_i, isI_s, isI_l, isI_t, isS_n, isS_b, isS_i, isS_s, isS_l, isS_t, isL_n, isL_b, isL_i, isL_s, isL_l, isL_t, isT_n, isT_b, isT_i, isT_s, isT_l, isT_t, plc, Sh.pos, Sh.root, vLstO, ots, t_act, b1_act, St.d, ix0]
    simp [-Bool.exists_bool, vSeq, vAsg, vV, vMv, vS, vIfS, vOr, vAnd, vNot, vB, vv1, vv2, vv3, Opr.ev, Opr.fin, Opr.sl, Opr.base, Sl.read, Sl.rd, Sl.ra, Sl.get, Sl.isIn, Sl.ot, Ot.rd, Ot.get, gets_lv, leaves_lv, Sh.data, Sh.root, Rs.to, ↓lv_in, -List.map_map, fst_0, fst_s, ini, List.replicate_succ, enG, bTup, bCons, bName, bNil, inAt, vC, vEnd, vBrk, vCnt, vRaise, fLt, fAdd_int, fGt, fGe, fLe, fSub, fMod, fI, fFdv, cPow, fPow, fMin2, fMax2, fInt, fAbs, fNeg, Option.bind, vRet, vSet, vDrp, vCal, agEv, agIn, agIn1, lns_nil, lns_pd, lns_br, lns_ln, bor_nil, bor_pd, bor_ln, bor_br, out_nil, out_pd, out_br, out_ln, lat_nil, lat_pd, lat_br, lat_ln, keep_fd, ex_pair, keepO_sh, lnAtm_no, agOut_no, Sl.atm, atom_i, atom_s, atom_b, atom_n, atom_k, vCons, vNil, vTup, vLst, vIf, vTru, truD, vNotV, vNotT, flat_fd, vAndV, vOrV, fEq_int, fNe_int, fEq_str, fNe_str, fEq_is, fEq_si, vMet, mvEv, Opr.loc, locAt, Ot.at, Ot.put, Nde.set, append_lv, pop_lv, reverse_lv, insert_lv, vLc_eq, vFor_eq, wipeD, vYes, iR1, iL, iK, vAug, fAug_int, slotInt, fLen_list, ML.isNon, fIsN, fNotN, vIxN, ixLoc, kidQ, ixN, os_inj, ix0, ix1, ix2, ix3, ix4, lx0, lx1, lx2, lx3, fLen_tup, xAnd, xNot, xIs, vTry, enX, keepO, Ot.root, Ot.rd, fInt, vTry0, isB_n, isB_b, isB_i, isB_s, isB_l, isB_t, isI_n, isI_b, isI_i, isI_s, isI_l, isI_t, isS_n, isS_b, isS_i, isS_s, isS_l, isS_t, isL_n, isL_b, isL_i, isL_s, isL_l, isL_t, isT_n, isT_b, isT_i, isT_s, isT_l, isT_t, plc, Sh.pos, Sh.root, vLstO, ots, b2_act]
    simp [-Bool.exists_bool, vSeq, vAsg, vV, vMv, vS, vIfS, vOr, vAnd, vNot, vB, vv1, vv2, vv3, Opr.ev, Opr.fin, Opr.sl, Opr.base, Sl.read, Sl.rd, Sl.ra, Sl.get, Sl.isIn, Sl.ot, Ot.rd, Ot.get, gets_lv, leaves_lv, Sh.data, Sh.root, Rs.to, ↓lv_in, -List.map_map, fst_0, fst_s, ini, List.replicate_succ, enG, bTup, bCons, bName, bNil, inAt, vC, vEnd, vBrk, vCnt, vRaise, fLt, fAdd_int, fGt, fGe, fLe, fSub, fMod, fI, fFdv, cPow, fPow, fMin2, fMax2, fInt, fAbs, fNeg, Option.bind, vRet, vSet, vDrp, vCal, agEv, agIn, agIn1, lns_nil, lns_pd, lns_br, lns_ln, bor_nil, bor_pd, bor_ln, bor_br, out_nil, out_pd, out_br, out_ln, lat_nil, lat_pd, lat_br, lat_ln, keep_fd, ex_pair, keepO_sh, lnAtm_no, agOut_no, Sl.atm, atom_i, atom_s, atom_b, atom_n, atom_k, vCons, vNil, vTup, vLst, vIf, vTru, truD, vNotV, vNotT, flat_fd, vAndV, vOrV, fEq_int, fNe_int, fEq_str, fNe_str, fEq_is, fEq_si, vMet, mvEv, Opr.loc, locAt, Ot.at, Ot.put, Nde.set, append_lv, pop_lv, reverse_lv, insert_lv, vLc_eq, vFor_eq, wipeD, vYes, iR1, iL, iK, vAug, fAug_int, slotInt, fLen_list, ML.isNon, fIsN, fNotN, vIxN, ixLoc, kidQ, ixN, os_inj, ix0, ix1, ix2, ix3, ix4, lx0, lx1, lx2, lx3, fLen_tup, xAnd, xNot, xIs, vTry, enX, keepO, Ot.root, Ot.rd, fInt, vTry0, isB_n, isB_b, isB_i, isB_s, isB_l, isB_t, isI_n, isI_b, isI_i, isI_s, isI_l, isI_t, isS_n, isS_b, isS_i, isS_s, isS_l, isS_t, isL_n, isL_b, isL_i, isL_s, isL_l, isL_t, isT_n, isT_b, isT_i, isT_s, isT_l, isT_t, plc, Sh.pos, Sh.root, vLstO, ots, q11_act]
    simp [-Bool.exists_bool, vSeq, vAsg, vV, vMv, vS, vIfS, vOr, vAnd, vNot, vB, vv1, vv2, vv3, Opr.ev, Opr.fin, Opr.sl, Opr.base, Sl.read, Sl.rd, Sl.ra, Sl.get, Sl.isIn, Sl.ot, Ot.rd, Ot.get, gets_lv, leaves_lv, Sh.data, Sh.root, Rs.to, ↓lv_in, -List.map_map, fst_0, fst_s, ini, List.replicate_succ, enG, bTup, bCons, bName, bNil, inAt, vC, vEnd, vBrk, vCnt, vRaise, fLt, fAdd_int, fGt, fGe, fLe, fSub, fMod, fI, fFdv, cPow, fPow, fMin2, fMax2, fInt, fAbs, fNeg, Option.bind, vRet, vSet, vDrp, vCal, agEv, agIn, agIn1, lns_nil, lns_pd, lns_br, lns_ln, bor_nil, bor_pd, bor_ln, bor_br, out_nil, out_pd, out_br, out_ln, lat_nil, lat_pd, lat_br, lat_ln, keep_fd, ex_pair, keepO_sh, lnAtm_no, agOut_no, Sl.atm, atom_i, atom_s, atom_b, atom_n, atom_k, vCons, vNil, vTup, vLst, vIf, vTru, truD, vNotV, vNotT, flat_fd, vAndV, vOrV, fEq_int, fNe_int, fEq_str, fNe_str, fEq_is, fEq_si, vMet, mvEv, Opr.loc, locAt, Ot.at, Ot.put, Nde.set, append_lv, pop_lv, reverse_lv, insert_lv, vLc_eq, vFor_eq, wipeD, vYes, iR1, iL, iK, vAug, fAug_int, slotInt, fLen_list, ML.isNon, fIsN, fNotN, vIxN, ixLoc, kidQ, ixN, os_inj, ix0, ix1, ix2, ix3, ix4, lx0, lx1, lx2, lx3, fLen_tup, xAnd, xNot, xIs, vTry, enX, keepO, Ot.root, Ot.rd, fInt, vTry0, isB_n, isB_b, isB_i, isB_s, isB_l, isB_t, isI_n, isI_b, isI_i, isI_s, isI_l, isI_t, isS_n, isS_b, isS_i, isS_s, isS_l, isS_t, isL_n, isL_b, isL_i, isL_s, isL_l, isL_t, isT_n, isT_b, isT_i, isT_s, isT_l, isT_t, plc, Sh.pos, Sh.root, vLstO, ots, q9_act, q6_act, ix1, ix2]
    intro p'
    refine ⟨_, ⟨_, ext_ok le⟩, ?_⟩
    rw [← ht, show bk rest ++ [b.d, a.d] = bk (a :: b :: rest) by simp [bk]]
    exact h1
  | when e a b =>
    have le : T.length < 1000000 := by omega
    simp [-Bool.exists_bool, vSeq, vAsg, vV, vMv, vS, vIfS, vOr, vAnd, vNot, vB, vv1, vv2, vv3, Opr.ev, Opr.fin, Opr.sl, Opr.base, Sl.read, Sl.rd, Sl.ra, Sl.get, Sl.isIn, Sl.ot, Ot.rd, Ot.get, gets_lv, leaves_lv, Sh.data, Sh.root, Rs.to, ↓lv_in, -List.map_map, fst_0, fst_s, ini, List.replicate_succ, enG, bTup, bCons, bName, bNil, inAt, vC, vEnd, vBrk, vCnt, vRaise, fLt, fAdd_int, fGt, fGe, fLe, fSub, fMod, fI, fFdv, cPow, fPow, fMin2, fMax2, fInt, fAbs, fNeg, Option.bind, vRet, vSet, vDrp, vCal, agEv, agIn, agIn1, lns_nil, lns_pd, lns_br, lns_ln, bor_nil, bor_pd, bor_ln, bor_br, out_nil, out_pd, out_br, out_ln, lat_nil, lat_pd, lat_br, lat_ln, keep_fd, ex_pair, keepO_sh, lnAtm_no, agOut_no, Sl.atm, atom_i, atom_s, atom_b, atom_n, atom_k, vCons, vNil, vTup, vLst, vIf, vTru, truD, vNotV, vNotT, flat_fd, vAndV, vOrV, fEq_int, fNe_int, fEq_str, fNe_str, fEq_is, fEq_si, vMet, mvEv, Opr.loc, locAt, Ot.at, Ot.put, Nde.set, append_lv, pop_lv, reverse_lv, insert_lv, vLc_eq, vFor_eq, wipeD, vYes, iR1, iL, iK, vAug, fAug_int, slotInt, fLen_list, ML.isNon, fIsN, fNotN, vIxN, ixLoc, kidQ, ixN, os_inj, ix0, ix1, ix2, ix3, ix4, lx0, lx1, lx2, lx3, fLen_tup, xAnd, xNot, xIs, vTry, enX, keepO, Ot.root, Ot.rd, fInt, vTry0, isB_n, isB_b, isB_i, isB_s, isB_l, isB_t, isI_n, isI_b, isI_i, isI_s, isI_l, isI_t, isS_n, isS_b, isS_i, isS_s, isS_l, isS_t, isL_n, isL_b, isL_i, isL_s, isL_l, isL_t, isT_n, isT_b, isT_i, isT_s, isT_l, isT_t, plc, Sh.pos, Sh.root, vLstO, ots, t_act, b1_act, St.d, ix0]
    simp [-Bool.exists_bool, vSeq, vAsg, vV, vMv, vS, vIfS, vOr, vAnd, vNot, vB, vv1, vv2, vv3, Opr.ev, Opr.fin, Opr.sl, Opr.base, Sl.read, Sl.rd, Sl.ra, Sl.get, Sl.isIn, Sl.ot, Ot.rd, Ot.get, gets_lv, leaves_lv, Sh.data, Sh.root, Rs.to, ↓lv_in, -List.map_map, fst_0, fst_s, ini, List.replicate_succ, enG, bTup, bCons, bName, bNil, inAt, vC, vEnd, vBrk, vCnt, vRaise, fLt, fAdd_int, fGt, fGe, fLe, fSub, fMod, fI, fFdv, cPow, fPow, fMin2, fMax2, fInt, fAbs, fNeg, Option.bind, vRet, vSet, vDrp, vCal, agEv, agIn, agIn1, lns_nil, lns_pd, lns_br, lns_ln, bor_nil, bor_pd, bor_ln, bor_br, out_nil, out_pd, out_br, out_ln, lat_nil, lat_pd, lat_br, lat_ln, keep_fd, ex_pair, keepO_sh, lnAtm_no, agOut_no, Sl.atm, atom_i, atom_s, atom_b, atom_n, atom_k, vCons, vNil, vTup, vLst, vIf, vTru, truD, vNotV, vNotT, flat_fd, vAndV, vOrV, fEq_int, fNe_int, fEq_str, fNe_str, fEq_is, fEq_si, vMet, mvEv, Opr.loc, locAt, Ot.at, Ot.put, Nde.set, append_lv, pop_lv, reverse_lv, insert_lv, vLc_eq, vFor_eq, wipeD, vYes, iR1, iL, iK, vAug, fAug_int, slotInt, fLen_list, ML.isNon, fIsN, fNotN, vIxN, ixLoc, kidQ, ixN, os_inj, ix0, ix1, ix2, ix3, ix4, lx0, lx1, lx2, lx3, fLen_tup, xAnd, xNot, xIs, vTry, enX, keepO, Ot.root, Ot.rd, fInt, vTry0, isB_n, isB_b, isB_i, isB_s, isB_l, isB_t, isI_n, isI_b, isI_i, isI_s, isI_l, isI_t, isS_n, isS_b, isS_i, isS_s, isS_l, isS_t, isL_n, isL_b, isL_i, isL_s, isL_l, isL_t, isT_n, isT_b, isT_i, isT_s, isT_l, isT_t, plc, Sh.pos, Sh.root, vLstO, ots, b2_act]
    simp [-Bool.exists_bool, vSeq, vAsg, vV, vMv, vS, vIfS, vOr, vAnd, vNot, vB, vv1, vv2, vv3, Opr.ev, Opr.fin, Opr.sl, Opr.base, Sl.read, Sl.rd, Sl.ra, Sl.get, Sl.isIn, Sl.ot, Ot.rd, Ot.get, gets_lv, leaves_lv, Sh.data, Sh.root, Rs.to, ↓lv_in, -List.map_map, fst_0, fst_s, ini, List.replicate_succ, enG, bTup, bCons, bName, bNil, inAt, vC, vEnd, vBrk, vCnt, vRaise, fLt, fAdd_int, fGt, fGe, fLe, fSub, fMod, fI, fFdv, cPow, fPow, fMin2, fMax2, fInt, fAbs, fNeg, Option.bind, vRet, vSet, vDrp, vCal, agEv, agIn, agIn1, lns_nil, lns_pd, lns_br, lns_ln, bor_nil, bor_pd, bor_ln, bor_br, out_nil, out_pd, out_br, out_ln, lat_nil, lat_pd, lat_br, lat_ln, keep_fd, ex_pair, keepO_sh, lnAtm_no, agOut_no, Sl.atm, atom_i, atom_s, atom_b, atom_n, atom_k, vCons, vNil, vTup, vLst, vIf, vTru, truD, vNotV, vNotT, flat_fd, vAndV, vOrV, fEq_int, fNe_int, fEq_str, fNe_str, fEq_is, fEq_si, vMet, mvEv, Opr.loc, locAt, Ot.at, Ot.put, Nde.set, append_lv, pop_lv, reverse_lv, insert_lv, vLc_eq, vFor_eq, wipeD, vYes, iR1, iL, iK, vAug, fAug_int, slotInt, fLen_list, ML.isNon, fIsN, fNotN, vIxN, ixLoc, kidQ, ixN, os_inj, ix0, ix1, ix2, ix3, ix4, lx0, lx1, lx2, lx3, fLen_tup, xAnd, xNot, xIs, vTry, enX, keepO, Ot.root, Ot.rd, fInt, vTry0, isB_n, isB_b, isB_i, isB_s, isB_l, isB_t, isI_n, isI_b, isI_i, isI_s, isI_l, isI_t, isS_n, isS_b, isS_i, isS_s, isS_l, isS_t, isL_n, isL_b, isL_i, isL_s, isL_l, isL_t, isT_n, isT_b, isT_i, isT_s, isT_l, isT_t, plc, Sh.pos, Sh.root, vLstO, ots, q11_act]
    simp [-Bool.exists_bool, vSeq, vAsg, vV, vMv, vS, vIfS, vOr, vAnd, vNot, vB, vv1, vv2, vv3, Opr.ev, Opr.fin, Opr.sl, Opr.base, Sl.read, Sl.rd, Sl.ra, Sl.get, Sl.isIn, Sl.ot, Ot.rd, Ot.get, gets_lv, leaves_lv, Sh.data, Sh.root, Rs.to, ↓lv_in, -List.map_map, fst_0, fst_s, ini, List.replicate_succ, enG, bTup, bCons, bName, bNil, inAt, vC, vEnd, vBrk, vCnt, vRaise, fLt, fAdd_int, fGt, fGe, fLe, fSub, fMod, fI, fFdv, cPow, fPow, fMin2, fMax2, fInt, fAbs, fNeg, Option.bind, vRet, vSet, vDrp, vCal, agEv, agIn, agIn1, lns_nil, lns_pd, lns_br, lns_ln, bor_nil, bor_pd, bor_ln, bor_br, out_nil, out_pd, out_br, out_ln, lat_nil, lat_pd, lat_br, lat_ln, keep_fd, ex_pair, keepO_sh, lnAtm_no, agOut_no, Sl.atm, atom_i, atom_s, atom_b, atom_n, atom_k, vCons, vNil, vTup, vLst, vIf, vTru, truD, vNotV, vNotT, flat_fd, vAndV, vOrV, fEq_int, fNe_int, fEq_str, fNe_str, fEq_is, fEq_si, vMet, mvEv, Opr.loc, locAt, Ot.at, Ot.put, Nde.set, append_lv, pop_lv, reverse_lv, insert_lv, vLc_eq, vFor_eq, wipeD, vYes, iR1, iL, iK, vAug, fAug_int, slotInt, fLen_list, ML.isNon, fIsN, fNotN, vIxN, ixLoc, kidQ, ixN, os_inj, ix0, ix1, ix2, ix3, ix4, lx0, lx1, lx2, lx3, fLen_tup, xAnd, xNot, xIs, vTry, enX, keepO, Ot.root, Ot.rd, fInt, vTry0, isB_n, isB_b, isB_i, isB_s, isB_l, isB_t, isI_n, isI_b, isI_i, isI_s, isI_l, isI_t, isS_n, isS_b, isS_i, isS_s, isS_l, isS_t, isL_n, isL_b, isL_i, isL_s, isL_l, isL_t, isT_n, isT_b, isT_i, isT_s, isT_l, isT_t, plc, Sh.pos, Sh.root, vLstO, ots, q9_act]
    simp [-Bool.exists_bool, vSeq, vAsg, vV, vMv, vS, vIfS, vOr, vAnd, vNot, vB, vv1, vv2, vv3, Opr.ev, Opr.fin, Opr.sl, Opr.base, Sl.read, Sl.rd, Sl.ra, Sl.get, Sl.isIn, Sl.ot, Ot.rd, Ot.get, gets_lv, leaves_lv, Sh.data, Sh.root, Rs.to, ↓lv_in, -List.map_map, fst_0, fst_s, ini, List.replicate_succ, enG, bTup, bCons, bName, bNil, inAt, vC, vEnd, vBrk, vCnt, vRaise, fLt, fAdd_int, fGt, fGe, fLe, fSub, fMod, fI, fFdv, cPow, fPow, fMin2, fMax2, fInt, fAbs, fNeg, Option.bind, vRet, vSet, vDrp, vCal, agEv, agIn, agIn1, lns_nil, lns_pd, lns_br, lns_ln, bor_nil, bor_pd, bor_ln, bor_br, out_nil, out_pd, out_br, out_ln, lat_nil, lat_pd, lat_br, lat_ln, keep_fd, ex_pair, keepO_sh, lnAtm_no, agOut_no, Sl.atm, atom_i, atom_s, atom_b, atom_n, atom_k, vCons, vNil, vTup, vLst, vIf, vTru, truD, vNotV, vNotT, flat_fd, vAndV, vOrV, fEq_int, fNe_int, fEq_str, fNe_str, fEq_is, fEq_si, vMet, mvEv, Opr.loc, locAt, Ot.at, Ot.put, Nde.set, append_lv, pop_lv, reverse_lv, insert_lv, vLc_eq, vFor_eq, wipeD, vYes, iR1, iL, iK, vAug, fAug_int, slotInt, fLen_list, ML.isNon, fIsN, fNotN, vIxN, ixLoc, kidQ, ixN, os_inj, ix0, ix1, ix2, ix3, ix4, lx0, lx1, lx2, lx3, fLen_tup, xAnd, xNot, xIs, vTry, enX, keepO, Ot.root, Ot.rd, fInt, vTry0, isB_n, isB_b, isB_i, isB_s, isB_l, isB_t, isI_n, isI_b, isI_i, isI_s, isI_l, isI_t, isS_n, isS_b, isS_i, isS_s, isS_l, isS_t, isL_n, isL_b, isL_i, isL_s, isL_l, isL_t, isT_n, isT_b, isT_i, isT_s, isT_l, isT_t, plc, Sh.pos, Sh.root, vLstO, ots, q7_act, q4_act, ix1]
    refine ⟨[e.d, .list (zs σ)], rfl, e, σ, rfl, ho.1, hs, fun outs => ?_⟩
    have h2 : Qd (.sh .none) [fd p (bk ((if ev σ e = 0 then b else a) :: rest)), fd q (zs σ), fd r (zs sh)] := h1
    by_cases c : ev σ e = 0
    · rw [if_pos c] at h2
      simp [-Bool.exists_bool, vSeq, vAsg, vV, vMv, vS, vIfS, vOr, vAnd, vNot, vB, vv1, vv2, vv3, Opr.ev, Opr.fin, Opr.sl, Opr.base, Sl.read, Sl.rd, Sl.ra, Sl.get, Sl.isIn, Sl.ot, Ot.rd, Ot.get, gets_lv, leaves_lv, Sh.data, Sh.root, Rs.to, ↓lv_in, -List.map_map, fst_0, fst_s, ini, List.replicate_succ, enG, bTup, bCons, bName, bNil, inAt, vC, vEnd, vBrk, vCnt, vRaise, fLt, fAdd_int, fGt, fGe, fLe, fSub, fMod, fI, fFdv, cPow, fPow, fMin2, fMax2, fInt, fAbs, fNeg, Option.bind, vRet, vSet, vDrp, vCal, agEv, agIn, agIn1, lns_nil, lns_pd, lns_br, lns_ln, bor_nil, bor_pd, bor_ln, bor_br, out_nil, out_pd, out_br, out_ln, lat_nil, lat_pd, lat_br, lat_ln, keep_fd, ex_pair, keepO_sh, lnAtm_no, agOut_no, Sl.atm, atom_i, atom_s, atom_b, atom_n, atom_k, vCons, vNil, vTup, vLst, vIf, vTru, truD, vNotV, vNotT, flat_fd, vAndV, vOrV, fEq_int, fNe_int, fEq_str, fNe_str, fEq_is, fEq_si, vMet, mvEv, Opr.loc, locAt, Ot.at, Ot.put, Nde.set, append_lv, pop_lv, reverse_lv, insert_lv, vLc_eq, vFor_eq, wipeD, vYes, iR1, iL, iK, vAug, fAug_int, slotInt, fLen_list, ML.isNon, fIsN, fNotN, vIxN, ixLoc, kidQ, ixN, os_inj, ix0, ix1, ix2, ix3, ix4, lx0, lx1, lx2, lx3, fLen_tup, xAnd, xNot, xIs, vTry, enX, keepO, Ot.root, Ot.rd, fInt, vTry0, isB_n, isB_b, isB_i, isB_s, isB_l, isB_t, isI_n, isI_b, isI_i, isI_s, isI_l, isI_t, isS_n, isS_b, isS_i, isS_s, isS_l, isS_t, isL_n, isL_b, isL_i, isL_s, isL_l, isL_t, isT_n, isT_b, isT_i, isT_s, isT_l, isT_t, plc, Sh.pos, Sh.root, vLstO, ots, c, ix3, le]
      rw [← ht, show bk rest ++ [b.d] = bk (b :: rest) by simp [bk]]
      exact h2
    · rw [if_neg c] at h2
      simp [-Bool.exists_bool, vSeq, vAsg, vV, vMv, vS, vIfS, vOr, vAnd, vNot, vB, vv1, vv2, vv3, Opr.ev, Opr.fin, Opr.sl, Opr.base, Sl.read, Sl.rd, Sl.ra, Sl.get, Sl.isIn, Sl.ot, Ot.rd, Ot.get, gets_lv, leaves_lv, Sh.data, Sh.root, Rs.to, ↓lv_in, -List.map_map, fst_0, fst_s, ini, List.replicate_succ, enG, bTup, bCons, bName, bNil, inAt, vC, vEnd, vBrk, vCnt, vRaise, fLt, fAdd_int, fGt, fGe, fLe, fSub, fMod, fI, fFdv, cPow, fPow, fMin2, fMax2, fInt, fAbs, fNeg, Option.bind, vRet, vSet, vDrp, vCal, agEv, agIn, agIn1, lns_nil, lns_pd, lns_br, lns_ln, bor_nil, bor_pd, bor_ln, bor_br, out_nil, out_pd, out_br, out_ln, lat_nil, lat_pd, lat_br, lat_ln, keep_fd, ex_pair, keepO_sh, lnAtm_no, agOut_no, Sl.atm, atom_i, atom_s, atom_b, atom_n, atom_k, vCons, vNil, vTup, vLst, vIf, vTru, truD, vNotV, vNotT, flat_fd, vAndV, vOrV, fEq_int, fNe_int, fEq_str, fNe_str, fEq_is, fEq_si, vMet, mvEv, Opr.loc, locAt, Ot.at, Ot.put, Nde.set, append_lv, pop_lv, reverse_lv, insert_lv, vLc_eq, vFor_eq, wipeD, vYes, iR1, iL, iK, vAug, fAug_int, slotInt, fLen_list, ML.isNon, fIsN, fNotN, vIxN, ixLoc, kidQ, ixN, os_inj, ix0, ix1, ix2, ix3, ix4, lx0, lx1, lx2, lx3, fLen_tup, xAnd, xNot, xIs, vTry, enX, keepO, Ot.root, Ot.rd, fInt, vTry0, isB_n, isB_b, isB_i, isB_s, isB_l, isB_t, isI_n, isI_b, isI_i, isI_s, isI_l, isI_t, isS_n, isS_b, isS_i, isS_s, isS_l, isS_t, isL_n, isL_b, isL_i, isL_s, isL_l, isL_t, isT_n, isT_b, isT_i, isT_s, isT_l, isT_t, plc, Sh.pos, Sh.root, vLstO, ots, c, ix2, le]
      rw [← ht, show bk rest ++ [a.d] = bk (a :: rest) by simp [bk]]
      exact h2
  | loop e a =>
    have le : T.length < 1000000 := by omega
    simp [-Bool.exists_bool, vSeq, vAsg, vV, vMv, vS, vIfS, vOr, vAnd, vNot, vB, vv1, vv2, vv3, Opr.ev, Opr.fin, Opr.sl, Opr.base, Sl.read, Sl.rd, Sl.ra, Sl.get, Sl.isIn, Sl.ot, Ot.rd, Ot.get, gets_lv, leaves_lv, Sh.data, Sh.root, Rs.to, ↓lv_in, -List.map_map, fst_0, fst_s, ini, List.replicate_succ, enG, bTup, bCons, bName, bNil, inAt, vC, vEnd, vBrk, vCnt, vRaise, fLt, fAdd_int, fGt, fGe, fLe, fSub, fMod, fI, fFdv, cPow, fPow, fMin2, fMax2, fInt, fAbs, fNeg, Option.bind, vRet, vSet, vDrp, vCal, agEv, agIn, agIn1, lns_nil, lns_pd, lns_br, lns_ln, bor_nil, bor_pd, bor_ln, bor_br, out_nil, out_pd, out_br, out_ln, lat_nil, lat_pd, lat_br, lat_ln, keep_fd, ex_pair, keepO_sh, lnAtm_no, agOut_no, Sl.atm, atom_i, atom_s, atom_b, atom_n, atom_k, vCons, vNil, vTup, vLst, vIf, vTru, truD, vNotV, vNotT, flat_fd, vAndV, vOrV, fEq_int, fNe_int, fEq_str, fNe_str, fEq_is, fEq_si, vMet, mvEv, Opr.loc, locAt, Ot.at, Ot.put, Nde.set, append_lv, pop_lv, reverse_lv, insert_lv, vLc_eq, vFor_eq, wipeD, vYes, iR1, iL, iK, vAug, fAug_int, slotInt, fLen_list, ML.isNon, fIsN, fNotN, vIxN, ixLoc, kidQ, ixN, os_inj, ix0, ix1, ix2, ix3, ix4, lx0, lx1, lx2, lx3, fLen_tup, xAnd, xNot, xIs, vTry, enX, keepO, Ot.root, Ot.rd, fInt, vTry0, isB_n, isB_b, isB_i, isB_s, isB_l, isB_t, isI_n, isI_b, isI_i, isI_s, isI_l, isI_t, isS_n, isS_b, isS_i, isS_s, isS_l, isS_t, isL_n, isL_b, isL_i, isL_s, isL_l, isL_t, isT_n, isT_b, isT_i, isT_s, isT_l, isT_t, plc, Sh.pos, Sh.root, vLstO, ots, t_act, b1_act, St.d, ix0]
    simp [-Bool.exists_bool, vSeq, vAsg, vV, vMv, vS, vIfS, vOr, vAnd, vNot, vB, vv1, vv2, vv3, Opr.ev, Opr.fin, Opr.sl, Opr.base, Sl.read, Sl.rd, Sl.ra, Sl.get, Sl.isIn, Sl.ot, Ot.rd, Ot.get, gets_lv, leaves_lv, Sh.data, Sh.root, Rs.to, ↓lv_in, -List.map_map, fst_0, fst_s, ini, List.replicate_succ, enG, bTup, bCons, bName, bNil, inAt, vC, vEnd, vBrk, vCnt, vRaise, fLt, fAdd_int, fGt, fGe, fLe, fSub, fMod, fI, fFdv, cPow, fPow, fMin2, fMax2, fInt, fAbs, fNeg, Option.bind, vRet, vSet, vDrp, vCal, agEv, agIn, agIn1, lns_nil, lns_pd, lns_br, lns_ln, bor_nil, bor_pd, bor_ln, bor_br, out_nil, out_pd, out_br, out_ln, lat_nil, lat_pd, lat_br, lat_ln, keep_fd, ex_pair, keepO_sh, lnAtm_no, agOut_no, Sl.atm, atom_i, atom_s, atom_b, atom_n, atom_k, vCons, vNil, vTup, vLst, vIf, vTru, truD, vNotV, vNotT, flat_fd, vAndV, vOrV, fEq_int, fNe_int, fEq_str, fNe_str, fEq_is, fEq_si, vMet, mvEv, Opr.loc, locAt, Ot.at, Ot.put, Nde.set, append_lv, pop_lv, reverse_lv, insert_lv, vLc_eq, vFor_eq, wipeD, vYes, iR1, iL, iK, vAug, fAug_int, slotInt, fLen_list, ML.isNon, fIsN, fNotN, vIxN, ixLoc, kidQ, ixN, os_inj, ix0, ix1, ix2, ix3, ix4, lx0, lx1, lx2, lx3, fLen_tup, xAnd, xNot, xIs, vTry, enX, keepO, Ot.root, Ot.rd, fInt, vTry0, isB_n, isB_b, isB_i, isB_s, isB_l, isB_t, isI_n, isI_b, isI_i, isI_s, isI_l, isI_t, isS_n, isS_b, isS_i, isS_s, isS_l, isS_t, isL_n, isL_b, isL_i, isL_s, isL_l, isL_t, isT_n, isT_b, isT_i, isT_s, isT_l, isT_t, plc, Sh.pos, Sh.root, vLstO, ots, b2_act]
    simp [-Bool.exists_bool, vSeq, vAsg, vV, vMv, vS, vIfS, vOr, vAnd, vNot, vB, vv1, vv2, vv3, Opr.ev, Opr.fin, Opr.sl, Opr.base, Sl.read, Sl.rd, Sl.ra, Sl.get, Sl.isIn, Sl.ot, Ot.rd, Ot.get, gets_lv, leaves_lv, Sh.data, Sh.root, Rs.to, ↓lv_in, -List.map_map, fst_0, fst_s, ini, List.replicate_succ, enG, bTup, bCons, bName, bNil, inAt, vC, vEnd, vBrk, vCnt, vRaise, fLt, fAdd_int, fGt, fGe, fLe, fSub, fMod, fI, fFdv, cPow, fPow, fMin2, fMax2, fInt, fAbs, fNeg, Option.bind, vRet, vSet, vDrp, vCal, agEv, agIn, agIn1, lns_nil, lns_pd, lns_br, lns_ln, bor_nil, bor_pd, bor_ln, bor_br, out_nil, out_pd, out_br, out_ln, lat_nil, lat_pd, lat_br, lat_ln, keep_fd, ex_pair, keepO_sh, lnAtm_no, agOut_no, Sl.atm, atom_i, atom_s, atom_b, atom_n, atom_k, vCons, vNil, vTup, vLst, vIf, vTru, truD, vNotV, vNotT, flat_fd, vAndV, vOrV, fEq_int, fNe_int, fEq_str, fNe_str, fEq_is, fEq_si, vMet, mvEv, Opr.loc, locAt, Ot.at, Ot.put, Nde.set, append_lv, pop_lv, reverse_lv, insert_lv, vLc_eq, vFor_eq, wipeD, vYes, iR1, iL, iK, vAug, fAug_int, slotInt, fLen_list, ML.isNon, fIsN, fNotN, vIxN, ixLoc, kidQ, ixN, os_inj, ix0, ix1, ix2, ix3, ix4, lx0, lx1, lx2, lx3, fLen_tup, xAnd, xNot, xIs, vTry, enX, keepO, Ot.root, Ot.rd, fInt, vTry0, isB_n, isB_b, isB_i, isB_s, isB_l, isB_t, isI_n, isI_b, isI_i, isI_s, isI_l, isI_t, isS_n, isS_b, isS_i, isS_s, isS_l, isS_t, isL_n, isL_b, isL_i, isL_s, isL_l, isL_t, isT_n, isT_b, isT_i, isT_s, isT_l, isT_t, plc, Sh.pos, Sh.root, vLstO, ots, q11_act]
    simp [-Bool.exists_bool, vSeq, vAsg, vV, vMv, vS, vIfS, vOr, vAnd, vNot, vB, vv1, vv2, vv3, Opr.ev, Opr.fin, Opr.sl, Opr.base, Sl.read, Sl.rd, Sl.ra, Sl.get, Sl.isIn, Sl.ot, Ot.rd, Ot.get, gets_lv, leaves_lv, Sh.data, Sh.root, Rs.to, ↓lv_in, -List.map_map, fst_0, fst_s, ini, List.replicate_succ, enG, bTup, bCons, bName, bNil, inAt, vC, vEnd, vBrk, vCnt, vRaise, fLt, fAdd_int, fGt, fGe, fLe, fSub, fMod, fI, fFdv, cPow, fPow, fMin2, fMax2, fInt, fAbs, fNeg, Option.bind, vRet, vSet, vDrp, vCal, agEv, agIn, agIn1, lns_nil, lns_pd, lns_br, lns_ln, bor_nil, bor_pd, bor_ln, bor_br, out_nil, out_pd, out_br, out_ln, lat_nil, lat_pd, lat_br, lat_ln, keep_fd, ex_pair, keepO_sh, lnAtm_no, agOut_no, Sl.atm, atom_i, atom_s, atom_b, atom_n, atom_k, vCons, vNil, vTup, vLst, vIf, vTru, truD, vNotV, vNotT, flat_fd, vAndV, vOrV, fEq_int, fNe_int, fEq_str, fNe_str, fEq_is, fEq_si, vMet, mvEv, Opr.loc, locAt, Ot.at, Ot.put, Nde.set, append_lv, pop_lv, reverse_lv, insert_lv, vLc_eq, vFor_eq, wipeD, vYes, iR1, iL, iK, vAug, fAug_int, slotInt, fLen_list, ML.isNon, fIsN, fNotN, vIxN, ixLoc, kidQ, ixN, os_inj, ix0, ix1, ix2, ix3, ix4, lx0, lx1, lx2, lx3, fLen_tup, xAnd, xNot, xIs, vTry, enX, keepO, Ot.root, Ot.rd, fInt, vTry0, isB_n, isB_b, isB_i, isB_s, isB_l, isB_t, isI_n, isI_b, isI_i, isI_s, isI_l, isI_t, isS_n, isS_b, isS_i, isS_s, isS_l, isS_t, isL_n, isL_b, isL_i, isL_s, isL_l, isL_t, isT_n, isT_b, isT_i, isT_s, isT_l, isT_t, plc, Sh.pos, Sh.root, vLstO, ots, q9_act]
    simp [-Bool.exists_bool, vSeq, vAsg, vV, vMv, vS, vIfS, vOr, vAnd, vNot, vB, vv1, vv2, vv3, Opr.ev, Opr.fin, Opr.sl, Opr.base, Sl.read, Sl.rd, Sl.ra, Sl.get, Sl.isIn, Sl.ot, Ot.rd, Ot.get, gets_lv, leaves_lv, Sh.data, Sh.root, Rs.to, ↓lv_in, -List.map_map, fst_0, fst_s, ini, List.replicate_succ, enG, bTup, bCons, bName, bNil, inAt, vC, vEnd, vBrk, vCnt, vRaise, fLt, fAdd_int, fGt, fGe, fLe, fSub, fMod, fI, fFdv, cPow, fPow, fMin2, fMax2, fInt, fAbs, fNeg, Option.bind, vRet, vSet, vDrp, vCal, agEv, agIn, agIn1, lns_nil, lns_pd, lns_br, lns_ln, bor_nil, bor_pd, bor_ln, bor_br, out_nil, out_pd, out_br, out_ln, lat_nil, lat_pd, lat_br, lat_ln, keep_fd, ex_pair, keepO_sh, lnAtm_no, agOut_no, Sl.atm, atom_i, atom_s, atom_b, atom_n, atom_k, vCons, vNil, vTup, vLst, vIf, vTru, truD, vNotV, vNotT, flat_fd, vAndV, vOrV, fEq_int, fNe_int, fEq_str, fNe_str, fEq_is, fEq_si, vMet, mvEv, Opr.loc, locAt, Ot.at, Ot.put, Nde.set, append_lv, pop_lv, reverse_lv, insert_lv, vLc_eq, vFor_eq, wipeD, vYes, iR1, iL, iK, vAug, fAug_int, slotInt, fLen_list, ML.isNon, fIsN, fNotN, vIxN, ixLoc, kidQ, ixN, os_inj, ix0, ix1, ix2, ix3, ix4, lx0, lx1, lx2, lx3, fLen_tup, xAnd, xNot, xIs, vTry, enX, keepO, Ot.root, Ot.rd, fInt, vTry0, isB_n, isB_b, isB_i, isB_s, isB_l, isB_t, isI_n, isI_b, isI_i, isI_s, isI_l, isI_t, isS_n, isS_b, isS_i, isS_s, isS_l, isS_t, isL_n, isL_b, isL_i, isL_s, isL_l, isL_t, isT_n, isT_b, isT_i, isT_s, isT_l, isT_t, plc, Sh.pos, Sh.root, vLstO, ots, q7_act]
    simp [-Bool.exists_bool, vSeq, vAsg, vV, vMv, vS, vIfS, vOr, vAnd, vNot, vB, vv1, vv2, vv3, Opr.ev, Opr.fin, Opr.sl, Opr.base, Sl.read, Sl.rd, Sl.ra, Sl.get, Sl.isIn, Sl.ot, Ot.rd, Ot.get, gets_lv, leaves_lv, Sh.data, Sh.root, Rs.to, ↓lv_in, -List.map_map, fst_0, fst_s, ini, List.replicate_succ, enG, bTup, bCons, bName, bNil, inAt, vC, vEnd, vBrk, vCnt, vRaise, fLt, fAdd_int, fGt, fGe, fLe, fSub, fMod, fI, fFdv, cPow, fPow, fMin2, fMax2, fInt, fAbs, fNeg, Option.bind, vRet, vSet, vDrp, vCal, agEv, agIn, agIn1, lns_nil, lns_pd, lns_br, lns_ln, bor_nil, bor_pd, bor_ln, bor_br, out_nil, out_pd, out_br, out_ln, lat_nil, lat_pd, lat_br, lat_ln, keep_fd, ex_pair, keepO_sh, lnAtm_no, agOut_no, Sl.atm, atom_i, atom_s, atom_b, atom_n, atom_k, vCons, vNil, vTup, vLst, vIf, vTru, truD, vNotV, vNotT, flat_fd, vAndV, vOrV, fEq_int, fNe_int, fEq_str, fNe_str, fEq_is, fEq_si, vMet, mvEv, Opr.loc, locAt, Ot.at, Ot.put, Nde.set, append_lv, pop_lv, reverse_lv, insert_lv, vLc_eq, vFor_eq, wipeD, vYes, iR1, iL, iK, vAug, fAug_int, slotInt, fLen_list, ML.isNon, fIsN, fNotN, vIxN, ixLoc, kidQ, ixN, os_inj, ix0, ix1, ix2, ix3, ix4, lx0, lx1, lx2, lx3, fLen_tup, xAnd, xNot, xIs, vTry, enX, keepO, Ot.root, Ot.rd, fInt, vTry0, isB_n, isB_b, isB_i, isB_s, isB_l, isB_t, isI_n, isI_b, isI_i, isI_s, isI_l, isI_t, isS_n, isS_b, isS_i, isS_s, isS_l, isS_t, isL_n, isL_b, isL_i, isL_s, isL_l, isL_t, isT_n, isT_b, isT_i, isT_s, isT_l, isT_t, plc, Sh.pos, Sh.root, vLstO, ots, q5_act, q2_act, ix1, ix2, le]
    rw [← ht, show bk rest ++ [.tuple [.str "test", e.d, a.d]] = bk (.test e a :: rest) by simp [bk, St.d]]
    exact h1
  | test e a =>
    simp [-Bool.exists_bool, vSeq, vAsg, vV, vMv, vS, vIfS, vOr, vAnd, vNot, vB, vv1, vv2, vv3, Opr.ev, Opr.fin, Opr.sl, Opr.base, Sl.read, Sl.rd, Sl.ra, Sl.get, Sl.isIn, Sl.ot, Ot.rd, Ot.get, gets_lv, leaves_lv, Sh.data, Sh.root, Rs.to, ↓lv_in, -List.map_map, fst_0, fst_s, ini, List.replicate_succ, enG, bTup, bCons, bName, bNil, inAt, vC, vEnd, vBrk, vCnt, vRaise, fLt, fAdd_int, fGt, fGe, fLe, fSub, fMod, fI, fFdv, cPow, fPow, fMin2, fMax2, fInt, fAbs, fNeg, Option.bind, vRet, vSet, vDrp, vCal, agEv, agIn, agIn1, lns_nil, lns_pd, lns_br, lns_ln, bor_nil, bor_pd, bor_ln, bor_br, out_nil, out_pd, out_br, out_ln, lat_nil, lat_pd, lat_br, lat_ln, keep_fd, ex_pair, keepO_sh, lnAtm_no, agOut_no, Sl.atm, atom_i, atom_s, atom_b, atom_n, atom_k, vCons, vNil, vTup, vLst, vIf, vTru, truD, vNotV, vNotT, flat_fd, vAndV, vOrV, fEq_int, fNe_int, fEq_str, fNe_str, fEq_is, fEq_si, vMet, mvEv, Opr.loc, locAt, Ot.at, Ot.put, Nde.set, append_lv, pop_lv, reverse_lv, insert_lv, vLc_eq, vFor_eq, wipeD, vYes, iR1, iL, iK, vAug, fAug_int, slotInt, fLen_list, ML.isNon, fIsN, fNotN, vIxN, ixLoc, kidQ, ixN, os_inj, ix0, ix1, ix2, ix3, ix4, lx0, lx1, lx2, lx3, fLen_tup, xAnd, xNot, xIs, vTry, enX, keepO, Ot.root, Ot.rd, fInt, vTry0, isB_n, isB_b, isB_i, isB_s, isB_l, isB_t, isI_n, isI_b, isI_i, isI_s, isI_l, isI_t, isS_n, isS_b, isS_i, isS_s, isS_l, isS_t, isL_n, isL_b, isL_i, isL_s, isL_l, isL_t, isT_n, isT_b, isT_i, isT_s, isT_l, isT_t, plc, Sh.pos, Sh.root, vLstO, ots, t_act, b1_act, St.d, ix0]
    simp [-Bool.exists_bool, vSeq, vAsg, vV, vMv, vS, vIfS, vOr, vAnd, vNot, vB, vv1, vv2, vv3, Opr.ev, Opr.fin, Opr.sl, Opr.base, Sl.read, Sl.rd, Sl.ra, Sl.get, Sl.isIn, Sl.ot, Ot.rd, Ot.get, gets_lv, leaves_lv, Sh.data, Sh.root, Rs.to, ↓lv_in, -List.map_map, fst_0, fst_s, ini, List.replicate_succ, enG, bTup, bCons, bName, bNil, inAt, vC, vEnd, vBrk, vCnt, vRaise, fLt, fAdd_int, fGt, fGe, fLe, fSub, fMod, fI, fFdv, cPow, fPow, fMin2, fMax2, fInt, fAbs, fNeg, Option.bind, vRet, vSet, vDrp, vCal, agEv, agIn, agIn1, lns_nil, lns_pd, lns_br, lns_ln, bor_nil, bor_pd, bor_ln, bor_br, out_nil, out_pd, out_br, out_ln, lat_nil, lat_pd, lat_br, lat_ln, keep_fd, ex_pair, keepO_sh, lnAtm_no, agOut_no, Sl.atm, atom_i, atom_s, atom_b, atom_n, atom_k, vCons, vNil, vTup, vLst, vIf, vTru, truD, vNotV, vNotT, flat_fd, vAndV, vOrV, fEq_int, fNe_int, fEq_str, fNe_str, fEq_is, fEq_si, vMet, mvEv, Opr.loc, locAt, Ot.at, Ot.put, Nde.set, append_lv, pop_lv, reverse_lv, insert_lv, vLc_eq, vFor_eq, wipeD, vYes, iR1, iL, iK, vAug, fAug_int, slotInt, fLen_list, ML.isNon, fIsN, fNotN, vIxN, ixLoc, kidQ, ixN, os_inj, ix0, ix1, ix2, ix3, ix4, lx0, lx1, lx2, lx3, fLen_tup, xAnd, xNot, xIs, vTry, enX, keepO, Ot.root, Ot.rd, fInt, vTry0, isB_n, isB_b, isB_i, isB_s, isB_l, isB_t, isI_n, isI_b, isI_i, isI_s, isI_l, isI_t, isS_n, isS_b, isS_i, isS_s, isS_l, isS_t, isL_n, isL_b, isL_i, isL_s, isL_l, isL_t, isT_n, isT_b, isT_i, isT_s, isT_l, isT_t, plc, Sh.pos, Sh.root, vLstO, ots, b2_act]
    simp [-Bool.exists_bool, vSeq, vAsg, vV, vMv, vS, vIfS, vOr, vAnd, vNot, vB, vv1, vv2, vv3, Opr.ev, Opr.fin, Opr.sl, Opr.base, Sl.read, Sl.rd, Sl.ra, Sl.get, Sl.isIn, Sl.ot, Ot.rd, Ot.get, gets_lv, leaves_lv, Sh.data, Sh.root, Rs.to, ↓lv_in, -List.map_map, fst_0, fst_s, ini, List.replicate_succ, enG, bTup, bCons, bName, bNil, inAt, vC, vEnd, vBrk, vCnt, vRaise, fLt, fAdd_int, fGt, fGe, fLe, fSub, fMod, fI, fFdv, cPow, fPow, fMin2, fMax2, fInt, fAbs, fNeg, Option.bind, vRet, vSet, vDrp, vCal, agEv, agIn, agIn1, lns_nil, lns_pd, lns_br, lns_ln, bor_nil, bor_pd, bor_ln, bor_br, out_nil, out_pd, out_br, out_ln, lat_nil, lat_pd, lat_br, lat_ln, keep_fd, ex_pair, keepO_sh, lnAtm_no, agOut_no, Sl.atm, atom_i, atom_s, atom_b, atom_n, atom_k, vCons, vNil, vTup, vLst, vIf, vTru, truD, vNotV, vNotT, flat_fd, vAndV, vOrV, fEq_int, fNe_int, fEq_str, fNe_str, fEq_is, fEq_si, vMet, mvEv, Opr.loc, locAt, Ot.at, Ot.put, Nde.set, append_lv, pop_lv, reverse_lv, insert_lv, vLc_eq, vFor_eq, wipeD, vYes, iR1, iL, iK, vAug, fAug_int, slotInt, fLen_list, ML.isNon, fIsN, fNotN, vIxN, ixLoc, kidQ, ixN, os_inj, ix0, ix1, ix2, ix3, ix4, lx0, lx1, lx2, lx3, fLen_tup, xAnd, xNot, xIs, vTry, enX, keepO, Ot.root, Ot.rd, fInt, vTry0, isB_n, isB_b, isB_i, isB_s, isB_l, isB_t, isI_n, isI_b, isI_i, isI_s, isI_l, isI_t, isS_n, isS_b, isS_i, isS_s, isS_l, isS_t, isL_n, isL_b, isL_i, isL_s, isL_l, isL_t, isT_n, isT_b, isT_i, isT_s, isT_l, isT_t, plc, Sh.pos, Sh.root, vLstO, ots, q11_act]
    simp [-Bool.exists_bool, vSeq, vAsg, vV, vMv, vS, vIfS, vOr, vAnd, vNot, vB, vv1, vv2, vv3, Opr.ev, Opr.fin, Opr.sl, Opr.base, Sl.read, Sl.rd, Sl.ra, Sl.get, Sl.isIn, Sl.ot, Ot.rd, Ot.get, gets_lv, leaves_lv, Sh.data, Sh.root, Rs.to, ↓lv_in, -List.map_map, fst_0, fst_s, ini, List.replicate_succ, enG, bTup, bCons, bName, bNil, inAt, vC, vEnd, vBrk, vCnt, vRaise, fLt, fAdd_int, fGt, fGe, fLe, fSub, fMod, fI, fFdv, cPow, fPow, fMin2, fMax2, fInt, fAbs, fNeg, Option.bind, vRet, vSet, vDrp, vCal, agEv, agIn, agIn1, lns_nil, lns_pd, lns_br, lns_ln, bor_nil, bor_pd, bor_ln, bor_br, out_nil, out_pd, out_br, out_ln, lat_nil, lat_pd, lat_br, lat_ln, keep_fd, ex_pair, keepO_sh, lnAtm_no, agOut_no, Sl.atm, atom_i, atom_s, atom_b, atom_n, atom_k, vCons, vNil, vTup, vLst, vIf, vTru, truD, vNotV, vNotT, flat_fd, vAndV, vOrV, fEq_int, fNe_int, fEq_str, fNe_str, fEq_is, fEq_si, vMet, mvEv, Opr.loc, locAt, Ot.at, Ot.put, Nde.set, append_lv, pop_lv, reverse_lv, insert_lv, vLc_eq, vFor_eq, wipeD, vYes, iR1, iL, iK, vAug, fAug_int, slotInt, fLen_list, ML.isNon, fIsN, fNotN, vIxN, ixLoc, kidQ, ixN, os_inj, ix0, ix1, ix2, ix3, ix4, lx0, lx1, lx2, lx3, fLen_tup, xAnd, xNot, xIs, vTry, enX, keepO, Ot.root, Ot.rd, fInt, vTry0, isB_n, isB_b, isB_i, isB_s, isB_l, isB_t, isI_n, isI_b, isI_i, isI_s, isI_l, isI_t, isS_n, isS_b, isS_i, isS_s, isS_l, isS_t, isL_n, isL_b, isL_i, isL_s, isL_l, isL_t, isT_n, isT_b, isT_i, isT_s, isT_l, isT_t, plc, Sh.pos, Sh.root, vLstO, ots, q9_act]
    simp [-Bool.exists_bool, vSeq, vAsg, vV, vMv, vS, vIfS, vOr, vAnd, vNot, vB, vv1, vv2, vv3, Opr.ev, Opr.fin, Opr.sl, Opr.base, Sl.read, Sl.rd, Sl.ra, Sl.get, Sl.isIn, Sl.ot, Ot.rd, Ot.get, gets_lv, leaves_lv, Sh.data, Sh.root, Rs.to, ↓lv_in, -List.map_map, fst_0, fst_s, ini, List.replicate_succ, enG, bTup, bCons, bName, bNil, inAt, vC, vEnd, vBrk, vCnt, vRaise, fLt, fAdd_int, fGt, fGe, fLe, fSub, fMod, fI, fFdv, cPow, fPow, fMin2, fMax2, fInt, fAbs, fNeg, Option.bind, vRet, vSet, vDrp, vCal, agEv, agIn, agIn1, lns_nil, lns_pd, lns_br, lns_ln, bor_nil, bor_pd, bor_ln, bor_br, out_nil, out_pd, out_br, out_ln, lat_nil, lat_pd, lat_br, lat_ln, keep_fd, ex_pair, keepO_sh, lnAtm_no, agOut_no, Sl.atm, atom_i, atom_s, atom_b, atom_n, atom_k, vCons, vNil, vTup, vLst, vIf, vTru, truD, vNotV, vNotT, flat_fd, vAndV, vOrV, fEq_int, fNe_int, fEq_str, fNe_str, fEq_is, fEq_si, vMet, mvEv, Opr.loc, locAt, Ot.at, Ot.put, Nde.set, append_lv, pop_lv, reverse_lv, insert_lv, vLc_eq, vFor_eq, wipeD, vYes, iR1, iL, iK, vAug, fAug_int, slotInt, fLen_list, ML.isNon, fIsN, fNotN, vIxN, ixLoc, kidQ, ixN, os_inj, ix0, ix1, ix2, ix3, ix4, lx0, lx1, lx2, lx3, fLen_tup, xAnd, xNot, xIs, vTry, enX, keepO, Ot.root, Ot.rd, fInt, vTry0, isB_n, isB_b, isB_i, isB_s, isB_l, isB_t, isI_n, isI_b, isI_i, isI_s, isI_l, isI_t, isS_n, isS_b, isS_i, isS_s, isS_l, isS_t, isL_n, isL_b, isL_i, isL_s, isL_l, isL_t, isT_n, isT_b, isT_i, isT_s, isT_l, isT_t, plc, Sh.pos, Sh.root, vLstO, ots, q7_act]
    simp [-Bool.exists_bool, vSeq, vAsg, vV, vMv, vS, vIfS, vOr, vAnd, vNot, vB, vv1, vv2, vv3, Opr.ev, Opr.fin, Opr.sl, Opr.base, Sl.read, Sl.rd, Sl.ra, Sl.get, Sl.isIn, Sl.ot, Ot.rd, Ot.get, gets_lv, leaves_lv, Sh.data, Sh.root, Rs.to, ↓lv_in, -List.map_map, fst_0, fst_s, ini, List.replicate_succ, enG, bTup, bCons, bName, bNil, inAt, vC, vEnd, vBrk, vCnt, vRaise, fLt, fAdd_int, fGt, fGe, fLe, fSub, fMod, fI, fFdv, cPow, fPow, fMin2, fMax2, fInt, fAbs, fNeg, Option.bind, vRet, vSet, vDrp, vCal, agEv, agIn, agIn1, lns_nil, lns_pd, lns_br, lns_ln, bor_nil, bor_pd, bor_ln, bor_br, out_nil, out_pd, out_br, out_ln, lat_nil, lat_pd, lat_br, lat_ln, keep_fd, ex_pair, keepO_sh, lnAtm_no, agOut_no, Sl.atm, atom_i, atom_s, atom_b, atom_n, atom_k, vCons, vNil, vTup, vLst, vIf, vTru, truD, vNotV, vNotT, flat_fd, vAndV, vOrV, fEq_int, fNe_int, fEq_str, fNe_str, fEq_is, fEq_si, vMet, mvEv, Opr.loc, locAt, Ot.at, Ot.put, Nde.set, append_lv, pop_lv, reverse_lv, insert_lv, vLc_eq, vFor_eq, wipeD, vYes, iR1, iL, iK, vAug, fAug_int, slotInt, fLen_list, ML.isNon, fIsN, fNotN, vIxN, ixLoc, kidQ, ixN, os_inj, ix0, ix1, ix2, ix3, ix4, lx0, lx1, lx2, lx3, fLen_tup, xAnd, xNot, xIs, vTry, enX, keepO, Ot.root, Ot.rd, fInt, vTry0, isB_n, isB_b, isB_i, isB_s, isB_l, isB_t, isI_n, isI_b, isI_i, isI_s, isI_l, isI_t, isS_n, isS_b, isS_i, isS_s, isS_l, isS_t, isL_n, isL_b, isL_i, isL_s, isL_l, isL_t, isT_n, isT_b, isT_i, isT_s, isT_l, isT_t, plc, Sh.pos, Sh.root, vLstO, ots, q5_act]
    simp [-Bool.exists_bool, vSeq, vAsg, vV, vMv, vS, vIfS, vOr, vAnd, vNot, vB, vv1, vv2, vv3, Opr.ev, Opr.fin, Opr.sl, Opr.base, Sl.read, Sl.rd, Sl.ra, Sl.get, Sl.isIn, Sl.ot, Ot.rd, Ot.get, gets_lv, leaves_lv, Sh.data, Sh.root, Rs.to, ↓lv_in, -List.map_map, fst_0, fst_s, ini, List.replicate_succ, enG, bTup, bCons, bName, bNil, inAt, vC, vEnd, vBrk, vCnt, vRaise, fLt, fAdd_int, fGt, fGe, fLe, fSub, fMod, fI, fFdv, cPow, fPow, fMin2, fMax2, fInt, fAbs, fNeg, Option.bind, vRet, vSet, vDrp, vCal, agEv, agIn, agIn1, lns_nil, lns_pd, lns_br, lns_ln, bor_nil, bor_pd, bor_ln, bor_br, out_nil, out_pd, out_br, out_ln, lat_nil, lat_pd, lat_br, lat_ln, keep_fd, ex_pair, keepO_sh, lnAtm_no, agOut_no, Sl.atm, atom_i, atom_s, atom_b, atom_n, atom_k, vCons, vNil, vTup, vLst, vIf, vTru, truD, vNotV, vNotT, flat_fd, vAndV, vOrV, fEq_int, fNe_int, fEq_str, fNe_str, fEq_is, fEq_si, vMet, mvEv, Opr.loc, locAt, Ot.at, Ot.put, Nde.set, append_lv, pop_lv, reverse_lv, insert_lv, vLc_eq, vFor_eq, wipeD, vYes, iR1, iL, iK, vAug, fAug_int, slotInt, fLen_list, ML.isNon, fIsN, fNotN, vIxN, ixLoc, kidQ, ixN, os_inj, ix0, ix1, ix2, ix3, ix4, lx0, lx1, lx2, lx3, fLen_tup, xAnd, xNot, xIs, vTry, enX, keepO, Ot.root, Ot.rd, fInt, vTry0, isB_n, isB_b, isB_i, isB_s, isB_l, isB_t, isI_n, isI_b, isI_i, isI_s, isI_l, isI_t, isS_n, isS_b, isS_i, isS_s, isS_l, isS_t, isL_n, isL_b, isL_i, isL_s, isL_l, isL_t, isT_n, isT_b, isT_i, isT_s, isT_l, isT_t, plc, Sh.pos, Sh.root, vLstO, ots, q3_act, ix1]
    refine ⟨[e.d, .list (zs σ)], rfl, e, σ, rfl, ho.1, hs, fun outs => ?_⟩
    have h2 : Qd (.sh .none) [fd p (bk (if ev σ e = 0 then S.mk rest σ sh else ⟨a :: .test e a :: rest, σ, sh⟩).td), fd q (zs (if ev σ e = 0 then S.mk rest σ sh else ⟨a :: .test e a :: rest, σ, sh⟩).σ), fd r (zs (if ev σ e = 0 then S.mk rest σ sh else ⟨a :: .test e a :: rest, σ, sh⟩).sh)] := h1
    by_cases c : ev σ e = 0
    · rw [if_pos c] at h2
      simp [-Bool.exists_bool, vSeq, vAsg, vV, vMv, vS, vIfS, vOr, vAnd, vNot, vB, vv1, vv2, vv3, Opr.ev, Opr.fin, Opr.sl, Opr.base, Sl.read, Sl.rd, Sl.ra, Sl.get, Sl.isIn, Sl.ot, Ot.rd, Ot.get, gets_lv, leaves_lv, Sh.data, Sh.root, Rs.to, ↓lv_in, -List.map_map, fst_0, fst_s, ini, List.replicate_succ, enG, bTup, bCons, bName, bNil, inAt, vC, vEnd, vBrk, vCnt, vRaise, fLt, fAdd_int, fGt, fGe, fLe, fSub, fMod, fI, fFdv, cPow, fPow, fMin2, fMax2, fInt, fAbs, fNeg, Option.bind, vRet, vSet, vDrp, vCal, agEv, agIn, agIn1, lns_nil, lns_pd, lns_br, lns_ln, bor_nil, bor_pd, bor_ln, bor_br, out_nil, out_pd, out_br, out_ln, lat_nil, lat_pd, lat_br, lat_ln, keep_fd, ex_pair, keepO_sh, lnAtm_no, agOut_no, Sl.atm, atom_i, atom_s, atom_b, atom_n, atom_k, vCons, vNil, vTup, vLst, vIf, vTru, truD, vNotV, vNotT, flat_fd, vAndV, vOrV, fEq_int, fNe_int, fEq_str, fNe_str, fEq_is, fEq_si, vMet, mvEv, Opr.loc, locAt, Ot.at, Ot.put, Nde.set, append_lv, pop_lv, reverse_lv, insert_lv, vLc_eq, vFor_eq, wipeD, vYes, iR1, iL, iK, vAug, fAug_int, slotInt, fLen_list, ML.isNon, fIsN, fNotN, vIxN, ixLoc, kidQ, ixN, os_inj, ix0, ix1, ix2, ix3, ix4, lx0, lx1, lx2, lx3, fLen_tup, xAnd, xNot, xIs, vTry, enX, keepO, Ot.root, Ot.rd, fInt, vTry0, isB_n, isB_b, isB_i, isB_s, isB_l, isB_t, isI_n, isI_b, isI_i, isI_s, isI_l, isI_t, isS_n, isS_b, isS_i, isS_s, isS_l, isS_t, isL_n, isL_b, isL_i, isL_s, isL_l, isL_t, isT_n, isT_b, isT_i, isT_s, isT_l, isT_t, plc, Sh.pos, Sh.root, vLstO, ots, c]
      rw [← ht]
      exact h2
    · rw [if_neg c] at h2
      simp [-Bool.exists_bool, vSeq, vAsg, vV, vMv, vS, vIfS, vOr, vAnd, vNot, vB, vv1, vv2, vv3, Opr.ev, Opr.fin, Opr.sl, Opr.base, Sl.read, Sl.rd, Sl.ra, Sl.get, Sl.isIn, Sl.ot, Ot.rd, Ot.get, gets_lv, leaves_lv, Sh.data, Sh.root, Rs.to, ↓lv_in, -List.map_map, fst_0, fst_s, ini, List.replicate_succ, enG, bTup, bCons, bName, bNil, inAt, vC, vEnd, vBrk, vCnt, vRaise, fLt, fAdd_int, fGt, fGe, fLe, fSub, fMod, fI, fFdv, cPow, fPow, fMin2, fMax2, fInt, fAbs, fNeg, Option.bind, vRet, vSet, vDrp, vCal, agEv, agIn, agIn1, lns_nil, lns_pd, lns_br, lns_ln, bor_nil, bor_pd, bor_ln, bor_br, out_nil, out_pd, out_br, out_ln, lat_nil, lat_pd, lat_br, lat_ln, keep_fd, ex_pair, keepO_sh, lnAtm_no, agOut_no, Sl.atm, atom_i, atom_s, atom_b, atom_n, atom_k, vCons, vNil, vTup, vLst, vIf, vTru, truD, vNotV, vNotT, flat_fd, vAndV, vOrV, fEq_int, fNe_int, fEq_str, fNe_str, fEq_is, fEq_si, vMet, mvEv, Opr.loc, locAt, Ot.at, Ot.put, Nde.set, append_lv, pop_lv, reverse_lv, insert_lv, vLc_eq, vFor_eq, wipeD, vYes, iR1, iL, iK, vAug, fAug_int, slotInt, fLen_list, ML.isNon, fIsN, fNotN, vIxN, ixLoc, kidQ, ixN, os_inj, ix0, ix1, ix2, ix3, ix4, lx0, lx1, lx2, lx3, fLen_tup, xAnd, xNot, xIs, vTry, enX, keepO, Ot.root, Ot.rd, fInt, vTry0, isB_n, isB_b, isB_i, isB_s, isB_l, isB_t, isI_n, isI_b, isI_i, isI_s, isI_l, isI_t, isS_n, isS_b, isS_i, isS_s, isS_l, isS_t, isL_n, isL_b, isL_i, isL_s, isL_l, isL_t, isT_n, isT_b, isT_i, isT_s, isT_l, isT_t, plc, Sh.pos, Sh.root, vLstO, ots, c, q1_act, ix2]
      intro p'
      refine ⟨_, ⟨_, ext_ok (by simp; omega)⟩, ?_⟩
      rw [← ht, show bk rest ++ [PyData.tuple [.str "test", e.d, a.d], a.d] = bk (a :: .test e a :: rest) by simp [bk, St.d]]
      exact h2
abbrev cf (c : S) : D := .tuple [.str "configuration", .tuple (c.td.map St.d), .tuple (zs c.σ), .tuple (zs c.sh)]
structure G (n : Nat) (c : S) : Prop where
  td : ∀ s ∈ c.td, s.ok
  st : sok c.σ
  lt : c.td.length ≤ n
  ls : c.sh.length ≤ n
theorem sok_set {σ : List Int} (h : sok σ) (s : Nat) {v : Int} (hv : rg v) : sok (σ.set s v) := by
  refine ⟨by rw [List.length_set]; exact h.1, fun i hi => ?_⟩
  rcases List.mem_or_eq_of_mem_set hi with h2 | rfl
  · exact h.2 _ h2
  · exact hv
theorem G.stp {n : Nat} {c : S} (g : G n c) : G (n + 1) (stp c) := by
  obtain ⟨td, σ, sh⟩ := c
  cases td with
  | nil => exact ⟨g.td, g.st, Nat.le_succ_of_le g.lt, Nat.le_succ_of_le g.ls⟩
  | cons i r =>
    have hr : ∀ s ∈ r, s.ok := fun s hs => g.td s (List.mem_cons_of_mem _ hs)
    have hi := g.td i List.mem_cons_self
    have l1 : r.length + 1 ≤ n := g.lt
    have l2 : sh.length ≤ n := g.ls
    have st : sok σ := g.st
    cases i with
    | skip => exact ⟨hr, st, by show r.length ≤ _; omega, by show sh.length ≤ _; omega⟩
    | set s e => exact ⟨hr, sok_set st s (ev_rg st hi.2), by show r.length ≤ _; omega, by show sh.length ≤ _; omega⟩
    | shw e => exact ⟨hr, st, by show r.length ≤ _; omega, by show (sh ++ [_]).length ≤ _; simp; omega⟩
    | seq a b =>
      refine ⟨fun s hs => ?_, st, by show r.length + 1 + 1 ≤ _; omega, by show sh.length ≤ _; omega⟩
      rcases List.mem_cons.mp hs with rfl | hs
      · exact hi.1
      · rcases List.mem_cons.mp hs with rfl | hs
        · exact hi.2
        · exact hr _ hs
    | when e a b =>
      refine ⟨fun s hs => ?_, st, by show r.length + 1 ≤ _; omega, by show sh.length ≤ _; omega⟩
      rcases List.mem_cons.mp hs with rfl | hs
      · split
        · exact hi.2.2
        · exact hi.2.1
      · exact hr _ hs
    | loop e a =>
      refine ⟨fun s hs => ?_, st, by show r.length + 1 ≤ _; omega, by show sh.length ≤ _; omega⟩
      rcases List.mem_cons.mp hs with rfl | hs
      · exact hi
      · exact hr _ hs
    | test e a =>
      show G (n + 1) (if ev σ e = 0 then S.mk r σ sh else ⟨a :: .test e a :: r, σ, sh⟩)
      split
      · exact ⟨hr, st, by show r.length ≤ _; omega, by show sh.length ≤ _; omega⟩
      · refine ⟨fun s hs => ?_, st, by show r.length + 1 + 1 ≤ _; omega, by show sh.length ≤ _; omega⟩
        rcases List.mem_cons.mp hs with rfl | hs
        · exact hi.2
        · rcases List.mem_cons.mp hs with rfl | hs
          · exact hi
          · exact hr _ hs
def sm_begin : SemG := semV fun ds Qd _ => ∃ s : St, ds = [s.d] ∧ Qd (.sh (cf ⟨[s], List.replicate 16 0, []⟩))
theorem mul16 : fMulV (.list [.int 0]) (.int 16) = some (.nw (zs (List.replicate 16 0))) := by rfl
theorem s_begin {ins : List Sl} {Qd : Sl → List Sl → Prop} {Xd : Exn → List Sl → Prop} (hl : ins.length = 1) (h : sm_begin ins Qd Xd) : t_begin (enG 1 Qd Xd) (ini 1 ins) := by
  obtain ⟨_, rfl, s, rfl, h1⟩ := h
  have m : fMulV (.list [.int 0]) g_SLOTS = some (.nw (zs (List.replicate 16 0))) := mul16
  simp [-Bool.exists_bool, vSeq, vAsg, vV, vMv, vS, vIfS, vOr, vAnd, vNot, vB, vv1, vv2, vv3, Opr.ev, Opr.fin, Opr.sl, Opr.base, Sl.read, Sl.rd, Sl.ra, Sl.get, Sl.isIn, Sl.ot, Ot.rd, Ot.get, gets_lv, leaves_lv, Sh.data, Sh.root, Rs.to, ↓lv_in, -List.map_map, fst_0, fst_s, ini, List.replicate_succ, enG, bTup, bCons, bName, bNil, inAt, vC, vEnd, vBrk, vCnt, vRaise, fLt, fAdd_int, fGt, fGe, fLe, fSub, fMod, fI, fFdv, cPow, fPow, fMin2, fMax2, fInt, fAbs, fNeg, Option.bind, vRet, vSet, vDrp, vCal, agEv, agIn, agIn1, lns_nil, lns_pd, lns_br, lns_ln, bor_nil, bor_pd, bor_ln, bor_br, out_nil, out_pd, out_br, out_ln, lat_nil, lat_pd, lat_br, lat_ln, keep_fd, ex_pair, keepO_sh, lnAtm_no, agOut_no, Sl.atm, atom_i, atom_s, atom_b, atom_n, atom_k, vCons, vNil, vTup, vLst, vIf, vTru, truD, vNotV, vNotT, flat_fd, vAndV, vOrV, fEq_int, fNe_int, fEq_str, fNe_str, fEq_is, fEq_si, vMet, mvEv, Opr.loc, locAt, Ot.at, Ot.put, Nde.set, append_lv, pop_lv, reverse_lv, insert_lv, vLc_eq, vFor_eq, wipeD, vYes, iR1, iL, iK, vAug, fAug_int, slotInt, fLen_list, ML.isNon, fIsN, fNotN, vIxN, ixLoc, kidQ, ixN, os_inj, ix0, ix1, ix2, ix3, ix4, lx0, lx1, lx2, lx3, fLen_tup, xAnd, xNot, xIs, vTry, enX, keepO, Ot.root, Ot.rd, fInt, vTry0, isB_n, isB_b, isB_i, isB_s, isB_l, isB_t, isI_n, isI_b, isI_i, isI_s, isI_l, isI_t, isS_n, isS_b, isS_i, isS_s, isS_l, isS_t, isL_n, isL_b, isL_i, isL_s, isL_l, isL_t, isT_n, isT_b, isT_i, isT_s, isT_l, isT_t, plc, Sh.pos, Sh.root, vLstO, ots, t_begin, m, fTuple, -List.map_replicate, -List.reduceReplicate]
  exact h1 _
def sm_step : SemG := semV fun ds Qd _ => ∃ (c : S) (n : Nat), ds = [cf c] ∧ G n c ∧ n ≤ 800000 ∧ Qd (.sh (cf (stp c)))
theorem s_step {ins : List Sl} {Qd : Sl → List Sl → Prop} {Xd : Exn → List Sl → Prop} (hl : ins.length = 1) (h : sm_step ins Qd Xd) : t_step sm_act (enG 1 Qd Xd) (ini 8 ins) := by
  obtain ⟨_, rfl, c, n, rfl, g, hn, h1⟩ := h
  obtain ⟨td, σ, sh⟩ := c
  cases td with
  | nil =>
    simp [-Bool.exists_bool, vSeq, vAsg, vV, vMv, vS, vIfS, vOr, vAnd, vNot, vB, vv1, vv2, vv3, Opr.ev, Opr.fin, Opr.sl, Opr.base, Sl.read, Sl.rd, Sl.ra, Sl.get, Sl.isIn, Sl.ot, Ot.rd, Ot.get, gets_lv, leaves_lv, Sh.data, Sh.root, Rs.to, ↓lv_in, -List.map_map, fst_0, fst_s, ini, List.replicate_succ, enG, bTup, bCons, bName, bNil, inAt, vC, vEnd, vBrk, vCnt, vRaise, fLt, fAdd_int, fGt, fGe, fLe, fSub, fMod, fI, fFdv, cPow, fPow, fMin2, fMax2, fInt, fAbs, fNeg, Option.bind, vRet, vSet, vDrp, vCal, agEv, agIn, agIn1, lns_nil, lns_pd, lns_br, lns_ln, bor_nil, bor_pd, bor_ln, bor_br, out_nil, out_pd, out_br, out_ln, lat_nil, lat_pd, lat_br, lat_ln, keep_fd, ex_pair, keepO_sh, lnAtm_no, agOut_no, Sl.atm, atom_i, atom_s, atom_b, atom_n, atom_k, vCons, vNil, vTup, vLst, vIf, vTru, truD, vNotV, vNotT, flat_fd, vAndV, vOrV, fEq_int, fNe_int, fEq_str, fNe_str, fEq_is, fEq_si, vMet, mvEv, Opr.loc, locAt, Ot.at, Ot.put, Nde.set, append_lv, pop_lv, reverse_lv, insert_lv, vLc_eq, vFor_eq, wipeD, vYes, iR1, iL, iK, vAug, fAug_int, slotInt, fLen_list, ML.isNon, fIsN, fNotN, vIxN, ixLoc, kidQ, ixN, os_inj, ix0, ix1, ix2, ix3, ix4, lx0, lx1, lx2, lx3, fLen_tup, xAnd, xNot, xIs, vTry, enX, keepO, Ot.root, Ot.rd, fInt, vTry0, isB_n, isB_b, isB_i, isB_s, isB_l, isB_t, isI_n, isI_b, isI_i, isI_s, isI_l, isI_t, isS_n, isS_b, isS_i, isS_s, isS_l, isS_t, isL_n, isL_b, isL_i, isL_s, isL_l, isL_t, isT_n, isT_b, isT_i, isT_s, isT_l, isT_t, plc, Sh.pos, Sh.root, vLstO, ots, t_step]
    exact h1 _
  | cons it rest =>
    have l1 : rest.length + 1 ≤ n := g.lt
    have l2 : sh.length ≤ n := g.ls
    simp [-Bool.exists_bool, vSeq, vAsg, vV, vMv, vS, vIfS, vOr, vAnd, vNot, vB, vv1, vv2, vv3, Opr.ev, Opr.fin, Opr.sl, Opr.base, Sl.read, Sl.rd, Sl.ra, Sl.get, Sl.isIn, Sl.ot, Ot.rd, Ot.get, gets_lv, leaves_lv, Sh.data, Sh.root, Rs.to, ↓lv_in, -List.map_map, fst_0, fst_s, ini, List.replicate_succ, enG, bTup, bCons, bName, bNil, inAt, vC, vEnd, vBrk, vCnt, vRaise, fLt, fAdd_int, fGt, fGe, fLe, fSub, fMod, fI, fFdv, cPow, fPow, fMin2, fMax2, fInt, fAbs, fNeg, Option.bind, vRet, vSet, vDrp, vCal, agEv, agIn, agIn1, lns_nil, lns_pd, lns_br, lns_ln, bor_nil, bor_pd, bor_ln, bor_br, out_nil, out_pd, out_br, out_ln, lat_nil, lat_pd, lat_br, lat_ln, keep_fd, ex_pair, keepO_sh, lnAtm_no, agOut_no, Sl.atm, atom_i, atom_s, atom_b, atom_n, atom_k, vCons, vNil, vTup, vLst, vIf, vTru, truD, vNotV, vNotT, flat_fd, vAndV, vOrV, fEq_int, fNe_int, fEq_str, fNe_str, fEq_is, fEq_si, vMet, mvEv, Opr.loc, locAt, Ot.at, Ot.put, Nde.set, append_lv, pop_lv, reverse_lv, insert_lv, vLc_eq, vFor_eq, wipeD, vYes, iR1, iL, iK, vAug, fAug_int, slotInt, fLen_list, ML.isNon, fIsN, fNotN, vIxN, ixLoc, kidQ, ixN, os_inj, ix0, ix1, ix2, ix3, ix4, lx0, lx1, lx2, lx3, fLen_tup, xAnd, xNot, xIs, vTry, enX, keepO, Ot.root, Ot.rd, fInt, vTry0, isB_n, isB_b, isB_i, isB_s, isB_l, isB_t, isI_n, isI_b, isI_i, isI_s, isI_l, isI_t, isS_n, isS_b, isS_i, isS_s, isS_l, isS_t, isL_n, isL_b, isL_i, isL_s, isL_l, isL_t, isT_n, isT_b, isT_i, isT_s, isT_l, isT_t, plc, Sh.pos, Sh.root, vLstO, ots, t_step, fRevT, fList, fTuple, fRevL]
    intro p5 p6 p7
    refine ⟨p5, p6, p7, it, rest, σ, sh, rfl, g.td it List.mem_cons_self, g.st, by omega, by omega, ?_⟩
    simp [-Bool.exists_bool, vSeq, vAsg, vV, vMv, vS, vIfS, vOr, vAnd, vNot, vB, vv1, vv2, vv3, Opr.ev, Opr.fin, Opr.sl, Opr.base, Sl.read, Sl.rd, Sl.ra, Sl.get, Sl.isIn, Sl.ot, Ot.rd, Ot.get, gets_lv, leaves_lv, Sh.data, Sh.root, Rs.to, ↓lv_in, -List.map_map, fst_0, fst_s, ini, List.replicate_succ, enG, bTup, bCons, bName, bNil, inAt, vC, vEnd, vBrk, vCnt, vRaise, fLt, fAdd_int, fGt, fGe, fLe, fSub, fMod, fI, fFdv, cPow, fPow, fMin2, fMax2, fInt, fAbs, fNeg, Option.bind, vRet, vSet, vDrp, vCal, agEv, agIn, agIn1, lns_nil, lns_pd, lns_br, lns_ln, bor_nil, bor_pd, bor_ln, bor_br, out_nil, out_pd, out_br, out_ln, lat_nil, lat_pd, lat_br, lat_ln, keep_fd, ex_pair, keepO_sh, lnAtm_no, agOut_no, Sl.atm, atom_i, atom_s, atom_b, atom_n, atom_k, vCons, vNil, vTup, vLst, vIf, vTru, truD, vNotV, vNotT, flat_fd, vAndV, vOrV, fEq_int, fNe_int, fEq_str, fNe_str, fEq_is, fEq_si, vMet, mvEv, Opr.loc, locAt, Ot.at, Ot.put, Nde.set, append_lv, pop_lv, reverse_lv, insert_lv, vLc_eq, vFor_eq, wipeD, vYes, iR1, iL, iK, vAug, fAug_int, slotInt, fLen_list, ML.isNon, fIsN, fNotN, vIxN, ixLoc, kidQ, ixN, os_inj, ix0, ix1, ix2, ix3, ix4, lx0, lx1, lx2, lx3, fLen_tup, xAnd, xNot, xIs, vTry, enX, keepO, Ot.root, Ot.rd, fInt, vTry0, isB_n, isB_b, isB_i, isB_s, isB_l, isB_t, isI_n, isI_b, isI_i, isI_s, isI_l, isI_t, isS_n, isS_b, isS_i, isS_s, isS_l, isS_t, isL_n, isL_b, isL_i, isL_s, isL_l, isL_t, isT_n, isT_b, isT_i, isT_s, isT_l, isT_t, plc, Sh.pos, Sh.root, vLstO, ots, fRevT, fList, fTuple, fRevL]
    have h2 : ∀ outs, Qd (.sh (cf (act1 rest σ sh it))) outs := h1
    generalize act1 rest σ sh it = c' at h2
    exact h2 _
def z16 : List Int := List.replicate 16 0
theorem sok_z : sok z16 := ⟨by unfold z16; simp, fun i hi => by
  unfold z16 at hi
  have := (List.mem_replicate.mp hi).2
  subst this
  unfold rg LP.rg32; omega⟩
abbrev c0 (s : St) : S := ⟨[s], z16, []⟩
theorem g0 {s : St} (h : s.ok) : G 1 (c0 s) := ⟨fun t ht => by rw [List.mem_singleton.mp ht]; exact h, sok_z, Nat.le_refl _, by simp⟩
theorem G.mono {n m : Nat} {c : S} (g : G n c) (h : n ≤ m) : G m c := ⟨g.td, g.st, by have := g.lt; omega, by have := g.ls; omega⟩
def emp (c : S) : Bool := c.td.isEmpty
def sm_ran : SemG := semV fun ds Qd _ => ∃ (s : St) (f : Nat), ds = [s.d, .int f] ∧ s.ok ∧ f ≤ 100000 ∧
  Qd (.sh (.tuple [.bool (emp (go f (c0 s)).1), .list (zs (go f (c0 s)).1.sh), .list (zs (go f (c0 s)).1.σ), .int ((go f (c0 s)).2 : Nat)]))
theorem mulS : fMulV (.list [.int 0]) g_SLOTS = some (.nw (zs z16)) := by rfl
def JR (s : St) (f : Nat) (p q r : Addr) (δ : List Sl) : Prop := ∃ (k : Nat) (c : S), δ = [.sh s.d, .sh (.int f), fd p (bk c.td), fd q (zs c.σ), fd r (zs c.sh), .sh (.int k)] ∧ k ≤ f ∧ G (k + 1) c ∧ go f (c0 s) = ((go (f - k) c).1, (go (f - k) c).2 + k)
def mu (f : Nat) (δ : List Sl) : Nat := match δ with
  | [_, _, _, _, _, .sh (.int k)] => f - k.toNat
  | _ => 0
theorem s_ran {ins : List Sl} {Qd : Sl → List Sl → Prop} {Xd : Exn → List Sl → Prop} (hl : ins.length = 2) (h : sm_ran ins Qd Xd) : t_ran sm_act (enG 2 Qd Xd) (ini 6 ins) := by
  obtain ⟨_, rfl, s, f, rfl, ho, hf, h1⟩ := h
  simp [-Bool.exists_bool, vSeq, vAsg, vV, vMv, vS, vIfS, vOr, vAnd, vNot, vB, vv1, vv2, vv3, Opr.ev, Opr.fin, Opr.sl, Opr.base, Sl.read, Sl.rd, Sl.ra, Sl.get, Sl.isIn, Sl.ot, Ot.rd, Ot.get, gets_lv, leaves_lv, Sh.data, Sh.root, Rs.to, ↓lv_in, -List.map_map, fst_0, fst_s, ini, List.replicate_succ, enG, bTup, bCons, bName, bNil, inAt, vC, vEnd, vBrk, vCnt, vRaise, fLt, fAdd_int, fGt, fGe, fLe, fSub, fMod, fI, fFdv, cPow, fPow, fMin2, fMax2, fInt, fAbs, fNeg, Option.bind, vRet, vSet, vDrp, vCal, agEv, agIn, agIn1, lns_nil, lns_pd, lns_br, lns_ln, bor_nil, bor_pd, bor_ln, bor_br, out_nil, out_pd, out_br, out_ln, lat_nil, lat_pd, lat_br, lat_ln, keep_fd, ex_pair, keepO_sh, lnAtm_no, agOut_no, Sl.atm, atom_i, atom_s, atom_b, atom_n, atom_k, vCons, vNil, vTup, vLst, vIf, vTru, truD, vNotV, vNotT, flat_fd, vAndV, vOrV, fEq_int, fNe_int, fEq_str, fNe_str, fEq_is, fEq_si, vMet, mvEv, Opr.loc, locAt, Ot.at, Ot.put, Nde.set, append_lv, pop_lv, reverse_lv, insert_lv, vLc_eq, vFor_eq, wipeD, vYes, iR1, iL, iK, vAug, fAug_int, slotInt, fLen_list, ML.isNon, fIsN, fNotN, vIxN, ixLoc, kidQ, ixN, os_inj, ix0, ix1, ix2, ix3, ix4, lx0, lx1, lx2, lx3, fLen_tup, xAnd, xNot, xIs, vTry, enX, keepO, Ot.root, Ot.rd, fInt, vTry0, isB_n, isB_b, isB_i, isB_s, isB_l, isB_t, isI_n, isI_b, isI_i, isI_s, isI_l, isI_t, isS_n, isS_b, isS_i, isS_s, isS_l, isS_t, isL_n, isL_b, isL_i, isL_s, isL_l, isL_t, isT_n, isT_b, isT_i, isT_s, isT_l, isT_t, plc, Sh.pos, Sh.root, vLstO, ots, t_ran, mulS, w1_ran]
  intro p q r
  refine vWh_by (JR s f p q r) (mu f) ⟨0, c0 s, rfl, Nat.zero_le _, g0 ho, by simp⟩ ?_
  rintro δ ⟨k, c, rfl, hk, g, e⟩
  obtain ⟨td, σ, sh⟩ := c
  cases td with
  | nil =>
    rw [go_nil] at e
    have h2 : ∀ outs, Qd (.sh (.tuple [.bool (emp ⟨[], σ, sh⟩), .list (zs sh), .list (zs σ), .int ((0 + k : Nat) : Int)])) outs := by
      rw [e] at h1
      exact h1
    rw [Nat.zero_add] at h2
    simp [-Bool.exists_bool, vSeq, vAsg, vV, vMv, vS, vIfS, vOr, vAnd, vNot, vB, vv1, vv2, vv3, Opr.ev, Opr.fin, Opr.sl, Opr.base, Sl.read, Sl.rd, Sl.ra, Sl.get, Sl.isIn, Sl.ot, Ot.rd, Ot.get, gets_lv, leaves_lv, Sh.data, Sh.root, Rs.to, ↓lv_in, -List.map_map, fst_0, fst_s, ini, List.replicate_succ, enG, bTup, bCons, bName, bNil, inAt, vC, vEnd, vBrk, vCnt, vRaise, fLt, fAdd_int, fGt, fGe, fLe, fSub, fMod, fI, fFdv, cPow, fPow, fMin2, fMax2, fInt, fAbs, fNeg, Option.bind, vRet, vSet, vDrp, vCal, agEv, agIn, agIn1, lns_nil, lns_pd, lns_br, lns_ln, bor_nil, bor_pd, bor_ln, bor_br, out_nil, out_pd, out_br, out_ln, lat_nil, lat_pd, lat_br, lat_ln, keep_fd, ex_pair, keepO_sh, lnAtm_no, agOut_no, Sl.atm, atom_i, atom_s, atom_b, atom_n, atom_k, vCons, vNil, vTup, vLst, vIf, vTru, truD, vNotV, vNotT, flat_fd, vAndV, vOrV, fEq_int, fNe_int, fEq_str, fNe_str, fEq_is, fEq_si, vMet, mvEv, Opr.loc, locAt, Ot.at, Ot.put, Nde.set, append_lv, pop_lv, reverse_lv, insert_lv, vLc_eq, vFor_eq, wipeD, vYes, iR1, iL, iK, vAug, fAug_int, slotInt, fLen_list, ML.isNon, fIsN, fNotN, vIxN, ixLoc, kidQ, ixN, os_inj, ix0, ix1, ix2, ix3, ix4, lx0, lx1, lx2, lx3, fLen_tup, xAnd, xNot, xIs, vTry, enX, keepO, Ot.root, Ot.rd, fInt, vTry0, isB_n, isB_b, isB_i, isB_s, isB_l, isB_t, isI_n, isI_b, isI_i, isI_s, isI_l, isI_t, isS_n, isS_b, isS_i, isS_s, isS_l, isS_t, isL_n, isL_b, isL_i, isL_s, isL_l, isL_t, isT_n, isT_b, isT_i, isT_s, isT_l, isT_t, plc, Sh.pos, Sh.root, vLstO, ots]
    exact h2 _
  | cons it rest =>
    have l1 : rest.length + 1 ≤ k + 1 := g.lt
    have l2 : sh.length ≤ k + 1 := g.ls
    by_cases c : k < f
    · simp [-Bool.exists_bool, vSeq, vAsg, vV, vMv, vS, vIfS, vOr, vAnd, vNot, vB, vv1, vv2, vv3, Opr.ev, Opr.fin, Opr.sl, Opr.base, Sl.read, Sl.rd, Sl.ra, Sl.get, Sl.isIn, Sl.ot, Ot.rd, Ot.get, gets_lv, leaves_lv, Sh.data, Sh.root, Rs.to, ↓lv_in, -List.map_map, fst_0, fst_s, ini, List.replicate_succ, enG, bTup, bCons, bName, bNil, inAt, vC, vEnd, vBrk, vCnt, vRaise, fLt, fAdd_int, fGt, fGe, fLe, fSub, fMod, fI, fFdv, cPow, fPow, fMin2, fMax2, fInt, fAbs, fNeg, Option.bind, vRet, vSet, vDrp, vCal, agEv, agIn, agIn1, lns_nil, lns_pd, lns_br, lns_ln, bor_nil, bor_pd, bor_ln, bor_br, out_nil, out_pd, out_br, out_ln, lat_nil, lat_pd, lat_br, lat_ln, keep_fd, ex_pair, keepO_sh, lnAtm_no, agOut_no, Sl.atm, atom_i, atom_s, atom_b, atom_n, atom_k, vCons, vNil, vTup, vLst, vIf, vTru, truD, vNotV, vNotT, flat_fd, vAndV, vOrV, fEq_int, fNe_int, fEq_str, fNe_str, fEq_is, fEq_si, vMet, mvEv, Opr.loc, locAt, Ot.at, Ot.put, Nde.set, append_lv, pop_lv, reverse_lv, insert_lv, vLc_eq, vFor_eq, wipeD, vYes, iR1, iL, iK, vAug, fAug_int, slotInt, fLen_list, ML.isNon, fIsN, fNotN, vIxN, ixLoc, kidQ, ixN, os_inj, ix0, ix1, ix2, ix3, ix4, lx0, lx1, lx2, lx3, fLen_tup, xAnd, xNot, xIs, vTry, enX, keepO, Ot.root, Ot.rd, fInt, vTry0, isB_n, isB_b, isB_i, isB_s, isB_l, isB_t, isI_n, isI_b, isI_i, isI_s, isI_l, isI_t, isS_n, isS_b, isS_i, isS_s, isS_l, isS_t, isL_n, isL_b, isL_i, isL_s, isL_l, isL_t, isT_n, isT_b, isT_i, isT_s, isT_l, isT_t, plc, Sh.pos, Sh.root, vLstO, ots, c]
      have ebk : bk (it :: rest) = bk rest ++ [it.d] := by simp [bk]
      refine ⟨p, q, r, it, rest, σ, sh, by rw [ebk], g.td it List.mem_cons_self, g.st, by omega, by omega, ?_⟩
      simp [-Bool.exists_bool, vSeq, vAsg, vV, vMv, vS, vIfS, vOr, vAnd, vNot, vB, vv1, vv2, vv3, Opr.ev, Opr.fin, Opr.sl, Opr.base, Sl.read, Sl.rd, Sl.ra, Sl.get, Sl.isIn, Sl.ot, Ot.rd, Ot.get, gets_lv, leaves_lv, Sh.data, Sh.root, Rs.to, ↓lv_in, -List.map_map, fst_0, fst_s, ini, List.replicate_succ, enG, bTup, bCons, bName, bNil, inAt, vC, vEnd, vBrk, vCnt, vRaise, fLt, fAdd_int, fGt, fGe, fLe, fSub, fMod, fI, fFdv, cPow, fPow, fMin2, fMax2, fInt, fAbs, fNeg, Option.bind, vRet, vSet, vDrp, vCal, agEv, agIn, agIn1, lns_nil, lns_pd, lns_br, lns_ln, bor_nil, bor_pd, bor_ln, bor_br, out_nil, out_pd, out_br, out_ln, lat_nil, lat_pd, lat_br, lat_ln, keep_fd, ex_pair, keepO_sh, lnAtm_no, agOut_no, Sl.atm, atom_i, atom_s, atom_b, atom_n, atom_k, vCons, vNil, vTup, vLst, vIf, vTru, truD, vNotV, vNotT, flat_fd, vAndV, vOrV, fEq_int, fNe_int, fEq_str, fNe_str, fEq_is, fEq_si, vMet, mvEv, Opr.loc, locAt, Ot.at, Ot.put, Nde.set, append_lv, pop_lv, reverse_lv, insert_lv, vLc_eq, vFor_eq, wipeD, vYes, iR1, iL, iK, vAug, fAug_int, slotInt, fLen_list, ML.isNon, fIsN, fNotN, vIxN, ixLoc, kidQ, ixN, os_inj, ix0, ix1, ix2, ix3, ix4, lx0, lx1, lx2, lx3, fLen_tup, xAnd, xNot, xIs, vTry, enX, keepO, Ot.root, Ot.rd, fInt, vTry0, isB_n, isB_b, isB_i, isB_s, isB_l, isB_t, isI_n, isI_b, isI_i, isI_s, isI_l, isI_t, isS_n, isS_b, isS_i, isS_s, isS_l, isS_t, isL_n, isL_b, isL_i, isL_s, isL_l, isL_t, isT_n, isT_b, isT_i, isT_s, isT_l, isT_t, plc, Sh.pos, Sh.root, vLstO, ots]
      have e2 : f - k = (f - (k + 1)) + 1 := by omega
      rw [e2, go_cons _ (by simp)] at e
      refine ⟨⟨k + 1, act1 rest σ sh it, by simp, by omega, g.stp, ?_⟩, ?_⟩
      · rw [e]
        refine Prod.ext rfl ?_
        show _ + 1 + k = _ + (k + 1)
        have : stp ⟨it :: rest, σ, sh⟩ = act1 rest σ sh it := rfl
        rw [this]
        omega
      · show f - ((k : Int) + 1).toNat < f - (k : Int).toNat
        omega
    · have : k = f := by omega
      subst this
      rw [Nat.sub_self] at e
      have h2 : ∀ outs, Qd (.sh (.tuple [.bool (emp ⟨it :: rest, σ, sh⟩), .list (zs sh), .list (zs σ), .int ((0 + k : Nat) : Int)])) outs := by
        rw [e] at h1
        exact h1
      rw [Nat.zero_add] at h2
      simp [-Bool.exists_bool, vSeq, vAsg, vV, vMv, vS, vIfS, vOr, vAnd, vNot, vB, vv1, vv2, vv3, Opr.ev, Opr.fin, Opr.sl, Opr.base, Sl.read, Sl.rd, Sl.ra, Sl.get, Sl.isIn, Sl.ot, Ot.rd, Ot.get, gets_lv, leaves_lv, Sh.data, Sh.root, Rs.to, ↓lv_in, -List.map_map, fst_0, fst_s, ini, List.replicate_succ, enG, bTup, bCons, bName, bNil, inAt, vC, vEnd, vBrk, vCnt, vRaise, fLt, fAdd_int, fGt, fGe, fLe, fSub, fMod, fI, fFdv, cPow, fPow, fMin2, fMax2, fInt, fAbs, fNeg, Option.bind, vRet, vSet, vDrp, vCal, agEv, agIn, agIn1, lns_nil, lns_pd, lns_br, lns_ln, bor_nil, bor_pd, bor_ln, bor_br, out_nil, out_pd, out_br, out_ln, lat_nil, lat_pd, lat_br, lat_ln, keep_fd, ex_pair, keepO_sh, lnAtm_no, agOut_no, Sl.atm, atom_i, atom_s, atom_b, atom_n, atom_k, vCons, vNil, vTup, vLst, vIf, vTru, truD, vNotV, vNotT, flat_fd, vAndV, vOrV, fEq_int, fNe_int, fEq_str, fNe_str, fEq_is, fEq_si, vMet, mvEv, Opr.loc, locAt, Ot.at, Ot.put, Nde.set, append_lv, pop_lv, reverse_lv, insert_lv, vLc_eq, vFor_eq, wipeD, vYes, iR1, iL, iK, vAug, fAug_int, slotInt, fLen_list, ML.isNon, fIsN, fNotN, vIxN, ixLoc, kidQ, ixN, os_inj, ix0, ix1, ix2, ix3, ix4, lx0, lx1, lx2, lx3, fLen_tup, xAnd, xNot, xIs, vTry, enX, keepO, Ot.root, Ot.rd, fInt, vTry0, isB_n, isB_b, isB_i, isB_s, isB_l, isB_t, isI_n, isI_b, isI_i, isI_s, isI_l, isI_t, isS_n, isS_b, isS_i, isS_s, isS_l, isS_t, isL_n, isL_b, isL_i, isL_s, isL_l, isL_t, isT_n, isT_b, isT_i, isT_s, isT_l, isT_t, plc, Sh.pos, Sh.root, vLstO, ots]
      exact h2 _
/-! ### the statements that the law draws -/
theorem ok_mono : ∀ {n m : Nat} {e : Ex}, n ≤ m → e.ok n → e.ok m
  | n, m, .num i, _, h => by
    have h' : rg i := by cases n <;> exact h
    cases m <;> exact h'
  | n, m, .var s, _, h => by
    have h' : s < 16 := by cases n <;> exact h
    cases m <;> exact h'
  | 0, _, .op _ _ _, _, h => h.elim
  | n + 1, 0, .op _ _ _, l, _ => absurd l (by omega)
  | n + 1, m + 1, .op _ a b, l, h => ⟨ok_mono (by omega) h.1, ok_mono (by omega) h.2⟩
theorem num_ok {n : Nat} {i : Int} (h : rg i) : (Ex.num i).ok n := by cases n <;> exact h
theorem var_ok {n s : Nat} (h : s < 16) : (Ex.var s).ok n := by cases n <;> exact h
def St.dp : St → Nat
  | .skip => 1
  | .set _ _ => 1
  | .shw _ => 1
  | .seq a b => 1 + max a.dp b.dp
  | .when _ a b => 1 + max a.dp b.dp
  | .loop _ a => 1 + a.dp
  | .test _ a => 1 + a.dp
def sm_leaf : SemG := fun ins Qd _ => ∃ p ds, ins = [fd p ds] ∧ inz ds ∧ ∀ (e : Ex) es, e.ok 0 → inz es → Qd (.sh e.d) [fd p es]
theorem s_leaf {ins : List Sl} {Qd : Sl → List Sl → Prop} {Xd : Exn → List Sl → Prop} (hl : ins.length = 1) (h : sm_leaf ins Qd Xd) : t__law_leaf LP.sm_num LP.sm_pick (enG 1 Qd Xd) (ini 1 ins) := by
  obtain ⟨p, ds, rfl, hi, h1⟩ := h
  simp [-Bool.exists_bool, vSeq, vAsg, vV, vMv, vS, vIfS, vOr, vAnd, vNot, vB, vv1, vv2, vv3, Opr.ev, Opr.fin, Opr.sl, Opr.base, Sl.read, Sl.rd, Sl.ra, Sl.get, Sl.isIn, Sl.ot, Ot.rd, Ot.get, gets_lv, leaves_lv, Sh.data, Sh.root, Rs.to, ↓lv_in, -List.map_map, fst_0, fst_s, ini, List.replicate_succ, enG, bTup, bCons, bName, bNil, inAt, vC, vEnd, vBrk, vCnt, vRaise, fLt, fAdd_int, fGt, fGe, fLe, fSub, fMod, fI, fFdv, cPow, fPow, fMin2, fMax2, fInt, fAbs, fNeg, Option.bind, vRet, vSet, vDrp, vCal, agEv, agIn, agIn1, lns_nil, lns_pd, lns_br, lns_ln, bor_nil, bor_pd, bor_ln, bor_br, out_nil, out_pd, out_br, out_ln, lat_nil, lat_pd, lat_br, lat_ln, keep_fd, ex_pair, keepO_sh, lnAtm_no, agOut_no, Sl.atm, atom_i, atom_s, atom_b, atom_n, atom_k, vCons, vNil, vTup, vLst, vIf, vTru, truD, vNotV, vNotT, flat_fd, vAndV, vOrV, fEq_int, fNe_int, fEq_str, fNe_str, fEq_is, fEq_si, vMet, mvEv, Opr.loc, locAt, Ot.at, Ot.put, Nde.set, append_lv, pop_lv, reverse_lv, insert_lv, vLc_eq, vFor_eq, wipeD, vYes, iR1, iL, iK, vAug, fAug_int, slotInt, fLen_list, ML.isNon, fIsN, fNotN, vIxN, ixLoc, kidQ, ixN, os_inj, ix0, ix1, ix2, ix3, ix4, lx0, lx1, lx2, lx3, fLen_tup, xAnd, xNot, xIs, vTry, enX, keepO, Ot.root, Ot.rd, fInt, vTry0, isB_n, isB_b, isB_i, isB_s, isB_l, isB_t, isI_n, isI_b, isI_i, isI_s, isI_l, isI_t, isS_n, isS_b, isS_i, isS_s, isS_l, isS_t, isL_n, isL_b, isL_i, isL_s, isL_l, isL_t, isT_n, isT_b, isT_i, isT_s, isT_l, isT_t, plc, Sh.pos, Sh.root, vLstO, ots, t__law_leaf]
  refine LP.pick hi (by omega) fun r d1 i1 r0 r1 => ?_
  by_cases c : r = 0
  · simp [-Bool.exists_bool, vSeq, vAsg, vV, vMv, vS, vIfS, vOr, vAnd, vNot, vB, vv1, vv2, vv3, Opr.ev, Opr.fin, Opr.sl, Opr.base, Sl.read, Sl.rd, Sl.ra, Sl.get, Sl.isIn, Sl.ot, Ot.rd, Ot.get, gets_lv, leaves_lv, Sh.data, Sh.root, Rs.to, ↓lv_in, -List.map_map, fst_0, fst_s, ini, List.replicate_succ, enG, bTup, bCons, bName, bNil, inAt, vC, vEnd, vBrk, vCnt, vRaise, fLt, fAdd_int, fGt, fGe, fLe, fSub, fMod, fI, fFdv, cPow, fPow, fMin2, fMax2, fInt, fAbs, fNeg, Option.bind, vRet, vSet, vDrp, vCal, agEv, agIn, agIn1, lns_nil, lns_pd, lns_br, lns_ln, bor_nil, bor_pd, bor_ln, bor_br, out_nil, out_pd, out_br, out_ln, lat_nil, lat_pd, lat_br, lat_ln, keep_fd, ex_pair, keepO_sh, lnAtm_no, agOut_no, Sl.atm, atom_i, atom_s, atom_b, atom_n, atom_k, vCons, vNil, vTup, vLst, vIf, vTru, truD, vNotV, vNotT, flat_fd, vAndV, vOrV, fEq_int, fNe_int, fEq_str, fNe_str, fEq_is, fEq_si, vMet, mvEv, Opr.loc, locAt, Ot.at, Ot.put, Nde.set, append_lv, pop_lv, reverse_lv, insert_lv, vLc_eq, vFor_eq, wipeD, vYes, iR1, iL, iK, vAug, fAug_int, slotInt, fLen_list, ML.isNon, fIsN, fNotN, vIxN, ixLoc, kidQ, ixN, os_inj, ix0, ix1, ix2, ix3, ix4, lx0, lx1, lx2, lx3, fLen_tup, xAnd, xNot, xIs, vTry, enX, keepO, Ot.root, Ot.rd, fInt, vTry0, isB_n, isB_b, isB_i, isB_s, isB_l, isB_t, isI_n, isI_b, isI_i, isI_s, isI_l, isI_t, isS_n, isS_b, isS_i, isS_s, isS_l, isS_t, isL_n, isL_b, isL_i, isL_s, isL_l, isL_t, isT_n, isT_b, isT_i, isT_s, isT_l, isT_t, plc, Sh.pos, Sh.root, vLstO, ots, c]
    refine ⟨p, d1, rfl, i1, fun v d2 hv i2 => ?_⟩
    simp [-Bool.exists_bool, vSeq, vAsg, vV, vMv, vS, vIfS, vOr, vAnd, vNot, vB, vv1, vv2, vv3, Opr.ev, Opr.fin, Opr.sl, Opr.base, Sl.read, Sl.rd, Sl.ra, Sl.get, Sl.isIn, Sl.ot, Ot.rd, Ot.get, gets_lv, leaves_lv, Sh.data, Sh.root, Rs.to, ↓lv_in, -List.map_map, fst_0, fst_s, ini, List.replicate_succ, enG, bTup, bCons, bName, bNil, inAt, vC, vEnd, vBrk, vCnt, vRaise, fLt, fAdd_int, fGt, fGe, fLe, fSub, fMod, fI, fFdv, cPow, fPow, fMin2, fMax2, fInt, fAbs, fNeg, Option.bind, vRet, vSet, vDrp, vCal, agEv, agIn, agIn1, lns_nil, lns_pd, lns_br, lns_ln, bor_nil, bor_pd, bor_ln, bor_br, out_nil, out_pd, out_br, out_ln, lat_nil, lat_pd, lat_br, lat_ln, keep_fd, ex_pair, keepO_sh, lnAtm_no, agOut_no, Sl.atm, atom_i, atom_s, atom_b, atom_n, atom_k, vCons, vNil, vTup, vLst, vIf, vTru, truD, vNotV, vNotT, flat_fd, vAndV, vOrV, fEq_int, fNe_int, fEq_str, fNe_str, fEq_is, fEq_si, vMet, mvEv, Opr.loc, locAt, Ot.at, Ot.put, Nde.set, append_lv, pop_lv, reverse_lv, insert_lv, vLc_eq, vFor_eq, wipeD, vYes, iR1, iL, iK, vAug, fAug_int, slotInt, fLen_list, ML.isNon, fIsN, fNotN, vIxN, ixLoc, kidQ, ixN, os_inj, ix0, ix1, ix2, ix3, ix4, lx0, lx1, lx2, lx3, fLen_tup, xAnd, xNot, xIs, vTry, enX, keepO, Ot.root, Ot.rd, fInt, vTry0, isB_n, isB_b, isB_i, isB_s, isB_l, isB_t, isI_n, isI_b, isI_i, isI_s, isI_l, isI_t, isS_n, isS_b, isS_i, isS_s, isS_l, isS_t, isL_n, isL_b, isL_i, isL_s, isL_l, isL_t, isT_n, isT_b, isT_i, isT_s, isT_l, isT_t, plc, Sh.pos, Sh.root, vLstO, ots]
    exact h1 (.num v) _ (num_ok hv) i2
  · simp [-Bool.exists_bool, vSeq, vAsg, vV, vMv, vS, vIfS, vOr, vAnd, vNot, vB, vv1, vv2, vv3, Opr.ev, Opr.fin, Opr.sl, Opr.base, Sl.read, Sl.rd, Sl.ra, Sl.get, Sl.isIn, Sl.ot, Ot.rd, Ot.get, gets_lv, leaves_lv, Sh.data, Sh.root, Rs.to, ↓lv_in, -List.map_map, fst_0, fst_s, ini, List.replicate_succ, enG, bTup, bCons, bName, bNil, inAt, vC, vEnd, vBrk, vCnt, vRaise, fLt, fAdd_int, fGt, fGe, fLe, fSub, fMod, fI, fFdv, cPow, fPow, fMin2, fMax2, fInt, fAbs, fNeg, Option.bind, vRet, vSet, vDrp, vCal, agEv, agIn, agIn1, lns_nil, lns_pd, lns_br, lns_ln, bor_nil, bor_pd, bor_ln, bor_br, out_nil, out_pd, out_br, out_ln, lat_nil, lat_pd, lat_br, lat_ln, keep_fd, ex_pair, keepO_sh, lnAtm_no, agOut_no, Sl.atm, atom_i, atom_s, atom_b, atom_n, atom_k, vCons, vNil, vTup, vLst, vIf, vTru, truD, vNotV, vNotT, flat_fd, vAndV, vOrV, fEq_int, fNe_int, fEq_str, fNe_str, fEq_is, fEq_si, vMet, mvEv, Opr.loc, locAt, Ot.at, Ot.put, Nde.set, append_lv, pop_lv, reverse_lv, insert_lv, vLc_eq, vFor_eq, wipeD, vYes, iR1, iL, iK, vAug, fAug_int, slotInt, fLen_list, ML.isNon, fIsN, fNotN, vIxN, ixLoc, kidQ, ixN, os_inj, ix0, ix1, ix2, ix3, ix4, lx0, lx1, lx2, lx3, fLen_tup, xAnd, xNot, xIs, vTry, enX, keepO, Ot.root, Ot.rd, fInt, vTry0, isB_n, isB_b, isB_i, isB_s, isB_l, isB_t, isI_n, isI_b, isI_i, isI_s, isI_l, isI_t, isS_n, isS_b, isS_i, isS_s, isS_l, isS_t, isL_n, isL_b, isL_i, isL_s, isL_l, isL_t, isT_n, isT_b, isT_i, isT_s, isT_l, isT_t, plc, Sh.pos, Sh.root, vLstO, ots, c]
    refine LP.pick i1 (by omega) fun v d2 i2 v0 v1 => ?_
    obtain ⟨n, rfl⟩ := nat_of v0
    simp [-Bool.exists_bool, vSeq, vAsg, vV, vMv, vS, vIfS, vOr, vAnd, vNot, vB, vv1, vv2, vv3, Opr.ev, Opr.fin, Opr.sl, Opr.base, Sl.read, Sl.rd, Sl.ra, Sl.get, Sl.isIn, Sl.ot, Ot.rd, Ot.get, gets_lv, leaves_lv, Sh.data, Sh.root, Rs.to, ↓lv_in, -List.map_map, fst_0, fst_s, ini, List.replicate_succ, enG, bTup, bCons, bName, bNil, inAt, vC, vEnd, vBrk, vCnt, vRaise, fLt, fAdd_int, fGt, fGe, fLe, fSub, fMod, fI, fFdv, cPow, fPow, fMin2, fMax2, fInt, fAbs, fNeg, Option.bind, vRet, vSet, vDrp, vCal, agEv, agIn, agIn1, lns_nil, lns_pd, lns_br, lns_ln, bor_nil, bor_pd, bor_ln, bor_br, out_nil, out_pd, out_br, out_ln, lat_nil, lat_pd, lat_br, lat_ln, keep_fd, ex_pair, keepO_sh, lnAtm_no, agOut_no, Sl.atm, atom_i, atom_s, atom_b, atom_n, atom_k, vCons, vNil, vTup, vLst, vIf, vTru, truD, vNotV, vNotT, flat_fd, vAndV, vOrV, fEq_int, fNe_int, fEq_str, fNe_str, fEq_is, fEq_si, vMet, mvEv, Opr.loc, locAt, Ot.at, Ot.put, Nde.set, append_lv, pop_lv, reverse_lv, insert_lv, vLc_eq, vFor_eq, wipeD, vYes, iR1, iL, iK, vAug, fAug_int, slotInt, fLen_list, ML.isNon, fIsN, fNotN, vIxN, ixLoc, kidQ, ixN, os_inj, ix0, ix1, ix2, ix3, ix4, lx0, lx1, lx2, lx3, fLen_tup, xAnd, xNot, xIs, vTry, enX, keepO, Ot.root, Ot.rd, fInt, vTry0, isB_n, isB_b, isB_i, isB_s, isB_l, isB_t, isI_n, isI_b, isI_i, isI_s, isI_l, isI_t, isS_n, isS_b, isS_i, isS_s, isS_l, isS_t, isL_n, isL_b, isL_i, isL_s, isL_l, isL_t, isT_n, isT_b, isT_i, isT_s, isT_l, isT_t, plc, Sh.pos, Sh.root, vLstO, ots]
    exact h1 (.var n) _ (var_ok (by omega)) i2
def sm_exp (n : Nat) : SemG := fun ins Qd _ => ∃ (p : Addr) (ds : List D) (room : Nat), ins = [fd p ds, .sh (.int room)] ∧ room ≤ n ∧ inz ds ∧ ∀ (e : Ex) es, e.ok room → inz es → ∀ m, Qd (.sh e.d) [fd p es, m]
theorem exp_leaf {n : Nat} {s : SemG} {p : Addr} {ds : List D} {k : Int} {u : Sl} {Qd : Sl → List Sl → Prop} {Xd : Exn → List Sl → Prop} (hc : n = 0 ∨ k < 3) (hi : inz ds) (h1 : ∀ (e : Ex) es, e.ok n → inz es → ∀ m, Qd (.sh e.d) [fd p es, m]) :
    b1__law_expression s sm_leaf LP.sm_pick (enG 2 Qd Xd) [fd p ds, .sh (.int n), .sh (.int k), u] := by
  rcases hc with rfl | hc
  · simp [-Bool.exists_bool, vSeq, vAsg, vV, vMv, vS, vIfS, vOr, vAnd, vNot, vB, vv1, vv2, vv3, Opr.ev, Opr.fin, Opr.sl, Opr.base, Sl.read, Sl.rd, Sl.ra, Sl.get, Sl.isIn, Sl.ot, Ot.rd, Ot.get, gets_lv, leaves_lv, Sh.data, Sh.root, Rs.to, ↓lv_in, -List.map_map, fst_0, fst_s, ini, List.replicate_succ, enG, bTup, bCons, bName, bNil, inAt, vC, vEnd, vBrk, vCnt, vRaise, fLt, fAdd_int, fGt, fGe, fLe, fSub, fMod, fI, fFdv, cPow, fPow, fMin2, fMax2, fInt, fAbs, fNeg, Option.bind, vRet, vSet, vDrp, vCal, agEv, agIn, agIn1, lns_nil, lns_pd, lns_br, lns_ln, bor_nil, bor_pd, bor_ln, bor_br, out_nil, out_pd, out_br, out_ln, lat_nil, lat_pd, lat_br, lat_ln, keep_fd, ex_pair, keepO_sh, lnAtm_no, agOut_no, Sl.atm, atom_i, atom_s, atom_b, atom_n, atom_k, vCons, vNil, vTup, vLst, vIf, vTru, truD, vNotV, vNotT, flat_fd, vAndV, vOrV, fEq_int, fNe_int, fEq_str, fNe_str, fEq_is, fEq_si, vMet, mvEv, Opr.loc, locAt, Ot.at, Ot.put, Nde.set, append_lv, pop_lv, reverse_lv, insert_lv, vLc_eq, vFor_eq, wipeD, vYes, iR1, iL, iK, vAug, fAug_int, slotInt, fLen_list, ML.isNon, fIsN, fNotN, vIxN, ixLoc, kidQ, ixN, os_inj, ix0, ix1, ix2, ix3, ix4, lx0, lx1, lx2, lx3, fLen_tup, xAnd, xNot, xIs, vTry, enX, keepO, Ot.root, Ot.rd, fInt, vTry0, isB_n, isB_b, isB_i, isB_s, isB_l, isB_t, isI_n, isI_b, isI_i, isI_s, isI_l, isI_t, isS_n, isS_b, isS_i, isS_s, isS_l, isS_t, isL_n, isL_b, isL_i, isL_s, isL_l, isL_t, isT_n, isT_b, isT_i, isT_s, isT_l, isT_t, plc, Sh.pos, Sh.root, vLstO, ots, b1__law_expression]
    refine ⟨p, ds, rfl, hi, fun e es he hz => ?_⟩
    simp [-Bool.exists_bool, vSeq, vAsg, vV, vMv, vS, vIfS, vOr, vAnd, vNot, vB, vv1, vv2, vv3, Opr.ev, Opr.fin, Opr.sl, Opr.base, Sl.read, Sl.rd, Sl.ra, Sl.get, Sl.isIn, Sl.ot, Ot.rd, Ot.get, gets_lv, leaves_lv, Sh.data, Sh.root, Rs.to, ↓lv_in, -List.map_map, fst_0, fst_s, ini, List.replicate_succ, enG, bTup, bCons, bName, bNil, inAt, vC, vEnd, vBrk, vCnt, vRaise, fLt, fAdd_int, fGt, fGe, fLe, fSub, fMod, fI, fFdv, cPow, fPow, fMin2, fMax2, fInt, fAbs, fNeg, Option.bind, vRet, vSet, vDrp, vCal, agEv, agIn, agIn1, lns_nil, lns_pd, lns_br, lns_ln, bor_nil, bor_pd, bor_ln, bor_br, out_nil, out_pd, out_br, out_ln, lat_nil, lat_pd, lat_br, lat_ln, keep_fd, ex_pair, keepO_sh, lnAtm_no, agOut_no, Sl.atm, atom_i, atom_s, atom_b, atom_n, atom_k, vCons, vNil, vTup, vLst, vIf, vTru, truD, vNotV, vNotT, flat_fd, vAndV, vOrV, fEq_int, fNe_int, fEq_str, fNe_str, fEq_is, fEq_si, vMet, mvEv, Opr.loc, locAt, Ot.at, Ot.put, Nde.set, append_lv, pop_lv, reverse_lv, insert_lv, vLc_eq, vFor_eq, wipeD, vYes, iR1, iL, iK, vAug, fAug_int, slotInt, fLen_list, ML.isNon, fIsN, fNotN, vIxN, ixLoc, kidQ, ixN, os_inj, ix0, ix1, ix2, ix3, ix4, lx0, lx1, lx2, lx3, fLen_tup, xAnd, xNot, xIs, vTry, enX, keepO, Ot.root, Ot.rd, fInt, vTry0, isB_n, isB_b, isB_i, isB_s, isB_l, isB_t, isI_n, isI_b, isI_i, isI_s, isI_l, isI_t, isS_n, isS_b, isS_i, isS_s, isS_l, isS_t, isL_n, isL_b, isL_i, isL_s, isL_l, isL_t, isT_n, isT_b, isT_i, isT_s, isT_l, isT_t, plc, Sh.pos, Sh.root, vLstO, ots]
    exact h1 e es he hz _
  · by_cases c : n = 0
    · subst c
      simp [-Bool.exists_bool, vSeq, vAsg, vV, vMv, vS, vIfS, vOr, vAnd, vNot, vB, vv1, vv2, vv3, Opr.ev, Opr.fin, Opr.sl, Opr.base, Sl.read, Sl.rd, Sl.ra, Sl.get, Sl.isIn, Sl.ot, Ot.rd, Ot.get, gets_lv, leaves_lv, Sh.data, Sh.root, Rs.to, ↓lv_in, -List.map_map, fst_0, fst_s, ini, List.replicate_succ, enG, bTup, bCons, bName, bNil, inAt, vC, vEnd, vBrk, vCnt, vRaise, fLt, fAdd_int, fGt, fGe, fLe, fSub, fMod, fI, fFdv, cPow, fPow, fMin2, fMax2, fInt, fAbs, fNeg, Option.bind, vRet, vSet, vDrp, vCal, agEv, agIn, agIn1, lns_nil, lns_pd, lns_br, lns_ln, bor_nil, bor_pd, bor_ln, bor_br, out_nil, out_pd, out_br, out_ln, lat_nil, lat_pd, lat_br, lat_ln, keep_fd, ex_pair, keepO_sh, lnAtm_no, agOut_no, Sl.atm, atom_i, atom_s, atom_b, atom_n, atom_k, vCons, vNil, vTup, vLst, vIf, vTru, truD, vNotV, vNotT, flat_fd, vAndV, vOrV, fEq_int, fNe_int, fEq_str, fNe_str, fEq_is, fEq_si, vMet, mvEv, Opr.loc, locAt, Ot.at, Ot.put, Nde.set, append_lv, pop_lv, reverse_lv, insert_lv, vLc_eq, vFor_eq, wipeD, vYes, iR1, iL, iK, vAug, fAug_int, slotInt, fLen_list, ML.isNon, fIsN, fNotN, vIxN, ixLoc, kidQ, ixN, os_inj, ix0, ix1, ix2, ix3, ix4, lx0, lx1, lx2, lx3, fLen_tup, xAnd, xNot, xIs, vTry, enX, keepO, Ot.root, Ot.rd, fInt, vTry0, isB_n, isB_b, isB_i, isB_s, isB_l, isB_t, isI_n, isI_b, isI_i, isI_s, isI_l, isI_t, isS_n, isS_b, isS_i, isS_s, isS_l, isS_t, isL_n, isL_b, isL_i, isL_s, isL_l, isL_t, isT_n, isT_b, isT_i, isT_s, isT_l, isT_t, plc, Sh.pos, Sh.root, vLstO, ots, b1__law_expression]
      refine ⟨p, ds, rfl, hi, fun e es he hz => ?_⟩
      simp [-Bool.exists_bool, vSeq, vAsg, vV, vMv, vS, vIfS, vOr, vAnd, vNot, vB, vv1, vv2, vv3, Opr.ev, Opr.fin, Opr.sl, Opr.base, Sl.read, Sl.rd, Sl.ra, Sl.get, Sl.isIn, Sl.ot, Ot.rd, Ot.get, gets_lv, leaves_lv, Sh.data, Sh.root, Rs.to, ↓lv_in, -List.map_map, fst_0, fst_s, ini, List.replicate_succ, enG, bTup, bCons, bName, bNil, inAt, vC, vEnd, vBrk, vCnt, vRaise, fLt, fAdd_int, fGt, fGe, fLe, fSub, fMod, fI, fFdv, cPow, fPow, fMin2, fMax2, fInt, fAbs, fNeg, Option.bind, vRet, vSet, vDrp, vCal, agEv, agIn, agIn1, lns_nil, lns_pd, lns_br, lns_ln, bor_nil, bor_pd, bor_ln, bor_br, out_nil, out_pd, out_br, out_ln, lat_nil, lat_pd, lat_br, lat_ln, keep_fd, ex_pair, keepO_sh, lnAtm_no, agOut_no, Sl.atm, atom_i, atom_s, atom_b, atom_n, atom_k, vCons, vNil, vTup, vLst, vIf, vTru, truD, vNotV, vNotT, flat_fd, vAndV, vOrV, fEq_int, fNe_int, fEq_str, fNe_str, fEq_is, fEq_si, vMet, mvEv, Opr.loc, locAt, Ot.at, Ot.put, Nde.set, append_lv, pop_lv, reverse_lv, insert_lv, vLc_eq, vFor_eq, wipeD, vYes, iR1, iL, iK, vAug, fAug_int, slotInt, fLen_list, ML.isNon, fIsN, fNotN, vIxN, ixLoc, kidQ, ixN, os_inj, ix0, ix1, ix2, ix3, ix4, lx0, lx1, lx2, lx3, fLen_tup, xAnd, xNot, xIs, vTry, enX, keepO, Ot.root, Ot.rd, fInt, vTry0, isB_n, isB_b, isB_i, isB_s, isB_l, isB_t, isI_n, isI_b, isI_i, isI_s, isI_l, isI_t, isS_n, isS_b, isS_i, isS_s, isS_l, isS_t, isL_n, isL_b, isL_i, isL_s, isL_l, isL_t, isT_n, isT_b, isT_i, isT_s, isT_l, isT_t, plc, Sh.pos, Sh.root, vLstO, ots]
      exact h1 e es he hz _
    · have c' : ¬ (n : Int) = 0 := by omega
      simp [-Bool.exists_bool, vSeq, vAsg, vV, vMv, vS, vIfS, vOr, vAnd, vNot, vB, vv1, vv2, vv3, Opr.ev, Opr.fin, Opr.sl, Opr.base, Sl.read, Sl.rd, Sl.ra, Sl.get, Sl.isIn, Sl.ot, Ot.rd, Ot.get, gets_lv, leaves_lv, Sh.data, Sh.root, Rs.to, ↓lv_in, -List.map_map, fst_0, fst_s, ini, List.replicate_succ, enG, bTup, bCons, bName, bNil, inAt, vC, vEnd, vBrk, vCnt, vRaise, fLt, fAdd_int, fGt, fGe, fLe, fSub, fMod, fI, fFdv, cPow, fPow, fMin2, fMax2, fInt, fAbs, fNeg, Option.bind, vRet, vSet, vDrp, vCal, agEv, agIn, agIn1, lns_nil, lns_pd, lns_br, lns_ln, bor_nil, bor_pd, bor_ln, bor_br, out_nil, out_pd, out_br, out_ln, lat_nil, lat_pd, lat_br, lat_ln, keep_fd, ex_pair, keepO_sh, lnAtm_no, agOut_no, Sl.atm, atom_i, atom_s, atom_b, atom_n, atom_k, vCons, vNil, vTup, vLst, vIf, vTru, truD, vNotV, vNotT, flat_fd, vAndV, vOrV, fEq_int, fNe_int, fEq_str, fNe_str, fEq_is, fEq_si, vMet, mvEv, Opr.loc, locAt, Ot.at, Ot.put, Nde.set, append_lv, pop_lv, reverse_lv, insert_lv, vLc_eq, vFor_eq, wipeD, vYes, iR1, iL, iK, vAug, fAug_int, slotInt, fLen_list, ML.isNon, fIsN, fNotN, vIxN, ixLoc, kidQ, ixN, os_inj, ix0, ix1, ix2, ix3, ix4, lx0, lx1, lx2, lx3, fLen_tup, xAnd, xNot, xIs, vTry, enX, keepO, Ot.root, Ot.rd, fInt, vTry0, isB_n, isB_b, isB_i, isB_s, isB_l, isB_t, isI_n, isI_b, isI_i, isI_s, isI_l, isI_t, isS_n, isS_b, isS_i, isS_s, isS_l, isS_t, isL_n, isL_b, isL_i, isL_s, isL_l, isL_t, isT_n, isT_b, isT_i, isT_s, isT_l, isT_t, plc, Sh.pos, Sh.root, vLstO, ots, b1__law_expression, c, hc]
      refine ⟨p, ds, rfl, hi, fun e es he hz => ?_⟩
      simp [-Bool.exists_bool, vSeq, vAsg, vV, vMv, vS, vIfS, vOr, vAnd, vNot, vB, vv1, vv2, vv3, Opr.ev, Opr.fin, Opr.sl, Opr.base, Sl.read, Sl.rd, Sl.ra, Sl.get, Sl.isIn, Sl.ot, Ot.rd, Ot.get, gets_lv, leaves_lv, Sh.data, Sh.root, Rs.to, ↓lv_in, -List.map_map, fst_0, fst_s, ini, List.replicate_succ, enG, bTup, bCons, bName, bNil, inAt, vC, vEnd, vBrk, vCnt, vRaise, fLt, fAdd_int, fGt, fGe, fLe, fSub, fMod, fI, fFdv, cPow, fPow, fMin2, fMax2, fInt, fAbs, fNeg, Option.bind, vRet, vSet, vDrp, vCal, agEv, agIn, agIn1, lns_nil, lns_pd, lns_br, lns_ln, bor_nil, bor_pd, bor_ln, bor_br, out_nil, out_pd, out_br, out_ln, lat_nil, lat_pd, lat_br, lat_ln, keep_fd, ex_pair, keepO_sh, lnAtm_no, agOut_no, Sl.atm, atom_i, atom_s, atom_b, atom_n, atom_k, vCons, vNil, vTup, vLst, vIf, vTru, truD, vNotV, vNotT, flat_fd, vAndV, vOrV, fEq_int, fNe_int, fEq_str, fNe_str, fEq_is, fEq_si, vMet, mvEv, Opr.loc, locAt, Ot.at, Ot.put, Nde.set, append_lv, pop_lv, reverse_lv, insert_lv, vLc_eq, vFor_eq, wipeD, vYes, iR1, iL, iK, vAug, fAug_int, slotInt, fLen_list, ML.isNon, fIsN, fNotN, vIxN, ixLoc, kidQ, ixN, os_inj, ix0, ix1, ix2, ix3, ix4, lx0, lx1, lx2, lx3, fLen_tup, xAnd, xNot, xIs, vTry, enX, keepO, Ot.root, Ot.rd, fInt, vTry0, isB_n, isB_b, isB_i, isB_s, isB_l, isB_t, isI_n, isI_b, isI_i, isI_s, isI_l, isI_t, isS_n, isS_b, isS_i, isS_s, isS_l, isS_t, isL_n, isL_b, isL_i, isL_s, isL_l, isL_t, isT_n, isT_b, isT_i, isT_s, isT_l, isT_t, plc, Sh.pos, Sh.root, vLstO, ots]
      exact h1 e es (ok_mono (Nat.zero_le _) he) hz _
theorem s_exp0 {ins : List Sl} {Qd : Sl → List Sl → Prop} {Xd : Exn → List Sl → Prop} (hl : ins.length = 2) (h : sm_exp 0 ins Qd Xd) : t__law_expression semNo sm_leaf LP.sm_pick (enG 2 Qd Xd) (ini 4 ins) := by
  obtain ⟨p, ds, room, rfl, hr, hi, h1⟩ := h
  simp [-Bool.exists_bool, vSeq, vAsg, vV, vMv, vS, vIfS, vOr, vAnd, vNot, vB, vv1, vv2, vv3, Opr.ev, Opr.fin, Opr.sl, Opr.base, Sl.read, Sl.rd, Sl.ra, Sl.get, Sl.isIn, Sl.ot, Ot.rd, Ot.get, gets_lv, leaves_lv, Sh.data, Sh.root, Rs.to, ↓lv_in, -List.map_map, fst_0, fst_s, ini, List.replicate_succ, enG, bTup, bCons, bName, bNil, inAt, vC, vEnd, vBrk, vCnt, vRaise, fLt, fAdd_int, fGt, fGe, fLe, fSub, fMod, fI, fFdv, cPow, fPow, fMin2, fMax2, fInt, fAbs, fNeg, Option.bind, vRet, vSet, vDrp, vCal, agEv, agIn, agIn1, lns_nil, lns_pd, lns_br, lns_ln, bor_nil, bor_pd, bor_ln, bor_br, out_nil, out_pd, out_br, out_ln, lat_nil, lat_pd, lat_br, lat_ln, keep_fd, ex_pair, keepO_sh, lnAtm_no, agOut_no, Sl.atm, atom_i, atom_s, atom_b, atom_n, atom_k, vCons, vNil, vTup, vLst, vIf, vTru, truD, vNotV, vNotT, flat_fd, vAndV, vOrV, fEq_int, fNe_int, fEq_str, fNe_str, fEq_is, fEq_si, vMet, mvEv, Opr.loc, locAt, Ot.at, Ot.put, Nde.set, append_lv, pop_lv, reverse_lv, insert_lv, vLc_eq, vFor_eq, wipeD, vYes, iR1, iL, iK, vAug, fAug_int, slotInt, fLen_list, ML.isNon, fIsN, fNotN, vIxN, ixLoc, kidQ, ixN, os_inj, ix0, ix1, ix2, ix3, ix4, lx0, lx1, lx2, lx3, fLen_tup, xAnd, xNot, xIs, vTry, enX, keepO, Ot.root, Ot.rd, fInt, vTry0, isB_n, isB_b, isB_i, isB_s, isB_l, isB_t, isI_n, isI_b, isI_i, isI_s, isI_l, isI_t, isS_n, isS_b, isS_i, isS_s, isS_l, isS_t, isL_n, isL_b, isL_i, isL_s, isL_l, isL_t, isT_n, isT_b, isT_i, isT_s, isT_l, isT_t, plc, Sh.pos, Sh.root, vLstO, ots, t__law_expression]
  refine LP.pick hi (by omega) fun k d1 i1 r0 r1 => ?_
  simp [-Bool.exists_bool, vSeq, vAsg, vV, vMv, vS, vIfS, vOr, vAnd, vNot, vB, vv1, vv2, vv3, Opr.ev, Opr.fin, Opr.sl, Opr.base, Sl.read, Sl.rd, Sl.ra, Sl.get, Sl.isIn, Sl.ot, Ot.rd, Ot.get, gets_lv, leaves_lv, Sh.data, Sh.root, Rs.to, ↓lv_in, -List.map_map, fst_0, fst_s, ini, List.replicate_succ, enG, bTup, bCons, bName, bNil, inAt, vC, vEnd, vBrk, vCnt, vRaise, fLt, fAdd_int, fGt, fGe, fLe, fSub, fMod, fI, fFdv, cPow, fPow, fMin2, fMax2, fInt, fAbs, fNeg, Option.bind, vRet, vSet, vDrp, vCal, agEv, agIn, agIn1, lns_nil, lns_pd, lns_br, lns_ln, bor_nil, bor_pd, bor_ln, bor_br, out_nil, out_pd, out_br, out_ln, lat_nil, lat_pd, lat_br, lat_ln, keep_fd, ex_pair, keepO_sh, lnAtm_no, agOut_no, Sl.atm, atom_i, atom_s, atom_b, atom_n, atom_k, vCons, vNil, vTup, vLst, vIf, vTru, truD, vNotV, vNotT, flat_fd, vAndV, vOrV, fEq_int, fNe_int, fEq_str, fNe_str, fEq_is, fEq_si, vMet, mvEv, Opr.loc, locAt, Ot.at, Ot.put, Nde.set, append_lv, pop_lv, reverse_lv, insert_lv, vLc_eq, vFor_eq, wipeD, vYes, iR1, iL, iK, vAug, fAug_int, slotInt, fLen_list, ML.isNon, fIsN, fNotN, vIxN, ixLoc, kidQ, ixN, os_inj, ix0, ix1, ix2, ix3, ix4, lx0, lx1, lx2, lx3, fLen_tup, xAnd, xNot, xIs, vTry, enX, keepO, Ot.root, Ot.rd, fInt, vTry0, isB_n, isB_b, isB_i, isB_s, isB_l, isB_t, isI_n, isI_b, isI_i, isI_s, isI_l, isI_t, isS_n, isS_b, isS_i, isS_s, isS_l, isS_t, isL_n, isL_b, isL_i, isL_s, isL_l, isL_t, isT_n, isT_b, isT_i, isT_s, isT_l, isT_t, plc, Sh.pos, Sh.root, vLstO, ots]
  exact exp_leaf (.inl (by omega)) i1 h1
theorem s_exp {n : Nat} {ins : List Sl} {Qd : Sl → List Sl → Prop} {Xd : Exn → List Sl → Prop} (hl : ins.length = 2) (h : sm_exp (n + 1) ins Qd Xd) : t__law_expression (sm_exp n) sm_leaf LP.sm_pick (enG 2 Qd Xd) (ini 4 ins) := by
  obtain ⟨p, ds, room, rfl, hr, hi, h1⟩ := h
  simp [-Bool.exists_bool, vSeq, vAsg, vV, vMv, vS, vIfS, vOr, vAnd, vNot, vB, vv1, vv2, vv3, Opr.ev, Opr.fin, Opr.sl, Opr.base, Sl.read, Sl.rd, Sl.ra, Sl.get, Sl.isIn, Sl.ot, Ot.rd, Ot.get, gets_lv, leaves_lv, Sh.data, Sh.root, Rs.to, ↓lv_in, -List.map_map, fst_0, fst_s, ini, List.replicate_succ, enG, bTup, bCons, bName, bNil, inAt, vC, vEnd, vBrk, vCnt, vRaise, fLt, fAdd_int, fGt, fGe, fLe, fSub, fMod, fI, fFdv, cPow, fPow, fMin2, fMax2, fInt, fAbs, fNeg, Option.bind, vRet, vSet, vDrp, vCal, agEv, agIn, agIn1, lns_nil, lns_pd, lns_br, lns_ln, bor_nil, bor_pd, bor_ln, bor_br, out_nil, out_pd, out_br, out_ln, lat_nil, lat_pd, lat_br, lat_ln, keep_fd, ex_pair, keepO_sh, lnAtm_no, agOut_no, Sl.atm, atom_i, atom_s, atom_b, atom_n, atom_k, vCons, vNil, vTup, vLst, vIf, vTru, truD, vNotV, vNotT, flat_fd, vAndV, vOrV, fEq_int, fNe_int, fEq_str, fNe_str, fEq_is, fEq_si, vMet, mvEv, Opr.loc, locAt, Ot.at, Ot.put, Nde.set, append_lv, pop_lv, reverse_lv, insert_lv, vLc_eq, vFor_eq, wipeD, vYes, iR1, iL, iK, vAug, fAug_int, slotInt, fLen_list, ML.isNon, fIsN, fNotN, vIxN, ixLoc, kidQ, ixN, os_inj, ix0, ix1, ix2, ix3, ix4, lx0, lx1, lx2, lx3, fLen_tup, xAnd, xNot, xIs, vTry, enX, keepO, Ot.root, Ot.rd, fInt, vTry0, isB_n, isB_b, isB_i, isB_s, isB_l, isB_t, isI_n, isI_b, isI_i, isI_s, isI_l, isI_t, isS_n, isS_b, isS_i, isS_s, isS_l, isS_t, isL_n, isL_b, isL_i, isL_s, isL_l, isL_t, isT_n, isT_b, isT_i, isT_s, isT_l, isT_t, plc, Sh.pos, Sh.root, vLstO, ots, t__law_expression]
  refine LP.pick hi (by omega) fun k d1 i1 r0 r1 => ?_
  simp [-Bool.exists_bool, vSeq, vAsg, vV, vMv, vS, vIfS, vOr, vAnd, vNot, vB, vv1, vv2, vv3, Opr.ev, Opr.fin, Opr.sl, Opr.base, Sl.read, Sl.rd, Sl.ra, Sl.get, Sl.isIn, Sl.ot, Ot.rd, Ot.get, gets_lv, leaves_lv, Sh.data, Sh.root, Rs.to, ↓lv_in, -List.map_map, fst_0, fst_s, ini, List.replicate_succ, enG, bTup, bCons, bName, bNil, inAt, vC, vEnd, vBrk, vCnt, vRaise, fLt, fAdd_int, fGt, fGe, fLe, fSub, fMod, fI, fFdv, cPow, fPow, fMin2, fMax2, fInt, fAbs, fNeg, Option.bind, vRet, vSet, vDrp, vCal, agEv, agIn, agIn1, lns_nil, lns_pd, lns_br, lns_ln, bor_nil, bor_pd, bor_ln, bor_br, out_nil, out_pd, out_br, out_ln, lat_nil, lat_pd, lat_br, lat_ln, keep_fd, ex_pair, keepO_sh, lnAtm_no, agOut_no, Sl.atm, atom_i, atom_s, atom_b, atom_n, atom_k, vCons, vNil, vTup, vLst, vIf, vTru, truD, vNotV, vNotT, flat_fd, vAndV, vOrV, fEq_int, fNe_int, fEq_str, fNe_str, fEq_is, fEq_si, vMet, mvEv, Opr.loc, locAt, Ot.at, Ot.put, Nde.set, append_lv, pop_lv, reverse_lv, insert_lv, vLc_eq, vFor_eq, wipeD, vYes, iR1, iL, iK, vAug, fAug_int, slotInt, fLen_list, ML.isNon, fIsN, fNotN, vIxN, ixLoc, kidQ, ixN, os_inj, ix0, ix1, ix2, ix3, ix4, lx0, lx1, lx2, lx3, fLen_tup, xAnd, xNot, xIs, vTry, enX, keepO, Ot.root, Ot.rd, fInt, vTry0, isB_n, isB_b, isB_i, isB_s, isB_l, isB_t, isI_n, isI_b, isI_i, isI_s, isI_l, isI_t, isS_n, isS_b, isS_i, isS_s, isS_l, isS_t, isL_n, isL_b, isL_i, isL_s, isL_l, isL_t, isT_n, isT_b, isT_i, isT_s, isT_l, isT_t, plc, Sh.pos, Sh.root, vLstO, ots]
  by_cases c : room = 0 ∨ k < 3
  · exact exp_leaf c i1 h1
  · obtain ⟨j, rfl⟩ : ∃ j, room = j + 1 := ⟨room - 1, by omega⟩
    have c2 : ¬ k < 3 := by omega
    obtain ⟨m, hm⟩ : ∃ m : Nm, fIx (.list [.str "add", .str "sub", .str "mul", .str "less", .str "same"]) (.int (k - 3)) = some (.sh (.str m.t)) := by
      have : k = 3 ∨ k = 4 ∨ k = 5 ∨ k = 6 ∨ k = 7 := by omega
      rcases this with rfl | rfl | rfl | rfl | rfl
      · exact ⟨.add, rfl⟩
      · exact ⟨.sub, rfl⟩
      · exact ⟨.mul, rfl⟩
      · exact ⟨.less, rfl⟩
      · exact ⟨.same, rfl⟩
    have e1 : ((j : Int) + 1 - 1) = (j : Int) := by omega
    simp [-Bool.exists_bool, vSeq, vAsg, vV, vMv, vS, vIfS, vOr, vAnd, vNot, vB, vv1, vv2, vv3, Opr.ev, Opr.fin, Opr.sl, Opr.base, Sl.read, Sl.rd, Sl.ra, Sl.get, Sl.isIn, Sl.ot, Ot.rd, Ot.get, gets_lv, leaves_lv, Sh.data, Sh.root, Rs.to, ↓lv_in, -List.map_map, fst_0, fst_s, ini, List.replicate_succ, enG, bTup, bCons, bName, bNil, inAt, vC, vEnd, vBrk, vCnt, vRaise, fLt, fAdd_int, fGt, fGe, fLe, fSub, fMod, fI, fFdv, cPow, fPow, fMin2, fMax2, fInt, fAbs, fNeg, Option.bind, vRet, vSet, vDrp, vCal, agEv, agIn, agIn1, lns_nil, lns_pd, lns_br, lns_ln, bor_nil, bor_pd, bor_ln, bor_br, out_nil, out_pd, out_br, out_ln, lat_nil, lat_pd, lat_br, lat_ln, keep_fd, ex_pair, keepO_sh, lnAtm_no, agOut_no, Sl.atm, atom_i, atom_s, atom_b, atom_n, atom_k, vCons, vNil, vTup, vLst, vIf, vTru, truD, vNotV, vNotT, flat_fd, vAndV, vOrV, fEq_int, fNe_int, fEq_str, fNe_str, fEq_is, fEq_si, vMet, mvEv, Opr.loc, locAt, Ot.at, Ot.put, Nde.set, append_lv, pop_lv, reverse_lv, insert_lv, vLc_eq, vFor_eq, wipeD, vYes, iR1, iL, iK, vAug, fAug_int, slotInt, fLen_list, ML.isNon, fIsN, fNotN, vIxN, ixLoc, kidQ, ixN, os_inj, ix0, ix1, ix2, ix3, ix4, lx0, lx1, lx2, lx3, fLen_tup, xAnd, xNot, xIs, vTry, enX, keepO, Ot.root, Ot.rd, fInt, vTry0, isB_n, isB_b, isB_i, isB_s, isB_l, isB_t, isI_n, isI_b, isI_i, isI_s, isI_l, isI_t, isS_n, isS_b, isS_i, isS_s, isS_l, isS_t, isL_n, isL_b, isL_i, isL_s, isL_l, isL_t, isT_n, isT_b, isT_i, isT_s, isT_l, isT_t, plc, Sh.pos, Sh.root, vLstO, ots, b1__law_expression, c2]
    have c3 : ¬ ((j : Int) + 1 = 0) := by omega
    simp [-Bool.exists_bool, vSeq, vAsg, vV, vMv, vS, vIfS, vOr, vAnd, vNot, vB, vv1, vv2, vv3, Opr.ev, Opr.fin, Opr.sl, Opr.base, Sl.read, Sl.rd, Sl.ra, Sl.get, Sl.isIn, Sl.ot, Ot.rd, Ot.get, gets_lv, leaves_lv, Sh.data, Sh.root, Rs.to, ↓lv_in, -List.map_map, fst_0, fst_s, ini, List.replicate_succ, enG, bTup, bCons, bName, bNil, inAt, vC, vEnd, vBrk, vCnt, vRaise, fLt, fAdd_int, fGt, fGe, fLe, fSub, fMod, fI, fFdv, cPow, fPow, fMin2, fMax2, fInt, fAbs, fNeg, Option.bind, vRet, vSet, vDrp, vCal, agEv, agIn, agIn1, lns_nil, lns_pd, lns_br, lns_ln, bor_nil, bor_pd, bor_ln, bor_br, out_nil, out_pd, out_br, out_ln, lat_nil, lat_pd, lat_br, lat_ln, keep_fd, ex_pair, keepO_sh, lnAtm_no, agOut_no, Sl.atm, atom_i, atom_s, atom_b, atom_n, atom_k, vCons, vNil, vTup, vLst, vIf, vTru, truD, vNotV, vNotT, flat_fd, vAndV, vOrV, fEq_int, fNe_int, fEq_str, fNe_str, fEq_is, fEq_si, vMet, mvEv, Opr.loc, locAt, Ot.at, Ot.put, Nde.set, append_lv, pop_lv, reverse_lv, insert_lv, vLc_eq, vFor_eq, wipeD, vYes, iR1, iL, iK, vAug, fAug_int, slotInt, fLen_list, ML.isNon, fIsN, fNotN, vIxN, ixLoc, kidQ, ixN, os_inj, ix0, ix1, ix2, ix3, ix4, lx0, lx1, lx2, lx3, fLen_tup, xAnd, xNot, xIs, vTry, enX, keepO, Ot.root, Ot.rd, fInt, vTry0, isB_n, isB_b, isB_i, isB_s, isB_l, isB_t, isI_n, isI_b, isI_i, isI_s, isI_l, isI_t, isS_n, isS_b, isS_i, isS_s, isS_l, isS_t, isL_n, isL_b, isL_i, isL_s, isL_l, isL_t, isT_n, isT_b, isT_i, isT_s, isT_l, isT_t, plc, Sh.pos, Sh.root, vLstO, ots, c3, b2__law_expression, hm]
    simp [-Bool.exists_bool, vSeq, vAsg, vV, vMv, vS, vIfS, vOr, vAnd, vNot, vB, vv1, vv2, vv3, Opr.ev, Opr.fin, Opr.sl, Opr.base, Sl.read, Sl.rd, Sl.ra, Sl.get, Sl.isIn, Sl.ot, Ot.rd, Ot.get, gets_lv, leaves_lv, Sh.data, Sh.root, Rs.to, ↓lv_in, -List.map_map, fst_0, fst_s, ini, List.replicate_succ, enG, bTup, bCons, bName, bNil, inAt, vC, vEnd, vBrk, vCnt, vRaise, fLt, fAdd_int, fGt, fGe, fLe, fSub, fMod, fI, fFdv, cPow, fPow, fMin2, fMax2, fInt, fAbs, fNeg, Option.bind, vRet, vSet, vDrp, vCal, agEv, agIn, agIn1, lns_nil, lns_pd, lns_br, lns_ln, bor_nil, bor_pd, bor_ln, bor_br, out_nil, out_pd, out_br, out_ln, lat_nil, lat_pd, lat_br, lat_ln, keep_fd, ex_pair, keepO_sh, lnAtm_no, agOut_no, Sl.atm, atom_i, atom_s, atom_b, atom_n, atom_k, vCons, vNil, vTup, vLst, vIf, vTru, truD, vNotV, vNotT, flat_fd, vAndV, vOrV, fEq_int, fNe_int, fEq_str, fNe_str, fEq_is, fEq_si, vMet, mvEv, Opr.loc, locAt, Ot.at, Ot.put, Nde.set, append_lv, pop_lv, reverse_lv, insert_lv, vLc_eq, vFor_eq, wipeD, vYes, iR1, iL, iK, vAug, fAug_int, slotInt, fLen_list, ML.isNon, fIsN, fNotN, vIxN, ixLoc, kidQ, ixN, os_inj, ix0, ix1, ix2, ix3, ix4, lx0, lx1, lx2, lx3, fLen_tup, xAnd, xNot, xIs, vTry, enX, keepO, Ot.root, Ot.rd, fInt, vTry0, isB_n, isB_b, isB_i, isB_s, isB_l, isB_t, isI_n, isI_b, isI_i, isI_s, isI_l, isI_t, isS_n, isS_b, isS_i, isS_s, isS_l, isS_t, isL_n, isL_b, isL_i, isL_s, isL_l, isL_t, isT_n, isT_b, isT_i, isT_s, isT_l, isT_t, plc, Sh.pos, Sh.root, vLstO, ots, b3__law_expression, e1]
    refine ⟨p, d1, j, rfl, by omega, i1, fun a d2 ha i2 mm => ?_⟩
    simp [-Bool.exists_bool, vSeq, vAsg, vV, vMv, vS, vIfS, vOr, vAnd, vNot, vB, vv1, vv2, vv3, Opr.ev, Opr.fin, Opr.sl, Opr.base, Sl.read, Sl.rd, Sl.ra, Sl.get, Sl.isIn, Sl.ot, Ot.rd, Ot.get, gets_lv, leaves_lv, Sh.data, Sh.root, Rs.to, ↓lv_in, -List.map_map, fst_0, fst_s, ini, List.replicate_succ, enG, bTup, bCons, bName, bNil, inAt, vC, vEnd, vBrk, vCnt, vRaise, fLt, fAdd_int, fGt, fGe, fLe, fSub, fMod, fI, fFdv, cPow, fPow, fMin2, fMax2, fInt, fAbs, fNeg, Option.bind, vRet, vSet, vDrp, vCal, agEv, agIn, agIn1, lns_nil, lns_pd, lns_br, lns_ln, bor_nil, bor_pd, bor_ln, bor_br, out_nil, out_pd, out_br, out_ln, lat_nil, lat_pd, lat_br, lat_ln, keep_fd, ex_pair, keepO_sh, lnAtm_no, agOut_no, Sl.atm, atom_i, atom_s, atom_b, atom_n, atom_k, vCons, vNil, vTup, vLst, vIf, vTru, truD, vNotV, vNotT, flat_fd, vAndV, vOrV, fEq_int, fNe_int, fEq_str, fNe_str, fEq_is, fEq_si, vMet, mvEv, Opr.loc, locAt, Ot.at, Ot.put, Nde.set, append_lv, pop_lv, reverse_lv, insert_lv, vLc_eq, vFor_eq, wipeD, vYes, iR1, iL, iK, vAug, fAug_int, slotInt, fLen_list, ML.isNon, fIsN, fNotN, vIxN, ixLoc, kidQ, ixN, os_inj, ix0, ix1, ix2, ix3, ix4, lx0, lx1, lx2, lx3, fLen_tup, xAnd, xNot, xIs, vTry, enX, keepO, Ot.root, Ot.rd, fInt, vTry0, isB_n, isB_b, isB_i, isB_s, isB_l, isB_t, isI_n, isI_b, isI_i, isI_s, isI_l, isI_t, isS_n, isS_b, isS_i, isS_s, isS_l, isS_t, isL_n, isL_b, isL_i, isL_s, isL_l, isL_t, isT_n, isT_b, isT_i, isT_s, isT_l, isT_t, plc, Sh.pos, Sh.root, vLstO, ots, e1]
    refine ⟨p, d2, j, rfl, by omega, i2, fun b d3 hb i3 mm => ?_⟩
    simp [-Bool.exists_bool, vSeq, vAsg, vV, vMv, vS, vIfS, vOr, vAnd, vNot, vB, vv1, vv2, vv3, Opr.ev, Opr.fin, Opr.sl, Opr.base, Sl.read, Sl.rd, Sl.ra, Sl.get, Sl.isIn, Sl.ot, Ot.rd, Ot.get, gets_lv, leaves_lv, Sh.data, Sh.root, Rs.to, ↓lv_in, -List.map_map, fst_0, fst_s, ini, List.replicate_succ, enG, bTup, bCons, bName, bNil, inAt, vC, vEnd, vBrk, vCnt, vRaise, fLt, fAdd_int, fGt, fGe, fLe, fSub, fMod, fI, fFdv, cPow, fPow, fMin2, fMax2, fInt, fAbs, fNeg, Option.bind, vRet, vSet, vDrp, vCal, agEv, agIn, agIn1, lns_nil, lns_pd, lns_br, lns_ln, bor_nil, bor_pd, bor_ln, bor_br, out_nil, out_pd, out_br, out_ln, lat_nil, lat_pd, lat_br, lat_ln, keep_fd, ex_pair, keepO_sh, lnAtm_no, agOut_no, Sl.atm, atom_i, atom_s, atom_b, atom_n, atom_k, vCons, vNil, vTup, vLst, vIf, vTru, truD, vNotV, vNotT, flat_fd, vAndV, vOrV, fEq_int, fNe_int, fEq_str, fNe_str, fEq_is, fEq_si, vMet, mvEv, Opr.loc, locAt, Ot.at, Ot.put, Nde.set, append_lv, pop_lv, reverse_lv, insert_lv, vLc_eq, vFor_eq, wipeD, vYes, iR1, iL, iK, vAug, fAug_int, slotInt, fLen_list, ML.isNon, fIsN, fNotN, vIxN, ixLoc, kidQ, ixN, os_inj, ix0, ix1, ix2, ix3, ix4, lx0, lx1, lx2, lx3, fLen_tup, xAnd, xNot, xIs, vTry, enX, keepO, Ot.root, Ot.rd, fInt, vTry0, isB_n, isB_b, isB_i, isB_s, isB_l, isB_t, isI_n, isI_b, isI_i, isI_s, isI_l, isI_t, isS_n, isS_b, isS_i, isS_s, isS_l, isS_t, isL_n, isL_b, isL_i, isL_s, isL_l, isL_t, isT_n, isT_b, isT_i, isT_s, isT_l, isT_t, plc, Sh.pos, Sh.root, vLstO, ots]
    exact h1 (.op m a b) _ ⟨ha, hb⟩ i3 _
def nt : St → Prop
  | .seq a b => nt a ∧ nt b
  | .when _ a b => nt a ∧ nt b
  | .loop _ a => nt a
  | .test _ _ => False
  | _ => True
def sm_st (n : Nat) : SemG := fun ins Qd _ => ∃ (p : Addr) (ds : List D) (room : Nat), ins = [fd p ds, .sh (.int room)] ∧ room ≤ n ∧ inz ds ∧ ∀ (s : St) es, s.ok ∧ nt s → s.dp ≤ 3 * room + 1 → inz es → ∀ m, Qd (.sh s.d) [fd p es, m]
theorem expc {p : Addr} {ds : List D} {room : Nat} {Qd : Sl → List Sl → Prop} {Xd : Exn → List Sl → Prop} (hi : inz ds) (hr : room ≤ 3) (k : ∀ (e : Ex) es, e.ok 3 → inz es → ∀ m, Qd (.sh e.d) [fd p es, m]) : sm_exp 4 [fd p ds, .sh (.int room)] Qd Xd :=
  ⟨p, ds, room, rfl, by omega, hi, fun e es he hz m => k e es (ok_mono hr he) hz m⟩
theorem st_leaf {n : Nat} {s : SemG} {p : Addr} {ds : List D} {k : Int} {a b c d : Sl} {Qd : Sl → List Sl → Prop} {Xd : Exn → List Sl → Prop} (hi : inz ds) (h1 : ∀ (s : St) es, s.ok ∧ nt s → s.dp ≤ 3 * n + 1 → inz es → ∀ m, Qd (.sh s.d) [fd p es, m]) :
    q3__law_statement (sm_exp 4) LP.sm_pick s (enG 2 Qd Xd) [fd p ds, .sh (.int n), .sh (.int k), a, b, c, d] := by
  by_cases c0 : k = 0
  · simp [-Bool.exists_bool, vSeq, vAsg, vV, vMv, vS, vIfS, vOr, vAnd, vNot, vB, vv1, vv2, vv3, Opr.ev, Opr.fin, Opr.sl, Opr.base, Sl.read, Sl.rd, Sl.ra, Sl.get, Sl.isIn, Sl.ot, Ot.rd, Ot.get, gets_lv, leaves_lv, Sh.data, Sh.root, Rs.to, ↓lv_in, -List.map_map, fst_0, fst_s, ini, List.replicate_succ, enG, bTup, bCons, bName, bNil, inAt, vC, vEnd, vBrk, vCnt, vRaise, fLt, fAdd_int, fGt, fGe, fLe, fSub, fMod, fI, fFdv, cPow, fPow, fMin2, fMax2, fInt, fAbs, fNeg, Option.bind, vRet, vSet, vDrp, vCal, agEv, agIn, agIn1, lns_nil, lns_pd, lns_br, lns_ln, bor_nil, bor_pd, bor_ln, bor_br, out_nil, out_pd, out_br, out_ln, lat_nil, lat_pd, lat_br, lat_ln, keep_fd, ex_pair, keepO_sh, lnAtm_no, agOut_no, Sl.atm, atom_i, atom_s, atom_b, atom_n, atom_k, vCons, vNil, vTup, vLst, vIf, vTru, truD, vNotV, vNotT, flat_fd, vAndV, vOrV, fEq_int, fNe_int, fEq_str, fNe_str, fEq_is, fEq_si, vMet, mvEv, Opr.loc, locAt, Ot.at, Ot.put, Nde.set, append_lv, pop_lv, reverse_lv, insert_lv, vLc_eq, vFor_eq, wipeD, vYes, iR1, iL, iK, vAug, fAug_int, slotInt, fLen_list, ML.isNon, fIsN, fNotN, vIxN, ixLoc, kidQ, ixN, os_inj, ix0, ix1, ix2, ix3, ix4, lx0, lx1, lx2, lx3, fLen_tup, xAnd, xNot, xIs, vTry, enX, keepO, Ot.root, Ot.rd, fInt, vTry0, isB_n, isB_b, isB_i, isB_s, isB_l, isB_t, isI_n, isI_b, isI_i, isI_s, isI_l, isI_t, isS_n, isS_b, isS_i, isS_s, isS_l, isS_t, isL_n, isL_b, isL_i, isL_s, isL_l, isL_t, isT_n, isT_b, isT_i, isT_s, isT_l, isT_t, plc, Sh.pos, Sh.root, vLstO, ots, q3__law_statement, c0]
    exact h1 .skip _ ⟨trivial, trivial⟩ (by show 1 ≤ _; omega) hi _
  by_cases c1 : k = 1
  · simp [-Bool.exists_bool, vSeq, vAsg, vV, vMv, vS, vIfS, vOr, vAnd, vNot, vB, vv1, vv2, vv3, Opr.ev, Opr.fin, Opr.sl, Opr.base, Sl.read, Sl.rd, Sl.ra, Sl.get, Sl.isIn, Sl.ot, Ot.rd, Ot.get, gets_lv, leaves_lv, Sh.data, Sh.root, Rs.to, ↓lv_in, -List.map_map, fst_0, fst_s, ini, List.replicate_succ, enG, bTup, bCons, bName, bNil, inAt, vC, vEnd, vBrk, vCnt, vRaise, fLt, fAdd_int, fGt, fGe, fLe, fSub, fMod, fI, fFdv, cPow, fPow, fMin2, fMax2, fInt, fAbs, fNeg, Option.bind, vRet, vSet, vDrp, vCal, agEv, agIn, agIn1, lns_nil, lns_pd, lns_br, lns_ln, bor_nil, bor_pd, bor_ln, bor_br, out_nil, out_pd, out_br, out_ln, lat_nil, lat_pd, lat_br, lat_ln, keep_fd, ex_pair, keepO_sh, lnAtm_no, agOut_no, Sl.atm, atom_i, atom_s, atom_b, atom_n, atom_k, vCons, vNil, vTup, vLst, vIf, vTru, truD, vNotV, vNotT, flat_fd, vAndV, vOrV, fEq_int, fNe_int, fEq_str, fNe_str, fEq_is, fEq_si, vMet, mvEv, Opr.loc, locAt, Ot.at, Ot.put, Nde.set, append_lv, pop_lv, reverse_lv, insert_lv, vLc_eq, vFor_eq, wipeD, vYes, iR1, iL, iK, vAug, fAug_int, slotInt, fLen_list, ML.isNon, fIsN, fNotN, vIxN, ixLoc, kidQ, ixN, os_inj, ix0, ix1, ix2, ix3, ix4, lx0, lx1, lx2, lx3, fLen_tup, xAnd, xNot, xIs, vTry, enX, keepO, Ot.root, Ot.rd, fInt, vTry0, isB_n, isB_b, isB_i, isB_s, isB_l, isB_t, isI_n, isI_b, isI_i, isI_s, isI_l, isI_t, isS_n, isS_b, isS_i, isS_s, isS_l, isS_t, isL_n, isL_b, isL_i, isL_s, isL_l, isL_t, isT_n, isT_b, isT_i, isT_s, isT_l, isT_t, plc, Sh.pos, Sh.root, vLstO, ots, q3__law_statement, b104__law_statement, q1__law_statement, c1]
    refine LP.pick hi (by omega) fun v d1 i1 v0 v1 => ?_
    obtain ⟨m, rfl⟩ := nat_of v0
    simp [-Bool.exists_bool, vSeq, vAsg, vV, vMv, vS, vIfS, vOr, vAnd, vNot, vB, vv1, vv2, vv3, Opr.ev, Opr.fin, Opr.sl, Opr.base, Sl.read, Sl.rd, Sl.ra, Sl.get, Sl.isIn, Sl.ot, Ot.rd, Ot.get, gets_lv, leaves_lv, Sh.data, Sh.root, Rs.to, ↓lv_in, -List.map_map, fst_0, fst_s, ini, List.replicate_succ, enG, bTup, bCons, bName, bNil, inAt, vC, vEnd, vBrk, vCnt, vRaise, fLt, fAdd_int, fGt, fGe, fLe, fSub, fMod, fI, fFdv, cPow, fPow, fMin2, fMax2, fInt, fAbs, fNeg, Option.bind, vRet, vSet, vDrp, vCal, agEv, agIn, agIn1, lns_nil, lns_pd, lns_br, lns_ln, bor_nil, bor_pd, bor_ln, bor_br, out_nil, out_pd, out_br, out_ln, lat_nil, lat_pd, lat_br, lat_ln, keep_fd, ex_pair, keepO_sh, lnAtm_no, agOut_no, Sl.atm, atom_i, atom_s, atom_b, atom_n, atom_k, vCons, vNil, vTup, vLst, vIf, vTru, truD, vNotV, vNotT, flat_fd, vAndV, vOrV, fEq_int, fNe_int, fEq_str, fNe_str, fEq_is, fEq_si, vMet, mvEv, Opr.loc, locAt, Ot.at, Ot.put, Nde.set, append_lv, pop_lv, reverse_lv, insert_lv, vLc_eq, vFor_eq, wipeD, vYes, iR1, iL, iK, vAug, fAug_int, slotInt, fLen_list, ML.isNon, fIsN, fNotN, vIxN, ixLoc, kidQ, ixN, os_inj, ix0, ix1, ix2, ix3, ix4, lx0, lx1, lx2, lx3, fLen_tup, xAnd, xNot, xIs, vTry, enX, keepO, Ot.root, Ot.rd, fInt, vTry0, isB_n, isB_b, isB_i, isB_s, isB_l, isB_t, isI_n, isI_b, isI_i, isI_s, isI_l, isI_t, isS_n, isS_b, isS_i, isS_s, isS_l, isS_t, isL_n, isL_b, isL_i, isL_s, isL_l, isL_t, isT_n, isT_b, isT_i, isT_s, isT_l, isT_t, plc, Sh.pos, Sh.root, vLstO, ots]
    refine expc (room := 2) i1 (by omega) fun e d2 he i2 mm => ?_
    simp [-Bool.exists_bool, vSeq, vAsg, vV, vMv, vS, vIfS, vOr, vAnd, vNot, vB, vv1, vv2, vv3, Opr.ev, Opr.fin, Opr.sl, Opr.base, Sl.read, Sl.rd, Sl.ra, Sl.get, Sl.isIn, Sl.ot, Ot.rd, Ot.get, gets_lv, leaves_lv, Sh.data, Sh.root, Rs.to, ↓lv_in, -List.map_map, fst_0, fst_s, ini, List.replicate_succ, enG, bTup, bCons, bName, bNil, inAt, vC, vEnd, vBrk, vCnt, vRaise, fLt, fAdd_int, fGt, fGe, fLe, fSub, fMod, fI, fFdv, cPow, fPow, fMin2, fMax2, fInt, fAbs, fNeg, Option.bind, vRet, vSet, vDrp, vCal, agEv, agIn, agIn1, lns_nil, lns_pd, lns_br, lns_ln, bor_nil, bor_pd, bor_ln, bor_br, out_nil, out_pd, out_br, out_ln, lat_nil, lat_pd, lat_br, lat_ln, keep_fd, ex_pair, keepO_sh, lnAtm_no, agOut_no, Sl.atm, atom_i, atom_s, atom_b, atom_n, atom_k, vCons, vNil, vTup, vLst, vIf, vTru, truD, vNotV, vNotT, flat_fd, vAndV, vOrV, fEq_int, fNe_int, fEq_str, fNe_str, fEq_is, fEq_si, vMet, mvEv, Opr.loc, locAt, Ot.at, Ot.put, Nde.set, append_lv, pop_lv, reverse_lv, insert_lv, vLc_eq, vFor_eq, wipeD, vYes, iR1, iL, iK, vAug, fAug_int, slotInt, fLen_list, ML.isNon, fIsN, fNotN, vIxN, ixLoc, kidQ, ixN, os_inj, ix0, ix1, ix2, ix3, ix4, lx0, lx1, lx2, lx3, fLen_tup, xAnd, xNot, xIs, vTry, enX, keepO, Ot.root, Ot.rd, fInt, vTry0, isB_n, isB_b, isB_i, isB_s, isB_l, isB_t, isI_n, isI_b, isI_i, isI_s, isI_l, isI_t, isS_n, isS_b, isS_i, isS_s, isS_l, isS_t, isL_n, isL_b, isL_i, isL_s, isL_l, isL_t, isT_n, isT_b, isT_i, isT_s, isT_l, isT_t, plc, Sh.pos, Sh.root, vLstO, ots]
    exact h1 (.set m e) _ ⟨⟨by omega, he⟩, trivial⟩ (by show 1 ≤ _; omega) i2 _
  by_cases c2 : k = 2
  · simp [-Bool.exists_bool, vSeq, vAsg, vV, vMv, vS, vIfS, vOr, vAnd, vNot, vB, vv1, vv2, vv3, Opr.ev, Opr.fin, Opr.sl, Opr.base, Sl.read, Sl.rd, Sl.ra, Sl.get, Sl.isIn, Sl.ot, Ot.rd, Ot.get, gets_lv, leaves_lv, Sh.data, Sh.root, Rs.to, ↓lv_in, -List.map_map, fst_0, fst_s, ini, List.replicate_succ, enG, bTup, bCons, bName, bNil, inAt, vC, vEnd, vBrk, vCnt, vRaise, fLt, fAdd_int, fGt, fGe, fLe, fSub, fMod, fI, fFdv, cPow, fPow, fMin2, fMax2, fInt, fAbs, fNeg, Option.bind, vRet, vSet, vDrp, vCal, agEv, agIn, agIn1, lns_nil, lns_pd, lns_br, lns_ln, bor_nil, bor_pd, bor_ln, bor_br, out_nil, out_pd, out_br, out_ln, lat_nil, lat_pd, lat_br, lat_ln, keep_fd, ex_pair, keepO_sh, lnAtm_no, agOut_no, Sl.atm, atom_i, atom_s, atom_b, atom_n, atom_k, vCons, vNil, vTup, vLst, vIf, vTru, truD, vNotV, vNotT, flat_fd, vAndV, vOrV, fEq_int, fNe_int, fEq_str, fNe_str, fEq_is, fEq_si, vMet, mvEv, Opr.loc, locAt, Ot.at, Ot.put, Nde.set, append_lv, pop_lv, reverse_lv, insert_lv, vLc_eq, vFor_eq, wipeD, vYes, iR1, iL, iK, vAug, fAug_int, slotInt, fLen_list, ML.isNon, fIsN, fNotN, vIxN, ixLoc, kidQ, ixN, os_inj, ix0, ix1, ix2, ix3, ix4, lx0, lx1, lx2, lx3, fLen_tup, xAnd, xNot, xIs, vTry, enX, keepO, Ot.root, Ot.rd, fInt, vTry0, isB_n, isB_b, isB_i, isB_s, isB_l, isB_t, isI_n, isI_b, isI_i, isI_s, isI_l, isI_t, isS_n, isS_b, isS_i, isS_s, isS_l, isS_t, isL_n, isL_b, isL_i, isL_s, isL_l, isL_t, isT_n, isT_b, isT_i, isT_s, isT_l, isT_t, plc, Sh.pos, Sh.root, vLstO, ots, q3__law_statement, b104__law_statement, b105__law_statement, q2__law_statement, c2]
    refine LP.pick hi (by omega) fun v d1 i1 v0 v1 => ?_
    obtain ⟨m, rfl⟩ := nat_of v0
    simp [-Bool.exists_bool, vSeq, vAsg, vV, vMv, vS, vIfS, vOr, vAnd, vNot, vB, vv1, vv2, vv3, Opr.ev, Opr.fin, Opr.sl, Opr.base, Sl.read, Sl.rd, Sl.ra, Sl.get, Sl.isIn, Sl.ot, Ot.rd, Ot.get, gets_lv, leaves_lv, Sh.data, Sh.root, Rs.to, ↓lv_in, -List.map_map, fst_0, fst_s, ini, List.replicate_succ, enG, bTup, bCons, bName, bNil, inAt, vC, vEnd, vBrk, vCnt, vRaise, fLt, fAdd_int, fGt, fGe, fLe, fSub, fMod, fI, fFdv, cPow, fPow, fMin2, fMax2, fInt, fAbs, fNeg, Option.bind, vRet, vSet, vDrp, vCal, agEv, agIn, agIn1, lns_nil, lns_pd, lns_br, lns_ln, bor_nil, bor_pd, bor_ln, bor_br, out_nil, out_pd, out_br, out_ln, lat_nil, lat_pd, lat_br, lat_ln, keep_fd, ex_pair, keepO_sh, lnAtm_no, agOut_no, Sl.atm, atom_i, atom_s, atom_b, atom_n, atom_k, vCons, vNil, vTup, vLst, vIf, vTru, truD, vNotV, vNotT, flat_fd, vAndV, vOrV, fEq_int, fNe_int, fEq_str, fNe_str, fEq_is, fEq_si, vMet, mvEv, Opr.loc, locAt, Ot.at, Ot.put, Nde.set, append_lv, pop_lv, reverse_lv, insert_lv, vLc_eq, vFor_eq, wipeD, vYes, iR1, iL, iK, vAug, fAug_int, slotInt, fLen_list, ML.isNon, fIsN, fNotN, vIxN, ixLoc, kidQ, ixN, os_inj, ix0, ix1, ix2, ix3, ix4, lx0, lx1, lx2, lx3, fLen_tup, xAnd, xNot, xIs, vTry, enX, keepO, Ot.root, Ot.rd, fInt, vTry0, isB_n, isB_b, isB_i, isB_s, isB_l, isB_t, isI_n, isI_b, isI_i, isI_s, isI_l, isI_t, isS_n, isS_b, isS_i, isS_s, isS_l, isS_t, isL_n, isL_b, isL_i, isL_s, isL_l, isL_t, isT_n, isT_b, isT_i, isT_s, isT_l, isT_t, plc, Sh.pos, Sh.root, vLstO, ots]
    refine expc (room := 1) i1 (by omega) fun e d2 he i2 mm => ?_
    simp [-Bool.exists_bool, vSeq, vAsg, vV, vMv, vS, vIfS, vOr, vAnd, vNot, vB, vv1, vv2, vv3, Opr.ev, Opr.fin, Opr.sl, Opr.base, Sl.read, Sl.rd, Sl.ra, Sl.get, Sl.isIn, Sl.ot, Ot.rd, Ot.get, gets_lv, leaves_lv, Sh.data, Sh.root, Rs.to, ↓lv_in, -List.map_map, fst_0, fst_s, ini, List.replicate_succ, enG, bTup, bCons, bName, bNil, inAt, vC, vEnd, vBrk, vCnt, vRaise, fLt, fAdd_int, fGt, fGe, fLe, fSub, fMod, fI, fFdv, cPow, fPow, fMin2, fMax2, fInt, fAbs, fNeg, Option.bind, vRet, vSet, vDrp, vCal, agEv, agIn, agIn1, lns_nil, lns_pd, lns_br, lns_ln, bor_nil, bor_pd, bor_ln, bor_br, out_nil, out_pd, out_br, out_ln, lat_nil, lat_pd, lat_br, lat_ln, keep_fd, ex_pair, keepO_sh, lnAtm_no, agOut_no, Sl.atm, atom_i, atom_s, atom_b, atom_n, atom_k, vCons, vNil, vTup, vLst, vIf, vTru, truD, vNotV, vNotT, flat_fd, vAndV, vOrV, fEq_int, fNe_int, fEq_str, fNe_str, fEq_is, fEq_si, vMet, mvEv, Opr.loc, locAt, Ot.at, Ot.put, Nde.set, append_lv, pop_lv, reverse_lv, insert_lv, vLc_eq, vFor_eq, wipeD, vYes, iR1, iL, iK, vAug, fAug_int, slotInt, fLen_list, ML.isNon, fIsN, fNotN, vIxN, ixLoc, kidQ, ixN, os_inj, ix0, ix1, ix2, ix3, ix4, lx0, lx1, lx2, lx3, fLen_tup, xAnd, xNot, xIs, vTry, enX, keepO, Ot.root, Ot.rd, fInt, vTry0, isB_n, isB_b, isB_i, isB_s, isB_l, isB_t, isI_n, isI_b, isI_i, isI_s, isI_l, isI_t, isS_n, isS_b, isS_i, isS_s, isS_l, isS_t, isL_n, isL_b, isL_i, isL_s, isL_l, isL_t, isT_n, isT_b, isT_i, isT_s, isT_l, isT_t, plc, Sh.pos, Sh.root, vLstO, ots]
    exact h1 (.set m e) _ ⟨⟨by omega, he⟩, trivial⟩ (by show 1 ≤ _; omega) i2 _
  · simp [-Bool.exists_bool, vSeq, vAsg, vV, vMv, vS, vIfS, vOr, vAnd, vNot, vB, vv1, vv2, vv3, Opr.ev, Opr.fin, Opr.sl, Opr.base, Sl.read, Sl.rd, Sl.ra, Sl.get, Sl.isIn, Sl.ot, Ot.rd, Ot.get, gets_lv, leaves_lv, Sh.data, Sh.root, Rs.to, ↓lv_in, -List.map_map, fst_0, fst_s, ini, List.replicate_succ, enG, bTup, bCons, bName, bNil, inAt, vC, vEnd, vBrk, vCnt, vRaise, fLt, fAdd_int, fGt, fGe, fLe, fSub, fMod, fI, fFdv, cPow, fPow, fMin2, fMax2, fInt, fAbs, fNeg, Option.bind, vRet, vSet, vDrp, vCal, agEv, agIn, agIn1, lns_nil, lns_pd, lns_br, lns_ln, bor_nil, bor_pd, bor_ln, bor_br, out_nil, out_pd, out_br, out_ln, lat_nil, lat_pd, lat_br, lat_ln, keep_fd, ex_pair, keepO_sh, lnAtm_no, agOut_no, Sl.atm, atom_i, atom_s, atom_b, atom_n, atom_k, vCons, vNil, vTup, vLst, vIf, vTru, truD, vNotV, vNotT, flat_fd, vAndV, vOrV, fEq_int, fNe_int, fEq_str, fNe_str, fEq_is, fEq_si, vMet, mvEv, Opr.loc, locAt, Ot.at, Ot.put, Nde.set, append_lv, pop_lv, reverse_lv, insert_lv, vLc_eq, vFor_eq, wipeD, vYes, iR1, iL, iK, vAug, fAug_int, slotInt, fLen_list, ML.isNon, fIsN, fNotN, vIxN, ixLoc, kidQ, ixN, os_inj, ix0, ix1, ix2, ix3, ix4, lx0, lx1, lx2, lx3, fLen_tup, xAnd, xNot, xIs, vTry, enX, keepO, Ot.root, Ot.rd, fInt, vTry0, isB_n, isB_b, isB_i, isB_s, isB_l, isB_t, isI_n, isI_b, isI_i, isI_s, isI_l, isI_t, isS_n, isS_b, isS_i, isS_s, isS_l, isS_t, isL_n, isL_b, isL_i, isL_s, isL_l, isL_t, isT_n, isT_b, isT_i, isT_s, isT_l, isT_t, plc, Sh.pos, Sh.root, vLstO, ots, q3__law_statement, b104__law_statement, b105__law_statement, b106__law_statement, c0, c1, c2]
    refine expc (room := 2) hi (by omega) fun e d2 he i2 mm => ?_
    simp [-Bool.exists_bool, vSeq, vAsg, vV, vMv, vS, vIfS, vOr, vAnd, vNot, vB, vv1, vv2, vv3, Opr.ev, Opr.fin, Opr.sl, Opr.base, Sl.read, Sl.rd, Sl.ra, Sl.get, Sl.isIn, Sl.ot, Ot.rd, Ot.get, gets_lv, leaves_lv, Sh.data, Sh.root, Rs.to, ↓lv_in, -List.map_map, fst_0, fst_s, ini, List.replicate_succ, enG, bTup, bCons, bName, bNil, inAt, vC, vEnd, vBrk, vCnt, vRaise, fLt, fAdd_int, fGt, fGe, fLe, fSub, fMod, fI, fFdv, cPow, fPow, fMin2, fMax2, fInt, fAbs, fNeg, Option.bind, vRet, vSet, vDrp, vCal, agEv, agIn, agIn1, lns_nil, lns_pd, lns_br, lns_ln, bor_nil, bor_pd, bor_ln, bor_br, out_nil, out_pd, out_br, out_ln, lat_nil, lat_pd, lat_br, lat_ln, keep_fd, ex_pair, keepO_sh, lnAtm_no, agOut_no, Sl.atm, atom_i, atom_s, atom_b, atom_n, atom_k, vCons, vNil, vTup, vLst, vIf, vTru, truD, vNotV, vNotT, flat_fd, vAndV, vOrV, fEq_int, fNe_int, fEq_str, fNe_str, fEq_is, fEq_si, vMet, mvEv, Opr.loc, locAt, Ot.at, Ot.put, Nde.set, append_lv, pop_lv, reverse_lv, insert_lv, vLc_eq, vFor_eq, wipeD, vYes, iR1, iL, iK, vAug, fAug_int, slotInt, fLen_list, ML.isNon, fIsN, fNotN, vIxN, ixLoc, kidQ, ixN, os_inj, ix0, ix1, ix2, ix3, ix4, lx0, lx1, lx2, lx3, fLen_tup, xAnd, xNot, xIs, vTry, enX, keepO, Ot.root, Ot.rd, fInt, vTry0, isB_n, isB_b, isB_i, isB_s, isB_l, isB_t, isI_n, isI_b, isI_i, isI_s, isI_l, isI_t, isS_n, isS_b, isS_i, isS_s, isS_l, isS_t, isL_n, isL_b, isL_i, isL_s, isL_l, isL_t, isT_n, isT_b, isT_i, isT_s, isT_l, isT_t, plc, Sh.pos, Sh.root, vLstO, ots]
    exact h1 (.shw e) _ ⟨he, trivial⟩ (by show 1 ≤ _; omega) i2 _
theorem s_st0 {ins : List Sl} {Qd : Sl → List Sl → Prop} {Xd : Exn → List Sl → Prop} (hl : ins.length = 2) (h : sm_st 0 ins Qd Xd) : t__law_statement (sm_exp 4) LP.sm_pick semNo (enG 2 Qd Xd) (ini 7 ins) := by
  obtain ⟨p, ds, room, rfl, hr, hi, h1⟩ := h
  have : room = 0 := by omega
  subst this
  simp [-Bool.exists_bool, vSeq, vAsg, vV, vMv, vS, vIfS, vOr, vAnd, vNot, vB, vv1, vv2, vv3, Opr.ev, Opr.fin, Opr.sl, Opr.base, Sl.read, Sl.rd, Sl.ra, Sl.get, Sl.isIn, Sl.ot, Ot.rd, Ot.get, gets_lv, leaves_lv, Sh.data, Sh.root, Rs.to, ↓lv_in, -List.map_map, fst_0, fst_s, ini, List.replicate_succ, enG, bTup, bCons, bName, bNil, inAt, vC, vEnd, vBrk, vCnt, vRaise, fLt, fAdd_int, fGt, fGe, fLe, fSub, fMod, fI, fFdv, cPow, fPow, fMin2, fMax2, fInt, fAbs, fNeg, Option.bind, vRet, vSet, vDrp, vCal, agEv, agIn, agIn1, lns_nil, lns_pd, lns_br, lns_ln, bor_nil, bor_pd, bor_ln, bor_br, out_nil, out_pd, out_br, out_ln, lat_nil, lat_pd, lat_br, lat_ln, keep_fd, ex_pair, keepO_sh, lnAtm_no, agOut_no, Sl.atm, atom_i, atom_s, atom_b, atom_n, atom_k, vCons, vNil, vTup, vLst, vIf, vTru, truD, vNotV, vNotT, flat_fd, vAndV, vOrV, fEq_int, fNe_int, fEq_str, fNe_str, fEq_is, fEq_si, vMet, mvEv, Opr.loc, locAt, Ot.at, Ot.put, Nde.set, append_lv, pop_lv, reverse_lv, insert_lv, vLc_eq, vFor_eq, wipeD, vYes, iR1, iL, iK, vAug, fAug_int, slotInt, fLen_list, ML.isNon, fIsN, fNotN, vIxN, ixLoc, kidQ, ixN, os_inj, ix0, ix1, ix2, ix3, ix4, lx0, lx1, lx2, lx3, fLen_tup, xAnd, xNot, xIs, vTry, enX, keepO, Ot.root, Ot.rd, fInt, vTry0, isB_n, isB_b, isB_i, isB_s, isB_l, isB_t, isI_n, isI_b, isI_i, isI_s, isI_l, isI_t, isS_n, isS_b, isS_i, isS_s, isS_l, isS_t, isL_n, isL_b, isL_i, isL_s, isL_l, isL_t, isT_n, isT_b, isT_i, isT_s, isT_l, isT_t, plc, Sh.pos, Sh.root, vLstO, ots, t__law_statement]
  refine LP.pick hi (by omega) fun k d1 i1 r0 r1 => ?_
  simp [-Bool.exists_bool, vSeq, vAsg, vV, vMv, vS, vIfS, vOr, vAnd, vNot, vB, vv1, vv2, vv3, Opr.ev, Opr.fin, Opr.sl, Opr.base, Sl.read, Sl.rd, Sl.ra, Sl.get, Sl.isIn, Sl.ot, Ot.rd, Ot.get, gets_lv, leaves_lv, Sh.data, Sh.root, Rs.to, ↓lv_in, -List.map_map, fst_0, fst_s, ini, List.replicate_succ, enG, bTup, bCons, bName, bNil, inAt, vC, vEnd, vBrk, vCnt, vRaise, fLt, fAdd_int, fGt, fGe, fLe, fSub, fMod, fI, fFdv, cPow, fPow, fMin2, fMax2, fInt, fAbs, fNeg, Option.bind, vRet, vSet, vDrp, vCal, agEv, agIn, agIn1, lns_nil, lns_pd, lns_br, lns_ln, bor_nil, bor_pd, bor_ln, bor_br, out_nil, out_pd, out_br, out_ln, lat_nil, lat_pd, lat_br, lat_ln, keep_fd, ex_pair, keepO_sh, lnAtm_no, agOut_no, Sl.atm, atom_i, atom_s, atom_b, atom_n, atom_k, vCons, vNil, vTup, vLst, vIf, vTru, truD, vNotV, vNotT, flat_fd, vAndV, vOrV, fEq_int, fNe_int, fEq_str, fNe_str, fEq_is, fEq_si, vMet, mvEv, Opr.loc, locAt, Ot.at, Ot.put, Nde.set, append_lv, pop_lv, reverse_lv, insert_lv, vLc_eq, vFor_eq, wipeD, vYes, iR1, iL, iK, vAug, fAug_int, slotInt, fLen_list, ML.isNon, fIsN, fNotN, vIxN, ixLoc, kidQ, ixN, os_inj, ix0, ix1, ix2, ix3, ix4, lx0, lx1, lx2, lx3, fLen_tup, xAnd, xNot, xIs, vTry, enX, keepO, Ot.root, Ot.rd, fInt, vTry0, isB_n, isB_b, isB_i, isB_s, isB_l, isB_t, isI_n, isI_b, isI_i, isI_s, isI_l, isI_t, isS_n, isS_b, isS_i, isS_s, isS_l, isS_t, isL_n, isL_b, isL_i, isL_s, isL_l, isL_t, isT_n, isT_b, isT_i, isT_s, isT_l, isT_t, plc, Sh.pos, Sh.root, vLstO, ots, b1__law_statement]
  exact st_leaf (n := 0) i1 h1
theorem s_st {n : Nat} {ins : List Sl} {Qd : Sl → List Sl → Prop} {Xd : Exn → List Sl → Prop} (hl : ins.length = 2) (h : sm_st (n + 1) ins Qd Xd) : t__law_statement (sm_exp 4) LP.sm_pick (sm_st n) (enG 2 Qd Xd) (ini 7 ins) := by
  obtain ⟨p, ds, room, rfl, hr, hi, h1⟩ := h
  simp [-Bool.exists_bool, vSeq, vAsg, vV, vMv, vS, vIfS, vOr, vAnd, vNot, vB, vv1, vv2, vv3, Opr.ev, Opr.fin, Opr.sl, Opr.base, Sl.read, Sl.rd, Sl.ra, Sl.get, Sl.isIn, Sl.ot, Ot.rd, Ot.get, gets_lv, leaves_lv, Sh.data, Sh.root, Rs.to, ↓lv_in, -List.map_map, fst_0, fst_s, ini, List.replicate_succ, enG, bTup, bCons, bName, bNil, inAt, vC, vEnd, vBrk, vCnt, vRaise, fLt, fAdd_int, fGt, fGe, fLe, fSub, fMod, fI, fFdv, cPow, fPow, fMin2, fMax2, fInt, fAbs, fNeg, Option.bind, vRet, vSet, vDrp, vCal, agEv, agIn, agIn1, lns_nil, lns_pd, lns_br, lns_ln, bor_nil, bor_pd, bor_ln, bor_br, out_nil, out_pd, out_br, out_ln, lat_nil, lat_pd, lat_br, lat_ln, keep_fd, ex_pair, keepO_sh, lnAtm_no, agOut_no, Sl.atm, atom_i, atom_s, atom_b, atom_n, atom_k, vCons, vNil, vTup, vLst, vIf, vTru, truD, vNotV, vNotT, flat_fd, vAndV, vOrV, fEq_int, fNe_int, fEq_str, fNe_str, fEq_is, fEq_si, vMet, mvEv, Opr.loc, locAt, Ot.at, Ot.put, Nde.set, append_lv, pop_lv, reverse_lv, insert_lv, vLc_eq, vFor_eq, wipeD, vYes, iR1, iL, iK, vAug, fAug_int, slotInt, fLen_list, ML.isNon, fIsN, fNotN, vIxN, ixLoc, kidQ, ixN, os_inj, ix0, ix1, ix2, ix3, ix4, lx0, lx1, lx2, lx3, fLen_tup, xAnd, xNot, xIs, vTry, enX, keepO, Ot.root, Ot.rd, fInt, vTry0, isB_n, isB_b, isB_i, isB_s, isB_l, isB_t, isI_n, isI_b, isI_i, isI_s, isI_l, isI_t, isS_n, isS_b, isS_i, isS_s, isS_l, isS_t, isL_n, isL_b, isL_i, isL_s, isL_l, isL_t, isT_n, isT_b, isT_i, isT_s, isT_l, isT_t, plc, Sh.pos, Sh.root, vLstO, ots, t__law_statement]
  refine LP.pick hi (by omega) fun k d1 i1 r0 r1 => ?_
  by_cases z : room = 0
  · subst z
    simp [-Bool.exists_bool, vSeq, vAsg, vV, vMv, vS, vIfS, vOr, vAnd, vNot, vB, vv1, vv2, vv3, Opr.ev, Opr.fin, Opr.sl, Opr.base, Sl.read, Sl.rd, Sl.ra, Sl.get, Sl.isIn, Sl.ot, Ot.rd, Ot.get, gets_lv, leaves_lv, Sh.data, Sh.root, Rs.to, ↓lv_in, -List.map_map, fst_0, fst_s, ini, List.replicate_succ, enG, bTup, bCons, bName, bNil, inAt, vC, vEnd, vBrk, vCnt, vRaise, fLt, fAdd_int, fGt, fGe, fLe, fSub, fMod, fI, fFdv, cPow, fPow, fMin2, fMax2, fInt, fAbs, fNeg, Option.bind, vRet, vSet, vDrp, vCal, agEv, agIn, agIn1, lns_nil, lns_pd, lns_br, lns_ln, bor_nil, bor_pd, bor_ln, bor_br, out_nil, out_pd, out_br, out_ln, lat_nil, lat_pd, lat_br, lat_ln, keep_fd, ex_pair, keepO_sh, lnAtm_no, agOut_no, Sl.atm, atom_i, atom_s, atom_b, atom_n, atom_k, vCons, vNil, vTup, vLst, vIf, vTru, truD, vNotV, vNotT, flat_fd, vAndV, vOrV, fEq_int, fNe_int, fEq_str, fNe_str, fEq_is, fEq_si, vMet, mvEv, Opr.loc, locAt, Ot.at, Ot.put, Nde.set, append_lv, pop_lv, reverse_lv, insert_lv, vLc_eq, vFor_eq, wipeD, vYes, iR1, iL, iK, vAug, fAug_int, slotInt, fLen_list, ML.isNon, fIsN, fNotN, vIxN, ixLoc, kidQ, ixN, os_inj, ix0, ix1, ix2, ix3, ix4, lx0, lx1, lx2, lx3, fLen_tup, xAnd, xNot, xIs, vTry, enX, keepO, Ot.root, Ot.rd, fInt, vTry0, isB_n, isB_b, isB_i, isB_s, isB_l, isB_t, isI_n, isI_b, isI_i, isI_s, isI_l, isI_t, isS_n, isS_b, isS_i, isS_s, isS_l, isS_t, isL_n, isL_b, isL_i, isL_s, isL_l, isL_t, isT_n, isT_b, isT_i, isT_s, isT_l, isT_t, plc, Sh.pos, Sh.root, vLstO, ots, b1__law_statement]
    exact st_leaf (n := 0) i1 h1
  obtain ⟨j, rfl⟩ : ∃ j, room = j + 1 := ⟨room - 1, by omega⟩
  have e1 : ((j : Int) + 1 - 1) = (j : Int) := by omega
  have c3 : ¬ ((j : Int) + 1 = 0) := by omega
  by_cases c4 : k < 4
  · simp [-Bool.exists_bool, vSeq, vAsg, vV, vMv, vS, vIfS, vOr, vAnd, vNot, vB, vv1, vv2, vv3, Opr.ev, Opr.fin, Opr.sl, Opr.base, Sl.read, Sl.rd, Sl.ra, Sl.get, Sl.isIn, Sl.ot, Ot.rd, Ot.get, gets_lv, leaves_lv, Sh.data, Sh.root, Rs.to, ↓lv_in, -List.map_map, fst_0, fst_s, ini, List.replicate_succ, enG, bTup, bCons, bName, bNil, inAt, vC, vEnd, vBrk, vCnt, vRaise, fLt, fAdd_int, fGt, fGe, fLe, fSub, fMod, fI, fFdv, cPow, fPow, fMin2, fMax2, fInt, fAbs, fNeg, Option.bind, vRet, vSet, vDrp, vCal, agEv, agIn, agIn1, lns_nil, lns_pd, lns_br, lns_ln, bor_nil, bor_pd, bor_ln, bor_br, out_nil, out_pd, out_br, out_ln, lat_nil, lat_pd, lat_br, lat_ln, keep_fd, ex_pair, keepO_sh, lnAtm_no, agOut_no, Sl.atm, atom_i, atom_s, atom_b, atom_n, atom_k, vCons, vNil, vTup, vLst, vIf, vTru, truD, vNotV, vNotT, flat_fd, vAndV, vOrV, fEq_int, fNe_int, fEq_str, fNe_str, fEq_is, fEq_si, vMet, mvEv, Opr.loc, locAt, Ot.at, Ot.put, Nde.set, append_lv, pop_lv, reverse_lv, insert_lv, vLc_eq, vFor_eq, wipeD, vYes, iR1, iL, iK, vAug, fAug_int, slotInt, fLen_list, ML.isNon, fIsN, fNotN, vIxN, ixLoc, kidQ, ixN, os_inj, ix0, ix1, ix2, ix3, ix4, lx0, lx1, lx2, lx3, fLen_tup, xAnd, xNot, xIs, vTry, enX, keepO, Ot.root, Ot.rd, fInt, vTry0, isB_n, isB_b, isB_i, isB_s, isB_l, isB_t, isI_n, isI_b, isI_i, isI_s, isI_l, isI_t, isS_n, isS_b, isS_i, isS_s, isS_l, isS_t, isL_n, isL_b, isL_i, isL_s, isL_l, isL_t, isT_n, isT_b, isT_i, isT_s, isT_l, isT_t, plc, Sh.pos, Sh.root, vLstO, ots, b1__law_statement, c3, c4]
    exact st_leaf (n := j + 1) i1 h1
  by_cases c6 : k < 6
  · simp [-Bool.exists_bool, vSeq, vAsg, vV, vMv, vS, vIfS, vOr, vAnd, vNot, vB, vv1, vv2, vv3, Opr.ev, Opr.fin, Opr.sl, Opr.base, Sl.read, Sl.rd, Sl.ra, Sl.get, Sl.isIn, Sl.ot, Ot.rd, Ot.get, gets_lv, leaves_lv, Sh.data, Sh.root, Rs.to, ↓lv_in, -List.map_map, fst_0, fst_s, ini, List.replicate_succ, enG, bTup, bCons, bName, bNil, inAt, vC, vEnd, vBrk, vCnt, vRaise, fLt, fAdd_int, fGt, fGe, fLe, fSub, fMod, fI, fFdv, cPow, fPow, fMin2, fMax2, fInt, fAbs, fNeg, Option.bind, vRet, vSet, vDrp, vCal, agEv, agIn, agIn1, lns_nil, lns_pd, lns_br, lns_ln, bor_nil, bor_pd, bor_ln, bor_br, out_nil, out_pd, out_br, out_ln, lat_nil, lat_pd, lat_br, lat_ln, keep_fd, ex_pair, keepO_sh, lnAtm_no, agOut_no, Sl.atm, atom_i, atom_s, atom_b, atom_n, atom_k, vCons, vNil, vTup, vLst, vIf, vTru, truD, vNotV, vNotT, flat_fd, vAndV, vOrV, fEq_int, fNe_int, fEq_str, fNe_str, fEq_is, fEq_si, vMet, mvEv, Opr.loc, locAt, Ot.at, Ot.put, Nde.set, append_lv, pop_lv, reverse_lv, insert_lv, vLc_eq, vFor_eq, wipeD, vYes, iR1, iL, iK, vAug, fAug_int, slotInt, fLen_list, ML.isNon, fIsN, fNotN, vIxN, ixLoc, kidQ, ixN, os_inj, ix0, ix1, ix2, ix3, ix4, lx0, lx1, lx2, lx3, fLen_tup, xAnd, xNot, xIs, vTry, enX, keepO, Ot.root, Ot.rd, fInt, vTry0, isB_n, isB_b, isB_i, isB_s, isB_l, isB_t, isI_n, isI_b, isI_i, isI_s, isI_l, isI_t, isS_n, isS_b, isS_i, isS_s, isS_l, isS_t, isL_n, isL_b, isL_i, isL_s, isL_l, isL_t, isT_n, isT_b, isT_i, isT_s, isT_l, isT_t, plc, Sh.pos, Sh.root, vLstO, ots, b1__law_statement, c3, c4, b2__law_statement, c6, q4__law_statement, e1]
    refine ⟨p, d1, j, rfl, by omega, i1, fun a d2 ha la i2 mm => ?_⟩
    simp [-Bool.exists_bool, vSeq, vAsg, vV, vMv, vS, vIfS, vOr, vAnd, vNot, vB, vv1, vv2, vv3, Opr.ev, Opr.fin, Opr.sl, Opr.base, Sl.read, Sl.rd, Sl.ra, Sl.get, Sl.isIn, Sl.ot, Ot.rd, Ot.get, gets_lv, leaves_lv, Sh.data, Sh.root, Rs.to, ↓lv_in, -List.map_map, fst_0, fst_s, ini, List.replicate_succ, enG, bTup, bCons, bName, bNil, inAt, vC, vEnd, vBrk, vCnt, vRaise, fLt, fAdd_int, fGt, fGe, fLe, fSub, fMod, fI, fFdv, cPow, fPow, fMin2, fMax2, fInt, fAbs, fNeg, Option.bind, vRet, vSet, vDrp, vCal, agEv, agIn, agIn1, lns_nil, lns_pd, lns_br, lns_ln, bor_nil, bor_pd, bor_ln, bor_br, out_nil, out_pd, out_br, out_ln, lat_nil, lat_pd, lat_br, lat_ln, keep_fd, ex_pair, keepO_sh, lnAtm_no, agOut_no, Sl.atm, atom_i, atom_s, atom_b, atom_n, atom_k, vCons, vNil, vTup, vLst, vIf, vTru, truD, vNotV, vNotT, flat_fd, vAndV, vOrV, fEq_int, fNe_int, fEq_str, fNe_str, fEq_is, fEq_si, vMet, mvEv, Opr.loc, locAt, Ot.at, Ot.put, Nde.set, append_lv, pop_lv, reverse_lv, insert_lv, vLc_eq, vFor_eq, wipeD, vYes, iR1, iL, iK, vAug, fAug_int, slotInt, fLen_list, ML.isNon, fIsN, fNotN, vIxN, ixLoc, kidQ, ixN, os_inj, ix0, ix1, ix2, ix3, ix4, lx0, lx1, lx2, lx3, fLen_tup, xAnd, xNot, xIs, vTry, enX, keepO, Ot.root, Ot.rd, fInt, vTry0, isB_n, isB_b, isB_i, isB_s, isB_l, isB_t, isI_n, isI_b, isI_i, isI_s, isI_l, isI_t, isS_n, isS_b, isS_i, isS_s, isS_l, isS_t, isL_n, isL_b, isL_i, isL_s, isL_l, isL_t, isT_n, isT_b, isT_i, isT_s, isT_l, isT_t, plc, Sh.pos, Sh.root, vLstO, ots, e1]
    refine ⟨p, d2, j, rfl, by omega, i2, fun b d3 hb lb i3 mm => ?_⟩
    simp [-Bool.exists_bool, vSeq, vAsg, vV, vMv, vS, vIfS, vOr, vAnd, vNot, vB, vv1, vv2, vv3, Opr.ev, Opr.fin, Opr.sl, Opr.base, Sl.read, Sl.rd, Sl.ra, Sl.get, Sl.isIn, Sl.ot, Ot.rd, Ot.get, gets_lv, leaves_lv, Sh.data, Sh.root, Rs.to, ↓lv_in, -List.map_map, fst_0, fst_s, ini, List.replicate_succ, enG, bTup, bCons, bName, bNil, inAt, vC, vEnd, vBrk, vCnt, vRaise, fLt, fAdd_int, fGt, fGe, fLe, fSub, fMod, fI, fFdv, cPow, fPow, fMin2, fMax2, fInt, fAbs, fNeg, Option.bind, vRet, vSet, vDrp, vCal, agEv, agIn, agIn1, lns_nil, lns_pd, lns_br, lns_ln, bor_nil, bor_pd, bor_ln, bor_br, out_nil, out_pd, out_br, out_ln, lat_nil, lat_pd, lat_br, lat_ln, keep_fd, ex_pair, keepO_sh, lnAtm_no, agOut_no, Sl.atm, atom_i, atom_s, atom_b, atom_n, atom_k, vCons, vNil, vTup, vLst, vIf, vTru, truD, vNotV, vNotT, flat_fd, vAndV, vOrV, fEq_int, fNe_int, fEq_str, fNe_str, fEq_is, fEq_si, vMet, mvEv, Opr.loc, locAt, Ot.at, Ot.put, Nde.set, append_lv, pop_lv, reverse_lv, insert_lv, vLc_eq, vFor_eq, wipeD, vYes, iR1, iL, iK, vAug, fAug_int, slotInt, fLen_list, ML.isNon, fIsN, fNotN, vIxN, ixLoc, kidQ, ixN, os_inj, ix0, ix1, ix2, ix3, ix4, lx0, lx1, lx2, lx3, fLen_tup, xAnd, xNot, xIs, vTry, enX, keepO, Ot.root, Ot.rd, fInt, vTry0, isB_n, isB_b, isB_i, isB_s, isB_l, isB_t, isI_n, isI_b, isI_i, isI_s, isI_l, isI_t, isS_n, isS_b, isS_i, isS_s, isS_l, isS_t, isL_n, isL_b, isL_i, isL_s, isL_l, isL_t, isT_n, isT_b, isT_i, isT_s, isT_l, isT_t, plc, Sh.pos, Sh.root, vLstO, ots]
    exact h1 (.seq a b) _ ⟨⟨ha.1, hb.1⟩, ha.2, hb.2⟩ (by show 1 + max a.dp b.dp ≤ _; omega) i3 _
  by_cases c7 : k = 6
  · simp [-Bool.exists_bool, vSeq, vAsg, vV, vMv, vS, vIfS, vOr, vAnd, vNot, vB, vv1, vv2, vv3, Opr.ev, Opr.fin, Opr.sl, Opr.base, Sl.read, Sl.rd, Sl.ra, Sl.get, Sl.isIn, Sl.ot, Ot.rd, Ot.get, gets_lv, leaves_lv, Sh.data, Sh.root, Rs.to, ↓lv_in, -List.map_map, fst_0, fst_s, ini, List.replicate_succ, enG, bTup, bCons, bName, bNil, inAt, vC, vEnd, vBrk, vCnt, vRaise, fLt, fAdd_int, fGt, fGe, fLe, fSub, fMod, fI, fFdv, cPow, fPow, fMin2, fMax2, fInt, fAbs, fNeg, Option.bind, vRet, vSet, vDrp, vCal, agEv, agIn, agIn1, lns_nil, lns_pd, lns_br, lns_ln, bor_nil, bor_pd, bor_ln, bor_br, out_nil, out_pd, out_br, out_ln, lat_nil, lat_pd, lat_br, lat_ln, keep_fd, ex_pair, keepO_sh, lnAtm_no, agOut_no, Sl.atm, atom_i, atom_s, atom_b, atom_n, atom_k, vCons, vNil, vTup, vLst, vIf, vTru, truD, vNotV, vNotT, flat_fd, vAndV, vOrV, fEq_int, fNe_int, fEq_str, fNe_str, fEq_is, fEq_si, vMet, mvEv, Opr.loc, locAt, Ot.at, Ot.put, Nde.set, append_lv, pop_lv, reverse_lv, insert_lv, vLc_eq, vFor_eq, wipeD, vYes, iR1, iL, iK, vAug, fAug_int, slotInt, fLen_list, ML.isNon, fIsN, fNotN, vIxN, ixLoc, kidQ, ixN, os_inj, ix0, ix1, ix2, ix3, ix4, lx0, lx1, lx2, lx3, fLen_tup, xAnd, xNot, xIs, vTry, enX, keepO, Ot.root, Ot.rd, fInt, vTry0, isB_n, isB_b, isB_i, isB_s, isB_l, isB_t, isI_n, isI_b, isI_i, isI_s, isI_l, isI_t, isS_n, isS_b, isS_i, isS_s, isS_l, isS_t, isL_n, isL_b, isL_i, isL_s, isL_l, isL_t, isT_n, isT_b, isT_i, isT_s, isT_l, isT_t, plc, Sh.pos, Sh.root, vLstO, ots, b1__law_statement, c3, c4, b2__law_statement, c6, b3__law_statement, c7, q5__law_statement]
    refine expc (room := 1) i1 (by omega) fun e d2 he i2 mm => ?_
    simp [-Bool.exists_bool, vSeq, vAsg, vV, vMv, vS, vIfS, vOr, vAnd, vNot, vB, vv1, vv2, vv3, Opr.ev, Opr.fin, Opr.sl, Opr.base, Sl.read, Sl.rd, Sl.ra, Sl.get, Sl.isIn, Sl.ot, Ot.rd, Ot.get, gets_lv, leaves_lv, Sh.data, Sh.root, Rs.to, ↓lv_in, -List.map_map, fst_0, fst_s, ini, List.replicate_succ, enG, bTup, bCons, bName, bNil, inAt, vC, vEnd, vBrk, vCnt, vRaise, fLt, fAdd_int, fGt, fGe, fLe, fSub, fMod, fI, fFdv, cPow, fPow, fMin2, fMax2, fInt, fAbs, fNeg, Option.bind, vRet, vSet, vDrp, vCal, agEv, agIn, agIn1, lns_nil, lns_pd, lns_br, lns_ln, bor_nil, bor_pd, bor_ln, bor_br, out_nil, out_pd, out_br, out_ln, lat_nil, lat_pd, lat_br, lat_ln, keep_fd, ex_pair, keepO_sh, lnAtm_no, agOut_no, Sl.atm, atom_i, atom_s, atom_b, atom_n, atom_k, vCons, vNil, vTup, vLst, vIf, vTru, truD, vNotV, vNotT, flat_fd, vAndV, vOrV, fEq_int, fNe_int, fEq_str, fNe_str, fEq_is, fEq_si, vMet, mvEv, Opr.loc, locAt, Ot.at, Ot.put, Nde.set, append_lv, pop_lv, reverse_lv, insert_lv, vLc_eq, vFor_eq, wipeD, vYes, iR1, iL, iK, vAug, fAug_int, slotInt, fLen_list, ML.isNon, fIsN, fNotN, vIxN, ixLoc, kidQ, ixN, os_inj, ix0, ix1, ix2, ix3, ix4, lx0, lx1, lx2, lx3, fLen_tup, xAnd, xNot, xIs, vTry, enX, keepO, Ot.root, Ot.rd, fInt, vTry0, isB_n, isB_b, isB_i, isB_s, isB_l, isB_t, isI_n, isI_b, isI_i, isI_s, isI_l, isI_t, isS_n, isS_b, isS_i, isS_s, isS_l, isS_t, isL_n, isL_b, isL_i, isL_s, isL_l, isL_t, isT_n, isT_b, isT_i, isT_s, isT_l, isT_t, plc, Sh.pos, Sh.root, vLstO, ots, b109__law_statement, e1]
    refine ⟨p, d2, j, rfl, by omega, i2, fun a d3 ha la i3 mm => ?_⟩
    simp [-Bool.exists_bool, vSeq, vAsg, vV, vMv, vS, vIfS, vOr, vAnd, vNot, vB, vv1, vv2, vv3, Opr.ev, Opr.fin, Opr.sl, Opr.base, Sl.read, Sl.rd, Sl.ra, Sl.get, Sl.isIn, Sl.ot, Ot.rd, Ot.get, gets_lv, leaves_lv, Sh.data, Sh.root, Rs.to, ↓lv_in, -List.map_map, fst_0, fst_s, ini, List.replicate_succ, enG, bTup, bCons, bName, bNil, inAt, vC, vEnd, vBrk, vCnt, vRaise, fLt, fAdd_int, fGt, fGe, fLe, fSub, fMod, fI, fFdv, cPow, fPow, fMin2, fMax2, fInt, fAbs, fNeg, Option.bind, vRet, vSet, vDrp, vCal, agEv, agIn, agIn1, lns_nil, lns_pd, lns_br, lns_ln, bor_nil, bor_pd, bor_ln, bor_br, out_nil, out_pd, out_br, out_ln, lat_nil, lat_pd, lat_br, lat_ln, keep_fd, ex_pair, keepO_sh, lnAtm_no, agOut_no, Sl.atm, atom_i, atom_s, atom_b, atom_n, atom_k, vCons, vNil, vTup, vLst, vIf, vTru, truD, vNotV, vNotT, flat_fd, vAndV, vOrV, fEq_int, fNe_int, fEq_str, fNe_str, fEq_is, fEq_si, vMet, mvEv, Opr.loc, locAt, Ot.at, Ot.put, Nde.set, append_lv, pop_lv, reverse_lv, insert_lv, vLc_eq, vFor_eq, wipeD, vYes, iR1, iL, iK, vAug, fAug_int, slotInt, fLen_list, ML.isNon, fIsN, fNotN, vIxN, ixLoc, kidQ, ixN, os_inj, ix0, ix1, ix2, ix3, ix4, lx0, lx1, lx2, lx3, fLen_tup, xAnd, xNot, xIs, vTry, enX, keepO, Ot.root, Ot.rd, fInt, vTry0, isB_n, isB_b, isB_i, isB_s, isB_l, isB_t, isI_n, isI_b, isI_i, isI_s, isI_l, isI_t, isS_n, isS_b, isS_i, isS_s, isS_l, isS_t, isL_n, isL_b, isL_i, isL_s, isL_l, isL_t, isT_n, isT_b, isT_i, isT_s, isT_l, isT_t, plc, Sh.pos, Sh.root, vLstO, ots, e1]
    refine ⟨p, d3, j, rfl, by omega, i3, fun b d4 hb lb i4 mm => ?_⟩
    simp [-Bool.exists_bool, vSeq, vAsg, vV, vMv, vS, vIfS, vOr, vAnd, vNot, vB, vv1, vv2, vv3, Opr.ev, Opr.fin, Opr.sl, Opr.base, Sl.read, Sl.rd, Sl.ra, Sl.get, Sl.isIn, Sl.ot, Ot.rd, Ot.get, gets_lv, leaves_lv, Sh.data, Sh.root, Rs.to, ↓lv_in, -List.map_map, fst_0, fst_s, ini, List.replicate_succ, enG, bTup, bCons, bName, bNil, inAt, vC, vEnd, vBrk, vCnt, vRaise, fLt, fAdd_int, fGt, fGe, fLe, fSub, fMod, fI, fFdv, cPow, fPow, fMin2, fMax2, fInt, fAbs, fNeg, Option.bind, vRet, vSet, vDrp, vCal, agEv, agIn, agIn1, lns_nil, lns_pd, lns_br, lns_ln, bor_nil, bor_pd, bor_ln, bor_br, out_nil, out_pd, out_br, out_ln, lat_nil, lat_pd, lat_br, lat_ln, keep_fd, ex_pair, keepO_sh, lnAtm_no, agOut_no, Sl.atm, atom_i, atom_s, atom_b, atom_n, atom_k, vCons, vNil, vTup, vLst, vIf, vTru, truD, vNotV, vNotT, flat_fd, vAndV, vOrV, fEq_int, fNe_int, fEq_str, fNe_str, fEq_is, fEq_si, vMet, mvEv, Opr.loc, locAt, Ot.at, Ot.put, Nde.set, append_lv, pop_lv, reverse_lv, insert_lv, vLc_eq, vFor_eq, wipeD, vYes, iR1, iL, iK, vAug, fAug_int, slotInt, fLen_list, ML.isNon, fIsN, fNotN, vIxN, ixLoc, kidQ, ixN, os_inj, ix0, ix1, ix2, ix3, ix4, lx0, lx1, lx2, lx3, fLen_tup, xAnd, xNot, xIs, vTry, enX, keepO, Ot.root, Ot.rd, fInt, vTry0, isB_n, isB_b, isB_i, isB_s, isB_l, isB_t, isI_n, isI_b, isI_i, isI_s, isI_l, isI_t, isS_n, isS_b, isS_i, isS_s, isS_l, isS_t, isL_n, isL_b, isL_i, isL_s, isL_l, isL_t, isT_n, isT_b, isT_i, isT_s, isT_l, isT_t, plc, Sh.pos, Sh.root, vLstO, ots]
    exact h1 (.when e a b) _ ⟨⟨he, ha.1, hb.1⟩, ha.2, hb.2⟩ (by show 1 + max a.dp b.dp ≤ _; omega) i4 _
  by_cases c8 : k = 7
  · simp [-Bool.exists_bool, vSeq, vAsg, vV, vMv, vS, vIfS, vOr, vAnd, vNot, vB, vv1, vv2, vv3, Opr.ev, Opr.fin, Opr.sl, Opr.base, Sl.read, Sl.rd, Sl.ra, Sl.get, Sl.isIn, Sl.ot, Ot.rd, Ot.get, gets_lv, leaves_lv, Sh.data, Sh.root, Rs.to, ↓lv_in, -List.map_map, fst_0, fst_s, ini, List.replicate_succ, enG, bTup, bCons, bName, bNil, inAt, vC, vEnd, vBrk, vCnt, vRaise, fLt, fAdd_int, fGt, fGe, fLe, fSub, fMod, fI, fFdv, cPow, fPow, fMin2, fMax2, fInt, fAbs, fNeg, Option.bind, vRet, vSet, vDrp, vCal, agEv, agIn, agIn1, lns_nil, lns_pd, lns_br, lns_ln, bor_nil, bor_pd, bor_ln, bor_br, out_nil, out_pd, out_br, out_ln, lat_nil, lat_pd, lat_br, lat_ln, keep_fd, ex_pair, keepO_sh, lnAtm_no, agOut_no, Sl.atm, atom_i, atom_s, atom_b, atom_n, atom_k, vCons, vNil, vTup, vLst, vIf, vTru, truD, vNotV, vNotT, flat_fd, vAndV, vOrV, fEq_int, fNe_int, fEq_str, fNe_str, fEq_is, fEq_si, vMet, mvEv, Opr.loc, locAt, Ot.at, Ot.put, Nde.set, append_lv, pop_lv, reverse_lv, insert_lv, vLc_eq, vFor_eq, wipeD, vYes, iR1, iL, iK, vAug, fAug_int, slotInt, fLen_list, ML.isNon, fIsN, fNotN, vIxN, ixLoc, kidQ, ixN, os_inj, ix0, ix1, ix2, ix3, ix4, lx0, lx1, lx2, lx3, fLen_tup, xAnd, xNot, xIs, vTry, enX, keepO, Ot.root, Ot.rd, fInt, vTry0, isB_n, isB_b, isB_i, isB_s, isB_l, isB_t, isI_n, isI_b, isI_i, isI_s, isI_l, isI_t, isS_n, isS_b, isS_i, isS_s, isS_l, isS_t, isL_n, isL_b, isL_i, isL_s, isL_l, isL_t, isT_n, isT_b, isT_i, isT_s, isT_l, isT_t, plc, Sh.pos, Sh.root, vLstO, ots, b1__law_statement, c3, c4, b2__law_statement, c6, b3__law_statement, c7, b4__law_statement, c8, q6__law_statement]
    refine expc (room := 1) i1 (by omega) fun e d2 he i2 mm => ?_
    simp [-Bool.exists_bool, vSeq, vAsg, vV, vMv, vS, vIfS, vOr, vAnd, vNot, vB, vv1, vv2, vv3, Opr.ev, Opr.fin, Opr.sl, Opr.base, Sl.read, Sl.rd, Sl.ra, Sl.get, Sl.isIn, Sl.ot, Ot.rd, Ot.get, gets_lv, leaves_lv, Sh.data, Sh.root, Rs.to, ↓lv_in, -List.map_map, fst_0, fst_s, ini, List.replicate_succ, enG, bTup, bCons, bName, bNil, inAt, vC, vEnd, vBrk, vCnt, vRaise, fLt, fAdd_int, fGt, fGe, fLe, fSub, fMod, fI, fFdv, cPow, fPow, fMin2, fMax2, fInt, fAbs, fNeg, Option.bind, vRet, vSet, vDrp, vCal, agEv, agIn, agIn1, lns_nil, lns_pd, lns_br, lns_ln, bor_nil, bor_pd, bor_ln, bor_br, out_nil, out_pd, out_br, out_ln, lat_nil, lat_pd, lat_br, lat_ln, keep_fd, ex_pair, keepO_sh, lnAtm_no, agOut_no, Sl.atm, atom_i, atom_s, atom_b, atom_n, atom_k, vCons, vNil, vTup, vLst, vIf, vTru, truD, vNotV, vNotT, flat_fd, vAndV, vOrV, fEq_int, fNe_int, fEq_str, fNe_str, fEq_is, fEq_si, vMet, mvEv, Opr.loc, locAt, Ot.at, Ot.put, Nde.set, append_lv, pop_lv, reverse_lv, insert_lv, vLc_eq, vFor_eq, wipeD, vYes, iR1, iL, iK, vAug, fAug_int, slotInt, fLen_list, ML.isNon, fIsN, fNotN, vIxN, ixLoc, kidQ, ixN, os_inj, ix0, ix1, ix2, ix3, ix4, lx0, lx1, lx2, lx3, fLen_tup, xAnd, xNot, xIs, vTry, enX, keepO, Ot.root, Ot.rd, fInt, vTry0, isB_n, isB_b, isB_i, isB_s, isB_l, isB_t, isI_n, isI_b, isI_i, isI_s, isI_l, isI_t, isS_n, isS_b, isS_i, isS_s, isS_l, isS_t, isL_n, isL_b, isL_i, isL_s, isL_l, isL_t, isT_n, isT_b, isT_i, isT_s, isT_l, isT_t, plc, Sh.pos, Sh.root, vLstO, ots, e1]
    refine ⟨p, d2, j, rfl, by omega, i2, fun a d3 ha la i3 mm => ?_⟩
    simp [-Bool.exists_bool, vSeq, vAsg, vV, vMv, vS, vIfS, vOr, vAnd, vNot, vB, vv1, vv2, vv3, Opr.ev, Opr.fin, Opr.sl, Opr.base, Sl.read, Sl.rd, Sl.ra, Sl.get, Sl.isIn, Sl.ot, Ot.rd, Ot.get, gets_lv, leaves_lv, Sh.data, Sh.root, Rs.to, ↓lv_in, -List.map_map, fst_0, fst_s, ini, List.replicate_succ, enG, bTup, bCons, bName, bNil, inAt, vC, vEnd, vBrk, vCnt, vRaise, fLt, fAdd_int, fGt, fGe, fLe, fSub, fMod, fI, fFdv, cPow, fPow, fMin2, fMax2, fInt, fAbs, fNeg, Option.bind, vRet, vSet, vDrp, vCal, agEv, agIn, agIn1, lns_nil, lns_pd, lns_br, lns_ln, bor_nil, bor_pd, bor_ln, bor_br, out_nil, out_pd, out_br, out_ln, lat_nil, lat_pd, lat_br, lat_ln, keep_fd, ex_pair, keepO_sh, lnAtm_no, agOut_no, Sl.atm, atom_i, atom_s, atom_b, atom_n, atom_k, vCons, vNil, vTup, vLst, vIf, vTru, truD, vNotV, vNotT, flat_fd, vAndV, vOrV, fEq_int, fNe_int, fEq_str, fNe_str, fEq_is, fEq_si, vMet, mvEv, Opr.loc, locAt, Ot.at, Ot.put, Nde.set, append_lv, pop_lv, reverse_lv, insert_lv, vLc_eq, vFor_eq, wipeD, vYes, iR1, iL, iK, vAug, fAug_int, slotInt, fLen_list, ML.isNon, fIsN, fNotN, vIxN, ixLoc, kidQ, ixN, os_inj, ix0, ix1, ix2, ix3, ix4, lx0, lx1, lx2, lx3, fLen_tup, xAnd, xNot, xIs, vTry, enX, keepO, Ot.root, Ot.rd, fInt, vTry0, isB_n, isB_b, isB_i, isB_s, isB_l, isB_t, isI_n, isI_b, isI_i, isI_s, isI_l, isI_t, isS_n, isS_b, isS_i, isS_s, isS_l, isS_t, isL_n, isL_b, isL_i, isL_s, isL_l, isL_t, isT_n, isT_b, isT_i, isT_s, isT_l, isT_t, plc, Sh.pos, Sh.root, vLstO, ots]
    exact h1 (.loop e a) _ ⟨⟨he, ha.1⟩, ha.2⟩ (by show 1 + a.dp ≤ _; omega) i3 _
  simp [-Bool.exists_bool, vSeq, vAsg, vV, vMv, vS, vIfS, vOr, vAnd, vNot, vB, vv1, vv2, vv3, Opr.ev, Opr.fin, Opr.sl, Opr.base, Sl.read, Sl.rd, Sl.ra, Sl.get, Sl.isIn, Sl.ot, Ot.rd, Ot.get, gets_lv, leaves_lv, Sh.data, Sh.root, Rs.to, ↓lv_in, -List.map_map, fst_0, fst_s, ini, List.replicate_succ, enG, bTup, bCons, bName, bNil, inAt, vC, vEnd, vBrk, vCnt, vRaise, fLt, fAdd_int, fGt, fGe, fLe, fSub, fMod, fI, fFdv, cPow, fPow, fMin2, fMax2, fInt, fAbs, fNeg, Option.bind, vRet, vSet, vDrp, vCal, agEv, agIn, agIn1, lns_nil, lns_pd, lns_br, lns_ln, bor_nil, bor_pd, bor_ln, bor_br, out_nil, out_pd, out_br, out_ln, lat_nil, lat_pd, lat_br, lat_ln, keep_fd, ex_pair, keepO_sh, lnAtm_no, agOut_no, Sl.atm, atom_i, atom_s, atom_b, atom_n, atom_k, vCons, vNil, vTup, vLst, vIf, vTru, truD, vNotV, vNotT, flat_fd, vAndV, vOrV, fEq_int, fNe_int, fEq_str, fNe_str, fEq_is, fEq_si, vMet, mvEv, Opr.loc, locAt, Ot.at, Ot.put, Nde.set, append_lv, pop_lv, reverse_lv, insert_lv, vLc_eq, vFor_eq, wipeD, vYes, iR1, iL, iK, vAug, fAug_int, slotInt, fLen_list, ML.isNon, fIsN, fNotN, vIxN, ixLoc, kidQ, ixN, os_inj, ix0, ix1, ix2, ix3, ix4, lx0, lx1, lx2, lx3, fLen_tup, xAnd, xNot, xIs, vTry, enX, keepO, Ot.root, Ot.rd, fInt, vTry0, isB_n, isB_b, isB_i, isB_s, isB_l, isB_t, isI_n, isI_b, isI_i, isI_s, isI_l, isI_t, isS_n, isS_b, isS_i, isS_s, isS_l, isS_t, isL_n, isL_b, isL_i, isL_s, isL_l, isL_t, isT_n, isT_b, isT_i, isT_s, isT_l, isT_t, plc, Sh.pos, Sh.root, vLstO, ots, b1__law_statement, c3, c4, b2__law_statement, c6, b3__law_statement, c7, b4__law_statement, c8, b5__law_statement]
  refine LP.pick i1 (by omega) fun v d2 i2 v0 v1 => ?_
  obtain ⟨m, rfl⟩ := nat_of v0
  simp [-Bool.exists_bool, vSeq, vAsg, vV, vMv, vS, vIfS, vOr, vAnd, vNot, vB, vv1, vv2, vv3, Opr.ev, Opr.fin, Opr.sl, Opr.base, Sl.read, Sl.rd, Sl.ra, Sl.get, Sl.isIn, Sl.ot, Ot.rd, Ot.get, gets_lv, leaves_lv, Sh.data, Sh.root, Rs.to, ↓lv_in, -List.map_map, fst_0, fst_s, ini, List.replicate_succ, enG, bTup, bCons, bName, bNil, inAt, vC, vEnd, vBrk, vCnt, vRaise, fLt, fAdd_int, fGt, fGe, fLe, fSub, fMod, fI, fFdv, cPow, fPow, fMin2, fMax2, fInt, fAbs, fNeg, Option.bind, vRet, vSet, vDrp, vCal, agEv, agIn, agIn1, lns_nil, lns_pd, lns_br, lns_ln, bor_nil, bor_pd, bor_ln, bor_br, out_nil, out_pd, out_br, out_ln, lat_nil, lat_pd, lat_br, lat_ln, keep_fd, ex_pair, keepO_sh, lnAtm_no, agOut_no, Sl.atm, atom_i, atom_s, atom_b, atom_n, atom_k, vCons, vNil, vTup, vLst, vIf, vTru, truD, vNotV, vNotT, flat_fd, vAndV, vOrV, fEq_int, fNe_int, fEq_str, fNe_str, fEq_is, fEq_si, vMet, mvEv, Opr.loc, locAt, Ot.at, Ot.put, Nde.set, append_lv, pop_lv, reverse_lv, insert_lv, vLc_eq, vFor_eq, wipeD, vYes, iR1, iL, iK, vAug, fAug_int, slotInt, fLen_list, ML.isNon, fIsN, fNotN, vIxN, ixLoc, kidQ, ixN, os_inj, ix0, ix1, ix2, ix3, ix4, lx0, lx1, lx2, lx3, fLen_tup, xAnd, xNot, xIs, vTry, enX, keepO, Ot.root, Ot.rd, fInt, vTry0, isB_n, isB_b, isB_i, isB_s, isB_l, isB_t, isI_n, isI_b, isI_i, isI_s, isI_l, isI_t, isS_n, isS_b, isS_i, isS_s, isS_l, isS_t, isL_n, isL_b, isL_i, isL_s, isL_l, isL_t, isT_n, isT_b, isT_i, isT_s, isT_l, isT_t, plc, Sh.pos, Sh.root, vLstO, ots, b6__law_statement, b7__law_statement]
  refine LP.pick i2 (by omega) fun v d3 i3 v2 v3 => ?_
  simp [-Bool.exists_bool, vSeq, vAsg, vV, vMv, vS, vIfS, vOr, vAnd, vNot, vB, vv1, vv2, vv3, Opr.ev, Opr.fin, Opr.sl, Opr.base, Sl.read, Sl.rd, Sl.ra, Sl.get, Sl.isIn, Sl.ot, Ot.rd, Ot.get, gets_lv, leaves_lv, Sh.data, Sh.root, Rs.to, ↓lv_in, -List.map_map, fst_0, fst_s, ini, List.replicate_succ, enG, bTup, bCons, bName, bNil, inAt, vC, vEnd, vBrk, vCnt, vRaise, fLt, fAdd_int, fGt, fGe, fLe, fSub, fMod, fI, fFdv, cPow, fPow, fMin2, fMax2, fInt, fAbs, fNeg, Option.bind, vRet, vSet, vDrp, vCal, agEv, agIn, agIn1, lns_nil, lns_pd, lns_br, lns_ln, bor_nil, bor_pd, bor_ln, bor_br, out_nil, out_pd, out_br, out_ln, lat_nil, lat_pd, lat_br, lat_ln, keep_fd, ex_pair, keepO_sh, lnAtm_no, agOut_no, Sl.atm, atom_i, atom_s, atom_b, atom_n, atom_k, vCons, vNil, vTup, vLst, vIf, vTru, truD, vNotV, vNotT, flat_fd, vAndV, vOrV, fEq_int, fNe_int, fEq_str, fNe_str, fEq_is, fEq_si, vMet, mvEv, Opr.loc, locAt, Ot.at, Ot.put, Nde.set, append_lv, pop_lv, reverse_lv, insert_lv, vLc_eq, vFor_eq, wipeD, vYes, iR1, iL, iK, vAug, fAug_int, slotInt, fLen_list, ML.isNon, fIsN, fNotN, vIxN, ixLoc, kidQ, ixN, os_inj, ix0, ix1, ix2, ix3, ix4, lx0, lx1, lx2, lx3, fLen_tup, xAnd, xNot, xIs, vTry, enX, keepO, Ot.root, Ot.rd, fInt, vTry0, isB_n, isB_b, isB_i, isB_s, isB_l, isB_t, isI_n, isI_b, isI_i, isI_s, isI_l, isI_t, isS_n, isS_b, isS_i, isS_s, isS_l, isS_t, isL_n, isL_b, isL_i, isL_s, isL_l, isL_t, isT_n, isT_b, isT_i, isT_s, isT_l, isT_t, plc, Sh.pos, Sh.root, vLstO, ots, b8__law_statement, e1]
  refine ⟨p, d3, j, rfl, by omega, i3, fun a d4 ha la i4 mm => ?_⟩
  simp [-Bool.exists_bool, vSeq, vAsg, vV, vMv, vS, vIfS, vOr, vAnd, vNot, vB, vv1, vv2, vv3, Opr.ev, Opr.fin, Opr.sl, Opr.base, Sl.read, Sl.rd, Sl.ra, Sl.get, Sl.isIn, Sl.ot, Ot.rd, Ot.get, gets_lv, leaves_lv, Sh.data, Sh.root, Rs.to, ↓lv_in, -List.map_map, fst_0, fst_s, ini, List.replicate_succ, enG, bTup, bCons, bName, bNil, inAt, vC, vEnd, vBrk, vCnt, vRaise, fLt, fAdd_int, fGt, fGe, fLe, fSub, fMod, fI, fFdv, cPow, fPow, fMin2, fMax2, fInt, fAbs, fNeg, Option.bind, vRet, vSet, vDrp, vCal, agEv, agIn, agIn1, lns_nil, lns_pd, lns_br, lns_ln, bor_nil, bor_pd, bor_ln, bor_br, out_nil, out_pd, out_br, out_ln, lat_nil, lat_pd, lat_br, lat_ln, keep_fd, ex_pair, keepO_sh, lnAtm_no, agOut_no, Sl.atm, atom_i, atom_s, atom_b, atom_n, atom_k, vCons, vNil, vTup, vLst, vIf, vTru, truD, vNotV, vNotT, flat_fd, vAndV, vOrV, fEq_int, fNe_int, fEq_str, fNe_str, fEq_is, fEq_si, vMet, mvEv, Opr.loc, locAt, Ot.at, Ot.put, Nde.set, append_lv, pop_lv, reverse_lv, insert_lv, vLc_eq, vFor_eq, wipeD, vYes, iR1, iL, iK, vAug, fAug_int, slotInt, fLen_list, ML.isNon, fIsN, fNotN, vIxN, ixLoc, kidQ, ixN, os_inj, ix0, ix1, ix2, ix3, ix4, lx0, lx1, lx2, lx3, fLen_tup, xAnd, xNot, xIs, vTry, enX, keepO, Ot.root, Ot.rd, fInt, vTry0, isB_n, isB_b, isB_i, isB_s, isB_l, isB_t, isI_n, isI_b, isI_i, isI_s, isI_l, isI_t, isS_n, isS_b, isS_i, isS_s, isS_l, isS_t, isL_n, isL_b, isL_i, isL_s, isL_l, isL_t, isT_n, isT_b, isT_i, isT_s, isT_l, isT_t, plc, Sh.pos, Sh.root, vLstO, ots]
  refine h1 (.seq (.set m (.num v)) (.loop (.var m) (.seq a (.set m (.op .sub (.var m) (.num 1)))))) _ ⟨⟨⟨by omega, num_ok (by unfold rg LP.rg32; omega)⟩, var_ok (by omega), ha.1, by omega, var_ok (by omega), num_ok (by unfold rg LP.rg32; omega)⟩, trivial, ha.2, trivial⟩ ?_ i4 _
  show 1 + max 1 (1 + (1 + max a.dp 1)) ≤ _
  omega
theorem okd_ex : ∀ {n : Nat} {e : Ex}, e.ok n → okd (n + 1) e.d
  | n, .num i, _ => ⟨by simp, allc (okd_str _ _) (all1 (okd_int _ _))⟩
  | n, .var i, _ => ⟨by simp, allc (okd_str _ _) (all1 (okd_int _ _))⟩
  | 0, .op _ _ _, h => h.elim
  | n + 1, .op m a b, h => ⟨by simp, allc (okd_str _ _) (allc (okd_ex h.1) (all1 (okd_ex h.2)))⟩
theorem okd_st : ∀ {s : St}, s.ok → okd (s.dp + 4) s.d
  | .skip, _ => ⟨by simp, all1 (okd_str _ _)⟩
  | .set s e, h => ⟨by simp, allc (okd_str _ _) (allc (okd_int _ _) (all1 (okd_ex h.2)))⟩
  | .shw e, h => ⟨by simp, allc (okd_str _ _) (all1 (okd_ex h))⟩
  | .seq a b, h => by
    rw [show (St.seq a b).dp + 4 = (max a.dp b.dp + 4) + 1 by show 1 + max a.dp b.dp + 4 = _; omega]
    exact ⟨by simp, allc (okd_str _ _) (allc (okd_mono (by omega) (okd_st h.1)) (all1 (okd_mono (by omega) (okd_st h.2))))⟩
  | .when e a b, h => by
    rw [show (St.when e a b).dp + 4 = (max a.dp b.dp + 4) + 1 by show 1 + max a.dp b.dp + 4 = _; omega]
    exact ⟨by simp, allc (okd_str _ _) (allc (okd_mono (by omega) (okd_ex h.1)) (allc (okd_mono (by omega) (okd_st h.2.1)) (all1 (okd_mono (by omega) (okd_st h.2.2)))))⟩
  | .loop e a, h => by
    rw [show (St.loop e a).dp + 4 = (a.dp + 4) + 1 by show 1 + a.dp + 4 = _; omega]
    exact ⟨by simp, allc (okd_str _ _) (allc (okd_mono (by omega) (okd_ex h.1)) (all1 (okd_st h.2)))⟩
  | .test e a, h => by
    rw [show (St.test e a).dp + 4 = (a.dp + 4) + 1 by show 1 + a.dp + 4 = _; omega]
    exact ⟨by simp, allc (okd_str _ _) (allc (okd_mono (by omega) (okd_ex h.1)) (all1 (okd_st h.2)))⟩
def fit (td : List St) : Prop := ∀ s ∈ td, s.ok ∧ s.dp ≤ 20
theorem okd_td {td : List St} (h : fit td) : ∀ d ∈ td.map St.d, okd 24 d := fun d hd => by
  obtain ⟨s, hs, rfl⟩ := List.mem_map.mp hd
  exact okd_mono (by have := (h s hs).2; omega) (okd_st (h s hs).1)
theorem okd_cf {c : S} (h : fit c.td) (l1 : c.td.length ≤ 1000) (l2 : c.σ.length = 16) (l3 : c.sh.length ≤ 1000) : okd 30 (cf c) := by
  refine okd_mono (n := 26) (by omega) ⟨by simp, allc (okd_str _ _) (allc ?_ (allc ?_ (all1 ?_)))⟩
  · exact ⟨by simp; omega, okd_td h⟩
  · exact ⟨by simp; omega, okd_zs _⟩
  · exact ⟨by simp; omega, okd_zs _⟩
theorem fit_stp {c : S} (h : fit c.td) : fit (stp c).td := by
  obtain ⟨td, σ, sh⟩ := c
  cases td with
  | nil => exact h
  | cons i r =>
    have hr : fit r := fun s hs => h s (List.mem_cons_of_mem _ hs)
    obtain ⟨hi, hd⟩ := h i List.mem_cons_self
    have add : ∀ {s : St} {l : List St}, s.ok → s.dp ≤ 20 → fit l → fit (s :: l) := fun {s l} h1 h2 h3 t ht => (List.mem_cons.mp ht).elim (fun e => e ▸ ⟨h1, h2⟩) (h3 t)
    cases i with
    | skip => exact hr
    | set s e => exact hr
    | shw e => exact hr
    | seq a b =>
      have : 1 + max a.dp b.dp ≤ 20 := hd
      exact add hi.1 (by omega) (add hi.2 (by omega) hr)
    | when e a b =>
      have : 1 + max a.dp b.dp ≤ 20 := hd
      show fit ((if ev σ e = 0 then b else a) :: r)
      split
      · exact add hi.2.2 (by omega) hr
      · exact add hi.2.1 (by omega) hr
    | loop e a => exact add hi hd hr
    | test e a =>
      have : 1 + a.dp ≤ 20 := hd
      show fit (if ev σ e = 0 then S.mk r σ sh else ⟨a :: .test e a :: r, σ, sh⟩).td
      split
      · exact hr
      · exact add hi.2 (by omega) (add hi hd hr)
abbrev fin (s : St) (f : Nat) : S × Nat := go f (c0 s)
abbrev resD (r : S × Nat) : D := .tuple [.list (zs r.1.sh), .list (zs r.1.σ), .int (r.2 : Nat)]
def sm_run (cF : Addr) : SemG := semV fun ds Qd Xd => ∃ (s : St) (f : Nat), ds = [s.d, .int f] ∧ s.ok ∧ f ≤ 100000 ∧ (emp (fin s f).1 = true → Qd (.sh (resD (fin s f)))) ∧ (emp (fin s f).1 = false → Xd ⟨cF, [], []⟩)
theorem s_run {cF : Addr} {ins : List Sl} {Qd : Sl → List Sl → Prop} {Xd : Exn → List Sl → Prop} (hl : ins.length = 2) (h : sm_run cF ins Qd Xd) : t_run sm_ran cF (enG 2 Qd Xd) (ini 6 ins) := by
  obtain ⟨_, rfl, s, f, rfl, ho, hf, h1, h2⟩ := h
  simp [-Bool.exists_bool, vSeq, vAsg, vV, vMv, vS, vIfS, vOr, vAnd, vNot, vB, vv1, vv2, vv3, Opr.ev, Opr.fin, Opr.sl, Opr.base, Sl.read, Sl.rd, Sl.ra, Sl.get, Sl.isIn, Sl.ot, Ot.rd, Ot.get, gets_lv, leaves_lv, Sh.data, Sh.root, Rs.to, ↓lv_in, -List.map_map, fst_0, fst_s, ini, List.replicate_succ, enG, bTup, bCons, bName, bNil, inAt, vC, vEnd, vBrk, vCnt, vRaise, fLt, fAdd_int, fGt, fGe, fLe, fSub, fMod, fI, fFdv, cPow, fPow, fMin2, fMax2, fInt, fAbs, fNeg, Option.bind, vRet, vSet, vDrp, vCal, agEv, agIn, agIn1, lns_nil, lns_pd, lns_br, lns_ln, bor_nil, bor_pd, bor_ln, bor_br, out_nil, out_pd, out_br, out_ln, lat_nil, lat_pd, lat_br, lat_ln, keep_fd, ex_pair, keepO_sh, lnAtm_no, agOut_no, Sl.atm, atom_i, atom_s, atom_b, atom_n, atom_k, vCons, vNil, vTup, vLst, vIf, vTru, truD, vNotV, vNotT, flat_fd, vAndV, vOrV, fEq_int, fNe_int, fEq_str, fNe_str, fEq_is, fEq_si, vMet, mvEv, Opr.loc, locAt, Ot.at, Ot.put, Nde.set, append_lv, pop_lv, reverse_lv, insert_lv, vLc_eq, vFor_eq, wipeD, vYes, iR1, iL, iK, vAug, fAug_int, slotInt, fLen_list, ML.isNon, fIsN, fNotN, vIxN, ixLoc, kidQ, ixN, os_inj, ix0, ix1, ix2, ix3, ix4, lx0, lx1, lx2, lx3, fLen_tup, xAnd, xNot, xIs, vTry, enX, keepO, Ot.root, Ot.rd, fInt, vTry0, isB_n, isB_b, isB_i, isB_s, isB_l, isB_t, isI_n, isI_b, isI_i, isI_s, isI_l, isI_t, isS_n, isS_b, isS_i, isS_s, isS_l, isS_t, isL_n, isL_b, isL_i, isL_s, isL_l, isL_t, isT_n, isT_b, isT_i, isT_s, isT_l, isT_t, plc, Sh.pos, Sh.root, vLstO, ots, t_run]
  refine ⟨[s.d, .int f], rfl, s, f, rfl, ho, hf, fun outs => ?_⟩
  cases e : emp (go f (c0 s)).1 with
  | true =>
    simp [-Bool.exists_bool, vSeq, vAsg, vV, vMv, vS, vIfS, vOr, vAnd, vNot, vB, vv1, vv2, vv3, Opr.ev, Opr.fin, Opr.sl, Opr.base, Sl.read, Sl.rd, Sl.ra, Sl.get, Sl.isIn, Sl.ot, Ot.rd, Ot.get, gets_lv, leaves_lv, Sh.data, Sh.root, Rs.to, ↓lv_in, -List.map_map, fst_0, fst_s, ini, List.replicate_succ, enG, bTup, bCons, bName, bNil, inAt, vC, vEnd, vBrk, vCnt, vRaise, fLt, fAdd_int, fGt, fGe, fLe, fSub, fMod, fI, fFdv, cPow, fPow, fMin2, fMax2, fInt, fAbs, fNeg, Option.bind, vRet, vSet, vDrp, vCal, agEv, agIn, agIn1, lns_nil, lns_pd, lns_br, lns_ln, bor_nil, bor_pd, bor_ln, bor_br, out_nil, out_pd, out_br, out_ln, lat_nil, lat_pd, lat_br, lat_ln, keep_fd, ex_pair, keepO_sh, lnAtm_no, agOut_no, Sl.atm, atom_i, atom_s, atom_b, atom_n, atom_k, vCons, vNil, vTup, vLst, vIf, vTru, truD, vNotV, vNotT, flat_fd, vAndV, vOrV, fEq_int, fNe_int, fEq_str, fNe_str, fEq_is, fEq_si, vMet, mvEv, Opr.loc, locAt, Ot.at, Ot.put, Nde.set, append_lv, pop_lv, reverse_lv, insert_lv, vLc_eq, vFor_eq, wipeD, vYes, iR1, iL, iK, vAug, fAug_int, slotInt, fLen_list, ML.isNon, fIsN, fNotN, vIxN, ixLoc, kidQ, ixN, os_inj, ix0, ix1, ix2, ix3, ix4, lx0, lx1, lx2, lx3, fLen_tup, xAnd, xNot, xIs, vTry, enX, keepO, Ot.root, Ot.rd, fInt, vTry0, isB_n, isB_b, isB_i, isB_s, isB_l, isB_t, isI_n, isI_b, isI_i, isI_s, isI_l, isI_t, isS_n, isS_b, isS_i, isS_s, isS_l, isS_t, isL_n, isL_b, isL_i, isL_s, isL_l, isL_t, isT_n, isT_b, isT_i, isT_s, isT_l, isT_t, plc, Sh.pos, Sh.root, vLstO, ots]
    exact h1 e _
  | false =>
    simp [-Bool.exists_bool, vSeq, vAsg, vV, vMv, vS, vIfS, vOr, vAnd, vNot, vB, vv1, vv2, vv3, Opr.ev, Opr.fin, Opr.sl, Opr.base, Sl.read, Sl.rd, Sl.ra, Sl.get, Sl.isIn, Sl.ot, Ot.rd, Ot.get, gets_lv, leaves_lv, Sh.data, Sh.root, Rs.to, ↓lv_in, -List.map_map, fst_0, fst_s, ini, List.replicate_succ, enG, bTup, bCons, bName, bNil, inAt, vC, vEnd, vBrk, vCnt, vRaise, fLt, fAdd_int, fGt, fGe, fLe, fSub, fMod, fI, fFdv, cPow, fPow, fMin2, fMax2, fInt, fAbs, fNeg, Option.bind, vRet, vSet, vDrp, vCal, agEv, agIn, agIn1, lns_nil, lns_pd, lns_br, lns_ln, bor_nil, bor_pd, bor_ln, bor_br, out_nil, out_pd, out_br, out_ln, lat_nil, lat_pd, lat_br, lat_ln, keep_fd, ex_pair, keepO_sh, lnAtm_no, agOut_no, Sl.atm, atom_i, atom_s, atom_b, atom_n, atom_k, vCons, vNil, vTup, vLst, vIf, vTru, truD, vNotV, vNotT, flat_fd, vAndV, vOrV, fEq_int, fNe_int, fEq_str, fNe_str, fEq_is, fEq_si, vMet, mvEv, Opr.loc, locAt, Ot.at, Ot.put, Nde.set, append_lv, pop_lv, reverse_lv, insert_lv, vLc_eq, vFor_eq, wipeD, vYes, iR1, iL, iK, vAug, fAug_int, slotInt, fLen_list, ML.isNon, fIsN, fNotN, vIxN, ixLoc, kidQ, ixN, os_inj, ix0, ix1, ix2, ix3, ix4, lx0, lx1, lx2, lx3, fLen_tup, xAnd, xNot, xIs, vTry, enX, keepO, Ot.root, Ot.rd, fInt, vTry0, isB_n, isB_b, isB_i, isB_s, isB_l, isB_t, isI_n, isI_b, isI_i, isI_s, isI_l, isI_t, isS_n, isS_b, isS_i, isS_s, isS_l, isS_t, isL_n, isL_b, isL_i, isL_s, isL_l, isL_t, isT_n, isT_b, isT_i, isT_s, isT_l, isT_t, plc, Sh.pos, Sh.root, vLstO, ots, vRaise]
    exact h2 e _
def sm_obs : SemG := semV fun ds Qd _ => ∃ (s : St) (f : Nat), ds = [s.d, .int f] ∧ s.ok ∧ f ≤ 100000 ∧ Qd (.sh (.tuple [.bool (emp (fin s f).1), .list (zs (fin s f).1.sh)]))
theorem s_obs {ins : List Sl} {Qd : Sl → List Sl → Prop} {Xd : Exn → List Sl → Prop} (hl : ins.length = 2) (h : sm_obs ins Qd Xd) : t_observe sm_ran (enG 2 Qd Xd) (ini 5 ins) := by
  obtain ⟨_, rfl, s, f, rfl, ho, hf, h1⟩ := h
  simp [-Bool.exists_bool, vSeq, vAsg, vV, vMv, vS, vIfS, vOr, vAnd, vNot, vB, vv1, vv2, vv3, Opr.ev, Opr.fin, Opr.sl, Opr.base, Sl.read, Sl.rd, Sl.ra, Sl.get, Sl.isIn, Sl.ot, Ot.rd, Ot.get, gets_lv, leaves_lv, Sh.data, Sh.root, Rs.to, ↓lv_in, -List.map_map, fst_0, fst_s, ini, List.replicate_succ, enG, bTup, bCons, bName, bNil, inAt, vC, vEnd, vBrk, vCnt, vRaise, fLt, fAdd_int, fGt, fGe, fLe, fSub, fMod, fI, fFdv, cPow, fPow, fMin2, fMax2, fInt, fAbs, fNeg, Option.bind, vRet, vSet, vDrp, vCal, agEv, agIn, agIn1, lns_nil, lns_pd, lns_br, lns_ln, bor_nil, bor_pd, bor_ln, bor_br, out_nil, out_pd, out_br, out_ln, lat_nil, lat_pd, lat_br, lat_ln, keep_fd, ex_pair, keepO_sh, lnAtm_no, agOut_no, Sl.atm, atom_i, atom_s, atom_b, atom_n, atom_k, vCons, vNil, vTup, vLst, vIf, vTru, truD, vNotV, vNotT, flat_fd, vAndV, vOrV, fEq_int, fNe_int, fEq_str, fNe_str, fEq_is, fEq_si, vMet, mvEv, Opr.loc, locAt, Ot.at, Ot.put, Nde.set, append_lv, pop_lv, reverse_lv, insert_lv, vLc_eq, vFor_eq, wipeD, vYes, iR1, iL, iK, vAug, fAug_int, slotInt, fLen_list, ML.isNon, fIsN, fNotN, vIxN, ixLoc, kidQ, ixN, os_inj, ix0, ix1, ix2, ix3, ix4, lx0, lx1, lx2, lx3, fLen_tup, xAnd, xNot, xIs, vTry, enX, keepO, Ot.root, Ot.rd, fInt, vTry0, isB_n, isB_b, isB_i, isB_s, isB_l, isB_t, isI_n, isI_b, isI_i, isI_s, isI_l, isI_t, isS_n, isS_b, isS_i, isS_s, isS_l, isS_t, isL_n, isL_b, isL_i, isL_s, isL_l, isL_t, isT_n, isT_b, isT_i, isT_s, isT_l, isT_t, plc, Sh.pos, Sh.root, vLstO, ots, t_observe]
  refine ⟨[s.d, .int f], rfl, s, f, rfl, ho, hf, fun outs => ?_⟩
  simp [-Bool.exists_bool, vSeq, vAsg, vV, vMv, vS, vIfS, vOr, vAnd, vNot, vB, vv1, vv2, vv3, Opr.ev, Opr.fin, Opr.sl, Opr.base, Sl.read, Sl.rd, Sl.ra, Sl.get, Sl.isIn, Sl.ot, Ot.rd, Ot.get, gets_lv, leaves_lv, Sh.data, Sh.root, Rs.to, ↓lv_in, -List.map_map, fst_0, fst_s, ini, List.replicate_succ, enG, bTup, bCons, bName, bNil, inAt, vC, vEnd, vBrk, vCnt, vRaise, fLt, fAdd_int, fGt, fGe, fLe, fSub, fMod, fI, fFdv, cPow, fPow, fMin2, fMax2, fInt, fAbs, fNeg, Option.bind, vRet, vSet, vDrp, vCal, agEv, agIn, agIn1, lns_nil, lns_pd, lns_br, lns_ln, bor_nil, bor_pd, bor_ln, bor_br, out_nil, out_pd, out_br, out_ln, lat_nil, lat_pd, lat_br, lat_ln, keep_fd, ex_pair, keepO_sh, lnAtm_no, agOut_no, Sl.atm, atom_i, atom_s, atom_b, atom_n, atom_k, vCons, vNil, vTup, vLst, vIf, vTru, truD, vNotV, vNotT, flat_fd, vAndV, vOrV, fEq_int, fNe_int, fEq_str, fNe_str, fEq_is, fEq_si, vMet, mvEv, Opr.loc, locAt, Ot.at, Ot.put, Nde.set, append_lv, pop_lv, reverse_lv, insert_lv, vLc_eq, vFor_eq, wipeD, vYes, iR1, iL, iK, vAug, fAug_int, slotInt, fLen_list, ML.isNon, fIsN, fNotN, vIxN, ixLoc, kidQ, ixN, os_inj, ix0, ix1, ix2, ix3, ix4, lx0, lx1, lx2, lx3, fLen_tup, xAnd, xNot, xIs, vTry, enX, keepO, Ot.root, Ot.rd, fInt, vTry0, isB_n, isB_b, isB_i, isB_s, isB_l, isB_t, isI_n, isI_b, isI_i, isI_s, isI_l, isI_t, isS_n, isS_b, isS_i, isS_s, isS_l, isS_t, isL_n, isL_b, isL_i, isL_s, isL_l, isL_t, isT_n, isT_b, isT_i, isT_s, isT_l, isT_t, plc, Sh.pos, Sh.root, vLstO, ots]
  exact h1 _
end LM

/-! ## GK52 -/
set_option Elab.async false
set_option linter.all false
set_option autoImplicit false
set_option maxRecDepth 100000
set_option maxHeartbeats 8000000
namespace K52
open PySem PySem.Spec PyProof.Rows L2 ML
def topS (i : Nat) : Stmt := PySem.Challenge.pw_scribeself_k52_whole_small_steps.main.body.getD i (.Pass ⟨0, 0, 0, 0⟩)
abbrev st_wrapped : Stmt := topS 4
abbrev st_operate : Stmt := topS 7
abbrev st_evaluate : Stmt := topS 8
abbrev st_act : Stmt := topS 9
abbrev st_run : Stmt := topS 10
abbrev st_observe : Stmt := topS 11
abbrev st_ran : Stmt := topS 12
abbrev st__law_numbers : Stmt := topS 14
abbrev st__law_pick : Stmt := topS 15
abbrev st__law_wrap : Stmt := topS 16
abbrev st__law_number : Stmt := topS 17
abbrev st__law_operate : Stmt := topS 18
abbrev st__law_leaf : Stmt := topS 19
abbrev st__law_expression : Stmt := topS 20
abbrev st__law_value : Stmt := topS 21
abbrev st__law_statement : Stmt := topS 22
abbrev st__law_do : Stmt := topS 23
abbrev st__law_same : Stmt := topS 24
abbrev st__law_refused : Stmt := topS 25
abbrev st_law : Stmt := topS 26
def g_SLOTS : D := .int (16)
/-! ### wrapped -/
-- slots: 0:n
abbrev N_wrapped : List Str := ["n"]
abbrev P_wrapped : List Str := ["n"]
theorem sc_wrapped : FnScope N_wrapped P_wrapped (defScope st_wrapped) := ⟨rfl, rfl, rfl, by decide +kernel, rfl, by decide +kernel, by decide +kernel⟩
abbrev t_wrapped  : VSt := LM.t_wrapped 
theorem der_wrapped {P : Program} {w : World} {K : PySem.W.Frag} {mg : Str → Option Value} {base : Heap} {f : Addr}   (cdv : Value) (hcd0 : PySem.W.codeIn K cdv (Str.ofString "wrapped") = true) (A : Around) (outer : List Env) (s : Shared) (H : Hp) (E : XK) (W : Wd) (wx : WX) (hr : Room 0 (A.deeper (envOfC (Str.ofString "wrapped") (defScope st_wrapped) s.heap.objs.size f cdv)))
    (tk : Takes (cxOf (L2.CX P w) P w K mg base N_wrapped (Str.ofString "wrapped") (defScope st_wrapped) f cdv A outer s H E) wx) (pso : PassesOwn (model P w) (A.deeper (envOfC (Str.ofString "wrapped") (defScope st_wrapped) s.heap.objs.size f cdv)) (envOfC (Str.ofString "wrapped") (defScope st_wrapped) s.heap.objs.size f cdv) (cxOf (L2.CX P w) P w K mg base N_wrapped (Str.ofString "wrapped") (defScope st_wrapped) f cdv A outer s H E).xe) : VSs (cxOf (L2.CX P w) P w K mg base N_wrapped (Str.ofString "wrapped") (defScope st_wrapped) f cdv A outer s H E) W wx (defBody st_wrapped) (t_wrapped ) := by
  have nd := sc_wrapped.nd
  have hu := hu64 hr
  have hu1 := hu65 hr
  have hcd := kds_of hcd0
  exact (vss_one (vs_ret (ve_op (m := false) op_sub snd_sub (vo_pd (ve_op (m := false) op_mod snd_mod (vo_pd (ve_op (m := false) op_addV snd_add (vo_pk 0) (vo_pd (ve_int)))) (vo_pd (ve_int)))) (vo_pd (ve_int)))))
/-! ### operate -/
-- slots: 0:name 1:a 2:b
abbrev N_operate : List Str := ["name", "a", "b"]
abbrev P_operate : List Str := ["name", "a", "b"]
theorem sc_operate : FnScope N_operate P_operate (defScope st_operate) := ⟨rfl, rfl, rfl, by decide +kernel, rfl, by decide +kernel, by decide +kernel⟩
abbrev t_operate (s_wrapped : SemG) : VSt := LM.t_operate s_wrapped
theorem der_operate {P : Program} {w : World} {K : PySem.W.Frag} {mg : Str → Option Value} {base : Heap} {f : Addr} (s_wrapped : SemG) (G_wrapped : FnG P w K mg base 1 (Str.ofString "wrapped") 1 s_wrapped) (cdv : Value) (hcd0 : PySem.W.codeIn K cdv (Str.ofString "operate") = true) (A : Around) (outer : List Env) (s : Shared) (H : Hp) (E : XK) (W : Wd) (wx : WX) (hr : Room 1 (A.deeper (envOfC (Str.ofString "operate") (defScope st_operate) s.heap.objs.size f cdv)))
    (tk : Takes (cxOf (L2.CX P w) P w K mg base N_operate (Str.ofString "operate") (defScope st_operate) f cdv A outer s H E) wx) (pso : PassesOwn (model P w) (A.deeper (envOfC (Str.ofString "operate") (defScope st_operate) s.heap.objs.size f cdv)) (envOfC (Str.ofString "operate") (defScope st_operate) s.heap.objs.size f cdv) (cxOf (L2.CX P w) P w K mg base N_operate (Str.ofString "operate") (defScope st_operate) f cdv A outer s H E).xe) : VSs (cxOf (L2.CX P w) P w K mg base N_operate (Str.ofString "operate") (defScope st_operate) f cdv A outer s H E) W wx (defBody st_operate) (t_operate s_wrapped) := by
  have nd := sc_operate.nd
  have hu := hu64 hr
  have hu1 := hu65 hr
  have hcd := kds_of hcd0
  exact (vss_cons (vs_if (vc_cmp (m := true) (op_eqD hu) snd_eq (vo_pk 0) (vo_pd (ve_str)) (nomark _)) (vss_one (vs_ret (ve_cal G_wrapped (hr.mono (by decide)) tk (vg_pd (ve_op (m := false) op_addV snd_add (vo_pk 1) (vo_pk 2)) vg0) rfl (nd_l (l := []) rfl (by decide))))) vss_nil)
    (vss_cons (vs_if (vc_cmp (m := true) (op_eqD hu) snd_eq (vo_pk 0) (vo_pd (ve_str)) (nomark _)) (vss_one (vs_ret (ve_cal G_wrapped (hr.mono (by decide)) tk (vg_pd (ve_op (m := false) op_sub snd_sub (vo_pk 1) (vo_pk 2)) vg0) rfl (nd_l (l := []) rfl (by decide))))) vss_nil)
    (vss_cons (vs_if (vc_cmp (m := true) (op_eqD hu) snd_eq (vo_pk 0) (vo_pd (ve_str)) (nomark _)) (vss_one (vs_ret (ve_cal G_wrapped (hr.mono (by decide)) tk (vg_pd (ve_op (m := false) op_mulV snd_mulV (vo_pk 1) (vo_pk 2)) vg0) rfl (nd_l (l := []) rfl (by decide))))) vss_nil)
    (vss_cons (vs_if (vc_cmp (m := true) (op_eqD hu) snd_eq (vo_pk 0) (vo_pd (ve_str)) (nomark _)) (vss_one (vs_ret (ve_if (vc_cmp (m := false) op_lt snd_lt (vo_pk 1) (vo_pk 2) (nomark _)) (ve_int) (ve_int)))) vss_nil)
    (vss_one (vs_ret (ve_if (vc_cmp (m := true) (op_eqD hu) snd_eq (vo_pk 1) (vo_pk 2) (nomark _)) (ve_int) (ve_int))))))))
/-! ### evaluate -/
-- slots: 0:expression 1:store 2:name
abbrev N_evaluate : List Str := ["expression", "store", "name"]
abbrev P_evaluate : List Str := ["expression", "store"]
theorem sc_evaluate : FnScope N_evaluate P_evaluate (defScope st_evaluate) := ⟨rfl, rfl, rfl, by decide +kernel, rfl, by decide +kernel, by decide +kernel⟩
abbrev t_evaluate (s_evaluate : SemG) (s_operate : SemG) : VSt := LM.t_evaluate s_evaluate s_operate
theorem der_evaluate {P : Program} {w : World} {K : PySem.W.Frag} {mg : Str → Option Value} {base : Heap} {f : Addr} (s_evaluate : SemG) (s_operate : SemG) {k kf : Nat} (hkf : kf ≤ k) (hkc : 2 ≤ k) (G_evaluate : FnG P w K mg base kf (Str.ofString "evaluate") 2 s_evaluate) (G_operate : FnG P w K mg base 2 (Str.ofString "operate") 3 s_operate) (cdv : Value) (hcd0 : PySem.W.codeIn K cdv (Str.ofString "evaluate") = true) (A : Around) (outer : List Env) (s : Shared) (H : Hp) (E : XK) (W : Wd) (wx : WX) (hr : Room k (A.deeper (envOfC (Str.ofString "evaluate") (defScope st_evaluate) s.heap.objs.size f cdv)))
    (tk : Takes (cxOf (L2.CX P w) P w K mg base N_evaluate (Str.ofString "evaluate") (defScope st_evaluate) f cdv A outer s H E) wx) (pso : PassesOwn (model P w) (A.deeper (envOfC (Str.ofString "evaluate") (defScope st_evaluate) s.heap.objs.size f cdv)) (envOfC (Str.ofString "evaluate") (defScope st_evaluate) s.heap.objs.size f cdv) (cxOf (L2.CX P w) P w K mg base N_evaluate (Str.ofString "evaluate") (defScope st_evaluate) f cdv A outer s H E).xe) : VSs (cxOf (L2.CX P w) P w K mg base N_evaluate (Str.ofString "evaluate") (defScope st_evaluate) f cdv A outer s H E) W wx (defBody st_evaluate) (t_evaluate s_evaluate s_operate) := by
  have nd := sc_evaluate.nd
  have hu := hu64 hr
  have hu1 := hu65 hr
  have hcd := kds_of hcd0
  exact (vss_cons (vs_set (i := 2) nd rfl (.inl rfl) (ve_ix (m := false) (ix_V (hu2 hr)) snd_ix (vo_pk 0) (vo_pd (ve_int)) (fun _ _ => rfl)))
    (vss_cons (vs_if (vc_cmp (m := true) (op_eqD hu) snd_eq (vo_pk 2) (vo_pd (ve_str)) (nomark _)) (vss_one (vs_ret (ve_ix (m := false) (ix_V (hu2 hr)) snd_ix (vo_pk 0) (vo_pd (ve_int)) (fun _ _ => rfl)))) vss_nil)
    (vss_cons (vs_if (vc_cmp (m := true) (op_eqD hu) snd_eq (vo_pk 2) (vo_pd (ve_str)) (nomark _)) (vss_one (vs_ret (ve_ix (m := false) (ix_V (hu2 hr)) snd_ix (vo_pk 1) (vo_pd (ve_ix (m := false) (ix_V (hu2 hr)) snd_ix (vo_pk 0) (vo_pd (ve_int)) (fun _ _ => rfl))) (fun _ _ => rfl)))) vss_nil)
    (vss_one (vs_ret (ve_cal G_operate (hr.mono (by omega)) tk (vg_pd (ve_var 2) (vg_pd (ve_cal G_evaluate (hr.mono (by omega)) tk (vg_pd (ve_ix (m := false) (ix_V (hu2 hr)) snd_ix (vo_pk 0) (vo_pd (ve_int)) (fun _ _ => rfl)) (vg_br (vo_pk 1) vg0)) rfl (nd_l (l := []) rfl (by decide))) (vg_pd (ve_cal G_evaluate (hr.mono (by omega)) tk (vg_pd (ve_ix (m := false) (ix_V (hu2 hr)) snd_ix (vo_pk 0) (vo_pd (ve_int)) (fun _ _ => rfl)) (vg_br (vo_pk 1) vg0)) rfl (nd_l (l := []) rfl (by decide))) vg0))) rfl (nd_l (l := []) rfl (by decide))))))))
/-! ### act -/
-- slots: 0:todo 1:store 2:shown 3:item 4:kind
abbrev N_act : List Str := ["todo", "store", "shown", "item", "kind"]
abbrev P_act : List Str := ["todo", "store", "shown"]
theorem sc_act : FnScope N_act P_act (defScope st_act) := ⟨rfl, rfl, rfl, by decide +kernel, rfl, by decide +kernel, by decide +kernel⟩
abbrev t_act (s_evaluate : SemG) : VSt := LM.t_act s_evaluate
theorem der_act {P : Program} {w : World} {K : PySem.W.Frag} {mg : Str → Option Value} {base : Heap} {f : Addr} (s_evaluate : SemG) (G_evaluate : FnG P w K mg base 6 (Str.ofString "evaluate") 2 s_evaluate) (cdv : Value) (hcd0 : PySem.W.codeIn K cdv (Str.ofString "act") = true) (A : Around) (outer : List Env) (s : Shared) (H : Hp) (E : XK) (W : Wd) (wx : WX) (hr : Room 6 (A.deeper (envOfC (Str.ofString "act") (defScope st_act) s.heap.objs.size f cdv)))
    (tk : Takes (cxOf (L2.CX P w) P w K mg base N_act (Str.ofString "act") (defScope st_act) f cdv A outer s H E) wx) (pso : PassesOwn (model P w) (A.deeper (envOfC (Str.ofString "act") (defScope st_act) s.heap.objs.size f cdv)) (envOfC (Str.ofString "act") (defScope st_act) s.heap.objs.size f cdv) (cxOf (L2.CX P w) P w K mg base N_act (Str.ofString "act") (defScope st_act) f cdv A outer s H E).xe) : VSs (cxOf (L2.CX P w) P w K mg base N_act (Str.ofString "act") (defScope st_act) f cdv A outer s H E) W wx (defBody st_act) (t_act s_evaluate) := by
  have nd := sc_act.nd
  have hu := hu64 hr
  have hu1 := hu65 hr
  have hcd := kds_of hcd0
  exact (vss_cons (vs_set (i := 3) nd rfl (.inl rfl) (ve_met0 PySem.F.slot_list_pop PySem.F.type_list_pop mt_pop sndm_pop fit_pop (vo_pk 0)))
    (vss_cons (vs_set (i := 4) nd rfl (.inl rfl) (ve_ix (m := false) (ix_V (hu2 hr)) snd_ix (vo_pk 3) (vo_pd (ve_int)) (fun _ _ => rfl)))
    (vss_one (vs_if (vc_cmp (m := true) (op_eqD hu) snd_eq (vo_pk 4) (vo_pd (ve_str)) (nomark _)) (vss_one (vs_put (hu2 hr) (ve_sh (ve_cal G_evaluate (hr.mono (by decide)) tk (vg_pd (ve_ix (m := false) (ix_V (hu2 hr)) snd_ix (vo_pk 3) (vo_pd (ve_int)) (fun _ _ => rfl)) (vg_br (vo_pk 1) vg0)) rfl (nd_l (l := []) rfl (by decide)))) (vo_pk 1) (ve_ix (m := false) (ix_V (hu2 hr)) snd_ix (vo_pk 3) (vo_pd (ve_int)) (fun _ _ => rfl)))) (vss_one (vs_if (vc_cmp (m := true) (op_eqD hu) snd_eq (vo_pk 4) (vo_pd (ve_str)) (nomark _)) (vss_one (vs_expr (ve_met PySem.F.slot_list_append PySem.F.type_list_append mt_append sndm_append fit_append (vo_pk 2) (vm1 (ve_sh (ve_cal G_evaluate (hr.mono (by decide)) tk (vg_pd (ve_ix (m := false) (ix_V (hu2 hr)) snd_ix (vo_pk 3) (vo_pd (ve_int)) (fun _ _ => rfl)) (vg_br (vo_pk 1) vg0)) rfl (nd_l (l := []) rfl (by decide)))) vm0)))) (vss_one (vs_if (vc_cmp (m := true) (op_eqD hu) snd_eq (vo_pk 4) (vo_pd (ve_str)) (nomark _)) (vss_one (vs_expr (ve_met PySem.F.slot_list_extend PySem.F.type_list_extend mt_extend sndm_extend fit_extend (vo_pk 0) (vm1 (ve_lst (va_cons (ve_ix (m := false) (ix_V (hu2 hr)) snd_ix (vo_pk 3) (vo_pd (ve_int)) (fun _ _ => rfl)) (va_cons (ve_ix (m := false) (ix_V (hu2 hr)) snd_ix (vo_pk 3) (vo_pd (ve_int)) (fun _ _ => rfl)) va_nil)) (by decide)) vm0)))) (vss_one (vs_if (vc_cmp (m := true) (op_eqD hu) snd_eq (vo_pk 4) (vo_pd (ve_str)) (nomark _)) (vss_one (vs_expr (ve_met PySem.F.slot_list_append PySem.F.type_list_append mt_append sndm_append fit_append (vo_pk 0) (vm1 (ve_sh (ve_if (vc_cmp (m := true) (op_eqD hu) snd_eq (vo_pd (ve_cal G_evaluate (hr.mono (by decide)) tk (vg_pd (ve_ix (m := false) (ix_V (hu2 hr)) snd_ix (vo_pk 3) (vo_pd (ve_int)) (fun _ _ => rfl)) (vg_br (vo_pk 1) vg0)) rfl (nd_l (l := []) rfl (by decide)))) (vo_pd (ve_int)) (nomark _)) (ve_ix (m := false) (ix_V (hu2 hr)) snd_ix (vo_pk 3) (vo_pd (ve_int)) (fun _ _ => rfl)) (ve_ix (m := false) (ix_V (hu2 hr)) snd_ix (vo_pk 3) (vo_pd (ve_int)) (fun _ _ => rfl)))) vm0)))) (vss_one (vs_if (vc_cmp (m := true) (op_eqD hu) snd_eq (vo_pk 4) (vo_pd (ve_str)) (nomark _)) (vss_one (vs_expr (ve_met PySem.F.slot_list_append PySem.F.type_list_append mt_append sndm_append fit_append (vo_pk 0) (vm1 (ve_sh (ve_tup (va_cons (ve_str) (va_cons (ve_ix (m := false) (ix_V (hu2 hr)) snd_ix (vo_pk 3) (vo_pd (ve_int)) (fun _ _ => rfl)) (va_cons (ve_ix (m := false) (ix_V (hu2 hr)) snd_ix (vo_pk 3) (vo_pd (ve_int)) (fun _ _ => rfl)) va_nil))) (by decide))) vm0)))) (vss_one (vs_if (vc_w (vw_and (vc_cmp (m := true) (op_eqD hu) snd_eq (vo_pk 4) (vo_pd (ve_str)) (nomark _)) (vw_and1 (vc_cmp (m := true) (op_neD hu) snd_ne (vo_pd (ve_cal G_evaluate (hr.mono (by decide)) tk (vg_pd (ve_ix (m := false) (ix_V (hu2 hr)) snd_ix (vo_pk 3) (vo_pd (ve_int)) (fun _ _ => rfl)) (vg_br (vo_pk 1) vg0)) rfl (nd_l (l := []) rfl (by decide)))) (vo_pd (ve_int)) (nomark _))))) (vss_one (vs_expr (ve_met PySem.F.slot_list_extend PySem.F.type_list_extend mt_extend sndm_extend fit_extend (vo_pk 0) (vm1 (ve_lst (va_cons (ve_var 3) (va_cons (ve_ix (m := false) (ix_V (hu2 hr)) snd_ix (vo_pk 3) (vo_pd (ve_int)) (fun _ _ => rfl)) va_nil)) (by decide)) vm0)))) vss_nil))))))))))))))
/-! ### ran -/
-- slots: 0:statement 1:fuel 2:todo 3:store 4:shown 5:steps
abbrev N_ran : List Str := ["statement", "fuel", "todo", "store", "shown", "steps"]
abbrev P_ran : List Str := ["statement", "fuel"]
theorem sc_ran : FnScope N_ran P_ran (defScope st_ran) := ⟨rfl, rfl, rfl, by decide +kernel, rfl, by decide +kernel, by decide +kernel⟩
abbrev t_ran (s_act : SemG) : VSt := LM.t_ran s_act
theorem der_ran {P : Program} {w : World} {K : PySem.W.Frag} {mg : Str → Option Value} {base : Heap} {f : Addr} (s_act : SemG) (G_act : FnG P w K mg base 7 (Str.ofString "act") 3 s_act) (GC_SLOTS : GlC K mg (Str.ofString "SLOTS") g_SLOTS) (cdv : Value) (hcd0 : PySem.W.codeIn K cdv (Str.ofString "ran") = true) (A : Around) (outer : List Env) (s : Shared) (H : Hp) (E : XK) (W : Wd) (wx : WX) (hr : Room 7 (A.deeper (envOfC (Str.ofString "ran") (defScope st_ran) s.heap.objs.size f cdv)))
    (tk : Takes (cxOf (L2.CX P w) P w K mg base N_ran (Str.ofString "ran") (defScope st_ran) f cdv A outer s H E) wx) (pso : PassesOwn (model P w) (A.deeper (envOfC (Str.ofString "ran") (defScope st_ran) s.heap.objs.size f cdv)) (envOfC (Str.ofString "ran") (defScope st_ran) s.heap.objs.size f cdv) (cxOf (L2.CX P w) P w K mg base N_ran (Str.ofString "ran") (defScope st_ran) f cdv A outer s H E).xe) : VSs (cxOf (L2.CX P w) P w K mg base N_ran (Str.ofString "ran") (defScope st_ran) f cdv A outer s H E) W wx (defBody st_ran) (t_ran s_act) := by
  have nd := sc_ran.nd
  have hu := hu64 hr
  have hu1 := hu65 hr
  have hcd := kds_of hcd0
  exact (vss_cons (vs_set (i := 2) nd rfl (.inl rfl) (ve_lst (va_cons (ve_var 0) va_nil) (by decide)))
    (vss_cons (vs_set (i := 3) nd rfl (.inl rfl) (ve_op (m := false) op_mulV snd_mulV (vo_pd (ve_lst (va_cons (ve_int) va_nil) (by decide))) (vo_pd (ve_gl GC_SLOTS))))
    (vss_cons (vs_set (i := 4) nd rfl (.inl rfl) (ve_lst va_nil (by decide)))
    (vss_cons (vs_set (i := 5) nd rfl (.inl rfl) (ve_int))
    (vss_cons (vs_while pso (vc_w (vw_and (vc_tru (vo_pk 2)) (vw_and1 (vc_cmp (m := false) op_lt snd_lt (vo_pk 5) (vo_pk 1) (nomark _))))) (vss_cons (vs_expr (ve_cal G_act (hr.mono (by decide)) tk (vg_ln 2 (vg_ln 3 (vg_ln 4 vg0))) rfl (nd_l (l := [2, 3, 4]) rfl (by decide))))
    (vss_one (vs_aug (i := 5) nd rfl (.inl rfl) (vo_pd (ve_int)) ip_addV snd_aug))))
    (vss_one (vs_ret (ve_tup (va_cons (ve_notT (vo_pk 2)) (va_cons (ve_var 4) (va_cons (ve_var 3) (va_cons (ve_var 5) va_nil)))) (by decide)))))))))
/-! ### run -/
-- slots: 0:statement 1:fuel 2:ended 3:shown 4:store 5:steps
abbrev N_run : List Str := ["statement", "fuel", "ended", "shown", "store", "steps"]
abbrev P_run : List Str := ["statement", "fuel"]
theorem sc_run : FnScope N_run P_run (defScope st_run) := ⟨rfl, rfl, rfl, by decide +kernel, rfl, by decide +kernel, by decide +kernel⟩
abbrev t_run (s_ran : SemG) (c_FuelError : Addr) : VSt := LM.t_run s_ran c_FuelError
theorem der_run {P : Program} {w : World} {K : PySem.W.Frag} {mg : Str → Option Value} {base : Heap} {f : Addr} (s_ran : SemG) (c_FuelError : Addr) (G_ran : FnG P w K mg base 8 (Str.ofString "ran") 2 s_ran) (E_FuelError : ExF K mg (Str.ofString "FuelError") c_FuelError) (cdv : Value) (hcd0 : PySem.W.codeIn K cdv (Str.ofString "run") = true) (A : Around) (outer : List Env) (s : Shared) (H : Hp) (E : XK) (W : Wd) (wx : WX) (hr : Room 8 (A.deeper (envOfC (Str.ofString "run") (defScope st_run) s.heap.objs.size f cdv)))
    (tk : Takes (cxOf (L2.CX P w) P w K mg base N_run (Str.ofString "run") (defScope st_run) f cdv A outer s H E) wx) (pso : PassesOwn (model P w) (A.deeper (envOfC (Str.ofString "run") (defScope st_run) s.heap.objs.size f cdv)) (envOfC (Str.ofString "run") (defScope st_run) s.heap.objs.size f cdv) (cxOf (L2.CX P w) P w K mg base N_run (Str.ofString "run") (defScope st_run) f cdv A outer s H E).xe) : VSs (cxOf (L2.CX P w) P w K mg base N_run (Str.ofString "run") (defScope st_run) f cdv A outer s H E) W wx (defBody st_run) (t_run s_ran c_FuelError) := by
  have nd := sc_run.nd
  have hu := hu64 hr
  have hu1 := hu65 hr
  have hcd := kds_of hcd0
  exact (vss_cons (vs_asg (ve_cal G_ran (hr.mono (by decide)) tk (vg_pd (ve_var 0) (vg_pd (ve_var 1) vg0)) rfl (nd_l (l := []) rfl (by decide))) (vg_tup (n := 4) rfl (vgs_cons (vg_name (i := 2) nd rfl (.inl rfl)) (vgs_cons (vg_name (i := 3) nd rfl (.inl rfl)) (vgs_cons (vg_name (i := 4) nd rfl (.inl rfl)) (vgs_cons (vg_name (i := 5) nd rfl (.inl rfl)) (vgs_nil (ws := []))))))))
    (vss_cons (vs_if (vc_not (vc_tru (vo_pk 2))) (vss_one (vs_raise PySem.F.excBase_ValueError E_FuelError.q E_FuelError.g E_FuelError.k (raises_own E_FuelError.r1 E_FuelError.r2) tk rfl)) vss_nil)
    (vss_one (vs_ret (ve_tup (va_cons (ve_var 3) (va_cons (ve_var 4) (va_cons (ve_var 5) va_nil))) (by decide))))))
/-! ### observe -/
-- slots: 0:statement 1:fuel 2:ended 3:shown 4:_
abbrev N_observe : List Str := ["statement", "fuel", "ended", "shown", "_"]
abbrev P_observe : List Str := ["statement", "fuel"]
theorem sc_observe : FnScope N_observe P_observe (defScope st_observe) := ⟨rfl, rfl, rfl, by decide +kernel, rfl, by decide +kernel, by decide +kernel⟩
abbrev t_observe (s_ran : SemG) : VSt := LM.t_observe s_ran
theorem der_observe {P : Program} {w : World} {K : PySem.W.Frag} {mg : Str → Option Value} {base : Heap} {f : Addr} (s_ran : SemG) (G_ran : FnG P w K mg base 8 (Str.ofString "ran") 2 s_ran) (cdv : Value) (hcd0 : PySem.W.codeIn K cdv (Str.ofString "observe") = true) (A : Around) (outer : List Env) (s : Shared) (H : Hp) (E : XK) (W : Wd) (wx : WX) (hr : Room 8 (A.deeper (envOfC (Str.ofString "observe") (defScope st_observe) s.heap.objs.size f cdv)))
    (tk : Takes (cxOf (L2.CX P w) P w K mg base N_observe (Str.ofString "observe") (defScope st_observe) f cdv A outer s H E) wx) (pso : PassesOwn (model P w) (A.deeper (envOfC (Str.ofString "observe") (defScope st_observe) s.heap.objs.size f cdv)) (envOfC (Str.ofString "observe") (defScope st_observe) s.heap.objs.size f cdv) (cxOf (L2.CX P w) P w K mg base N_observe (Str.ofString "observe") (defScope st_observe) f cdv A outer s H E).xe) : VSs (cxOf (L2.CX P w) P w K mg base N_observe (Str.ofString "observe") (defScope st_observe) f cdv A outer s H E) W wx (defBody st_observe) (t_observe s_ran) := by
  have nd := sc_observe.nd
  have hu := hu64 hr
  have hu1 := hu65 hr
  have hcd := kds_of hcd0
  exact (vss_cons (vs_asg (ve_cal G_ran (hr.mono (by decide)) tk (vg_pd (ve_var 0) (vg_pd (ve_var 1) vg0)) rfl (nd_l (l := []) rfl (by decide))) (vg_tup (n := 4) rfl (vgs_cons (vg_name (i := 2) nd rfl (.inl rfl)) (vgs_cons (vg_name (i := 3) nd rfl (.inl rfl)) (vgs_cons (vg_name (i := 4) nd rfl (.inl rfl)) (vgs_cons (vg_name (i := 4) nd rfl (.inl rfl)) (vgs_nil (ws := []))))))))
    (vss_one (vs_ret (ve_tup (va_cons (ve_var 2) (va_cons (ve_var 3) va_nil)) (by decide)))))
/-! ### _law_numbers -/
-- slots: 0:script 1:row 2:cell 3:k 4:seed
abbrev N__law_numbers : List Str := ["script", "row", "cell", "k", "seed"]
abbrev P__law_numbers : List Str := ["script"]
theorem sc__law_numbers : FnScope N__law_numbers P__law_numbers (defScope st__law_numbers) := ⟨rfl, rfl, rfl, by decide +kernel, rfl, by decide +kernel, by decide +kernel⟩
abbrev t__law_numbers  : VSt := LP.t__law_numbers 
theorem der__law_numbers {P : Program} {w : World} {K : PySem.W.Frag} {mg : Str → Option Value} {base : Heap} {f : Addr}  (m_int : mg (Str.ofString "int") = none) (m_range : mg (Str.ofString "range") = none) (cdv : Value) (hcd0 : PySem.W.codeIn K cdv (Str.ofString "_law_numbers") = true) (A : Around) (outer : List Env) (s : Shared) (H : Hp) (E : XK) (W : Wd) (wx : WX) (hr : Room 0 (A.deeper (envOfC (Str.ofString "_law_numbers") (defScope st__law_numbers) s.heap.objs.size f cdv)))
    (tk : Takes (cxOf (L2.CX P w) P w K mg base N__law_numbers (Str.ofString "_law_numbers") (defScope st__law_numbers) f cdv A outer s H E) wx) (pso : PassesOwn (model P w) (A.deeper (envOfC (Str.ofString "_law_numbers") (defScope st__law_numbers) s.heap.objs.size f cdv)) (envOfC (Str.ofString "_law_numbers") (defScope st__law_numbers) s.heap.objs.size f cdv) (cxOf (L2.CX P w) P w K mg base N__law_numbers (Str.ofString "_law_numbers") (defScope st__law_numbers) f cdv A outer s H E).xe) : VSs (cxOf (L2.CX P w) P w K mg base N__law_numbers (Str.ofString "_law_numbers") (defScope st__law_numbers) f cdv A outer s H E) W wx (defBody st__law_numbers) (t__law_numbers ) := by
  have nd := sc__law_numbers.nd
  have hu := hu64 hr
  have hu1 := hu65 hr
  have hcd := kds_of hcd0
  exact (vss_cons (vs_set (i := 1) nd rfl (.inl rfl) (ve_lst va_nil (by decide)))
    (vss_cons (vs_for pso rfl (vi_list (ve_slU (vo_pk 0) (vo_pd (ve_int)))) (vg_name (i := 2) nd rfl (.inl rfl)) (vss_one (vs_if (vc_cmp (m := false) op_ge snd_ge (vo_pk 2) (vo_pd (ve_op (m := false) op_pow snd_pow (vo_pd (ve_int)) (vo_pd (ve_int)))) (nomark _)) (vss_one (vs_for pso rfl (vi_r1 m_range (ve_int)) (vg_name (i := 3) nd rfl (.inl rfl)) (vss_one (vs_if (vc_cmp (m := false) op_gt snd_gt (vo_pk 2) (vo_pd (ve_int)) (nomark _)) (vss_cons (vs_expr (ve_met PySem.F.slot_list_append PySem.F.type_list_append mt_append sndm_append fit_append (vo_pk 1) (vm1 (ve_sh (ve_op (m := false) op_mod snd_mod (vo_pd (ve_t1 (m := false) call_int1 snd_int m_int (by decide +kernel) (vo_pk 2))) (vo_pd (ve_int)))) vm0)))
    (vss_one (vs_set (i := 2) nd rfl (.inl rfl) (ve_op (m := false) op_fdivW snd_fdv (vo_pk 2) (vo_pd (ve_int)))))) vss_nil)))) (vss_cons (vs_set (i := 4) nd rfl (.inl rfl) (ve_op (m := false) op_mod snd_mod (vo_pd (ve_t1 (m := false) call_int1 snd_int m_int (by decide +kernel) (vo_pd (ve_op (m := false) op_addV snd_add (vo_pd (ve_op (m := false) op_mulV snd_mulV (vo_pk 2) (vo_pd (ve_int)))) (vo_pd (ve_int)))))) (vo_pd (ve_int))))
    (vss_one (vs_for pso rfl (vi_r1 m_range (ve_int)) (vg_name (i := 3) nd rfl (.inl rfl)) (vss_cons (vs_set (i := 4) nd rfl (.inl rfl) (ve_op (m := false) op_mod snd_mod (vo_pd (ve_t1 (m := false) call_int1 snd_int m_int (by decide +kernel) (vo_pd (ve_op (m := false) op_addV snd_add (vo_pd (ve_op (m := false) op_addV snd_add (vo_pd (ve_op (m := false) op_mulV snd_mulV (vo_pk 4) (vo_pd (ve_int)))) (vo_pd (ve_op (m := false) op_mulV snd_mulV (vo_pd (ve_int)) (vo_pk 3))))) (vo_pd (ve_int)))))) (vo_pd (ve_int))))
    (vss_one (vs_expr (ve_met PySem.F.slot_list_append PySem.F.type_list_append mt_append sndm_append fit_append (vo_pk 1) (vm1 (ve_sh (ve_op (m := false) op_mod snd_mod (vo_pd (ve_t1 (m := false) call_int1 snd_int m_int (by decide +kernel) (vo_pd (ve_op (m := false) op_addV snd_add (vo_pd (ve_op (m := false) op_mulV snd_mulV (vo_pd (ve_op (m := false) op_mod snd_mod (vo_pd (ve_t1 (m := false) call_int1 snd_int m_int (by decide +kernel) (vo_pk 4))) (vo_pd (ve_int)))) (vo_pd (ve_int)))) (vo_pd (ve_op (m := false) op_fdivW snd_fdv (vo_pk 4) (vo_pd (ve_int)))))))) (vo_pd (ve_int)))) vm0)))))))))))
    (vss_cons (vs_set (i := 1) nd rfl (.inl rfl) (ve_slU (vo_pk 1) (vo_pd (ve_int))))
    (vss_cons (vs_expr (ve_met0 PySem.F.slot_list_reverse PySem.F.type_list_reverse mt_reverse sndm_reverse fit_reverse (vo_pk 1)))
    (vss_one (vs_ret (ve_mv 1)))))))
/-! ### _law_pick -/
-- slots: 0:feed 1:many
abbrev N__law_pick : List Str := ["feed", "many"]
abbrev P__law_pick : List Str := ["feed", "many"]
theorem sc__law_pick : FnScope N__law_pick P__law_pick (defScope st__law_pick) := ⟨rfl, rfl, rfl, by decide +kernel, rfl, by decide +kernel, by decide +kernel⟩
abbrev t__law_pick  : VSt := LP.t__law_pick 
theorem der__law_pick {P : Program} {w : World} {K : PySem.W.Frag} {mg : Str → Option Value} {base : Heap} {f : Addr}  (m_int : mg (Str.ofString "int") = none) (m_len : mg (Str.ofString "len") = none) (cdv : Value) (hcd0 : PySem.W.codeIn K cdv (Str.ofString "_law_pick") = true) (A : Around) (outer : List Env) (s : Shared) (H : Hp) (E : XK) (W : Wd) (wx : WX) (hr : Room 0 (A.deeper (envOfC (Str.ofString "_law_pick") (defScope st__law_pick) s.heap.objs.size f cdv)))
    (tk : Takes (cxOf (L2.CX P w) P w K mg base N__law_pick (Str.ofString "_law_pick") (defScope st__law_pick) f cdv A outer s H E) wx) (pso : PassesOwn (model P w) (A.deeper (envOfC (Str.ofString "_law_pick") (defScope st__law_pick) s.heap.objs.size f cdv)) (envOfC (Str.ofString "_law_pick") (defScope st__law_pick) s.heap.objs.size f cdv) (cxOf (L2.CX P w) P w K mg base N__law_pick (Str.ofString "_law_pick") (defScope st__law_pick) f cdv A outer s H E).xe) : VSs (cxOf (L2.CX P w) P w K mg base N__law_pick (Str.ofString "_law_pick") (defScope st__law_pick) f cdv A outer s H E) W wx (defBody st__law_pick) (t__law_pick ) := by
  have nd := sc__law_pick.nd
  have hu := hu64 hr
  have hu1 := hu65 hr
  have hcd := kds_of hcd0
  exact (vss_cons (vs_if (vc_cmp (m := true) (op_eqD hu) snd_eq (vo_pd (ve_b1 (m := true) call_lenV snd_len m_len PySem.boot_len (vo_pk 0))) (vo_pd (ve_int)) (nomark _)) (vss_one (vs_ret (ve_int))) vss_nil)
    (vss_one (vs_ret (ve_op (m := false) op_mod snd_mod (vo_pd (ve_t1 (m := false) call_int1 snd_int m_int (by decide +kernel) (vo_pd (ve_met0 PySem.F.slot_list_pop PySem.F.type_list_pop mt_pop sndm_pop fit_pop (vo_pk 0))))) (vo_pk 1)))))
/-! ### _law_wrap -/
-- slots: 0:number
abbrev N__law_wrap : List Str := ["number"]
abbrev P__law_wrap : List Str := ["number"]
theorem sc__law_wrap : FnScope N__law_wrap P__law_wrap (defScope st__law_wrap) := ⟨rfl, rfl, rfl, by decide +kernel, rfl, by decide +kernel, by decide +kernel⟩
abbrev t__law_wrap  : VSt := LP.t__law_wrap 
theorem der__law_wrap {P : Program} {w : World} {K : PySem.W.Frag} {mg : Str → Option Value} {base : Heap} {f : Addr}  (m_int : mg (Str.ofString "int") = none) (cdv : Value) (hcd0 : PySem.W.codeIn K cdv (Str.ofString "_law_wrap") = true) (A : Around) (outer : List Env) (s : Shared) (H : Hp) (E : XK) (W : Wd) (wx : WX) (hr : Room 0 (A.deeper (envOfC (Str.ofString "_law_wrap") (defScope st__law_wrap) s.heap.objs.size f cdv)))
    (tk : Takes (cxOf (L2.CX P w) P w K mg base N__law_wrap (Str.ofString "_law_wrap") (defScope st__law_wrap) f cdv A outer s H E) wx) (pso : PassesOwn (model P w) (A.deeper (envOfC (Str.ofString "_law_wrap") (defScope st__law_wrap) s.heap.objs.size f cdv)) (envOfC (Str.ofString "_law_wrap") (defScope st__law_wrap) s.heap.objs.size f cdv) (cxOf (L2.CX P w) P w K mg base N__law_wrap (Str.ofString "_law_wrap") (defScope st__law_wrap) f cdv A outer s H E).xe) : VSs (cxOf (L2.CX P w) P w K mg base N__law_wrap (Str.ofString "_law_wrap") (defScope st__law_wrap) f cdv A outer s H E) W wx (defBody st__law_wrap) (t__law_wrap ) := by
  have nd := sc__law_wrap.nd
  have hu := hu64 hr
  have hu1 := hu65 hr
  have hcd := kds_of hcd0
  exact (vss_one (vs_ret (ve_op (m := false) op_sub snd_sub (vo_pd (ve_op (m := false) op_mod snd_mod (vo_pd (ve_t1 (m := false) call_int1 snd_int m_int (by decide +kernel) (vo_pd (ve_op (m := false) op_addV snd_add (vo_pk 0) (vo_pd (ve_int)))))) (vo_pd (ve_int)))) (vo_pd (ve_int)))))
/-! ### _law_number -/
-- slots: 0:feed 1:kind 2:edges 3:number
abbrev N__law_number : List Str := ["feed", "kind", "edges", "number"]
abbrev P__law_number : List Str := ["feed"]
theorem sc__law_number : FnScope N__law_number P__law_number (defScope st__law_number) := ⟨rfl, rfl, rfl, by decide +kernel, rfl, by decide +kernel, by decide +kernel⟩
abbrev t__law_number (s__law_pick : SemG) (s__law_wrap : SemG) : VSt := LP.t__law_number s__law_pick s__law_wrap
theorem der__law_number {P : Program} {w : World} {K : PySem.W.Frag} {mg : Str → Option Value} {base : Heap} {f : Addr} (s__law_pick : SemG) (s__law_wrap : SemG) (G__law_pick : FnG P w K mg base 1 (Str.ofString "_law_pick") 2 s__law_pick) (G__law_wrap : FnG P w K mg base 1 (Str.ofString "_law_wrap") 1 s__law_wrap) (cdv : Value) (hcd0 : PySem.W.codeIn K cdv (Str.ofString "_law_number") = true) (A : Around) (outer : List Env) (s : Shared) (H : Hp) (E : XK) (W : Wd) (wx : WX) (hr : Room 1 (A.deeper (envOfC (Str.ofString "_law_number") (defScope st__law_number) s.heap.objs.size f cdv)))
    (tk : Takes (cxOf (L2.CX P w) P w K mg base N__law_number (Str.ofString "_law_number") (defScope st__law_number) f cdv A outer s H E) wx) (pso : PassesOwn (model P w) (A.deeper (envOfC (Str.ofString "_law_number") (defScope st__law_number) s.heap.objs.size f cdv)) (envOfC (Str.ofString "_law_number") (defScope st__law_number) s.heap.objs.size f cdv) (cxOf (L2.CX P w) P w K mg base N__law_number (Str.ofString "_law_number") (defScope st__law_number) f cdv A outer s H E).xe) : VSs (cxOf (L2.CX P w) P w K mg base N__law_number (Str.ofString "_law_number") (defScope st__law_number) f cdv A outer s H E) W wx (defBody st__law_number) (t__law_number s__law_pick s__law_wrap) := by
  have nd := sc__law_number.nd
  have hu := hu64 hr
  have hu1 := hu65 hr
  have hcd := kds_of hcd0
  exact (vss_cons (vs_set (i := 1) nd rfl (.inl rfl) (ve_cal G__law_pick (hr.mono (by decide)) tk (vg_ln 0 (vg_pd (ve_int) vg0)) rfl (nd_l (l := [0]) rfl (by decide))))
    (vss_cons (vs_if (vc_cmp (m := true) (op_eqD hu) snd_eq (vo_pk 1) (vo_pd (ve_int)) (nomark _)) (vss_one (vs_ret (ve_op (m := false) op_sub snd_sub (vo_pd (ve_cal G__law_pick (hr.mono (by decide)) tk (vg_ln 0 (vg_pd (ve_int) vg0)) rfl (nd_l (l := [0]) rfl (by decide)))) (vo_pd (ve_int))))) vss_nil)
    (vss_cons (vs_if (vc_cmp (m := true) (op_eqD hu) snd_eq (vo_pk 1) (vo_pd (ve_int)) (nomark _)) (vss_cons (vs_set (i := 2) nd rfl (.inl rfl) (ve_lst (va_cons (ve_int) (va_cons (ve_int) (va_cons (ve_un (m := false) un_neg snd_neg (vo_pd (ve_int))) (va_cons (ve_int) (va_cons (ve_un (m := false) un_neg snd_neg (vo_pd (ve_int))) (va_cons (ve_int) (va_cons (ve_int) (va_cons (ve_un (m := false) un_neg snd_neg (vo_pd (ve_int))) (va_cons (ve_un (m := false) un_neg snd_neg (vo_pd (ve_int))) (va_cons (ve_int) va_nil)))))))))) (by decide)))
    (vss_one (vs_ret (ve_ix (m := false) (ix_V (hu2 hr)) snd_ix (vo_pk 2) (vo_pd (ve_cal G__law_pick (hr.mono (by decide)) tk (vg_ln 0 (vg_pd (ve_int) vg0)) rfl (nd_l (l := [0]) rfl (by decide)))) (fun _ _ => rfl))))) vss_nil)
    (vss_cons (vs_set (i := 3) nd rfl (.inl rfl) (ve_op (m := false) op_addV snd_add (vo_pd (ve_cal G__law_pick (hr.mono (by decide)) tk (vg_ln 0 (vg_pd (ve_int) vg0)) rfl (nd_l (l := [0]) rfl (by decide)))) (vo_pd (ve_op (m := false) op_mulV snd_mulV (vo_pd (ve_int)) (vo_pd (ve_cal G__law_pick (hr.mono (by decide)) tk (vg_ln 0 (vg_pd (ve_int) vg0)) rfl (nd_l (l := [0]) rfl (by decide))))))))
    (vss_one (vs_ret (ve_cal G__law_wrap (hr.mono (by decide)) tk (vg_pd (ve_op (m := false) op_addV snd_add (vo_pk 3) (vo_pd (ve_op (m := false) op_mulV snd_mulV (vo_pd (ve_op (m := false) op_pow snd_pow (vo_pd (ve_int)) (vo_pd (ve_int)))) (vo_pd (ve_op (m := false) op_addV snd_add (vo_pd (ve_cal G__law_pick (hr.mono (by decide)) tk (vg_ln 0 (vg_pd (ve_int) vg0)) rfl (nd_l (l := [0]) rfl (by decide)))) (vo_pd (ve_op (m := false) op_mulV snd_mulV (vo_pd (ve_int)) (vo_pd (ve_cal G__law_pick (hr.mono (by decide)) tk (vg_ln 0 (vg_pd (ve_int) vg0)) rfl (nd_l (l := [0]) rfl (by decide))))))))))) vg0) rfl (nd_l (l := []) rfl (by decide)))))))))
/-! ### _law_operate -/
-- slots: 0:name 1:a 2:b
abbrev N__law_operate : List Str := ["name", "a", "b"]
abbrev P__law_operate : List Str := ["name", "a", "b"]
theorem sc__law_operate : FnScope N__law_operate P__law_operate (defScope st__law_operate) := ⟨rfl, rfl, rfl, by decide +kernel, rfl, by decide +kernel, by decide +kernel⟩
def b4__law_operate (s__law_wrap : SemG) : VSt :=
  (vRet (v1 fInt (.pd (w2 fEq (.pk 1) (.pk 2)))))
def b3__law_operate (s__law_wrap : SemG) : VSt :=
  (vSeq (vIfS (vB (w2 fEq (.pk 0) (.pd (vC (.str (Str.ofString "less")))))) (vRet (v1 fInt (.pd (v2 fLt (.pk 1) (.pk 2))))) vEnd)
    (b4__law_operate s__law_wrap))
def b2__law_operate (s__law_wrap : SemG) : VSt :=
  (vSeq (vIfS (vB (w2 fEq (.pk 0) (.pd (vC (.str (Str.ofString "mul")))))) (vRet (vCal s__law_wrap [.pd (v2 fMulV (.pk 1) (.pk 2))])) vEnd)
    (b3__law_operate s__law_wrap))
def b1__law_operate (s__law_wrap : SemG) : VSt :=
  (vSeq (vIfS (vB (w2 fEq (.pk 0) (.pd (vC (.str (Str.ofString "sub")))))) (vRet (vCal s__law_wrap [.pd (v2 fSub (.pk 1) (.pk 2))])) vEnd)
    (b2__law_operate s__law_wrap))
def t__law_operate (s__law_wrap : SemG) : VSt :=
  (vSeq (vIfS (vB (w2 fEq (.pk 0) (.pd (vC (.str (Str.ofString "add")))))) (vRet (vCal s__law_wrap [.pd (v2 fAdd (.pk 1) (.pk 2))])) vEnd)
    (b1__law_operate s__law_wrap))
theorem der__law_operate {P : Program} {w : World} {K : PySem.W.Frag} {mg : Str → Option Value} {base : Heap} {f : Addr} (s__law_wrap : SemG) (G__law_wrap : FnG P w K mg base 1 (Str.ofString "_law_wrap") 1 s__law_wrap) (m_int : mg (Str.ofString "int") = none) (cdv : Value) (hcd0 : PySem.W.codeIn K cdv (Str.ofString "_law_operate") = true) (A : Around) (outer : List Env) (s : Shared) (H : Hp) (E : XK) (W : Wd) (wx : WX) (hr : Room 1 (A.deeper (envOfC (Str.ofString "_law_operate") (defScope st__law_operate) s.heap.objs.size f cdv)))
    (tk : Takes (cxOf (L2.CX P w) P w K mg base N__law_operate (Str.ofString "_law_operate") (defScope st__law_operate) f cdv A outer s H E) wx) (pso : PassesOwn (model P w) (A.deeper (envOfC (Str.ofString "_law_operate") (defScope st__law_operate) s.heap.objs.size f cdv)) (envOfC (Str.ofString "_law_operate") (defScope st__law_operate) s.heap.objs.size f cdv) (cxOf (L2.CX P w) P w K mg base N__law_operate (Str.ofString "_law_operate") (defScope st__law_operate) f cdv A outer s H E).xe) : VSs (cxOf (L2.CX P w) P w K mg base N__law_operate (Str.ofString "_law_operate") (defScope st__law_operate) f cdv A outer s H E) W wx (defBody st__law_operate) (t__law_operate s__law_wrap) := by
  have nd := sc__law_operate.nd
  have hu := hu64 hr
  have hu1 := hu65 hr
  have hcd := kds_of hcd0
  exact (vss_cons (vs_if (vc_cmp (m := true) (op_eqD hu) snd_eq (vo_pk 0) (vo_pd (ve_str)) (nomark _)) (vss_one (vs_ret (ve_cal G__law_wrap (hr.mono (by decide)) tk (vg_pd (ve_op (m := false) op_addV snd_add (vo_pk 1) (vo_pk 2)) vg0) rfl (nd_l (l := []) rfl (by decide))))) vss_nil)
    (vss_cons (vs_if (vc_cmp (m := true) (op_eqD hu) snd_eq (vo_pk 0) (vo_pd (ve_str)) (nomark _)) (vss_one (vs_ret (ve_cal G__law_wrap (hr.mono (by decide)) tk (vg_pd (ve_op (m := false) op_sub snd_sub (vo_pk 1) (vo_pk 2)) vg0) rfl (nd_l (l := []) rfl (by decide))))) vss_nil)
    (vss_cons (vs_if (vc_cmp (m := true) (op_eqD hu) snd_eq (vo_pk 0) (vo_pd (ve_str)) (nomark _)) (vss_one (vs_ret (ve_cal G__law_wrap (hr.mono (by decide)) tk (vg_pd (ve_op (m := false) op_mulV snd_mulV (vo_pk 1) (vo_pk 2)) vg0) rfl (nd_l (l := []) rfl (by decide))))) vss_nil)
    (vss_cons (vs_if (vc_cmp (m := true) (op_eqD hu) snd_eq (vo_pk 0) (vo_pd (ve_str)) (nomark _)) (vss_one (vs_ret (ve_t1 (m := false) call_int1 snd_int m_int (by decide +kernel) (vo_pd (ve_cmp (m := false) op_lt snd_lt (vo_pk 1) (vo_pk 2) (nomark _)))))) vss_nil)
    (vss_one (vs_ret (ve_t1 (m := false) call_int1 snd_int m_int (by decide +kernel) (vo_pd (ve_cmp (m := true) (op_eqD hu) snd_eq (vo_pk 1) (vo_pk 2) (nomark _))))))))))
/-! ### _law_leaf -/
-- slots: 0:feed
abbrev N__law_leaf : List Str := ["feed"]
abbrev P__law_leaf : List Str := ["feed"]
theorem sc__law_leaf : FnScope N__law_leaf P__law_leaf (defScope st__law_leaf) := ⟨rfl, rfl, rfl, by decide +kernel, rfl, by decide +kernel, by decide +kernel⟩
abbrev t__law_leaf (s__law_number : SemG) (s__law_pick : SemG) : VSt := LM.t__law_leaf s__law_number s__law_pick
theorem der__law_leaf {P : Program} {w : World} {K : PySem.W.Frag} {mg : Str → Option Value} {base : Heap} {f : Addr} (s__law_number : SemG) (s__law_pick : SemG) (G__law_number : FnG P w K mg base 2 (Str.ofString "_law_number") 1 s__law_number) (G__law_pick : FnG P w K mg base 1 (Str.ofString "_law_pick") 2 s__law_pick) (cdv : Value) (hcd0 : PySem.W.codeIn K cdv (Str.ofString "_law_leaf") = true) (A : Around) (outer : List Env) (s : Shared) (H : Hp) (E : XK) (W : Wd) (wx : WX) (hr : Room 2 (A.deeper (envOfC (Str.ofString "_law_leaf") (defScope st__law_leaf) s.heap.objs.size f cdv)))
    (tk : Takes (cxOf (L2.CX P w) P w K mg base N__law_leaf (Str.ofString "_law_leaf") (defScope st__law_leaf) f cdv A outer s H E) wx) (pso : PassesOwn (model P w) (A.deeper (envOfC (Str.ofString "_law_leaf") (defScope st__law_leaf) s.heap.objs.size f cdv)) (envOfC (Str.ofString "_law_leaf") (defScope st__law_leaf) s.heap.objs.size f cdv) (cxOf (L2.CX P w) P w K mg base N__law_leaf (Str.ofString "_law_leaf") (defScope st__law_leaf) f cdv A outer s H E).xe) : VSs (cxOf (L2.CX P w) P w K mg base N__law_leaf (Str.ofString "_law_leaf") (defScope st__law_leaf) f cdv A outer s H E) W wx (defBody st__law_leaf) (t__law_leaf s__law_number s__law_pick) := by
  have nd := sc__law_leaf.nd
  have hu := hu64 hr
  have hu1 := hu65 hr
  have hcd := kds_of hcd0
  exact (vss_cons (vs_if (vc_cmp (m := true) (op_eqD hu) snd_eq (vo_pd (ve_cal G__law_pick (hr.mono (by decide)) tk (vg_ln 0 (vg_pd (ve_int) vg0)) rfl (nd_l (l := [0]) rfl (by decide)))) (vo_pd (ve_int)) (nomark _)) (vss_one (vs_ret (ve_tup (va_cons (ve_str) (va_cons (ve_cal G__law_number (hr.mono (by decide)) tk (vg_ln 0 vg0) rfl (nd_l (l := [0]) rfl (by decide))) va_nil)) (by decide)))) vss_nil)
    (vss_one (vs_ret (ve_tup (va_cons (ve_str) (va_cons (ve_cal G__law_pick (hr.mono (by decide)) tk (vg_ln 0 (vg_pd (ve_int) vg0)) rfl (nd_l (l := [0]) rfl (by decide))) va_nil)) (by decide)))))
/-! ### _law_expression -/
-- slots: 0:feed 1:room 2:kind 3:name
abbrev N__law_expression : List Str := ["feed", "room", "kind", "name"]
abbrev P__law_expression : List Str := ["feed", "room"]
theorem sc__law_expression : FnScope N__law_expression P__law_expression (defScope st__law_expression) := ⟨rfl, rfl, rfl, by decide +kernel, rfl, by decide +kernel, by decide +kernel⟩
abbrev t__law_expression (s__law_expression : SemG) (s__law_leaf : SemG) (s__law_pick : SemG) : VSt := LM.t__law_expression s__law_expression s__law_leaf s__law_pick
theorem der__law_expression {P : Program} {w : World} {K : PySem.W.Frag} {mg : Str → Option Value} {base : Heap} {f : Addr} (s__law_expression : SemG) (s__law_leaf : SemG) (s__law_pick : SemG) {k kf : Nat} (hkf : kf ≤ k) (hkc : 3 ≤ k) (G__law_expression : FnG P w K mg base kf (Str.ofString "_law_expression") 2 s__law_expression) (G__law_leaf : FnG P w K mg base 3 (Str.ofString "_law_leaf") 1 s__law_leaf) (G__law_pick : FnG P w K mg base 1 (Str.ofString "_law_pick") 2 s__law_pick) (cdv : Value) (hcd0 : PySem.W.codeIn K cdv (Str.ofString "_law_expression") = true) (A : Around) (outer : List Env) (s : Shared) (H : Hp) (E : XK) (W : Wd) (wx : WX) (hr : Room k (A.deeper (envOfC (Str.ofString "_law_expression") (defScope st__law_expression) s.heap.objs.size f cdv)))
    (tk : Takes (cxOf (L2.CX P w) P w K mg base N__law_expression (Str.ofString "_law_expression") (defScope st__law_expression) f cdv A outer s H E) wx) (pso : PassesOwn (model P w) (A.deeper (envOfC (Str.ofString "_law_expression") (defScope st__law_expression) s.heap.objs.size f cdv)) (envOfC (Str.ofString "_law_expression") (defScope st__law_expression) s.heap.objs.size f cdv) (cxOf (L2.CX P w) P w K mg base N__law_expression (Str.ofString "_law_expression") (defScope st__law_expression) f cdv A outer s H E).xe) : VSs (cxOf (L2.CX P w) P w K mg base N__law_expression (Str.ofString "_law_expression") (defScope st__law_expression) f cdv A outer s H E) W wx (defBody st__law_expression) (t__law_expression s__law_expression s__law_leaf s__law_pick) := by
  have nd := sc__law_expression.nd
  have hu := hu64 hr
  have hu1 := hu65 hr
  have hcd := kds_of hcd0
  exact (vss_cons (vs_set (i := 2) nd rfl (.inl rfl) (ve_cal G__law_pick (hr.mono (by omega)) tk (vg_ln 0 (vg_pd (ve_int) vg0)) rfl (nd_l (l := [0]) rfl (by decide))))
    (vss_cons (vs_if (vc_w (vw_or (vc_cmp (m := true) (op_eqD hu) snd_eq (vo_pk 1) (vo_pd (ve_int)) (nomark _)) (vw_or1 (vc_cmp (m := false) op_lt snd_lt (vo_pk 2) (vo_pd (ve_int)) (nomark _))))) (vss_one (vs_ret (ve_cal G__law_leaf (hr.mono (by omega)) tk (vg_ln 0 vg0) rfl (nd_l (l := [0]) rfl (by decide))))) vss_nil)
    (vss_cons (vs_set (i := 3) nd rfl (.inl rfl) (ve_ix (m := false) (ix_V (hu2 hr)) snd_ix (vo_pd (ve_lst (va_cons (ve_str) (va_cons (ve_str) (va_cons (ve_str) (va_cons (ve_str) (va_cons (ve_str) va_nil))))) (by decide))) (vo_pd (ve_op (m := false) op_sub snd_sub (vo_pk 2) (vo_pd (ve_int)))) (fun _ _ => rfl)))
    (vss_one (vs_ret (ve_tup (va_cons (ve_var 3) (va_cons (ve_cal G__law_expression (hr.mono (by omega)) tk (vg_ln 0 (vg_pd (ve_op (m := false) op_sub snd_sub (vo_pk 1) (vo_pd (ve_int))) vg0)) rfl (nd_l (l := [0]) rfl (by decide))) (va_cons (ve_cal G__law_expression (hr.mono (by omega)) tk (vg_ln 0 (vg_pd (ve_op (m := false) op_sub snd_sub (vo_pk 1) (vo_pd (ve_int))) vg0)) rfl (nd_l (l := [0]) rfl (by decide))) va_nil))) (by decide)))))))
/-! ### _law_value -/
-- slots: 0:e 1:store
abbrev N__law_value : List Str := ["e", "store"]
abbrev P__law_value : List Str := ["e", "store"]
theorem sc__law_value : FnScope N__law_value P__law_value (defScope st__law_value) := ⟨rfl, rfl, rfl, by decide +kernel, rfl, by decide +kernel, by decide +kernel⟩
def q1__law_value (s__law_operate : SemG) (s__law_value : SemG) : VSt :=
  (vRet (v2 fIx (.pk 1) (.pd (v2 fIx (.pk 0) (.pd (vC (.int 1)))))))
def b2__law_value (s__law_operate : SemG) (s__law_value : SemG) : VSt :=
  (vRet (vCal s__law_operate [.pd (v2 fIx (.pk 0) (.pd (vC (.int 0)))), .pd (vCal s__law_value [.pd (v2 fIx (.pk 0) (.pd (vC (.int 1)))), .br (.pk 1)]), .pd (vCal s__law_value [.pd (v2 fIx (.pk 0) (.pd (vC (.int 2)))), .br (.pk 1)])]))
def b1__law_value (s__law_operate : SemG) (s__law_value : SemG) : VSt :=
  (vSeq (vIfS (vB (w2 fEq (.pd (v2 fIx (.pk 0) (.pd (vC (.int 0))))) (.pd (vC (.str (Str.ofString "var")))))) (q1__law_value s__law_operate s__law_value) vEnd)
    (b2__law_value s__law_operate s__law_value))
def t__law_value (s__law_operate : SemG) (s__law_value : SemG) : VSt :=
  (vSeq (vIfS (vB (w2 fEq (.pd (v2 fIx (.pk 0) (.pd (vC (.int 0))))) (.pd (vC (.str (Str.ofString "num")))))) (vRet (v2 fIx (.pk 0) (.pd (vC (.int 1))))) vEnd)
    (b1__law_value s__law_operate s__law_value))
theorem der__law_value {P : Program} {w : World} {K : PySem.W.Frag} {mg : Str → Option Value} {base : Heap} {f : Addr} (s__law_operate : SemG) (s__law_value : SemG) {k kf : Nat} (hkf : kf ≤ k) (hkc : 2 ≤ k) (G__law_operate : FnG P w K mg base 2 (Str.ofString "_law_operate") 3 s__law_operate) (G__law_value : FnG P w K mg base kf (Str.ofString "_law_value") 2 s__law_value) (cdv : Value) (hcd0 : PySem.W.codeIn K cdv (Str.ofString "_law_value") = true) (A : Around) (outer : List Env) (s : Shared) (H : Hp) (E : XK) (W : Wd) (wx : WX) (hr : Room k (A.deeper (envOfC (Str.ofString "_law_value") (defScope st__law_value) s.heap.objs.size f cdv)))
    (tk : Takes (cxOf (L2.CX P w) P w K mg base N__law_value (Str.ofString "_law_value") (defScope st__law_value) f cdv A outer s H E) wx) (pso : PassesOwn (model P w) (A.deeper (envOfC (Str.ofString "_law_value") (defScope st__law_value) s.heap.objs.size f cdv)) (envOfC (Str.ofString "_law_value") (defScope st__law_value) s.heap.objs.size f cdv) (cxOf (L2.CX P w) P w K mg base N__law_value (Str.ofString "_law_value") (defScope st__law_value) f cdv A outer s H E).xe) : VSs (cxOf (L2.CX P w) P w K mg base N__law_value (Str.ofString "_law_value") (defScope st__law_value) f cdv A outer s H E) W wx (defBody st__law_value) (t__law_value s__law_operate s__law_value) := by
  have nd := sc__law_value.nd
  have hu := hu64 hr
  have hu1 := hu65 hr
  have hcd := kds_of hcd0
  exact (vss_cons (vs_if (vc_cmp (m := true) (op_eqD hu) snd_eq (vo_pd (ve_ix (m := false) (ix_V (hu2 hr)) snd_ix (vo_pk 0) (vo_pd (ve_int)) (fun _ _ => rfl))) (vo_pd (ve_str)) (nomark _)) (vss_one (vs_ret (ve_ix (m := false) (ix_V (hu2 hr)) snd_ix (vo_pk 0) (vo_pd (ve_int)) (fun _ _ => rfl)))) vss_nil)
    (vss_cons (vs_if (vc_cmp (m := true) (op_eqD hu) snd_eq (vo_pd (ve_ix (m := false) (ix_V (hu2 hr)) snd_ix (vo_pk 0) (vo_pd (ve_int)) (fun _ _ => rfl))) (vo_pd (ve_str)) (nomark _)) (vss_one (vs_ret (ve_ix (m := false) (ix_V (hu2 hr)) snd_ix (vo_pk 1) (vo_pd (ve_ix (m := false) (ix_V (hu2 hr)) snd_ix (vo_pk 0) (vo_pd (ve_int)) (fun _ _ => rfl))) (fun _ _ => rfl)))) vss_nil)
    (vss_one (vs_ret (ve_cal G__law_operate (hr.mono (by omega)) tk (vg_pd (ve_ix (m := false) (ix_V (hu2 hr)) snd_ix (vo_pk 0) (vo_pd (ve_int)) (fun _ _ => rfl)) (vg_pd (ve_cal G__law_value (hr.mono (by omega)) tk (vg_pd (ve_ix (m := false) (ix_V (hu2 hr)) snd_ix (vo_pk 0) (vo_pd (ve_int)) (fun _ _ => rfl)) (vg_br (vo_pk 1) vg0)) rfl (nd_l (l := []) rfl (by decide))) (vg_pd (ve_cal G__law_value (hr.mono (by omega)) tk (vg_pd (ve_ix (m := false) (ix_V (hu2 hr)) snd_ix (vo_pk 0) (vo_pd (ve_int)) (fun _ _ => rfl)) (vg_br (vo_pk 1) vg0)) rfl (nd_l (l := []) rfl (by decide))) vg0))) rfl (nd_l (l := []) rfl (by decide)))))))
/-! ### _law_statement -/
-- slots: 0:feed 1:room 2:kind 3:e 4:slot 5:down 6:turns
abbrev N__law_statement : List Str := ["feed", "room", "kind", "e", "slot", "down", "turns"]
abbrev P__law_statement : List Str := ["feed", "room"]
theorem sc__law_statement : FnScope N__law_statement P__law_statement (defScope st__law_statement) := ⟨rfl, rfl, rfl, by decide +kernel, rfl, by decide +kernel, by decide +kernel⟩
abbrev t__law_statement (s__law_expression : SemG) (s__law_pick : SemG) (s__law_statement : SemG) : VSt := LM.t__law_statement s__law_expression s__law_pick s__law_statement
theorem der__law_statement {P : Program} {w : World} {K : PySem.W.Frag} {mg : Str → Option Value} {base : Heap} {f : Addr} (s__law_expression : SemG) (s__law_pick : SemG) (s__law_statement : SemG) {k kf : Nat} (hkf : kf ≤ k) (hkc : 8 ≤ k) (G__law_expression : FnG P w K mg base 8 (Str.ofString "_law_expression") 2 s__law_expression) (G__law_pick : FnG P w K mg base 1 (Str.ofString "_law_pick") 2 s__law_pick) (G__law_statement : FnG P w K mg base kf (Str.ofString "_law_statement") 2 s__law_statement) (cdv : Value) (hcd0 : PySem.W.codeIn K cdv (Str.ofString "_law_statement") = true) (A : Around) (outer : List Env) (s : Shared) (H : Hp) (E : XK) (W : Wd) (wx : WX) (hr : Room k (A.deeper (envOfC (Str.ofString "_law_statement") (defScope st__law_statement) s.heap.objs.size f cdv)))
    (tk : Takes (cxOf (L2.CX P w) P w K mg base N__law_statement (Str.ofString "_law_statement") (defScope st__law_statement) f cdv A outer s H E) wx) (pso : PassesOwn (model P w) (A.deeper (envOfC (Str.ofString "_law_statement") (defScope st__law_statement) s.heap.objs.size f cdv)) (envOfC (Str.ofString "_law_statement") (defScope st__law_statement) s.heap.objs.size f cdv) (cxOf (L2.CX P w) P w K mg base N__law_statement (Str.ofString "_law_statement") (defScope st__law_statement) f cdv A outer s H E).xe) : VSs (cxOf (L2.CX P w) P w K mg base N__law_statement (Str.ofString "_law_statement") (defScope st__law_statement) f cdv A outer s H E) W wx (defBody st__law_statement) (t__law_statement s__law_expression s__law_pick s__law_statement) := by
  have nd := sc__law_statement.nd
  have hu := hu64 hr
  have hu1 := hu65 hr
  have hcd := kds_of hcd0
  exact (vss_cons (vs_set (i := 2) nd rfl (.inl rfl) (ve_cal G__law_pick (hr.mono (by omega)) tk (vg_ln 0 (vg_pd (ve_int) vg0)) rfl (nd_l (l := [0]) rfl (by decide))))
    (vss_cons (vs_if (vc_w (vw_or (vc_cmp (m := true) (op_eqD hu) snd_eq (vo_pk 1) (vo_pd (ve_int)) (nomark _)) (vw_or1 (vc_cmp (m := false) op_lt snd_lt (vo_pk 2) (vo_pd (ve_int)) (nomark _))))) (vss_cons (vs_if (vc_cmp (m := true) (op_eqD hu) snd_eq (vo_pk 2) (vo_pd (ve_int)) (nomark _)) (vss_one (vs_ret (ve_tup (va_cons (ve_str) va_nil) (by decide)))) vss_nil)
    (vss_cons (vs_if (vc_cmp (m := true) (op_eqD hu) snd_eq (vo_pk 2) (vo_pd (ve_int)) (nomark _)) (vss_one (vs_ret (ve_tup (va_cons (ve_str) (va_cons (ve_cal G__law_pick (hr.mono (by omega)) tk (vg_ln 0 (vg_pd (ve_int) vg0)) rfl (nd_l (l := [0]) rfl (by decide))) (va_cons (ve_cal G__law_expression (hr.mono (by omega)) tk (vg_ln 0 (vg_pd (ve_int) vg0)) rfl (nd_l (l := [0]) rfl (by decide))) va_nil))) (by decide)))) vss_nil)
    (vss_cons (vs_if (vc_cmp (m := true) (op_eqD hu) snd_eq (vo_pk 2) (vo_pd (ve_int)) (nomark _)) (vss_one (vs_ret (ve_tup (va_cons (ve_str) (va_cons (ve_cal G__law_pick (hr.mono (by omega)) tk (vg_ln 0 (vg_pd (ve_int) vg0)) rfl (nd_l (l := [0]) rfl (by decide))) (va_cons (ve_cal G__law_expression (hr.mono (by omega)) tk (vg_ln 0 (vg_pd (ve_int) vg0)) rfl (nd_l (l := [0]) rfl (by decide))) va_nil))) (by decide)))) vss_nil)
    (vss_one (vs_ret (ve_tup (va_cons (ve_str) (va_cons (ve_cal G__law_expression (hr.mono (by omega)) tk (vg_ln 0 (vg_pd (ve_int) vg0)) rfl (nd_l (l := [0]) rfl (by decide))) va_nil)) (by decide))))))) vss_nil)
    (vss_cons (vs_if (vc_cmp (m := false) op_lt snd_lt (vo_pk 2) (vo_pd (ve_int)) (nomark _)) (vss_one (vs_ret (ve_tup (va_cons (ve_str) (va_cons (ve_cal G__law_statement (hr.mono (by omega)) tk (vg_ln 0 (vg_pd (ve_op (m := false) op_sub snd_sub (vo_pk 1) (vo_pd (ve_int))) vg0)) rfl (nd_l (l := [0]) rfl (by decide))) (va_cons (ve_cal G__law_statement (hr.mono (by omega)) tk (vg_ln 0 (vg_pd (ve_op (m := false) op_sub snd_sub (vo_pk 1) (vo_pd (ve_int))) vg0)) rfl (nd_l (l := [0]) rfl (by decide))) va_nil))) (by decide)))) vss_nil)
    (vss_cons (vs_if (vc_cmp (m := true) (op_eqD hu) snd_eq (vo_pk 2) (vo_pd (ve_int)) (nomark _)) (vss_cons (vs_set (i := 3) nd rfl (.inl rfl) (ve_cal G__law_expression (hr.mono (by omega)) tk (vg_ln 0 (vg_pd (ve_int) vg0)) rfl (nd_l (l := [0]) rfl (by decide))))
    (vss_one (vs_ret (ve_tup (va_cons (ve_str) (va_cons (ve_var 3) (va_cons (ve_cal G__law_statement (hr.mono (by omega)) tk (vg_ln 0 (vg_pd (ve_op (m := false) op_sub snd_sub (vo_pk 1) (vo_pd (ve_int))) vg0)) rfl (nd_l (l := [0]) rfl (by decide))) (va_cons (ve_cal G__law_statement (hr.mono (by omega)) tk (vg_ln 0 (vg_pd (ve_op (m := false) op_sub snd_sub (vo_pk 1) (vo_pd (ve_int))) vg0)) rfl (nd_l (l := [0]) rfl (by decide))) va_nil)))) (by decide))))) vss_nil)
    (vss_cons (vs_if (vc_cmp (m := true) (op_eqD hu) snd_eq (vo_pk 2) (vo_pd (ve_int)) (nomark _)) (vss_one (vs_ret (ve_tup (va_cons (ve_str) (va_cons (ve_cal G__law_expression (hr.mono (by omega)) tk (vg_ln 0 (vg_pd (ve_int) vg0)) rfl (nd_l (l := [0]) rfl (by decide))) (va_cons (ve_cal G__law_statement (hr.mono (by omega)) tk (vg_ln 0 (vg_pd (ve_op (m := false) op_sub snd_sub (vo_pk 1) (vo_pd (ve_int))) vg0)) rfl (nd_l (l := [0]) rfl (by decide))) va_nil))) (by decide)))) vss_nil)
    (vss_cons (vs_set (i := 4) nd rfl (.inl rfl) (ve_cal G__law_pick (hr.mono (by omega)) tk (vg_ln 0 (vg_pd (ve_int) vg0)) rfl (nd_l (l := [0]) rfl (by decide))))
    (vss_cons (vs_set (i := 5) nd rfl (.inl rfl) (ve_tup (va_cons (ve_str) (va_cons (ve_var 4) (va_cons (ve_tup (va_cons (ve_str) (va_cons (ve_tup (va_cons (ve_str) (va_cons (ve_var 4) va_nil)) (by decide)) (va_cons (ve_tup (va_cons (ve_str) (va_cons (ve_int) va_nil)) (by decide)) va_nil))) (by decide)) va_nil))) (by decide)))
    (vss_cons (vs_set (i := 6) nd rfl (.inl rfl) (ve_tup (va_cons (ve_str) (va_cons (ve_var 4) (va_cons (ve_tup (va_cons (ve_str) (va_cons (ve_cal G__law_pick (hr.mono (by omega)) tk (vg_ln 0 (vg_pd (ve_int) vg0)) rfl (nd_l (l := [0]) rfl (by decide))) va_nil)) (by decide)) va_nil))) (by decide)))
    (vss_one (vs_ret (ve_tup (va_cons (ve_str) (va_cons (ve_var 6) (va_cons (ve_tup (va_cons (ve_str) (va_cons (ve_tup (va_cons (ve_str) (va_cons (ve_var 4) va_nil)) (by decide)) (va_cons (ve_tup (va_cons (ve_str) (va_cons (ve_cal G__law_statement (hr.mono (by omega)) tk (vg_ln 0 (vg_pd (ve_op (m := false) op_sub snd_sub (vo_pk 1) (vo_pd (ve_int))) vg0)) rfl (nd_l (l := [0]) rfl (by decide))) (va_cons (ve_var 5) va_nil))) (by decide)) va_nil))) (by decide)) va_nil))) (by decide))))))))))))
/-! ### _law_do -/
-- slots: 0:item 1:state 2:value 3:k
abbrev N__law_do : List Str := ["item", "state", "value", "k"]
abbrev P__law_do : List Str := ["item", "state"]
theorem sc__law_do : FnScope N__law_do P__law_do (defScope st__law_do) := ⟨rfl, rfl, rfl, by decide +kernel, rfl, by decide +kernel, by decide +kernel⟩
def b102__law_do (s__law_do : SemG) (s__law_value : SemG) : VSt :=
  (vPut (vS (vV 2)) (.pd (vIxN (.pk 1) (.pd (vC (.int 2))))) (v2 fIx (.pk 0) (.pd (vC (.int 1)))))
def q1__law_do (s__law_do : SemG) (s__law_value : SemG) : VSt :=
  (vSeq (vSet 2 (vCal s__law_value [.pd (v2 fIx (.pk 0) (.pd (vC (.int 2)))), .br (.pd (vIxN (.pk 1) (.pd (vC (.int 2)))))]))
    (b102__law_do s__law_do s__law_value))
def q2__law_do (s__law_do : SemG) (s__law_value : SemG) : VSt :=
  (vDrp (vMet (.pd (vIxN (.pk 1) (.pd (vC (.int 3))))) mAppend [(vS (vCal s__law_value [.pd (v2 fIx (.pk 0) (.pd (vC (.int 1)))), .br (.pd (vIxN (.pk 1) (.pd (vC (.int 2)))))]))]))
def q3__law_do (s__law_do : SemG) (s__law_value : SemG) : VSt :=
  (vRet (vAndV (vCal s__law_do [.pd (v2 fIx (.pk 0) (.pd (vC (.int 1)))), .ln 1]) (vCal s__law_do [.pd (v2 fIx (.pk 0) (.pd (vC (.int 2)))), .ln 1])))
def q4__law_do (s__law_do : SemG) (s__law_value : SemG) : VSt :=
  (vRet (vCal s__law_do [.pd (v2 fIx (.pk 0) (.pd (vC (.int 2)))), .ln 1]))
def b107__law_do (s__law_do : SemG) (s__law_value : SemG) : VSt :=
  (vRet (vCal s__law_do [.pd (v2 fIx (.pk 0) (.pd (vC (.int 3)))), .ln 1]))
def q5__law_do (s__law_do : SemG) (s__law_value : SemG) : VSt :=
  (vSeq (vIfS (vB (w2 fNe (.pd (vCal s__law_value [.pd (v2 fIx (.pk 0) (.pd (vC (.int 1)))), .br (.pd (vIxN (.pk 1) (.pd (vC (.int 2)))))])) (.pd (vC (.int 0))))) (q4__law_do s__law_do s__law_value) vEnd)
    (b107__law_do s__law_do s__law_value))
def b114__law_do (s__law_do : SemG) (s__law_value : SemG) : VSt :=
  (vIfS (vNot (vTru (.pd (vCal s__law_do [.pd (v2 fIx (.pk 0) (.pd (vC (.int 2)))), .ln 1])))) (vRet (vC (.bool false))) vEnd)
def b113__law_do (s__law_do : SemG) (s__law_value : SemG) : VSt :=
  (vSeq (vIfS (vB (w2 fEq (.pd (vCal s__law_value [.pd (v2 fIx (.pk 0) (.pd (vC (.int 1)))), .br (.pd (vIxN (.pk 1) (.pd (vC (.int 2)))))])) (.pd (vC (.int 0))))) (vRet (vC (.bool true))) vEnd)
    (b114__law_do s__law_do s__law_value))
def b112__law_do (s__law_do : SemG) (s__law_value : SemG) : VSt :=
  (vSeq (vPut (vS (v2 fAdd (.pd (vIxN (.pk 1) (.pd (vC (.int 0))))) (.pd (vC (.int 1))))) (.pk 1) (vC (.int 0)))
    (b113__law_do s__law_do s__law_value))
def w1__law_do (s__law_do : SemG) (s__law_value : SemG) : VSt :=
  vFor (iR1 (v2 fAdd (.pd (vIxN (.pk 1) (.pd (vC (.int 1))))) (.pd (vC (.int 1))))) (bName 3) (vSeq (vIfS (vB (w2 fEq (.pd (vIxN (.pk 1) (.pd (vC (.int 0))))) (.pd (vIxN (.pk 1) (.pd (vC (.int 1))))))) (vRet (vC (.bool false))) vEnd)
    (b112__law_do s__law_do s__law_value))
def b7__law_do (s__law_do : SemG) (s__law_value : SemG) : VSt :=
  (vRet (vC (.bool true)))
def b6__law_do (s__law_do : SemG) (s__law_value : SemG) : VSt :=
  (vSeq (vIfS (vB (w2 fEq (.pd (v2 fIx (.pk 0) (.pd (vC (.int 0))))) (.pd (vC (.str (Str.ofString "loop")))))) (w1__law_do s__law_do s__law_value) vEnd)
    (b7__law_do s__law_do s__law_value))
def b5__law_do (s__law_do : SemG) (s__law_value : SemG) : VSt :=
  (vSeq (vIfS (vB (w2 fEq (.pd (v2 fIx (.pk 0) (.pd (vC (.int 0))))) (.pd (vC (.str (Str.ofString "when")))))) (q5__law_do s__law_do s__law_value) vEnd)
    (b6__law_do s__law_do s__law_value))
def b4__law_do (s__law_do : SemG) (s__law_value : SemG) : VSt :=
  (vSeq (vIfS (vB (w2 fEq (.pd (v2 fIx (.pk 0) (.pd (vC (.int 0))))) (.pd (vC (.str (Str.ofString "seq")))))) (q3__law_do s__law_do s__law_value) vEnd)
    (b5__law_do s__law_do s__law_value))
def b3__law_do (s__law_do : SemG) (s__law_value : SemG) : VSt :=
  (vSeq (vIfS (vB (w2 fEq (.pd (v2 fIx (.pk 0) (.pd (vC (.int 0))))) (.pd (vC (.str (Str.ofString "show")))))) (q2__law_do s__law_do s__law_value) vEnd)
    (b4__law_do s__law_do s__law_value))
def b2__law_do (s__law_do : SemG) (s__law_value : SemG) : VSt :=
  (vSeq (vIfS (vB (w2 fEq (.pd (v2 fIx (.pk 0) (.pd (vC (.int 0))))) (.pd (vC (.str (Str.ofString "set")))))) (q1__law_do s__law_do s__law_value) vEnd)
    (b3__law_do s__law_do s__law_value))
def b1__law_do (s__law_do : SemG) (s__law_value : SemG) : VSt :=
  (vSeq (vPut (vS (v2 fAdd (.pd (vIxN (.pk 1) (.pd (vC (.int 0))))) (.pd (vC (.int 1))))) (.pk 1) (vC (.int 0)))
    (b2__law_do s__law_do s__law_value))
def t__law_do (s__law_do : SemG) (s__law_value : SemG) : VSt :=
  (vSeq (vIfS (vB (w2 fEq (.pd (vIxN (.pk 1) (.pd (vC (.int 0))))) (.pd (vIxN (.pk 1) (.pd (vC (.int 1))))))) (vRet (vC (.bool false))) vEnd)
    (b1__law_do s__law_do s__law_value))
theorem der__law_do {P : Program} {w : World} {K : PySem.W.Frag} {mg : Str → Option Value} {base : Heap} {f : Addr} (s__law_do : SemG) (s__law_value : SemG) {k kf : Nat} (hkf : kf ≤ k) (hkc : 6 ≤ k) (G__law_do : FnG P w K mg base kf (Str.ofString "_law_do") 2 s__law_do) (G__law_value : FnG P w K mg base 6 (Str.ofString "_law_value") 2 s__law_value) (m_range : mg (Str.ofString "range") = none) (cdv : Value) (hcd0 : PySem.W.codeIn K cdv (Str.ofString "_law_do") = true) (A : Around) (outer : List Env) (s : Shared) (H : Hp) (E : XK) (W : Wd) (wx : WX) (hr : Room k (A.deeper (envOfC (Str.ofString "_law_do") (defScope st__law_do) s.heap.objs.size f cdv)))
    (tk : Takes (cxOf (L2.CX P w) P w K mg base N__law_do (Str.ofString "_law_do") (defScope st__law_do) f cdv A outer s H E) wx) (pso : PassesOwn (model P w) (A.deeper (envOfC (Str.ofString "_law_do") (defScope st__law_do) s.heap.objs.size f cdv)) (envOfC (Str.ofString "_law_do") (defScope st__law_do) s.heap.objs.size f cdv) (cxOf (L2.CX P w) P w K mg base N__law_do (Str.ofString "_law_do") (defScope st__law_do) f cdv A outer s H E).xe) : VSs (cxOf (L2.CX P w) P w K mg base N__law_do (Str.ofString "_law_do") (defScope st__law_do) f cdv A outer s H E) W wx (defBody st__law_do) (t__law_do s__law_do s__law_value) := by
  have nd := sc__law_do.nd
  have hu := hu64 hr
  have hu1 := hu65 hr
  have hcd := kds_of hcd0
  exact (vss_cons (vs_if (vc_cmp (m := true) (op_eqD hu) snd_eq (vo_pd (ve_ixN (hu2 hr) (vo_pk 1) (vo_pd (ve_int)) (fun _ _ => rfl))) (vo_pd (ve_ixN (hu2 hr) (vo_pk 1) (vo_pd (ve_int)) (fun _ _ => rfl))) (nomark _)) (vss_one (vs_ret (ve_bl))) vss_nil)
    (vss_cons (vs_put (hu2 hr) (ve_sh (ve_op (m := false) op_addV snd_add (vo_pd (ve_ixN (hu2 hr) (vo_pk 1) (vo_pd (ve_int)) (fun _ _ => rfl))) (vo_pd (ve_int)))) (vo_pk 1) (ve_int))
    (vss_cons (vs_if (vc_cmp (m := true) (op_eqD hu) snd_eq (vo_pd (ve_ix (m := false) (ix_V (hu2 hr)) snd_ix (vo_pk 0) (vo_pd (ve_int)) (fun _ _ => rfl))) (vo_pd (ve_str)) (nomark _)) (vss_cons (vs_set (i := 2) nd rfl (.inl rfl) (ve_cal G__law_value (hr.mono (by omega)) tk (vg_pd (ve_ix (m := false) (ix_V (hu2 hr)) snd_ix (vo_pk 0) (vo_pd (ve_int)) (fun _ _ => rfl)) (vg_br (vo_pd (ve_ixN (hu2 hr) (vo_pk 1) (vo_pd (ve_int)) (fun _ _ => rfl))) vg0)) rfl (nd_l (l := []) rfl (by decide))))
    (vss_one (vs_put (hu2 hr) (ve_sh (ve_var 2)) (vo_pd (ve_ixN (hu2 hr) (vo_pk 1) (vo_pd (ve_int)) (fun _ _ => rfl))) (ve_ix (m := false) (ix_V (hu2 hr)) snd_ix (vo_pk 0) (vo_pd (ve_int)) (fun _ _ => rfl))))) vss_nil)
    (vss_cons (vs_if (vc_cmp (m := true) (op_eqD hu) snd_eq (vo_pd (ve_ix (m := false) (ix_V (hu2 hr)) snd_ix (vo_pk 0) (vo_pd (ve_int)) (fun _ _ => rfl))) (vo_pd (ve_str)) (nomark _)) (vss_one (vs_expr (ve_met PySem.F.slot_list_append PySem.F.type_list_append mt_append sndm_append fit_append (vo_pd (ve_ixN (hu2 hr) (vo_pk 1) (vo_pd (ve_int)) (fun _ _ => rfl))) (vm1 (ve_sh (ve_cal G__law_value (hr.mono (by omega)) tk (vg_pd (ve_ix (m := false) (ix_V (hu2 hr)) snd_ix (vo_pk 0) (vo_pd (ve_int)) (fun _ _ => rfl)) (vg_br (vo_pd (ve_ixN (hu2 hr) (vo_pk 1) (vo_pd (ve_int)) (fun _ _ => rfl))) vg0)) rfl (nd_l (l := []) rfl (by decide)))) vm0)))) vss_nil)
    (vss_cons (vs_if (vc_cmp (m := true) (op_eqD hu) snd_eq (vo_pd (ve_ix (m := false) (ix_V (hu2 hr)) snd_ix (vo_pk 0) (vo_pd (ve_int)) (fun _ _ => rfl))) (vo_pd (ve_str)) (nomark _)) (vss_one (vs_ret (ve_and (ve_cal G__law_do (hr.mono (by omega)) tk (vg_pd (ve_ix (m := false) (ix_V (hu2 hr)) snd_ix (vo_pk 0) (vo_pd (ve_int)) (fun _ _ => rfl)) (vg_ln 1 vg0)) rfl (nd_l (l := [1]) rfl (by decide))) (ve_one (ve_cal G__law_do (hr.mono (by omega)) tk (vg_pd (ve_ix (m := false) (ix_V (hu2 hr)) snd_ix (vo_pk 0) (vo_pd (ve_int)) (fun _ _ => rfl)) (vg_ln 1 vg0)) rfl (nd_l (l := [1]) rfl (by decide))))))) vss_nil)
    (vss_cons (vs_if (vc_cmp (m := true) (op_eqD hu) snd_eq (vo_pd (ve_ix (m := false) (ix_V (hu2 hr)) snd_ix (vo_pk 0) (vo_pd (ve_int)) (fun _ _ => rfl))) (vo_pd (ve_str)) (nomark _)) (vss_cons (vs_if (vc_cmp (m := true) (op_neD hu) snd_ne (vo_pd (ve_cal G__law_value (hr.mono (by omega)) tk (vg_pd (ve_ix (m := false) (ix_V (hu2 hr)) snd_ix (vo_pk 0) (vo_pd (ve_int)) (fun _ _ => rfl)) (vg_br (vo_pd (ve_ixN (hu2 hr) (vo_pk 1) (vo_pd (ve_int)) (fun _ _ => rfl))) vg0)) rfl (nd_l (l := []) rfl (by decide)))) (vo_pd (ve_int)) (nomark _)) (vss_one (vs_ret (ve_cal G__law_do (hr.mono (by omega)) tk (vg_pd (ve_ix (m := false) (ix_V (hu2 hr)) snd_ix (vo_pk 0) (vo_pd (ve_int)) (fun _ _ => rfl)) (vg_ln 1 vg0)) rfl (nd_l (l := [1]) rfl (by decide))))) vss_nil)
    (vss_one (vs_ret (ve_cal G__law_do (hr.mono (by omega)) tk (vg_pd (ve_ix (m := false) (ix_V (hu2 hr)) snd_ix (vo_pk 0) (vo_pd (ve_int)) (fun _ _ => rfl)) (vg_ln 1 vg0)) rfl (nd_l (l := [1]) rfl (by decide)))))) vss_nil)
    (vss_cons (vs_if (vc_cmp (m := true) (op_eqD hu) snd_eq (vo_pd (ve_ix (m := false) (ix_V (hu2 hr)) snd_ix (vo_pk 0) (vo_pd (ve_int)) (fun _ _ => rfl))) (vo_pd (ve_str)) (nomark _)) (vss_one (vs_for pso rfl (vi_r1 m_range (ve_op (m := false) op_addV snd_add (vo_pd (ve_ixN (hu2 hr) (vo_pk 1) (vo_pd (ve_int)) (fun _ _ => rfl))) (vo_pd (ve_int)))) (vg_name (i := 3) nd rfl (.inl rfl)) (vss_cons (vs_if (vc_cmp (m := true) (op_eqD hu) snd_eq (vo_pd (ve_ixN (hu2 hr) (vo_pk 1) (vo_pd (ve_int)) (fun _ _ => rfl))) (vo_pd (ve_ixN (hu2 hr) (vo_pk 1) (vo_pd (ve_int)) (fun _ _ => rfl))) (nomark _)) (vss_one (vs_ret (ve_bl))) vss_nil)
    (vss_cons (vs_put (hu2 hr) (ve_sh (ve_op (m := false) op_addV snd_add (vo_pd (ve_ixN (hu2 hr) (vo_pk 1) (vo_pd (ve_int)) (fun _ _ => rfl))) (vo_pd (ve_int)))) (vo_pk 1) (ve_int))
    (vss_cons (vs_if (vc_cmp (m := true) (op_eqD hu) snd_eq (vo_pd (ve_cal G__law_value (hr.mono (by omega)) tk (vg_pd (ve_ix (m := false) (ix_V (hu2 hr)) snd_ix (vo_pk 0) (vo_pd (ve_int)) (fun _ _ => rfl)) (vg_br (vo_pd (ve_ixN (hu2 hr) (vo_pk 1) (vo_pd (ve_int)) (fun _ _ => rfl))) vg0)) rfl (nd_l (l := []) rfl (by decide)))) (vo_pd (ve_int)) (nomark _)) (vss_one (vs_ret (ve_bl))) vss_nil)
    (vss_one (vs_if (vc_not (vc_tru (vo_pd (ve_cal G__law_do (hr.mono (by omega)) tk (vg_pd (ve_ix (m := false) (ix_V (hu2 hr)) snd_ix (vo_pk 0) (vo_pd (ve_int)) (fun _ _ => rfl)) (vg_ln 1 vg0)) rfl (nd_l (l := [1]) rfl (by decide)))))) (vss_one (vs_ret (ve_bl))) vss_nil))))))) vss_nil)
    (vss_one (vs_ret (ve_bl))))))))))
/-! ### _law_same -/
-- slots: 0:actual 1:due 2:k
abbrev N__law_same : List Str := ["actual", "due", "k"]
abbrev P__law_same : List Str := ["actual", "due"]
theorem sc__law_same : FnScope N__law_same P__law_same (defScope st__law_same) := ⟨rfl, rfl, rfl, by decide +kernel, rfl, by decide +kernel, by decide +kernel⟩
abbrev t__law_same (s__law_same : SemG) : VSt := LP.t__law_same s__law_same
theorem der__law_same {P : Program} {w : World} {K : PySem.W.Frag} {mg : Str → Option Value} {base : Heap} {f : Addr} (s__law_same : SemG) {k kf : Nat} (hkf : kf ≤ k) (hkc : 0 ≤ k) (G__law_same : FnG P w K mg base kf (Str.ofString "_law_same") 2 s__law_same) (m_bool : mg (Str.ofString "bool") = none) (m_int : mg (Str.ofString "int") = none) (m_isinstance : mg (Str.ofString "isinstance") = none) (m_len : mg (Str.ofString "len") = none) (m_list : mg (Str.ofString "list") = none) (m_range : mg (Str.ofString "range") = none) (m_str : mg (Str.ofString "str") = none) (m_tuple : mg (Str.ofString "tuple") = none) (cdv : Value) (hcd0 : PySem.W.codeIn K cdv (Str.ofString "_law_same") = true) (A : Around) (outer : List Env) (s : Shared) (H : Hp) (E : XK) (W : Wd) (wx : WX) (hr : Room k (A.deeper (envOfC (Str.ofString "_law_same") (defScope st__law_same) s.heap.objs.size f cdv)))
    (tk : Takes (cxOf (L2.CX P w) P w K mg base N__law_same (Str.ofString "_law_same") (defScope st__law_same) f cdv A outer s H E) wx) (pso : PassesOwn (model P w) (A.deeper (envOfC (Str.ofString "_law_same") (defScope st__law_same) s.heap.objs.size f cdv)) (envOfC (Str.ofString "_law_same") (defScope st__law_same) s.heap.objs.size f cdv) (cxOf (L2.CX P w) P w K mg base N__law_same (Str.ofString "_law_same") (defScope st__law_same) f cdv A outer s H E).xe) : VSs (cxOf (L2.CX P w) P w K mg base N__law_same (Str.ofString "_law_same") (defScope st__law_same) f cdv A outer s H E) W wx (defBody st__law_same) (t__law_same s__law_same) := by
  have nd := sc__law_same.nd
  have hu := hu64 hr
  have hu1 := hu65 hr
  have hcd := kds_of hcd0
  exact (vss_cons (vs_if (vc_cmp (m := true) op_isN1 snd_isN (vo_pk 1) (vo_pd (ve_non)) (nomark _)) (vss_one (vs_ret (ve_cmp (m := true) op_isN1 snd_isN (vo_pk 0) (vo_pd (ve_non)) (nomark _)))) vss_nil)
    (vss_cons (vs_if (vc_tru (vo_pd (ve_isi m_isinstance m_bool (by decide +kernel) (vo_pk 1)))) (vss_one (vs_ret (ve_and (ve_isi m_isinstance m_bool (by decide +kernel) (vo_pk 0)) (ve_one (ve_cmp (m := true) (op_eqD hu) snd_eq (vo_pk 0) (vo_pk 1) (nomark _)))))) vss_nil)
    (vss_cons (vs_if (vc_tru (vo_pd (ve_isi m_isinstance m_int (by decide +kernel) (vo_pk 1)))) (vss_one (vs_ret (ve_and (ve_isi m_isinstance m_int (by decide +kernel) (vo_pk 0)) (ve_and (ve_not (ve_isi m_isinstance m_bool (by decide +kernel) (vo_pk 0))) (ve_one (ve_cmp (m := true) (op_eqD hu) snd_eq (vo_pk 0) (vo_pk 1) (nomark _))))))) vss_nil)
    (vss_cons (vs_if (vc_tru (vo_pd (ve_isi m_isinstance m_str (by decide +kernel) (vo_pk 1)))) (vss_one (vs_ret (ve_and (ve_isi m_isinstance m_str (by decide +kernel) (vo_pk 0)) (ve_one (ve_cmp (m := true) (op_eqD hu) snd_eq (vo_pk 0) (vo_pk 1) (nomark _)))))) vss_nil)
    (vss_cons (vs_if (vc_w (vw_and (vc_tru (vo_pd (ve_isi m_isinstance m_list (by decide +kernel) (vo_pk 1)))) (vw_and1 (vc_not (vc_tru (vo_pd (ve_isi m_isinstance m_list (by decide +kernel) (vo_pk 0)))))))) (vss_one (vs_ret (ve_bl))) vss_nil)
    (vss_cons (vs_if (vc_w (vw_and (vc_tru (vo_pd (ve_isi m_isinstance m_tuple (by decide +kernel) (vo_pk 1)))) (vw_and1 (vc_not (vc_tru (vo_pd (ve_isi m_isinstance m_tuple (by decide +kernel) (vo_pk 0)))))))) (vss_one (vs_ret (ve_bl))) vss_nil)
    (vss_cons (vs_if (vc_cmp (m := true) (op_neD hu) snd_ne (vo_pd (ve_b1 (m := true) call_lenV snd_len m_len PySem.boot_len (vo_pk 0))) (vo_pd (ve_b1 (m := true) call_lenV snd_len m_len PySem.boot_len (vo_pk 1))) (nomark _)) (vss_one (vs_ret (ve_bl))) vss_nil)
    (vss_cons (vs_for pso rfl (vi_r1 m_range (ve_b1 (m := true) call_lenV snd_len m_len PySem.boot_len (vo_pk 1))) (vg_name (i := 2) nd rfl (.inl rfl)) (vss_one (vs_if (vc_not (vc_tru (vo_pd (ve_cal G__law_same (hr.mono (by omega)) tk (vg_pd (ve_ix (m := false) (ix_V (hu2 hr)) snd_ix (vo_pk 0) (vo_pk 2) (fun _ _ => rfl)) (vg_pd (ve_ix (m := false) (ix_V (hu2 hr)) snd_ix (vo_pk 1) (vo_pk 2) (fun _ _ => rfl)) vg0)) rfl (nd_l (l := []) rfl (by decide)))))) (vss_one (vs_ret (ve_bl))) vss_nil)))
    (vss_one (vs_ret (ve_bl)))))))))))
/-! ### _law_refused -/
-- slots: 0:statement 1:fuel 2:e
abbrev N__law_refused : List Str := ["statement", "fuel", "e"]
abbrev P__law_refused : List Str := ["statement", "fuel"]
theorem sc__law_refused : FnScope N__law_refused P__law_refused (defScope st__law_refused) := ⟨rfl, rfl, rfl, by decide +kernel, rfl, by decide +kernel, by decide +kernel⟩
def t__law_refused (s_run : SemG) (c_FuelError : Addr) (c_ScribeError : Addr) (sb_ScribeError : Addr → Bool → Prop) (b_FuelError_FuelError : Bool) (b_FuelError_ValueError : Bool) : VSt :=
  (vSeq (vTry 2 sb_ScribeError (vDrp (vCal s_run [.pd (vV 0), .pd (vV 1)])) (fun x E δ => (fun x => (xAnd (fun x => xIs c_FuelError b_FuelError_FuelError x) (fun x => xIs c_FuelError b_FuelError_ValueError x)) x) x δ E.rt noX))
    (vRet (vC (.bool false))))
theorem der__law_refused {P : Program} {w : World} {K : PySem.W.Frag} {mg : Str → Option Value} {base : Heap} {f : Addr} (s_run : SemG) (c_FuelError : Addr) (c_ScribeError : Addr) (sb_ScribeError : Addr → Bool → Prop) (b_FuelError_FuelError : Bool) (b_FuelError_ValueError : Bool) (G_run : FnG P w K mg base 9 (Str.ofString "run") 2 s_run) (E_FuelError : ExF K mg (Str.ofString "FuelError") c_FuelError) (E_ScribeError : ExF K mg (Str.ofString "ScribeError") c_ScribeError) (S_ScribeError : ∀ C b, sb_ScribeError C b → PySem.W.exmOne K (.ref C) (.ref c_ScribeError) = some b) (X_FuelError : ExcC K c_FuelError) (I_FuelError_FuelError : PySem.W.kitOne K (.ref c_FuelError) (.ref c_FuelError) = some b_FuelError_FuelError) (I_FuelError_ValueError : PySem.W.kitOne K (.ref c_FuelError) (.type "ValueError") = some b_FuelError_ValueError) (m_ValueError : mg (Str.ofString "ValueError") = none) (m_isinstance : mg (Str.ofString "isinstance") = none) (cdv : Value) (hcd0 : PySem.W.codeIn K cdv (Str.ofString "_law_refused") = true) (A : Around) (outer : List Env) (s : Shared) (H : Hp) (E : XK) (W : Wd) (wx : WX) (hr : Room 9 (A.deeper (envOfC (Str.ofString "_law_refused") (defScope st__law_refused) s.heap.objs.size f cdv)))
    (tk : Takes (cxOf (L2.CX P w) P w K mg base N__law_refused (Str.ofString "_law_refused") (defScope st__law_refused) f cdv A outer s H E) wx) (pso : PassesOwn (model P w) (A.deeper (envOfC (Str.ofString "_law_refused") (defScope st__law_refused) s.heap.objs.size f cdv)) (envOfC (Str.ofString "_law_refused") (defScope st__law_refused) s.heap.objs.size f cdv) (cxOf (L2.CX P w) P w K mg base N__law_refused (Str.ofString "_law_refused") (defScope st__law_refused) f cdv A outer s H E).xe) : VSs (cxOf (L2.CX P w) P w K mg base N__law_refused (Str.ofString "_law_refused") (defScope st__law_refused) f cdv A outer s H E) W wx (defBody st__law_refused) (t__law_refused s_run c_FuelError c_ScribeError sb_ScribeError b_FuelError_FuelError b_FuelError_ValueError) := by
  have nd := sc__law_refused.nd
  have hu := hu64 hr
  have hu1 := hu65 hr
  have hcd := kds_of hcd0
  exact (vss_cons (vs_try (i := 2) rfl rfl nd rfl rfl ⟨rfl, rfl, .inl E_ScribeError.g⟩ tk S_ScribeError (fun w2 pn xe tk pso => (vss_one (vs_expr (ve_cal G_run (hr.mono (by decide)) tk (vg_pd (ve_var 0) (vg_pd (ve_var 1) vg0)) rfl (nd_l (l := []) rfl (by decide)))))) (vx_ret (xe_and (xe_is X_FuelError (fun a oe pn => pe_glob (v := V.ref c_FuelError) rfl E_FuelError.g rfl) (fun _ h => h) I_FuelError_FuelError m_isinstance) (xe_one (xe_is X_FuelError (fun a oe pn => pe_bltn (v := V.ty "ValueError") rfl m_ValueError (by decide +kernel) rfl) (fun _ h => h) I_FuelError_ValueError m_isinstance)))))
    (vss_one (vs_ret (ve_bl))))
/-! ### law -/
-- slots: 0:script 1:feed 2:limit 3:share 4:statement 5:state 6:ended 7:used 8:due 9:part
abbrev N_law : List Str := ["script", "feed", "limit", "share", "statement", "state", "ended", "used", "due", "part"]
abbrev P_law : List Str := ["script"]
theorem sc_law : FnScope N_law P_law (defScope st_law) := ⟨rfl, rfl, rfl, by decide +kernel, rfl, by decide +kernel, by decide +kernel⟩
def b14_law (s__law_do : SemG) (s__law_numbers : SemG) (s__law_pick : SemG) (s__law_refused : SemG) (s__law_same : SemG) (s__law_statement : SemG) (s_observe : SemG) (s_run : SemG) : VSt :=
  (vRet (vAndV (vCal s__law_refused [.pd (vV 4), .pd (v2 fIx (.pd (vV 9)) (.pd (vC (.int 1))))]) (vCal s__law_refused [.pd (vV 4), .pd (v2 fSub (.pk 7) (.pd (vC (.int 1))))])))
def b13_law (s__law_do : SemG) (s__law_numbers : SemG) (s__law_pick : SemG) (s__law_refused : SemG) (s__law_same : SemG) (s__law_statement : SemG) (s_observe : SemG) (s_run : SemG) : VSt :=
  (vSeq (vIfS (vNot (vTru (.pd (vCal s__law_same [.pd (vCal s_observe [.pd (vV 4), .pd (v2 fIx (.pd (vV 9)) (.pd (vC (.int 1))))]), .pd (vTup (vCons (vC (.bool false)) (vCons (v2 fIx (.pd (vV 9)) (.pd (vC (.int 3)))) vNil)))])))) (vRet (vC (.bool false))) vEnd)
    (b14_law s__law_do s__law_numbers s__law_pick s__law_refused s__law_same s__law_statement s_observe s_run))
def b12_law (s__law_do : SemG) (s__law_numbers : SemG) (s__law_pick : SemG) (s__law_refused : SemG) (s__law_same : SemG) (s__law_statement : SemG) (s_observe : SemG) (s_run : SemG) : VSt :=
  (vSeq (vDrp (vCal s__law_do [.pd (vV 4), .ln 9]))
    (b13_law s__law_do s__law_numbers s__law_pick s__law_refused s__law_same s__law_statement s_observe s_run))
def b11_law (s__law_do : SemG) (s__law_numbers : SemG) (s__law_pick : SemG) (s__law_refused : SemG) (s__law_same : SemG) (s__law_statement : SemG) (s_observe : SemG) (s_run : SemG) : VSt :=
  (vSeq (vSet 9 (vLstO [(vC (.int 0)), (v2 fMod (.pd (v1 fInt (.pk 3))) (.pk 7)), (v2 fMulV (.pd (vLst (vCons (vC (.int 0)) vNil))) (.pd (vC (.int 16)))), (vLst vNil)]))
    (b12_law s__law_do s__law_numbers s__law_pick s__law_refused s__law_same s__law_statement s_observe s_run))
def b10_law (s__law_do : SemG) (s__law_numbers : SemG) (s__law_pick : SemG) (s__law_refused : SemG) (s__law_same : SemG) (s__law_statement : SemG) (s_observe : SemG) (s_run : SemG) : VSt :=
  (vSeq (vIfS ((vOr (vNot (vTru (.pd (vCal s__law_same [.pd (vCal s_run [.pd (vV 4), .pd (vV 7)]), .pd (vV 8)])))) (vNot (vTru (.pd (vCal s__law_same [.pd (vCal s_run [.pd (vV 4), .pd (v2 fAdd (.pk 7) (.pk 3))]), .pd (vV 8)])))))) (vRet (vC (.bool false))) vEnd)
    (b11_law s__law_do s__law_numbers s__law_pick s__law_refused s__law_same s__law_statement s_observe s_run))
def b9_law (s__law_do : SemG) (s__law_numbers : SemG) (s__law_pick : SemG) (s__law_refused : SemG) (s__law_same : SemG) (s__law_statement : SemG) (s_observe : SemG) (s_run : SemG) : VSt :=
  (vSeq (vSet 8 (vTup (vCons (v2 fIx (.pd (vV 5)) (.pd (vC (.int 3)))) (vCons (v2 fIx (.pd (vV 5)) (.pd (vC (.int 2)))) (vCons (vV 7) vNil)))))
    (b10_law s__law_do s__law_numbers s__law_pick s__law_refused s__law_same s__law_statement s_observe s_run))
def b8_law (s__law_do : SemG) (s__law_numbers : SemG) (s__law_pick : SemG) (s__law_refused : SemG) (s__law_same : SemG) (s__law_statement : SemG) (s_observe : SemG) (s_run : SemG) : VSt :=
  (vSeq (vSet 7 (v2 fIx (.pd (vV 5)) (.pd (vC (.int 0)))))
    (b9_law s__law_do s__law_numbers s__law_pick s__law_refused s__law_same s__law_statement s_observe s_run))
def b7_law (s__law_do : SemG) (s__law_numbers : SemG) (s__law_pick : SemG) (s__law_refused : SemG) (s__law_same : SemG) (s__law_statement : SemG) (s_observe : SemG) (s_run : SemG) : VSt :=
  (vSeq (vIfS (vNot (vTru (.pk 6))) (vRet (vCal s__law_refused [.pd (vV 4), .pd (vV 2)])) vEnd)
    (b8_law s__law_do s__law_numbers s__law_pick s__law_refused s__law_same s__law_statement s_observe s_run))
def b6_law (s__law_do : SemG) (s__law_numbers : SemG) (s__law_pick : SemG) (s__law_refused : SemG) (s__law_same : SemG) (s__law_statement : SemG) (s_observe : SemG) (s_run : SemG) : VSt :=
  (vSeq (vIfS (vNot (vTru (.pd (vCal s__law_same [.pd (vCal s_observe [.pd (vV 4), .pd (vV 2)]), .pd (vTup (vCons (vV 6) (vCons (v2 fIx (.pd (vV 5)) (.pd (vC (.int 3)))) vNil)))])))) (vRet (vC (.bool false))) vEnd)
    (b7_law s__law_do s__law_numbers s__law_pick s__law_refused s__law_same s__law_statement s_observe s_run))
def b5_law (s__law_do : SemG) (s__law_numbers : SemG) (s__law_pick : SemG) (s__law_refused : SemG) (s__law_same : SemG) (s__law_statement : SemG) (s_observe : SemG) (s_run : SemG) : VSt :=
  (vSeq (vSet 6 (vCal s__law_do [.pd (vV 4), .ln 5]))
    (b6_law s__law_do s__law_numbers s__law_pick s__law_refused s__law_same s__law_statement s_observe s_run))
def b4_law (s__law_do : SemG) (s__law_numbers : SemG) (s__law_pick : SemG) (s__law_refused : SemG) (s__law_same : SemG) (s__law_statement : SemG) (s_observe : SemG) (s_run : SemG) : VSt :=
  (vSeq (vSet 5 (vLstO [(vC (.int 0)), (vV 2), (v2 fMulV (.pd (vLst (vCons (vC (.int 0)) vNil))) (.pd (vC (.int 16)))), (vLst vNil)]))
    (b5_law s__law_do s__law_numbers s__law_pick s__law_refused s__law_same s__law_statement s_observe s_run))
def b3_law (s__law_do : SemG) (s__law_numbers : SemG) (s__law_pick : SemG) (s__law_refused : SemG) (s__law_same : SemG) (s__law_statement : SemG) (s_observe : SemG) (s_run : SemG) : VSt :=
  (vSeq (vSet 4 (vCal s__law_statement [.ln 1, .pd (vC (.int 4))]))
    (b4_law s__law_do s__law_numbers s__law_pick s__law_refused s__law_same s__law_statement s_observe s_run))
def b2_law (s__law_do : SemG) (s__law_numbers : SemG) (s__law_pick : SemG) (s__law_refused : SemG) (s__law_same : SemG) (s__law_statement : SemG) (s_observe : SemG) (s_run : SemG) : VSt :=
  (vSeq (vSet 3 (vCal s__law_pick [.ln 1, .pd (vC (.int 1000))]))
    (b3_law s__law_do s__law_numbers s__law_pick s__law_refused s__law_same s__law_statement s_observe s_run))
def b1_law (s__law_do : SemG) (s__law_numbers : SemG) (s__law_pick : SemG) (s__law_refused : SemG) (s__law_same : SemG) (s__law_statement : SemG) (s_observe : SemG) (s_run : SemG) : VSt :=
  (vSeq (vSet 2 (vCal s__law_pick [.ln 1, .pd (vC (.int 120))]))
    (b2_law s__law_do s__law_numbers s__law_pick s__law_refused s__law_same s__law_statement s_observe s_run))
def t_law (s__law_do : SemG) (s__law_numbers : SemG) (s__law_pick : SemG) (s__law_refused : SemG) (s__law_same : SemG) (s__law_statement : SemG) (s_observe : SemG) (s_run : SemG) : VSt :=
  (vSeq (vSet 1 (vCal s__law_numbers [.pd (vV 0)]))
    (b1_law s__law_do s__law_numbers s__law_pick s__law_refused s__law_same s__law_statement s_observe s_run))
theorem der_law {P : Program} {w : World} {K : PySem.W.Frag} {mg : Str → Option Value} {base : Heap} {f : Addr} (s__law_do : SemG) (s__law_numbers : SemG) (s__law_pick : SemG) (s__law_refused : SemG) (s__law_same : SemG) (s__law_statement : SemG) (s_observe : SemG) (s_run : SemG) (G__law_do : FnG P w K mg base 22 (Str.ofString "_law_do") 2 s__law_do) (G__law_numbers : FnG P w K mg base 1 (Str.ofString "_law_numbers") 1 s__law_numbers) (G__law_pick : FnG P w K mg base 1 (Str.ofString "_law_pick") 2 s__law_pick) (G__law_refused : FnG P w K mg base 10 (Str.ofString "_law_refused") 2 s__law_refused) (G__law_same : FnG P w K mg base 31 (Str.ofString "_law_same") 2 s__law_same) (G__law_statement : FnG P w K mg base 15 (Str.ofString "_law_statement") 2 s__law_statement) (G_observe : FnG P w K mg base 9 (Str.ofString "observe") 2 s_observe) (G_run : FnG P w K mg base 9 (Str.ofString "run") 2 s_run) (m_int : mg (Str.ofString "int") = none) (cdv : Value) (hcd0 : PySem.W.codeIn K cdv (Str.ofString "law") = true) (A : Around) (outer : List Env) (s : Shared) (H : Hp) (E : XK) (W : Wd) (wx : WX) (hr : Room 31 (A.deeper (envOfC (Str.ofString "law") (defScope st_law) s.heap.objs.size f cdv)))
    (tk : Takes (cxOf (L2.CX P w) P w K mg base N_law (Str.ofString "law") (defScope st_law) f cdv A outer s H E) wx) (pso : PassesOwn (model P w) (A.deeper (envOfC (Str.ofString "law") (defScope st_law) s.heap.objs.size f cdv)) (envOfC (Str.ofString "law") (defScope st_law) s.heap.objs.size f cdv) (cxOf (L2.CX P w) P w K mg base N_law (Str.ofString "law") (defScope st_law) f cdv A outer s H E).xe) : VSs (cxOf (L2.CX P w) P w K mg base N_law (Str.ofString "law") (defScope st_law) f cdv A outer s H E) W wx (defBody st_law) (t_law s__law_do s__law_numbers s__law_pick s__law_refused s__law_same s__law_statement s_observe s_run) := by
  have nd := sc_law.nd
  have hu := hu64 hr
  have hu1 := hu65 hr
  have hcd := kds_of hcd0
  exact (vss_cons (vs_set (i := 1) nd rfl (.inl rfl) (ve_cal G__law_numbers (hr.mono (by decide)) tk (vg_pd (ve_var 0) vg0) rfl (nd_l (l := []) rfl (by decide))))
    (vss_cons (vs_set (i := 2) nd rfl (.inl rfl) (ve_cal G__law_pick (hr.mono (by decide)) tk (vg_ln 1 (vg_pd (ve_int) vg0)) rfl (nd_l (l := [1]) rfl (by decide))))
    (vss_cons (vs_set (i := 3) nd rfl (.inl rfl) (ve_cal G__law_pick (hr.mono (by decide)) tk (vg_ln 1 (vg_pd (ve_int) vg0)) rfl (nd_l (l := [1]) rfl (by decide))))
    (vss_cons (vs_set (i := 4) nd rfl (.inl rfl) (ve_cal G__law_statement (hr.mono (by decide)) tk (vg_ln 1 (vg_pd (ve_int) vg0)) rfl (nd_l (l := [1]) rfl (by decide))))
    (vss_cons (vs_set (i := 5) nd rfl (.inl rfl) (ve_lstO (vm1 (ve_int) (vm1 (ve_var 2) (vm1 (ve_op (m := false) op_mulV snd_mulV (vo_pd (ve_lst (va_cons (ve_int) va_nil) (by decide))) (vo_pd (ve_int))) (vm1 (ve_lst va_nil (by decide)) vm0)))) (by decide)))
    (vss_cons (vs_set (i := 6) nd rfl (.inl rfl) (ve_cal G__law_do (hr.mono (by decide)) tk (vg_pd (ve_var 4) (vg_ln 5 vg0)) rfl (nd_l (l := [5]) rfl (by decide))))
    (vss_cons (vs_if (vc_not (vc_tru (vo_pd (ve_cal G__law_same (hr.mono (by decide)) tk (vg_pd (ve_cal G_observe (hr.mono (by decide)) tk (vg_pd (ve_var 4) (vg_pd (ve_var 2) vg0)) rfl (nd_l (l := []) rfl (by decide))) (vg_pd (ve_tup (va_cons (ve_var 6) (va_cons (ve_ix (m := false) (ix_V (hu2 hr)) snd_ix (vo_pd (ve_var 5)) (vo_pd (ve_int)) (fun _ _ => rfl)) va_nil)) (by decide)) vg0)) rfl (nd_l (l := []) rfl (by decide)))))) (vss_one (vs_ret (ve_bl))) vss_nil)
    (vss_cons (vs_if (vc_not (vc_tru (vo_pk 6))) (vss_one (vs_ret (ve_cal G__law_refused (hr.mono (by decide)) tk (vg_pd (ve_var 4) (vg_pd (ve_var 2) vg0)) rfl (nd_l (l := []) rfl (by decide))))) vss_nil)
    (vss_cons (vs_set (i := 7) nd rfl (.inl rfl) (ve_ix (m := false) (ix_V (hu2 hr)) snd_ix (vo_pd (ve_var 5)) (vo_pd (ve_int)) (fun _ _ => rfl)))
    (vss_cons (vs_set (i := 8) nd rfl (.inl rfl) (ve_tup (va_cons (ve_ix (m := false) (ix_V (hu2 hr)) snd_ix (vo_pd (ve_var 5)) (vo_pd (ve_int)) (fun _ _ => rfl)) (va_cons (ve_ix (m := false) (ix_V (hu2 hr)) snd_ix (vo_pd (ve_var 5)) (vo_pd (ve_int)) (fun _ _ => rfl)) (va_cons (ve_var 7) va_nil))) (by decide)))
    (vss_cons (vs_if (vc_w (vw_or (vc_not (vc_tru (vo_pd (ve_cal G__law_same (hr.mono (by decide)) tk (vg_pd (ve_cal G_run (hr.mono (by decide)) tk (vg_pd (ve_var 4) (vg_pd (ve_var 7) vg0)) rfl (nd_l (l := []) rfl (by decide))) (vg_pd (ve_var 8) vg0)) rfl (nd_l (l := []) rfl (by decide)))))) (vw_or1 (vc_not (vc_tru (vo_pd (ve_cal G__law_same (hr.mono (by decide)) tk (vg_pd (ve_cal G_run (hr.mono (by decide)) tk (vg_pd (ve_var 4) (vg_pd (ve_op (m := false) op_addV snd_add (vo_pk 7) (vo_pk 3)) vg0)) rfl (nd_l (l := []) rfl (by decide))) (vg_pd (ve_var 8) vg0)) rfl (nd_l (l := []) rfl (by decide))))))))) (vss_one (vs_ret (ve_bl))) vss_nil)
    (vss_cons (vs_set (i := 9) nd rfl (.inl rfl) (ve_lstO (vm1 (ve_int) (vm1 (ve_op (m := false) op_mod snd_mod (vo_pd (ve_t1 (m := false) call_int1 snd_int m_int (by decide +kernel) (vo_pk 3))) (vo_pk 7)) (vm1 (ve_op (m := false) op_mulV snd_mulV (vo_pd (ve_lst (va_cons (ve_int) va_nil) (by decide))) (vo_pd (ve_int))) (vm1 (ve_lst va_nil (by decide)) vm0)))) (by decide)))
    (vss_cons (vs_expr (ve_cal G__law_do (hr.mono (by decide)) tk (vg_pd (ve_var 4) (vg_ln 9 vg0)) rfl (nd_l (l := [9]) rfl (by decide))))
    (vss_cons (vs_if (vc_not (vc_tru (vo_pd (ve_cal G__law_same (hr.mono (by decide)) tk (vg_pd (ve_cal G_observe (hr.mono (by decide)) tk (vg_pd (ve_var 4) (vg_pd (ve_ix (m := false) (ix_V (hu2 hr)) snd_ix (vo_pd (ve_var 9)) (vo_pd (ve_int)) (fun _ _ => rfl)) vg0)) rfl (nd_l (l := []) rfl (by decide))) (vg_pd (ve_tup (va_cons (ve_bl) (va_cons (ve_ix (m := false) (ix_V (hu2 hr)) snd_ix (vo_pd (ve_var 9)) (vo_pd (ve_int)) (fun _ _ => rfl)) va_nil)) (by decide)) vg0)) rfl (nd_l (l := []) rfl (by decide)))))) (vss_one (vs_ret (ve_bl))) vss_nil)
    (vss_one (vs_ret (ve_and (ve_cal G__law_refused (hr.mono (by decide)) tk (vg_pd (ve_var 4) (vg_pd (ve_ix (m := false) (ix_V (hu2 hr)) snd_ix (vo_pd (ve_var 9)) (vo_pd (ve_int)) (fun _ _ => rfl)) vg0)) rfl (nd_l (l := []) rfl (by decide))) (ve_one (ve_cal G__law_refused (hr.mono (by decide)) tk (vg_pd (ve_var 4) (vg_pd (ve_op (m := false) op_sub snd_sub (vo_pk 7) (vo_pd (ve_int))) vg0)) rfl (nd_l (l := []) rfl (by decide)))))))))))))))))))))
end K52

/-! ## S52 -/
set_option Elab.async false
set_option linter.all false
set_option exponentiation.threshold 10000
set_option autoImplicit false
set_option maxRecDepth 100000
set_option maxHeartbeats 8000000
namespace K52
open PySem PySem.Spec PyProof.Rows L2 ML LM
open LP (wr rg32)
/-! ### runs, one after the other -/
theorem go_all {c : S} : ∀ n, (go n c).1.td ≠ [] → (go n c).2 = n := by
  intro n
  induction n generalizing c with
  | zero => intro _; rfl
  | succ n ih =>
    intro h
    by_cases h0 : c.td = []
    · rw [go_done _ h0] at h
      exact absurd h0 h
    · rw [go_cons _ h0] at h ⊢
      have := ih h
      show (go n (stp c)).2 + 1 = n + 1
      omega
theorem go_app (k : Nat) (c : S) (R : List LM.St) (B : List Int) : go k (frm c R B) = if (go k c).1.td = [] then ((go (k - (go k c).2) ⟨R, (go k c).1.σ, B ++ (go k c).1.sh⟩).1, (go (k - (go k c).2) ⟨R, (go k c).1.σ, B ++ (go k c).1.sh⟩).2 + (go k c).2) else (frm (go k c).1 R B, k) := by
  induction k generalizing c with
  | zero =>
    show (frm c R B, 0) = if c.td = [] then ((⟨R, c.σ, B ++ c.sh⟩ : S), 0) else (frm c R B, 0)
    split
    · rename_i h
      unfold frm
      rw [h]
      rfl
    · rfl
  | succ k ih =>
    by_cases h0 : c.td = []
    · rw [go_done _ h0, if_pos h0]
      unfold frm
      rw [h0]
      rfl
    · have hf : (frm c R B).td ≠ [] := by
        intro z
        exact h0 (List.append_eq_nil_iff.mp z).1
      rw [go_cons _ hf, go_cons _ h0, stp_frm h0, ih (stp c)]
      by_cases h1 : (go k (stp c)).1.td = []
      · rw [if_pos h1, if_pos h1]
        refine Prod.ext ?_ ?_
        · simp only [Nat.add_sub_add_right]
        · simp only [Nat.add_sub_add_right]
          rw [Nat.add_assoc]
      · rw [if_neg h1, if_neg h1]
theorem go_sh : ∀ (n : Nat) (c : S), (go n c).1.sh.length ≤ c.sh.length + (go n c).2
  | 0, c => Nat.le_refl _
  | n + 1, c => by
    by_cases h : c.td = []
    · rw [go_done _ h]; exact Nat.le_add_right _ _
    · rw [go_cons _ h]
      have := go_sh n (stp c)
      have h2 : (stp c).sh.length ≤ c.sh.length + 1 := by
        obtain ⟨td, σ, sh⟩ := c
        cases td with
        | nil => exact absurd rfl h
        | cons i r =>
          cases i with
          | shw e => show (sh ++ [_]).length ≤ sh.length + 1; simp
          | test e a =>
            show (if ev σ e = 0 then S.mk r σ sh else ⟨a :: .test e a :: r, σ, sh⟩).sh.length ≤ sh.length + 1
            split <;> exact Nat.le_succ _
          | _ => exact Nat.le_succ _
      show (go n (stp c)).1.sh.length ≤ c.sh.length + ((go n (stp c)).2 + 1)
      omega
theorem go_st {c : S} {n : Nat} (g : G n c) : ∀ k, sok (go k c).1.σ := by
  intro k
  induction k generalizing c n with
  | zero => exact g.st
  | succ k ih =>
    by_cases h : c.td = []
    · rw [go_done _ h]; exact g.st
    · rw [go_cons _ h]; exact ih g.stp
/-! ### values -/
def sm_wrap : SemG := LP.sm_wrap
theorem s_wrap {ins : List Sl} {Qd : Sl → List Sl → Prop} {Xd : Exn → List Sl → Prop} (hl : ins.length = 1) (h : sm_wrap ins Qd Xd) : t__law_wrap (enG 1 Qd Xd) (ini 1 ins) := LP.s_wrap hl h
def s_num := @LP.s_num
def sm_lop : SemG := semV fun ds Qd _ => ∃ (n : Nm) (a b : Int), ds = [.str n.t, .int a, .int b] ∧ rg a ∧ Qd (.sh (.int (n.ap a b)))
theorem s_lop {ins : List Sl} {Qd : Sl → List Sl → Prop} {Xd : Exn → List Sl → Prop} (hl : ins.length = 3) (h : sm_lop ins Qd Xd) : t__law_operate sm_wrap (enG 3 Qd Xd) (ini 3 ins) := by
  obtain ⟨_, rfl, n, a, b, rfl, ha, h1⟩ := h
  have m := mul_ok a b (by unfold rg rg32 at ha; omega)
  cases n with
  | add =>
    simp [-Bool.exists_bool, vSeq, vAsg, vV, vMv, vS, vIfS, vOr, vAnd, vNot, vB, vv1, vv2, vv3, Opr.ev, Opr.fin, Opr.sl, Opr.base, Sl.read, Sl.rd, Sl.ra, Sl.get, Sl.isIn, Sl.ot, Ot.rd, Ot.get, gets_lv, leaves_lv, Sh.data, Sh.root, Rs.to, ↓lv_in, -List.map_map, fst_0, fst_s, ini, List.replicate_succ, enG, bTup, bCons, bName, bNil, inAt, vC, vEnd, vBrk, vCnt, vRaise, fLt, fAdd_int, fGt, fGe, fLe, fSub, fMod, fI, fFdv, cPow, fPow, fMin2, fMax2, fInt, fAbs, fNeg, Option.bind, vRet, vSet, vDrp, vCal, agEv, agIn, agIn1, lns_nil, lns_pd, lns_br, lns_ln, bor_nil, bor_pd, bor_ln, bor_br, out_nil, out_pd, out_br, out_ln, lat_nil, lat_pd, lat_br, lat_ln, keep_fd, ex_pair, keepO_sh, lnAtm_no, agOut_no, Sl.atm, atom_i, atom_s, atom_b, atom_n, atom_k, vCons, vNil, vTup, vLst, vIf, vTru, truD, vNotV, vNotT, flat_fd, vAndV, vOrV, fEq_int, fNe_int, fEq_str, fNe_str, fEq_is, fEq_si, vMet, mvEv, Opr.loc, locAt, Ot.at, Ot.put, Nde.set, append_lv, pop_lv, reverse_lv, insert_lv, vLc_eq, vFor_eq, wipeD, vYes, iR1, iL, iK, vAug, fAug_int, slotInt, fLen_list, ML.isNon, fIsN, fNotN, vIxN, ixLoc, kidQ, ixN, os_inj, ix0, ix1, ix2, ix3, ix4, lx0, lx1, lx2, lx3, fLen_tup, xAnd, xNot, xIs, vTry, enX, keepO, Ot.root, Ot.rd, fInt, vTry0, isB_n, isB_b, isB_i, isB_s, isB_l, isB_t, isI_n, isI_b, isI_i, isI_s, isI_l, isI_t, isS_n, isS_b, isS_i, isS_s, isS_l, isS_t, isL_n, isL_b, isL_i, isL_s, isL_l, isL_t, isT_n, isT_b, isT_i, isT_s, isT_l, isT_t, plc, Sh.pos, Sh.root, vLstO, ots, t__law_operate, Nm.t]
    exact ⟨[.int (a + b)], rfl, _, rfl, fun outs => by simp [-Bool.exists_bool, vSeq, vAsg, vV, vMv, vS, vIfS, vOr, vAnd, vNot, vB, vv1, vv2, vv3, Opr.ev, Opr.fin, Opr.sl, Opr.base, Sl.read, Sl.rd, Sl.ra, Sl.get, Sl.isIn, Sl.ot, Ot.rd, Ot.get, gets_lv, leaves_lv, Sh.data, Sh.root, Rs.to, ↓lv_in, -List.map_map, fst_0, fst_s, ini, List.replicate_succ, enG, bTup, bCons, bName, bNil, inAt, vC, vEnd, vBrk, vCnt, vRaise, fLt, fAdd_int, fGt, fGe, fLe, fSub, fMod, fI, fFdv, cPow, fPow, fMin2, fMax2, fInt, fAbs, fNeg, Option.bind, vRet, vSet, vDrp, vCal, agEv, agIn, agIn1, lns_nil, lns_pd, lns_br, lns_ln, bor_nil, bor_pd, bor_ln, bor_br, out_nil, out_pd, out_br, out_ln, lat_nil, lat_pd, lat_br, lat_ln, keep_fd, ex_pair, keepO_sh, lnAtm_no, agOut_no, Sl.atm, atom_i, atom_s, atom_b, atom_n, atom_k, vCons, vNil, vTup, vLst, vIf, vTru, truD, vNotV, vNotT, flat_fd, vAndV, vOrV, fEq_int, fNe_int, fEq_str, fNe_str, fEq_is, fEq_si, vMet, mvEv, Opr.loc, locAt, Ot.at, Ot.put, Nde.set, append_lv, pop_lv, reverse_lv, insert_lv, vLc_eq, vFor_eq, wipeD, vYes, iR1, iL, iK, vAug, fAug_int, slotInt, fLen_list, ML.isNon, fIsN, fNotN, vIxN, ixLoc, kidQ, ixN, os_inj, ix0, ix1, ix2, ix3, ix4, lx0, lx1, lx2, lx3, fLen_tup, xAnd, xNot, xIs, vTry, enX, keepO, Ot.root, Ot.rd, fInt, vTry0, isB_n, isB_b, isB_i, isB_s, isB_l, isB_t, isI_n, isI_b, isI_i, isI_s, isI_l, isI_t, isS_n, isS_b, isS_i, isS_s, isS_l, isS_t, isL_n, isL_b, isL_i, isL_s, isL_l, isL_t, isT_n, isT_b, isT_i, isT_s, isT_l, isT_t, plc, Sh.pos, Sh.root, vLstO, ots]; exact h1 _⟩
  | sub =>
    simp [-Bool.exists_bool, vSeq, vAsg, vV, vMv, vS, vIfS, vOr, vAnd, vNot, vB, vv1, vv2, vv3, Opr.ev, Opr.fin, Opr.sl, Opr.base, Sl.read, Sl.rd, Sl.ra, Sl.get, Sl.isIn, Sl.ot, Ot.rd, Ot.get, gets_lv, leaves_lv, Sh.data, Sh.root, Rs.to, ↓lv_in, -List.map_map, fst_0, fst_s, ini, List.replicate_succ, enG, bTup, bCons, bName, bNil, inAt, vC, vEnd, vBrk, vCnt, vRaise, fLt, fAdd_int, fGt, fGe, fLe, fSub, fMod, fI, fFdv, cPow, fPow, fMin2, fMax2, fInt, fAbs, fNeg, Option.bind, vRet, vSet, vDrp, vCal, agEv, agIn, agIn1, lns_nil, lns_pd, lns_br, lns_ln, bor_nil, bor_pd, bor_ln, bor_br, out_nil, out_pd, out_br, out_ln, lat_nil, lat_pd, lat_br, lat_ln, keep_fd, ex_pair, keepO_sh, lnAtm_no, agOut_no, Sl.atm, atom_i, atom_s, atom_b, atom_n, atom_k, vCons, vNil, vTup, vLst, vIf, vTru, truD, vNotV, vNotT, flat_fd, vAndV, vOrV, fEq_int, fNe_int, fEq_str, fNe_str, fEq_is, fEq_si, vMet, mvEv, Opr.loc, locAt, Ot.at, Ot.put, Nde.set, append_lv, pop_lv, reverse_lv, insert_lv, vLc_eq, vFor_eq, wipeD, vYes, iR1, iL, iK, vAug, fAug_int, slotInt, fLen_list, ML.isNon, fIsN, fNotN, vIxN, ixLoc, kidQ, ixN, os_inj, ix0, ix1, ix2, ix3, ix4, lx0, lx1, lx2, lx3, fLen_tup, xAnd, xNot, xIs, vTry, enX, keepO, Ot.root, Ot.rd, fInt, vTry0, isB_n, isB_b, isB_i, isB_s, isB_l, isB_t, isI_n, isI_b, isI_i, isI_s, isI_l, isI_t, isS_n, isS_b, isS_i, isS_s, isS_l, isS_t, isL_n, isL_b, isL_i, isL_s, isL_l, isL_t, isT_n, isT_b, isT_i, isT_s, isT_l, isT_t, plc, Sh.pos, Sh.root, vLstO, ots, t__law_operate, b1__law_operate, Nm.t]
    exact ⟨[.int (a - b)], rfl, _, rfl, fun outs => by simp [-Bool.exists_bool, vSeq, vAsg, vV, vMv, vS, vIfS, vOr, vAnd, vNot, vB, vv1, vv2, vv3, Opr.ev, Opr.fin, Opr.sl, Opr.base, Sl.read, Sl.rd, Sl.ra, Sl.get, Sl.isIn, Sl.ot, Ot.rd, Ot.get, gets_lv, leaves_lv, Sh.data, Sh.root, Rs.to, ↓lv_in, -List.map_map, fst_0, fst_s, ini, List.replicate_succ, enG, bTup, bCons, bName, bNil, inAt, vC, vEnd, vBrk, vCnt, vRaise, fLt, fAdd_int, fGt, fGe, fLe, fSub, fMod, fI, fFdv, cPow, fPow, fMin2, fMax2, fInt, fAbs, fNeg, Option.bind, vRet, vSet, vDrp, vCal, agEv, agIn, agIn1, lns_nil, lns_pd, lns_br, lns_ln, bor_nil, bor_pd, bor_ln, bor_br, out_nil, out_pd, out_br, out_ln, lat_nil, lat_pd, lat_br, lat_ln, keep_fd, ex_pair, keepO_sh, lnAtm_no, agOut_no, Sl.atm, atom_i, atom_s, atom_b, atom_n, atom_k, vCons, vNil, vTup, vLst, vIf, vTru, truD, vNotV, vNotT, flat_fd, vAndV, vOrV, fEq_int, fNe_int, fEq_str, fNe_str, fEq_is, fEq_si, vMet, mvEv, Opr.loc, locAt, Ot.at, Ot.put, Nde.set, append_lv, pop_lv, reverse_lv, insert_lv, vLc_eq, vFor_eq, wipeD, vYes, iR1, iL, iK, vAug, fAug_int, slotInt, fLen_list, ML.isNon, fIsN, fNotN, vIxN, ixLoc, kidQ, ixN, os_inj, ix0, ix1, ix2, ix3, ix4, lx0, lx1, lx2, lx3, fLen_tup, xAnd, xNot, xIs, vTry, enX, keepO, Ot.root, Ot.rd, fInt, vTry0, isB_n, isB_b, isB_i, isB_s, isB_l, isB_t, isI_n, isI_b, isI_i, isI_s, isI_l, isI_t, isS_n, isS_b, isS_i, isS_s, isS_l, isS_t, isL_n, isL_b, isL_i, isL_s, isL_l, isL_t, isT_n, isT_b, isT_i, isT_s, isT_l, isT_t, plc, Sh.pos, Sh.root, vLstO, ots]; exact h1 _⟩
  | mul =>
    simp [-Bool.exists_bool, vSeq, vAsg, vV, vMv, vS, vIfS, vOr, vAnd, vNot, vB, vv1, vv2, vv3, Opr.ev, Opr.fin, Opr.sl, Opr.base, Sl.read, Sl.rd, Sl.ra, Sl.get, Sl.isIn, Sl.ot, Ot.rd, Ot.get, gets_lv, leaves_lv, Sh.data, Sh.root, Rs.to, ↓lv_in, -List.map_map, fst_0, fst_s, ini, List.replicate_succ, enG, bTup, bCons, bName, bNil, inAt, vC, vEnd, vBrk, vCnt, vRaise, fLt, fAdd_int, fGt, fGe, fLe, fSub, fMod, fI, fFdv, cPow, fPow, fMin2, fMax2, fInt, fAbs, fNeg, Option.bind, vRet, vSet, vDrp, vCal, agEv, agIn, agIn1, lns_nil, lns_pd, lns_br, lns_ln, bor_nil, bor_pd, bor_ln, bor_br, out_nil, out_pd, out_br, out_ln, lat_nil, lat_pd, lat_br, lat_ln, keep_fd, ex_pair, keepO_sh, lnAtm_no, agOut_no, Sl.atm, atom_i, atom_s, atom_b, atom_n, atom_k, vCons, vNil, vTup, vLst, vIf, vTru, truD, vNotV, vNotT, flat_fd, vAndV, vOrV, fEq_int, fNe_int, fEq_str, fNe_str, fEq_is, fEq_si, vMet, mvEv, Opr.loc, locAt, Ot.at, Ot.put, Nde.set, append_lv, pop_lv, reverse_lv, insert_lv, vLc_eq, vFor_eq, wipeD, vYes, iR1, iL, iK, vAug, fAug_int, slotInt, fLen_list, ML.isNon, fIsN, fNotN, vIxN, ixLoc, kidQ, ixN, os_inj, ix0, ix1, ix2, ix3, ix4, lx0, lx1, lx2, lx3, fLen_tup, xAnd, xNot, xIs, vTry, enX, keepO, Ot.root, Ot.rd, fInt, vTry0, isB_n, isB_b, isB_i, isB_s, isB_l, isB_t, isI_n, isI_b, isI_i, isI_s, isI_l, isI_t, isS_n, isS_b, isS_i, isS_s, isS_l, isS_t, isL_n, isL_b, isL_i, isL_s, isL_l, isL_t, isT_n, isT_b, isT_i, isT_s, isT_l, isT_t, plc, Sh.pos, Sh.root, vLstO, ots, t__law_operate, b1__law_operate, b2__law_operate, Nm.t, m]
    exact ⟨[.int (a * b)], rfl, _, rfl, fun outs => by simp [-Bool.exists_bool, vSeq, vAsg, vV, vMv, vS, vIfS, vOr, vAnd, vNot, vB, vv1, vv2, vv3, Opr.ev, Opr.fin, Opr.sl, Opr.base, Sl.read, Sl.rd, Sl.ra, Sl.get, Sl.isIn, Sl.ot, Ot.rd, Ot.get, gets_lv, leaves_lv, Sh.data, Sh.root, Rs.to, ↓lv_in, -List.map_map, fst_0, fst_s, ini, List.replicate_succ, enG, bTup, bCons, bName, bNil, inAt, vC, vEnd, vBrk, vCnt, vRaise, fLt, fAdd_int, fGt, fGe, fLe, fSub, fMod, fI, fFdv, cPow, fPow, fMin2, fMax2, fInt, fAbs, fNeg, Option.bind, vRet, vSet, vDrp, vCal, agEv, agIn, agIn1, lns_nil, lns_pd, lns_br, lns_ln, bor_nil, bor_pd, bor_ln, bor_br, out_nil, out_pd, out_br, out_ln, lat_nil, lat_pd, lat_br, lat_ln, keep_fd, ex_pair, keepO_sh, lnAtm_no, agOut_no, Sl.atm, atom_i, atom_s, atom_b, atom_n, atom_k, vCons, vNil, vTup, vLst, vIf, vTru, truD, vNotV, vNotT, flat_fd, vAndV, vOrV, fEq_int, fNe_int, fEq_str, fNe_str, fEq_is, fEq_si, vMet, mvEv, Opr.loc, locAt, Ot.at, Ot.put, Nde.set, append_lv, pop_lv, reverse_lv, insert_lv, vLc_eq, vFor_eq, wipeD, vYes, iR1, iL, iK, vAug, fAug_int, slotInt, fLen_list, ML.isNon, fIsN, fNotN, vIxN, ixLoc, kidQ, ixN, os_inj, ix0, ix1, ix2, ix3, ix4, lx0, lx1, lx2, lx3, fLen_tup, xAnd, xNot, xIs, vTry, enX, keepO, Ot.root, Ot.rd, fInt, vTry0, isB_n, isB_b, isB_i, isB_s, isB_l, isB_t, isI_n, isI_b, isI_i, isI_s, isI_l, isI_t, isS_n, isS_b, isS_i, isS_s, isS_l, isS_t, isL_n, isL_b, isL_i, isL_s, isL_l, isL_t, isT_n, isT_b, isT_i, isT_s, isT_l, isT_t, plc, Sh.pos, Sh.root, vLstO, ots]; exact h1 _⟩
  | less =>
    have h1' : ∀ outs, Qd (.sh (.int (if a < b then 1 else 0))) outs := h1
    simp [-Bool.exists_bool, vSeq, vAsg, vV, vMv, vS, vIfS, vOr, vAnd, vNot, vB, vv1, vv2, vv3, Opr.ev, Opr.fin, Opr.sl, Opr.base, Sl.read, Sl.rd, Sl.ra, Sl.get, Sl.isIn, Sl.ot, Ot.rd, Ot.get, gets_lv, leaves_lv, Sh.data, Sh.root, Rs.to, ↓lv_in, -List.map_map, fst_0, fst_s, ini, List.replicate_succ, enG, bTup, bCons, bName, bNil, inAt, vC, vEnd, vBrk, vCnt, vRaise, fLt, fAdd_int, fGt, fGe, fLe, fSub, fMod, fI, fFdv, cPow, fPow, fMin2, fMax2, fInt, fAbs, fNeg, Option.bind, vRet, vSet, vDrp, vCal, agEv, agIn, agIn1, lns_nil, lns_pd, lns_br, lns_ln, bor_nil, bor_pd, bor_ln, bor_br, out_nil, out_pd, out_br, out_ln, lat_nil, lat_pd, lat_br, lat_ln, keep_fd, ex_pair, keepO_sh, lnAtm_no, agOut_no, Sl.atm, atom_i, atom_s, atom_b, atom_n, atom_k, vCons, vNil, vTup, vLst, vIf, vTru, truD, vNotV, vNotT, flat_fd, vAndV, vOrV, fEq_int, fNe_int, fEq_str, fNe_str, fEq_is, fEq_si, vMet, mvEv, Opr.loc, locAt, Ot.at, Ot.put, Nde.set, append_lv, pop_lv, reverse_lv, insert_lv, vLc_eq, vFor_eq, wipeD, vYes, iR1, iL, iK, vAug, fAug_int, slotInt, fLen_list, ML.isNon, fIsN, fNotN, vIxN, ixLoc, kidQ, ixN, os_inj, ix0, ix1, ix2, ix3, ix4, lx0, lx1, lx2, lx3, fLen_tup, xAnd, xNot, xIs, vTry, enX, keepO, Ot.root, Ot.rd, fInt, vTry0, isB_n, isB_b, isB_i, isB_s, isB_l, isB_t, isI_n, isI_b, isI_i, isI_s, isI_l, isI_t, isS_n, isS_b, isS_i, isS_s, isS_l, isS_t, isL_n, isL_b, isL_i, isL_s, isL_l, isL_t, isT_n, isT_b, isT_i, isT_s, isT_l, isT_t, plc, Sh.pos, Sh.root, vLstO, ots, t__law_operate, b1__law_operate, b2__law_operate, b3__law_operate, Nm.t]
    by_cases c : a < b
    · simp only [c, if_true] at h1' ⊢
      exact h1' _
    · simp only [c, if_false] at h1' ⊢
      exact h1' _
  | same =>
    have h1' : ∀ outs, Qd (.sh (.int (if a = b then 1 else 0))) outs := h1
    simp [-Bool.exists_bool, vSeq, vAsg, vV, vMv, vS, vIfS, vOr, vAnd, vNot, vB, vv1, vv2, vv3, Opr.ev, Opr.fin, Opr.sl, Opr.base, Sl.read, Sl.rd, Sl.ra, Sl.get, Sl.isIn, Sl.ot, Ot.rd, Ot.get, gets_lv, leaves_lv, Sh.data, Sh.root, Rs.to, ↓lv_in, -List.map_map, fst_0, fst_s, ini, List.replicate_succ, enG, bTup, bCons, bName, bNil, inAt, vC, vEnd, vBrk, vCnt, vRaise, fLt, fAdd_int, fGt, fGe, fLe, fSub, fMod, fI, fFdv, cPow, fPow, fMin2, fMax2, fInt, fAbs, fNeg, Option.bind, vRet, vSet, vDrp, vCal, agEv, agIn, agIn1, lns_nil, lns_pd, lns_br, lns_ln, bor_nil, bor_pd, bor_ln, bor_br, out_nil, out_pd, out_br, out_ln, lat_nil, lat_pd, lat_br, lat_ln, keep_fd, ex_pair, keepO_sh, lnAtm_no, agOut_no, Sl.atm, atom_i, atom_s, atom_b, atom_n, atom_k, vCons, vNil, vTup, vLst, vIf, vTru, truD, vNotV, vNotT, flat_fd, vAndV, vOrV, fEq_int, fNe_int, fEq_str, fNe_str, fEq_is, fEq_si, vMet, mvEv, Opr.loc, locAt, Ot.at, Ot.put, Nde.set, append_lv, pop_lv, reverse_lv, insert_lv, vLc_eq, vFor_eq, wipeD, vYes, iR1, iL, iK, vAug, fAug_int, slotInt, fLen_list, ML.isNon, fIsN, fNotN, vIxN, ixLoc, kidQ, ixN, os_inj, ix0, ix1, ix2, ix3, ix4, lx0, lx1, lx2, lx3, fLen_tup, xAnd, xNot, xIs, vTry, enX, keepO, Ot.root, Ot.rd, fInt, vTry0, isB_n, isB_b, isB_i, isB_s, isB_l, isB_t, isI_n, isI_b, isI_i, isI_s, isI_l, isI_t, isS_n, isS_b, isS_i, isS_s, isS_l, isS_t, isL_n, isL_b, isL_i, isL_s, isL_l, isL_t, isT_n, isT_b, isT_i, isT_s, isT_l, isT_t, plc, Sh.pos, Sh.root, vLstO, ots, t__law_operate, b1__law_operate, b2__law_operate, b3__law_operate, b4__law_operate, Nm.t]
    by_cases c : a = b
    · simp only [c, if_true] at h1' ⊢
      exact h1' _
    · simp only [c, if_false] at h1' ⊢
      exact h1' _
def sm_val (n : Nat) : SemG := semV fun ds Qd _ => ∃ (e : Ex) (σ : List Int), ds = [e.d, .list (zs σ)] ∧ e.ok n ∧ sok σ ∧ Qd (.sh (.int (ev σ e)))
theorem val_leaf {n : Nat} {s : SemG} {e : Ex} {σ : List Int} {Qd : Sl → List Sl → Prop} {Xd : Exn → List Sl → Prop} (he : (∃ i, e = .num i) ∨ ∃ i, e = .var i) (ho : e.ok n) (hs : sok σ) (h : ∀ outs, Qd (.sh (.int (ev σ e))) outs) :
    t__law_value sm_lop s (enG 2 Qd Xd) (ini 2 [.sh e.d, .sh (.list (zs σ))]) := by
  rcases he with ⟨i, rfl⟩ | ⟨i, rfl⟩
  · simp [-Bool.exists_bool, vSeq, vAsg, vV, vMv, vS, vIfS, vOr, vAnd, vNot, vB, vv1, vv2, vv3, Opr.ev, Opr.fin, Opr.sl, Opr.base, Sl.read, Sl.rd, Sl.ra, Sl.get, Sl.isIn, Sl.ot, Ot.rd, Ot.get, gets_lv, leaves_lv, Sh.data, Sh.root, Rs.to, ↓lv_in, -List.map_map, fst_0, fst_s, ini, List.replicate_succ, enG, bTup, bCons, bName, bNil, inAt, vC, vEnd, vBrk, vCnt, vRaise, fLt, fAdd_int, fGt, fGe, fLe, fSub, fMod, fI, fFdv, cPow, fPow, fMin2, fMax2, fInt, fAbs, fNeg, Option.bind, vRet, vSet, vDrp, vCal, agEv, agIn, agIn1, lns_nil, lns_pd, lns_br, lns_ln, bor_nil, bor_pd, bor_ln, bor_br, out_nil, out_pd, out_br, out_ln, lat_nil, lat_pd, lat_br, lat_ln, keep_fd, ex_pair, keepO_sh, lnAtm_no, agOut_no, Sl.atm, atom_i, atom_s, atom_b, atom_n, atom_k, vCons, vNil, vTup, vLst, vIf, vTru, truD, vNotV, vNotT, flat_fd, vAndV, vOrV, fEq_int, fNe_int, fEq_str, fNe_str, fEq_is, fEq_si, vMet, mvEv, Opr.loc, locAt, Ot.at, Ot.put, Nde.set, append_lv, pop_lv, reverse_lv, insert_lv, vLc_eq, vFor_eq, wipeD, vYes, iR1, iL, iK, vAug, fAug_int, slotInt, fLen_list, ML.isNon, fIsN, fNotN, vIxN, ixLoc, kidQ, ixN, os_inj, ix0, ix1, ix2, ix3, ix4, lx0, lx1, lx2, lx3, fLen_tup, xAnd, xNot, xIs, vTry, enX, keepO, Ot.root, Ot.rd, fInt, vTry0, isB_n, isB_b, isB_i, isB_s, isB_l, isB_t, isI_n, isI_b, isI_i, isI_s, isI_l, isI_t, isS_n, isS_b, isS_i, isS_s, isS_l, isS_t, isL_n, isL_b, isL_i, isL_s, isL_l, isL_t, isT_n, isT_b, isT_i, isT_s, isT_l, isT_t, plc, Sh.pos, Sh.root, vLstO, ots, t__law_value, Ex.d]
    exact h _
  · have hi : i < σ.length := by
      rw [hs.1]
      cases n <;> exact ho
    have hx : fIx (.list (zs σ)) (.int (i : Int)) = some (.sh (.int (σ.getD i 0))) := ixl (by rw [List.getElem?_map, List.getElem?_eq_getElem hi, List.getD_eq_getElem?_getD, List.getElem?_eq_getElem hi]; rfl)
    simp [-Bool.exists_bool, vSeq, vAsg, vV, vMv, vS, vIfS, vOr, vAnd, vNot, vB, vv1, vv2, vv3, Opr.ev, Opr.fin, Opr.sl, Opr.base, Sl.read, Sl.rd, Sl.ra, Sl.get, Sl.isIn, Sl.ot, Ot.rd, Ot.get, gets_lv, leaves_lv, Sh.data, Sh.root, Rs.to, ↓lv_in, -List.map_map, fst_0, fst_s, ini, List.replicate_succ, enG, bTup, bCons, bName, bNil, inAt, vC, vEnd, vBrk, vCnt, vRaise, fLt, fAdd_int, fGt, fGe, fLe, fSub, fMod, fI, fFdv, cPow, fPow, fMin2, fMax2, fInt, fAbs, fNeg, Option.bind, vRet, vSet, vDrp, vCal, agEv, agIn, agIn1, lns_nil, lns_pd, lns_br, lns_ln, bor_nil, bor_pd, bor_ln, bor_br, out_nil, out_pd, out_br, out_ln, lat_nil, lat_pd, lat_br, lat_ln, keep_fd, ex_pair, keepO_sh, lnAtm_no, agOut_no, Sl.atm, atom_i, atom_s, atom_b, atom_n, atom_k, vCons, vNil, vTup, vLst, vIf, vTru, truD, vNotV, vNotT, flat_fd, vAndV, vOrV, fEq_int, fNe_int, fEq_str, fNe_str, fEq_is, fEq_si, vMet, mvEv, Opr.loc, locAt, Ot.at, Ot.put, Nde.set, append_lv, pop_lv, reverse_lv, insert_lv, vLc_eq, vFor_eq, wipeD, vYes, iR1, iL, iK, vAug, fAug_int, slotInt, fLen_list, ML.isNon, fIsN, fNotN, vIxN, ixLoc, kidQ, ixN, os_inj, ix0, ix1, ix2, ix3, ix4, lx0, lx1, lx2, lx3, fLen_tup, xAnd, xNot, xIs, vTry, enX, keepO, Ot.root, Ot.rd, fInt, vTry0, isB_n, isB_b, isB_i, isB_s, isB_l, isB_t, isI_n, isI_b, isI_i, isI_s, isI_l, isI_t, isS_n, isS_b, isS_i, isS_s, isS_l, isS_t, isL_n, isL_b, isL_i, isL_s, isL_l, isL_t, isT_n, isT_b, isT_i, isT_s, isT_l, isT_t, plc, Sh.pos, Sh.root, vLstO, ots, q1__law_value, b2__law_value, b1__law_value, t__law_value, Ex.d, hx]
    exact h _
theorem s_val0 {ins : List Sl} {Qd : Sl → List Sl → Prop} {Xd : Exn → List Sl → Prop} (hl : ins.length = 2) (h : sm_val 0 ins Qd Xd) : t__law_value sm_lop semNo (enG 2 Qd Xd) (ini 2 ins) := by
  obtain ⟨_, rfl, e, σ, rfl, ho, hs, h1⟩ := h
  refine val_leaf ?_ ho hs h1
  cases e with
  | num i => exact .inl ⟨i, rfl⟩
  | var i => exact .inr ⟨i, rfl⟩
  | op n a b => exact ho.elim
theorem s_val {n : Nat} {ins : List Sl} {Qd : Sl → List Sl → Prop} {Xd : Exn → List Sl → Prop} (hl : ins.length = 2) (h : sm_val (n + 1) ins Qd Xd) : t__law_value sm_lop (sm_val n) (enG 2 Qd Xd) (ini 2 ins) := by
  obtain ⟨_, rfl, e, σ, rfl, ho, hs, h1⟩ := h
  cases e with
  | num i => exact val_leaf (.inl ⟨i, rfl⟩) ho hs h1
  | var i => exact val_leaf (.inr ⟨i, rfl⟩) ho hs h1
  | op m a b =>
    have n1 : ¬ m.t = Str.ofString "num" := by cases m <;> exact by decide +kernel
    have n2 : ¬ m.t = Str.ofString "var" := by cases m <;> exact by decide +kernel
    simp [-Bool.exists_bool, vSeq, vAsg, vV, vMv, vS, vIfS, vOr, vAnd, vNot, vB, vv1, vv2, vv3, Opr.ev, Opr.fin, Opr.sl, Opr.base, Sl.read, Sl.rd, Sl.ra, Sl.get, Sl.isIn, Sl.ot, Ot.rd, Ot.get, gets_lv, leaves_lv, Sh.data, Sh.root, Rs.to, ↓lv_in, -List.map_map, fst_0, fst_s, ini, List.replicate_succ, enG, bTup, bCons, bName, bNil, inAt, vC, vEnd, vBrk, vCnt, vRaise, fLt, fAdd_int, fGt, fGe, fLe, fSub, fMod, fI, fFdv, cPow, fPow, fMin2, fMax2, fInt, fAbs, fNeg, Option.bind, vRet, vSet, vDrp, vCal, agEv, agIn, agIn1, lns_nil, lns_pd, lns_br, lns_ln, bor_nil, bor_pd, bor_ln, bor_br, out_nil, out_pd, out_br, out_ln, lat_nil, lat_pd, lat_br, lat_ln, keep_fd, ex_pair, keepO_sh, lnAtm_no, agOut_no, Sl.atm, atom_i, atom_s, atom_b, atom_n, atom_k, vCons, vNil, vTup, vLst, vIf, vTru, truD, vNotV, vNotT, flat_fd, vAndV, vOrV, fEq_int, fNe_int, fEq_str, fNe_str, fEq_is, fEq_si, vMet, mvEv, Opr.loc, locAt, Ot.at, Ot.put, Nde.set, append_lv, pop_lv, reverse_lv, insert_lv, vLc_eq, vFor_eq, wipeD, vYes, iR1, iL, iK, vAug, fAug_int, slotInt, fLen_list, ML.isNon, fIsN, fNotN, vIxN, ixLoc, kidQ, ixN, os_inj, ix0, ix1, ix2, ix3, ix4, lx0, lx1, lx2, lx3, fLen_tup, xAnd, xNot, xIs, vTry, enX, keepO, Ot.root, Ot.rd, fInt, vTry0, isB_n, isB_b, isB_i, isB_s, isB_l, isB_t, isI_n, isI_b, isI_i, isI_s, isI_l, isI_t, isS_n, isS_b, isS_i, isS_s, isS_l, isS_t, isL_n, isL_b, isL_i, isL_s, isL_l, isL_t, isT_n, isT_b, isT_i, isT_s, isT_l, isT_t, plc, Sh.pos, Sh.root, vLstO, ots, t__law_value, b1__law_value, b2__law_value, Ex.d, n1, n2]
    refine ⟨[a.d, .list (zs σ)], rfl, a, σ, rfl, ho.1, hs, fun outs => ?_⟩
    simp [-Bool.exists_bool, vSeq, vAsg, vV, vMv, vS, vIfS, vOr, vAnd, vNot, vB, vv1, vv2, vv3, Opr.ev, Opr.fin, Opr.sl, Opr.base, Sl.read, Sl.rd, Sl.ra, Sl.get, Sl.isIn, Sl.ot, Ot.rd, Ot.get, gets_lv, leaves_lv, Sh.data, Sh.root, Rs.to, ↓lv_in, -List.map_map, fst_0, fst_s, ini, List.replicate_succ, enG, bTup, bCons, bName, bNil, inAt, vC, vEnd, vBrk, vCnt, vRaise, fLt, fAdd_int, fGt, fGe, fLe, fSub, fMod, fI, fFdv, cPow, fPow, fMin2, fMax2, fInt, fAbs, fNeg, Option.bind, vRet, vSet, vDrp, vCal, agEv, agIn, agIn1, lns_nil, lns_pd, lns_br, lns_ln, bor_nil, bor_pd, bor_ln, bor_br, out_nil, out_pd, out_br, out_ln, lat_nil, lat_pd, lat_br, lat_ln, keep_fd, ex_pair, keepO_sh, lnAtm_no, agOut_no, Sl.atm, atom_i, atom_s, atom_b, atom_n, atom_k, vCons, vNil, vTup, vLst, vIf, vTru, truD, vNotV, vNotT, flat_fd, vAndV, vOrV, fEq_int, fNe_int, fEq_str, fNe_str, fEq_is, fEq_si, vMet, mvEv, Opr.loc, locAt, Ot.at, Ot.put, Nde.set, append_lv, pop_lv, reverse_lv, insert_lv, vLc_eq, vFor_eq, wipeD, vYes, iR1, iL, iK, vAug, fAug_int, slotInt, fLen_list, ML.isNon, fIsN, fNotN, vIxN, ixLoc, kidQ, ixN, os_inj, ix0, ix1, ix2, ix3, ix4, lx0, lx1, lx2, lx3, fLen_tup, xAnd, xNot, xIs, vTry, enX, keepO, Ot.root, Ot.rd, fInt, vTry0, isB_n, isB_b, isB_i, isB_s, isB_l, isB_t, isI_n, isI_b, isI_i, isI_s, isI_l, isI_t, isS_n, isS_b, isS_i, isS_s, isS_l, isS_t, isL_n, isL_b, isL_i, isL_s, isL_l, isL_t, isT_n, isT_b, isT_i, isT_s, isT_l, isT_t, plc, Sh.pos, Sh.root, vLstO, ots]
    refine ⟨[b.d, .list (zs σ)], rfl, b, σ, rfl, ho.2, hs, fun outs => ?_⟩
    simp [-Bool.exists_bool, vSeq, vAsg, vV, vMv, vS, vIfS, vOr, vAnd, vNot, vB, vv1, vv2, vv3, Opr.ev, Opr.fin, Opr.sl, Opr.base, Sl.read, Sl.rd, Sl.ra, Sl.get, Sl.isIn, Sl.ot, Ot.rd, Ot.get, gets_lv, leaves_lv, Sh.data, Sh.root, Rs.to, ↓lv_in, -List.map_map, fst_0, fst_s, ini, List.replicate_succ, enG, bTup, bCons, bName, bNil, inAt, vC, vEnd, vBrk, vCnt, vRaise, fLt, fAdd_int, fGt, fGe, fLe, fSub, fMod, fI, fFdv, cPow, fPow, fMin2, fMax2, fInt, fAbs, fNeg, Option.bind, vRet, vSet, vDrp, vCal, agEv, agIn, agIn1, lns_nil, lns_pd, lns_br, lns_ln, bor_nil, bor_pd, bor_ln, bor_br, out_nil, out_pd, out_br, out_ln, lat_nil, lat_pd, lat_br, lat_ln, keep_fd, ex_pair, keepO_sh, lnAtm_no, agOut_no, Sl.atm, atom_i, atom_s, atom_b, atom_n, atom_k, vCons, vNil, vTup, vLst, vIf, vTru, truD, vNotV, vNotT, flat_fd, vAndV, vOrV, fEq_int, fNe_int, fEq_str, fNe_str, fEq_is, fEq_si, vMet, mvEv, Opr.loc, locAt, Ot.at, Ot.put, Nde.set, append_lv, pop_lv, reverse_lv, insert_lv, vLc_eq, vFor_eq, wipeD, vYes, iR1, iL, iK, vAug, fAug_int, slotInt, fLen_list, ML.isNon, fIsN, fNotN, vIxN, ixLoc, kidQ, ixN, os_inj, ix0, ix1, ix2, ix3, ix4, lx0, lx1, lx2, lx3, fLen_tup, xAnd, xNot, xIs, vTry, enX, keepO, Ot.root, Ot.rd, fInt, vTry0, isB_n, isB_b, isB_i, isB_s, isB_l, isB_t, isI_n, isI_b, isI_i, isI_s, isI_l, isI_t, isS_n, isS_b, isS_i, isS_s, isS_l, isS_t, isL_n, isL_b, isL_i, isL_s, isL_l, isL_t, isT_n, isT_b, isT_i, isT_s, isT_l, isT_t, plc, Sh.pos, Sh.root, vLstO, ots]
    refine ⟨[.str m.t, .int (ev σ a), .int (ev σ b)], rfl, m, _, _, rfl, ev_rg hs ho.1, fun outs => ?_⟩
    simp [-Bool.exists_bool, vSeq, vAsg, vV, vMv, vS, vIfS, vOr, vAnd, vNot, vB, vv1, vv2, vv3, Opr.ev, Opr.fin, Opr.sl, Opr.base, Sl.read, Sl.rd, Sl.ra, Sl.get, Sl.isIn, Sl.ot, Ot.rd, Ot.get, gets_lv, leaves_lv, Sh.data, Sh.root, Rs.to, ↓lv_in, -List.map_map, fst_0, fst_s, ini, List.replicate_succ, enG, bTup, bCons, bName, bNil, inAt, vC, vEnd, vBrk, vCnt, vRaise, fLt, fAdd_int, fGt, fGe, fLe, fSub, fMod, fI, fFdv, cPow, fPow, fMin2, fMax2, fInt, fAbs, fNeg, Option.bind, vRet, vSet, vDrp, vCal, agEv, agIn, agIn1, lns_nil, lns_pd, lns_br, lns_ln, bor_nil, bor_pd, bor_ln, bor_br, out_nil, out_pd, out_br, out_ln, lat_nil, lat_pd, lat_br, lat_ln, keep_fd, ex_pair, keepO_sh, lnAtm_no, agOut_no, Sl.atm, atom_i, atom_s, atom_b, atom_n, atom_k, vCons, vNil, vTup, vLst, vIf, vTru, truD, vNotV, vNotT, flat_fd, vAndV, vOrV, fEq_int, fNe_int, fEq_str, fNe_str, fEq_is, fEq_si, vMet, mvEv, Opr.loc, locAt, Ot.at, Ot.put, Nde.set, append_lv, pop_lv, reverse_lv, insert_lv, vLc_eq, vFor_eq, wipeD, vYes, iR1, iL, iK, vAug, fAug_int, slotInt, fLen_list, ML.isNon, fIsN, fNotN, vIxN, ixLoc, kidQ, ixN, os_inj, ix0, ix1, ix2, ix3, ix4, lx0, lx1, lx2, lx3, fLen_tup, xAnd, xNot, xIs, vTry, enX, keepO, Ot.root, Ot.rd, fInt, vTry0, isB_n, isB_b, isB_i, isB_s, isB_l, isB_t, isI_n, isI_b, isI_i, isI_s, isI_l, isI_t, isS_n, isS_b, isS_i, isS_s, isS_l, isS_t, isL_n, isL_b, isL_i, isL_s, isL_l, isL_t, isT_n, isT_b, isT_i, isT_s, isT_l, isT_t, plc, Sh.pos, Sh.root, vLstO, ots]
    exact h1 _
/-! ### the law's own run -/
abbrev stT (p q r : Addr) (n m : Nat) (σ sh : List Int) : Sl := .ow (.nod (.lst p) [.leaf (.int n), .leaf (.int m), .nod (.lst q) (lv (zs σ)), .nod (.lst r) (lv (zs sh))])
def sm_do (k : Nat) : SemG := fun ins Qd _ => ∃ (p q r : Addr) (s : LM.St) (n m : Nat) (σ sh : List Int), ins = [.sh s.d, stT p q r n m σ sh] ∧ s.ok ∧ nt s ∧ s.dp ≤ k ∧ n ≤ m ∧ m ≤ 1000 ∧ sok σ ∧ sh.length ≤ n ∧
  Qd (.sh (.bool (emp (go (m - n) ⟨[s], σ, sh⟩).1))) [.sh s.d, stT p q r (n + (go (m - n) ⟨[s], σ, sh⟩).2) m (go (m - n) ⟨[s], σ, sh⟩).1.σ (go (m - n) ⟨[s], σ, sh⟩).1.sh]
end K52

/-! ## S52b -/
set_option Elab.async false
set_option linter.all false
set_option exponentiation.threshold 10000
set_option autoImplicit false
set_option maxRecDepth 100000
set_option maxHeartbeats 8000000
namespace K52
open PySem PySem.Spec PyProof.Rows L2 ML LM
open LP (wr rg32)
theorem emp_iff {c : S} : emp c = true ↔ c.td = [] := List.isEmpty_iff
theorem emp_f {c : S} : emp c = false ↔ c.td ≠ [] := by
  unfold emp
  cases c.td <;> simp
abbrev res (k : Nat) (c : S) (Qd : Sl → List Sl → Prop) (s : LM.St) (p q r : Addr) (n m : Nat) : Prop := Qd (.sh (.bool (emp (go k c).1))) [.sh s.d, stT p q r (n + (go k c).2) m (go k c).1.σ (go k c).1.sh]
/-- one turn done: what the rest gives is what all gives -/
theorem res_stp {n m : Nat} {c : S} (h : c.td ≠ []) (l : n < m) : go (m - n) c = ((go (m - (n + 1)) (stp c)).1, (go (m - (n + 1)) (stp c)).2 + 1) := by
  rw [show m - n = (m - (n + 1)) + 1 by omega]
  exact go_cons _ h
theorem s_do0 {ins : List Sl} {Qd : Sl → List Sl → Prop} {Xd : Exn → List Sl → Prop} (hl : ins.length = 2) (h : sm_do 0 ins Qd Xd) : t__law_do semNo (sm_val 3) (enG 2 Qd Xd) (ini 4 ins) := by
  obtain ⟨p, q, r, s, n, m, σ, sh, rfl, ho, hn, hd, _⟩ := h
  exfalso
  cases s <;> simp [LM.St.dp] at hd
abbrev lhs4 (s : LM.St) (p q r : Addr) (n m : Nat) (σ sh : List Int) (a b : Sl) : List Sl := [.sh s.d, stT p q r n m σ sh, a, b]
theorem do_out {sd : SemG} {p q r : Addr} {s : LM.St} {n : Nat} {σ sh : List Int} {Qd : Sl → List Sl → Prop} {Xd : Exn → List Sl → Prop} (h1 : res (n - n) ⟨[s], σ, sh⟩ Qd s p q r n n) :
    t__law_do sd (sm_val 3) (enG 2 Qd Xd) (ini 4 [.sh s.d, stT p q r n n σ sh]) := by
  unfold res at h1
  rw [Nat.sub_self] at h1
  simp [-Bool.exists_bool, vSeq, vAsg, vV, vMv, vS, vIfS, vOr, vAnd, vNot, vB, vv1, vv2, vv3, Opr.ev, Opr.fin, Opr.sl, Opr.base, Sl.read, Sl.rd, Sl.ra, Sl.get, Sl.isIn, Sl.ot, Ot.rd, Ot.get, gets_lv, leaves_lv, Sh.data, Sh.root, Rs.to, ↓lv_in, -List.map_map, fst_0, fst_s, ini, List.replicate_succ, enG, bTup, bCons, bName, bNil, inAt, vC, vEnd, vBrk, vCnt, vRaise, fLt, fAdd_int, fGt, fGe, fLe, fSub, fMod, fI, fFdv, cPow, fPow, fMin2, fMax2, fInt, fAbs, fNeg, Option.bind, vRet, vSet, vDrp, vCal, agEv, agIn, agIn1, lns_nil, lns_pd, lns_br, lns_ln, bor_nil, bor_pd, bor_ln, bor_br, out_nil, out_pd, out_br, out_ln, lat_nil, lat_pd, lat_br, lat_ln, keep_fd, ex_pair, keepO_sh, lnAtm_no, agOut_no, Sl.atm, atom_i, atom_s, atom_b, atom_n, atom_k, vCons, vNil, vTup, vLst, vIf, vTru, truD, vNotV, vNotT, flat_fd, vAndV, vOrV, fEq_int, fNe_int, fEq_str, fNe_str, fEq_is, fEq_si, vMet, mvEv, Opr.loc, locAt, Ot.at, Ot.put, Nde.set, append_lv, pop_lv, reverse_lv, insert_lv, vLc_eq, vFor_eq, wipeD, vYes, iR1, iL, iK, vAug, fAug_int, slotInt, fLen_list, ML.isNon, fIsN, fNotN, vIxN, ixLoc, kidQ, ixN, os_inj, ix0, ix1, ix2, ix3, ix4, lx0, lx1, lx2, lx3, fLen_tup, xAnd, xNot, xIs, vTry, enX, keepO, Ot.root, Ot.rd, fInt, vTry0, isB_n, isB_b, isB_i, isB_s, isB_l, isB_t, isI_n, isI_b, isI_i, isI_s, isI_l, isI_t, isS_n, isS_b, isS_i, isS_s, isS_l, isS_t, isL_n, isL_b, isL_i, isL_s, isL_l, isL_t, isT_n, isT_b, isT_i, isT_s, isT_l, isT_t, plc, Sh.pos, Sh.root, vLstO, ots, t__law_do]
  exact h1
theorem do_in {sd : SemG} {p q r : Addr} {s : LM.St} {n m : Nat} {σ sh : List Int} {Qd : Sl → List Sl → Prop} {Xd : Exn → List Sl → Prop} (l : n < m)
    (k : b2__law_do sd (sm_val 3) (enG 2 Qd Xd) (lhs4 s p q r (n + 1) m σ sh .un .un)) :
    t__law_do sd (sm_val 3) (enG 2 Qd Xd) (ini 4 [.sh s.d, stT p q r n m σ sh]) := by
  have c : ¬ ((n : Int) = (m : Int)) := by omega
  simp [-Bool.exists_bool, vSeq, vAsg, vV, vMv, vS, vIfS, vOr, vAnd, vNot, vB, vv1, vv2, vv3, Opr.ev, Opr.fin, Opr.sl, Opr.base, Sl.read, Sl.rd, Sl.ra, Sl.get, Sl.isIn, Sl.ot, Ot.rd, Ot.get, gets_lv, leaves_lv, Sh.data, Sh.root, Rs.to, ↓lv_in, -List.map_map, fst_0, fst_s, ini, List.replicate_succ, enG, bTup, bCons, bName, bNil, inAt, vC, vEnd, vBrk, vCnt, vRaise, fLt, fAdd_int, fGt, fGe, fLe, fSub, fMod, fI, fFdv, cPow, fPow, fMin2, fMax2, fInt, fAbs, fNeg, Option.bind, vRet, vSet, vDrp, vCal, agEv, agIn, agIn1, lns_nil, lns_pd, lns_br, lns_ln, bor_nil, bor_pd, bor_ln, bor_br, out_nil, out_pd, out_br, out_ln, lat_nil, lat_pd, lat_br, lat_ln, keep_fd, ex_pair, keepO_sh, lnAtm_no, agOut_no, Sl.atm, atom_i, atom_s, atom_b, atom_n, atom_k, vCons, vNil, vTup, vLst, vIf, vTru, truD, vNotV, vNotT, flat_fd, vAndV, vOrV, fEq_int, fNe_int, fEq_str, fNe_str, fEq_is, fEq_si, vMet, mvEv, Opr.loc, locAt, Ot.at, Ot.put, Nde.set, append_lv, pop_lv, reverse_lv, insert_lv, vLc_eq, vFor_eq, wipeD, vYes, iR1, iL, iK, vAug, fAug_int, slotInt, fLen_list, ML.isNon, fIsN, fNotN, vIxN, ixLoc, kidQ, ixN, os_inj, ix0, ix1, ix2, ix3, ix4, lx0, lx1, lx2, lx3, fLen_tup, xAnd, xNot, xIs, vTry, enX, keepO, Ot.root, Ot.rd, fInt, vTry0, isB_n, isB_b, isB_i, isB_s, isB_l, isB_t, isI_n, isI_b, isI_i, isI_s, isI_l, isI_t, isS_n, isS_b, isS_i, isS_s, isS_l, isS_t, isL_n, isL_b, isL_i, isL_s, isL_l, isL_t, isT_n, isT_b, isT_i, isT_s, isT_l, isT_t, plc, Sh.pos, Sh.root, vLstO, ots, t__law_do, b1__law_do, c, vPut, storeL, putIx]
  have e : ((n + 1 : Nat) : Int) = (n : Int) + 1 := by omega
  unfold lhs4 stT at k
  rw [e] at k
  exact k
/-- one more statement, in the same world -/
theorem do_one {k : Nat} {p q r : Addr} {s : LM.St} {n m : Nat} {σ sh : List Int} {Qd : Sl → List Sl → Prop} {Xd : Exn → List Sl → Prop} (ho : s.ok) (hn : nt s) (hd : s.dp ≤ k) (l : n ≤ m) (hm : m ≤ 1000) (hs : sok σ) (hsh : sh.length ≤ n)
    (kk : Qd (.sh (.bool (emp (go (m - n) ⟨[s], σ, sh⟩).1))) [.sh s.d, stT p q r (n + (go (m - n) ⟨[s], σ, sh⟩).2) m (go (m - n) ⟨[s], σ, sh⟩).1.σ (go (m - n) ⟨[s], σ, sh⟩).1.sh]) : sm_do k [.sh s.d, stT p q r n m σ sh] Qd Xd :=
  ⟨p, q, r, s, n, m, σ, sh, rfl, ho, hn, hd, l, hm, hs, hsh, kk⟩
def JD (s : LM.St) (e : Ex) (a : LM.St) (p q r : Addr) (n m : Nat) (σ sh : List Int) (j : Nat) (δ : List Sl) : Prop := ∃ (n' : Nat) (σ' sh' : List Int) (x y : Sl), δ = [.sh s.d, stT p q r n' m σ' sh', x, y] ∧ n + 1 + j ≤ n' ∧ n' ≤ m ∧ sok σ' ∧ sh'.length ≤ n' ∧
  go (m - (n + 1)) ⟨[.test e a], σ, sh⟩ = ((go (m - n') ⟨[.test e a], σ', sh'⟩).1, (go (m - n') ⟨[.test e a], σ', sh'⟩).2 + (n' - (n + 1)))
theorem s_do {k : Nat} {ins : List Sl} {Qd : Sl → List Sl → Prop} {Xd : Exn → List Sl → Prop} (hl : ins.length = 2) (h : sm_do (k + 1) ins Qd Xd) : t__law_do (sm_do k) (sm_val 3) (enG 2 Qd Xd) (ini 4 ins) := by
  obtain ⟨p, q, r, s, n, m, σ, sh, rfl, ho, hn, hd, lnm, hm, hs, hsh, h1⟩ := h
  by_cases c : n = m
  · subst c
    exact do_out h1
  have lt : n < m := by omega
  refine do_in lt ?_
  rw [res_stp (by simp) lt] at h1
  cases s with
  | skip =>
    have g : go (m - (n + 1)) (stp ⟨[.skip], σ, sh⟩) = (⟨[], σ, sh⟩, 0) := go_done _ rfl
    rw [g] at h1
    simp [-Bool.exists_bool, vSeq, vAsg, vV, vMv, vS, vIfS, vOr, vAnd, vNot, vB, vv1, vv2, vv3, Opr.ev, Opr.fin, Opr.sl, Opr.base, Sl.read, Sl.rd, Sl.ra, Sl.get, Sl.isIn, Sl.ot, Ot.rd, Ot.get, gets_lv, leaves_lv, Sh.data, Sh.root, Rs.to, ↓lv_in, -List.map_map, fst_0, fst_s, ini, List.replicate_succ, enG, bTup, bCons, bName, bNil, inAt, vC, vEnd, vBrk, vCnt, vRaise, fLt, fAdd_int, fGt, fGe, fLe, fSub, fMod, fI, fFdv, cPow, fPow, fMin2, fMax2, fInt, fAbs, fNeg, Option.bind, vRet, vSet, vDrp, vCal, agEv, agIn, agIn1, lns_nil, lns_pd, lns_br, lns_ln, bor_nil, bor_pd, bor_ln, bor_br, out_nil, out_pd, out_br, out_ln, lat_nil, lat_pd, lat_br, lat_ln, keep_fd, ex_pair, keepO_sh, lnAtm_no, agOut_no, Sl.atm, atom_i, atom_s, atom_b, atom_n, atom_k, vCons, vNil, vTup, vLst, vIf, vTru, truD, vNotV, vNotT, flat_fd, vAndV, vOrV, fEq_int, fNe_int, fEq_str, fNe_str, fEq_is, fEq_si, vMet, mvEv, Opr.loc, locAt, Ot.at, Ot.put, Nde.set, append_lv, pop_lv, reverse_lv, insert_lv, vLc_eq, vFor_eq, wipeD, vYes, iR1, iL, iK, vAug, fAug_int, slotInt, fLen_list, ML.isNon, fIsN, fNotN, vIxN, ixLoc, kidQ, ixN, os_inj, ix0, ix1, ix2, ix3, ix4, lx0, lx1, lx2, lx3, fLen_tup, xAnd, xNot, xIs, vTry, enX, keepO, Ot.root, Ot.rd, fInt, vTry0, isB_n, isB_b, isB_i, isB_s, isB_l, isB_t, isI_n, isI_b, isI_i, isI_s, isI_l, isI_t, isS_n, isS_b, isS_i, isS_s, isS_l, isS_t, isL_n, isL_b, isL_i, isL_s, isL_l, isL_t, isT_n, isT_b, isT_i, isT_s, isT_l, isT_t, plc, Sh.pos, Sh.root, vLstO, ots, b2__law_do, b3__law_do, b4__law_do, b5__law_do, b6__law_do, b7__law_do, LM.St.d]
    exact h1
  | set s e =>
    have g : go (m - (n + 1)) (stp ⟨[.set s e], σ, sh⟩) = (⟨[], σ.set s (ev σ e), sh⟩, 0) := go_done _ rfl
    rw [g] at h1
    have hx : s < (zs σ).length := by simp; rw [hs.1]; exact ho.1
    simp [-Bool.exists_bool, vSeq, vAsg, vV, vMv, vS, vIfS, vOr, vAnd, vNot, vB, vv1, vv2, vv3, Opr.ev, Opr.fin, Opr.sl, Opr.base, Sl.read, Sl.rd, Sl.ra, Sl.get, Sl.isIn, Sl.ot, Ot.rd, Ot.get, gets_lv, leaves_lv, Sh.data, Sh.root, Rs.to, ↓lv_in, -List.map_map, fst_0, fst_s, ini, List.replicate_succ, enG, bTup, bCons, bName, bNil, inAt, vC, vEnd, vBrk, vCnt, vRaise, fLt, fAdd_int, fGt, fGe, fLe, fSub, fMod, fI, fFdv, cPow, fPow, fMin2, fMax2, fInt, fAbs, fNeg, Option.bind, vRet, vSet, vDrp, vCal, agEv, agIn, agIn1, lns_nil, lns_pd, lns_br, lns_ln, bor_nil, bor_pd, bor_ln, bor_br, out_nil, out_pd, out_br, out_ln, lat_nil, lat_pd, lat_br, lat_ln, keep_fd, ex_pair, keepO_sh, lnAtm_no, agOut_no, Sl.atm, atom_i, atom_s, atom_b, atom_n, atom_k, vCons, vNil, vTup, vLst, vIf, vTru, truD, vNotV, vNotT, flat_fd, vAndV, vOrV, fEq_int, fNe_int, fEq_str, fNe_str, fEq_is, fEq_si, vMet, mvEv, Opr.loc, locAt, Ot.at, Ot.put, Nde.set, append_lv, pop_lv, reverse_lv, insert_lv, vLc_eq, vFor_eq, wipeD, vYes, iR1, iL, iK, vAug, fAug_int, slotInt, fLen_list, ML.isNon, fIsN, fNotN, vIxN, ixLoc, kidQ, ixN, os_inj, ix0, ix1, ix2, ix3, ix4, lx0, lx1, lx2, lx3, fLen_tup, xAnd, xNot, xIs, vTry, enX, keepO, Ot.root, Ot.rd, fInt, vTry0, isB_n, isB_b, isB_i, isB_s, isB_l, isB_t, isI_n, isI_b, isI_i, isI_s, isI_l, isI_t, isS_n, isS_b, isS_i, isS_s, isS_l, isS_t, isL_n, isL_b, isL_i, isL_s, isL_l, isL_t, isT_n, isT_b, isT_i, isT_s, isT_l, isT_t, plc, Sh.pos, Sh.root, vLstO, ots, b2__law_do, q1__law_do, LM.St.d]
    refine ⟨[e.d, .list (zs σ)], rfl, e, σ, rfl, ho.2, hs, fun outs => ?_⟩
    simp [-Bool.exists_bool, vSeq, vAsg, vV, vMv, vS, vIfS, vOr, vAnd, vNot, vB, vv1, vv2, vv3, Opr.ev, Opr.fin, Opr.sl, Opr.base, Sl.read, Sl.rd, Sl.ra, Sl.get, Sl.isIn, Sl.ot, Ot.rd, Ot.get, gets_lv, leaves_lv, Sh.data, Sh.root, Rs.to, ↓lv_in, -List.map_map, fst_0, fst_s, ini, List.replicate_succ, enG, bTup, bCons, bName, bNil, inAt, vC, vEnd, vBrk, vCnt, vRaise, fLt, fAdd_int, fGt, fGe, fLe, fSub, fMod, fI, fFdv, cPow, fPow, fMin2, fMax2, fInt, fAbs, fNeg, Option.bind, vRet, vSet, vDrp, vCal, agEv, agIn, agIn1, lns_nil, lns_pd, lns_br, lns_ln, bor_nil, bor_pd, bor_ln, bor_br, out_nil, out_pd, out_br, out_ln, lat_nil, lat_pd, lat_br, lat_ln, keep_fd, ex_pair, keepO_sh, lnAtm_no, agOut_no, Sl.atm, atom_i, atom_s, atom_b, atom_n, atom_k, vCons, vNil, vTup, vLst, vIf, vTru, truD, vNotV, vNotT, flat_fd, vAndV, vOrV, fEq_int, fNe_int, fEq_str, fNe_str, fEq_is, fEq_si, vMet, mvEv, Opr.loc, locAt, Ot.at, Ot.put, Nde.set, append_lv, pop_lv, reverse_lv, insert_lv, vLc_eq, vFor_eq, wipeD, vYes, iR1, iL, iK, vAug, fAug_int, slotInt, fLen_list, ML.isNon, fIsN, fNotN, vIxN, ixLoc, kidQ, ixN, os_inj, ix0, ix1, ix2, ix3, ix4, lx0, lx1, lx2, lx3, fLen_tup, xAnd, xNot, xIs, vTry, enX, keepO, Ot.root, Ot.rd, fInt, vTry0, isB_n, isB_b, isB_i, isB_s, isB_l, isB_t, isI_n, isI_b, isI_i, isI_s, isI_l, isI_t, isS_n, isS_b, isS_i, isS_s, isS_l, isS_t, isL_n, isL_b, isL_i, isL_s, isL_l, isL_t, isT_n, isT_b, isT_i, isT_s, isT_l, isT_t, plc, Sh.pos, Sh.root, vLstO, ots, b102__law_do, vPut]
    refine ⟨_, _, store_lv q (zs σ) s _ hx, ?_⟩
    simp [-Bool.exists_bool, vSeq, vAsg, vV, vMv, vS, vIfS, vOr, vAnd, vNot, vB, vv1, vv2, vv3, Opr.ev, Opr.fin, Opr.sl, Opr.base, Sl.read, Sl.rd, Sl.ra, Sl.get, Sl.isIn, Sl.ot, Ot.rd, Ot.get, gets_lv, leaves_lv, Sh.data, Sh.root, Rs.to, ↓lv_in, -List.map_map, fst_0, fst_s, ini, List.replicate_succ, enG, bTup, bCons, bName, bNil, inAt, vC, vEnd, vBrk, vCnt, vRaise, fLt, fAdd_int, fGt, fGe, fLe, fSub, fMod, fI, fFdv, cPow, fPow, fMin2, fMax2, fInt, fAbs, fNeg, Option.bind, vRet, vSet, vDrp, vCal, agEv, agIn, agIn1, lns_nil, lns_pd, lns_br, lns_ln, bor_nil, bor_pd, bor_ln, bor_br, out_nil, out_pd, out_br, out_ln, lat_nil, lat_pd, lat_br, lat_ln, keep_fd, ex_pair, keepO_sh, lnAtm_no, agOut_no, Sl.atm, atom_i, atom_s, atom_b, atom_n, atom_k, vCons, vNil, vTup, vLst, vIf, vTru, truD, vNotV, vNotT, flat_fd, vAndV, vOrV, fEq_int, fNe_int, fEq_str, fNe_str, fEq_is, fEq_si, vMet, mvEv, Opr.loc, locAt, Ot.at, Ot.put, Nde.set, append_lv, pop_lv, reverse_lv, insert_lv, vLc_eq, vFor_eq, wipeD, vYes, iR1, iL, iK, vAug, fAug_int, slotInt, fLen_list, ML.isNon, fIsN, fNotN, vIxN, ixLoc, kidQ, ixN, os_inj, ix0, ix1, ix2, ix3, ix4, lx0, lx1, lx2, lx3, fLen_tup, xAnd, xNot, xIs, vTry, enX, keepO, Ot.root, Ot.rd, fInt, vTry0, isB_n, isB_b, isB_i, isB_s, isB_l, isB_t, isI_n, isI_b, isI_i, isI_s, isI_l, isI_t, isS_n, isS_b, isS_i, isS_s, isS_l, isS_t, isL_n, isL_b, isL_i, isL_s, isL_l, isL_t, isT_n, isT_b, isT_i, isT_s, isT_l, isT_t, plc, Sh.pos, Sh.root, vLstO, ots, b3__law_do, b4__law_do, b5__law_do, b6__law_do, b7__law_do]
    have h2 : Qd (.sh (.bool true)) [.sh (LM.St.set s e).d, stT p q r (n + 1) m (σ.set s (ev σ e)) sh] := h1
    rw [stT, show zs (σ.set s (ev σ e)) = (zs σ).set s (.int (ev σ e)) from List.map_set ..] at h2
    exact h2
  | shw e =>
    have g : go (m - (n + 1)) (stp ⟨[.shw e], σ, sh⟩) = (⟨[], σ, sh ++ [ev σ e]⟩, 0) := go_done _ rfl
    rw [g] at h1
    have hx : sh.length < 1000000 := by omega
    simp [-Bool.exists_bool, vSeq, vAsg, vV, vMv, vS, vIfS, vOr, vAnd, vNot, vB, vv1, vv2, vv3, Opr.ev, Opr.fin, Opr.sl, Opr.base, Sl.read, Sl.rd, Sl.ra, Sl.get, Sl.isIn, Sl.ot, Ot.rd, Ot.get, gets_lv, leaves_lv, Sh.data, Sh.root, Rs.to, ↓lv_in, -List.map_map, fst_0, fst_s, ini, List.replicate_succ, enG, bTup, bCons, bName, bNil, inAt, vC, vEnd, vBrk, vCnt, vRaise, fLt, fAdd_int, fGt, fGe, fLe, fSub, fMod, fI, fFdv, cPow, fPow, fMin2, fMax2, fInt, fAbs, fNeg, Option.bind, vRet, vSet, vDrp, vCal, agEv, agIn, agIn1, lns_nil, lns_pd, lns_br, lns_ln, bor_nil, bor_pd, bor_ln, bor_br, out_nil, out_pd, out_br, out_ln, lat_nil, lat_pd, lat_br, lat_ln, keep_fd, ex_pair, keepO_sh, lnAtm_no, agOut_no, Sl.atm, atom_i, atom_s, atom_b, atom_n, atom_k, vCons, vNil, vTup, vLst, vIf, vTru, truD, vNotV, vNotT, flat_fd, vAndV, vOrV, fEq_int, fNe_int, fEq_str, fNe_str, fEq_is, fEq_si, vMet, mvEv, Opr.loc, locAt, Ot.at, Ot.put, Nde.set, append_lv, pop_lv, reverse_lv, insert_lv, vLc_eq, vFor_eq, wipeD, vYes, iR1, iL, iK, vAug, fAug_int, slotInt, fLen_list, ML.isNon, fIsN, fNotN, vIxN, ixLoc, kidQ, ixN, os_inj, ix0, ix1, ix2, ix3, ix4, lx0, lx1, lx2, lx3, fLen_tup, xAnd, xNot, xIs, vTry, enX, keepO, Ot.root, Ot.rd, fInt, vTry0, isB_n, isB_b, isB_i, isB_s, isB_l, isB_t, isI_n, isI_b, isI_i, isI_s, isI_l, isI_t, isS_n, isS_b, isS_i, isS_s, isS_l, isS_t, isL_n, isL_b, isL_i, isL_s, isL_l, isL_t, isT_n, isT_b, isT_i, isT_s, isT_l, isT_t, plc, Sh.pos, Sh.root, vLstO, ots, b2__law_do, b3__law_do, q2__law_do, LM.St.d]
    refine ⟨[e.d, .list (zs σ)], rfl, e, σ, rfl, ho, hs, fun outs => ?_⟩
    simp [-Bool.exists_bool, vSeq, vAsg, vV, vMv, vS, vIfS, vOr, vAnd, vNot, vB, vv1, vv2, vv3, Opr.ev, Opr.fin, Opr.sl, Opr.base, Sl.read, Sl.rd, Sl.ra, Sl.get, Sl.isIn, Sl.ot, Ot.rd, Ot.get, gets_lv, leaves_lv, Sh.data, Sh.root, Rs.to, ↓lv_in, -List.map_map, fst_0, fst_s, ini, List.replicate_succ, enG, bTup, bCons, bName, bNil, inAt, vC, vEnd, vBrk, vCnt, vRaise, fLt, fAdd_int, fGt, fGe, fLe, fSub, fMod, fI, fFdv, cPow, fPow, fMin2, fMax2, fInt, fAbs, fNeg, Option.bind, vRet, vSet, vDrp, vCal, agEv, agIn, agIn1, lns_nil, lns_pd, lns_br, lns_ln, bor_nil, bor_pd, bor_ln, bor_br, out_nil, out_pd, out_br, out_ln, lat_nil, lat_pd, lat_br, lat_ln, keep_fd, ex_pair, keepO_sh, lnAtm_no, agOut_no, Sl.atm, atom_i, atom_s, atom_b, atom_n, atom_k, vCons, vNil, vTup, vLst, vIf, vTru, truD, vNotV, vNotT, flat_fd, vAndV, vOrV, fEq_int, fNe_int, fEq_str, fNe_str, fEq_is, fEq_si, vMet, mvEv, Opr.loc, locAt, Ot.at, Ot.put, Nde.set, append_lv, pop_lv, reverse_lv, insert_lv, vLc_eq, vFor_eq, wipeD, vYes, iR1, iL, iK, vAug, fAug_int, slotInt, fLen_list, ML.isNon, fIsN, fNotN, vIxN, ixLoc, kidQ, ixN, os_inj, ix0, ix1, ix2, ix3, ix4, lx0, lx1, lx2, lx3, fLen_tup, xAnd, xNot, xIs, vTry, enX, keepO, Ot.root, Ot.rd, fInt, vTry0, isB_n, isB_b, isB_i, isB_s, isB_l, isB_t, isI_n, isI_b, isI_i, isI_s, isI_l, isI_t, isS_n, isS_b, isS_i, isS_s, isS_l, isS_t, isL_n, isL_b, isL_i, isL_s, isL_l, isL_t, isT_n, isT_b, isT_i, isT_s, isT_l, isT_t, plc, Sh.pos, Sh.root, vLstO, ots, hx]
    simp [-Bool.exists_bool, vSeq, vAsg, vV, vMv, vS, vIfS, vOr, vAnd, vNot, vB, vv1, vv2, vv3, Opr.ev, Opr.fin, Opr.sl, Opr.base, Sl.read, Sl.rd, Sl.ra, Sl.get, Sl.isIn, Sl.ot, Ot.rd, Ot.get, gets_lv, leaves_lv, Sh.data, Sh.root, Rs.to, ↓lv_in, -List.map_map, fst_0, fst_s, ini, List.replicate_succ, enG, bTup, bCons, bName, bNil, inAt, vC, vEnd, vBrk, vCnt, vRaise, fLt, fAdd_int, fGt, fGe, fLe, fSub, fMod, fI, fFdv, cPow, fPow, fMin2, fMax2, fInt, fAbs, fNeg, Option.bind, vRet, vSet, vDrp, vCal, agEv, agIn, agIn1, lns_nil, lns_pd, lns_br, lns_ln, bor_nil, bor_pd, bor_ln, bor_br, out_nil, out_pd, out_br, out_ln, lat_nil, lat_pd, lat_br, lat_ln, keep_fd, ex_pair, keepO_sh, lnAtm_no, agOut_no, Sl.atm, atom_i, atom_s, atom_b, atom_n, atom_k, vCons, vNil, vTup, vLst, vIf, vTru, truD, vNotV, vNotT, flat_fd, vAndV, vOrV, fEq_int, fNe_int, fEq_str, fNe_str, fEq_is, fEq_si, vMet, mvEv, Opr.loc, locAt, Ot.at, Ot.put, Nde.set, append_lv, pop_lv, reverse_lv, insert_lv, vLc_eq, vFor_eq, wipeD, vYes, iR1, iL, iK, vAug, fAug_int, slotInt, fLen_list, ML.isNon, fIsN, fNotN, vIxN, ixLoc, kidQ, ixN, os_inj, ix0, ix1, ix2, ix3, ix4, lx0, lx1, lx2, lx3, fLen_tup, xAnd, xNot, xIs, vTry, enX, keepO, Ot.root, Ot.rd, fInt, vTry0, isB_n, isB_b, isB_i, isB_s, isB_l, isB_t, isI_n, isI_b, isI_i, isI_s, isI_l, isI_t, isS_n, isS_b, isS_i, isS_s, isS_l, isS_t, isL_n, isL_b, isL_i, isL_s, isL_l, isL_t, isT_n, isT_b, isT_i, isT_s, isT_l, isT_t, plc, Sh.pos, Sh.root, vLstO, ots, b4__law_do, b5__law_do, b6__law_do, b7__law_do]
    have h2 : Qd (.sh (.bool true)) [.sh (LM.St.shw e).d, stT p q r (n + 1) m σ (sh ++ [ev σ e])] := h1
    rw [stT, show zs (sh ++ [ev σ e]) = zs sh ++ [.int (ev σ e)] by simp [zs]] at h2
    exact h2
  | seq a b =>
    have hd' : 1 + max a.dp b.dp ≤ k + 1 := hd
    have g : go (m - (n + 1)) (stp ⟨[.seq a b], σ, sh⟩) = go (m - (n + 1)) (frm ⟨[a], σ, sh⟩ [b] []) := rfl
    rw [g, go_app] at h1
    simp [-Bool.exists_bool, vSeq, vAsg, vV, vMv, vS, vIfS, vOr, vAnd, vNot, vB, vv1, vv2, vv3, Opr.ev, Opr.fin, Opr.sl, Opr.base, Sl.read, Sl.rd, Sl.ra, Sl.get, Sl.isIn, Sl.ot, Ot.rd, Ot.get, gets_lv, leaves_lv, Sh.data, Sh.root, Rs.to, ↓lv_in, -List.map_map, fst_0, fst_s, ini, List.replicate_succ, enG, bTup, bCons, bName, bNil, inAt, vC, vEnd, vBrk, vCnt, vRaise, fLt, fAdd_int, fGt, fGe, fLe, fSub, fMod, fI, fFdv, cPow, fPow, fMin2, fMax2, fInt, fAbs, fNeg, Option.bind, vRet, vSet, vDrp, vCal, agEv, agIn, agIn1, lns_nil, lns_pd, lns_br, lns_ln, bor_nil, bor_pd, bor_ln, bor_br, out_nil, out_pd, out_br, out_ln, lat_nil, lat_pd, lat_br, lat_ln, keep_fd, ex_pair, keepO_sh, lnAtm_no, agOut_no, Sl.atm, atom_i, atom_s, atom_b, atom_n, atom_k, vCons, vNil, vTup, vLst, vIf, vTru, truD, vNotV, vNotT, flat_fd, vAndV, vOrV, fEq_int, fNe_int, fEq_str, fNe_str, fEq_is, fEq_si, vMet, mvEv, Opr.loc, locAt, Ot.at, Ot.put, Nde.set, append_lv, pop_lv, reverse_lv, insert_lv, vLc_eq, vFor_eq, wipeD, vYes, iR1, iL, iK, vAug, fAug_int, slotInt, fLen_list, ML.isNon, fIsN, fNotN, vIxN, ixLoc, kidQ, ixN, os_inj, ix0, ix1, ix2, ix3, ix4, lx0, lx1, lx2, lx3, fLen_tup, xAnd, xNot, xIs, vTry, enX, keepO, Ot.root, Ot.rd, fInt, vTry0, isB_n, isB_b, isB_i, isB_s, isB_l, isB_t, isI_n, isI_b, isI_i, isI_s, isI_l, isI_t, isS_n, isS_b, isS_i, isS_s, isS_l, isS_t, isL_n, isL_b, isL_i, isL_s, isL_l, isL_t, isT_n, isT_b, isT_i, isT_s, isT_l, isT_t, plc, Sh.pos, Sh.root, vLstO, ots, b2__law_do, b3__law_do, b4__law_do, q3__law_do, LM.St.d]
    refine do_one (k := k) (n := n + 1) (m := m) (σ := σ) (sh := sh) ho.1 hn.1 (by omega) (by omega) hm hs (by omega) ?_
    generalize hra : go (m - (n + 1)) ⟨[a], σ, sh⟩ = ra at h1
    have ga : G 1 ⟨[a], σ, sh⟩ ∨ True := .inr trivial
    have s1 : sok ra.1.σ := by
      rw [← hra]
      exact go_st (n := 1 + sh.length) ⟨fun t ht => by rw [List.mem_singleton.mp ht]; exact ho.1, hs, by simp, by simp⟩ _
    have l1 : ra.1.sh.length ≤ n + 1 + ra.2 := by
      have := go_sh (m - (n + 1)) ⟨[a], σ, sh⟩
      rw [hra] at this
      have h2 : (S.mk [a] σ sh).sh.length = sh.length := rfl
      omega
    have l2 : ra.2 ≤ m - (n + 1) := by
      have := go_le (m - (n + 1)) ⟨[a], σ, sh⟩
      rw [hra] at this
      exact this
    by_cases z : ra.1.td = []
    · rw [if_pos z] at h1
      have e1 : emp ra.1 = true := emp_iff.mpr z
      simp [-Bool.exists_bool, vSeq, vAsg, vV, vMv, vS, vIfS, vOr, vAnd, vNot, vB, vv1, vv2, vv3, Opr.ev, Opr.fin, Opr.sl, Opr.base, Sl.read, Sl.rd, Sl.ra, Sl.get, Sl.isIn, Sl.ot, Ot.rd, Ot.get, gets_lv, leaves_lv, Sh.data, Sh.root, Rs.to, ↓lv_in, -List.map_map, fst_0, fst_s, ini, List.replicate_succ, enG, bTup, bCons, bName, bNil, inAt, vC, vEnd, vBrk, vCnt, vRaise, fLt, fAdd_int, fGt, fGe, fLe, fSub, fMod, fI, fFdv, cPow, fPow, fMin2, fMax2, fInt, fAbs, fNeg, Option.bind, vRet, vSet, vDrp, vCal, agEv, agIn, agIn1, lns_nil, lns_pd, lns_br, lns_ln, bor_nil, bor_pd, bor_ln, bor_br, out_nil, out_pd, out_br, out_ln, lat_nil, lat_pd, lat_br, lat_ln, keep_fd, ex_pair, keepO_sh, lnAtm_no, agOut_no, Sl.atm, atom_i, atom_s, atom_b, atom_n, atom_k, vCons, vNil, vTup, vLst, vIf, vTru, truD, vNotV, vNotT, flat_fd, vAndV, vOrV, fEq_int, fNe_int, fEq_str, fNe_str, fEq_is, fEq_si, vMet, mvEv, Opr.loc, locAt, Ot.at, Ot.put, Nde.set, append_lv, pop_lv, reverse_lv, insert_lv, vLc_eq, vFor_eq, wipeD, vYes, iR1, iL, iK, vAug, fAug_int, slotInt, fLen_list, ML.isNon, fIsN, fNotN, vIxN, ixLoc, kidQ, ixN, os_inj, ix0, ix1, ix2, ix3, ix4, lx0, lx1, lx2, lx3, fLen_tup, xAnd, xNot, xIs, vTry, enX, keepO, Ot.root, Ot.rd, fInt, vTry0, isB_n, isB_b, isB_i, isB_s, isB_l, isB_t, isI_n, isI_b, isI_i, isI_s, isI_l, isI_t, isS_n, isS_b, isS_i, isS_s, isS_l, isS_t, isL_n, isL_b, isL_i, isL_s, isL_l, isL_t, isT_n, isT_b, isT_i, isT_s, isT_l, isT_t, plc, Sh.pos, Sh.root, vLstO, ots, e1, LM.St.d]
      refine do_one (k := k) (n := n + 1 + ra.2) (m := m) (σ := ra.1.σ) (sh := ra.1.sh) ho.2 hn.2 (by omega) (by omega) hm s1 (by omega) ?_
      rw [show m - (n + 1 + ra.2) = m - (n + 1) - ra.2 by omega]
      simp [-Bool.exists_bool, vSeq, vAsg, vV, vMv, vS, vIfS, vOr, vAnd, vNot, vB, vv1, vv2, vv3, Opr.ev, Opr.fin, Opr.sl, Opr.base, Sl.read, Sl.rd, Sl.ra, Sl.get, Sl.isIn, Sl.ot, Ot.rd, Ot.get, gets_lv, leaves_lv, Sh.data, Sh.root, Rs.to, ↓lv_in, -List.map_map, fst_0, fst_s, ini, List.replicate_succ, enG, bTup, bCons, bName, bNil, inAt, vC, vEnd, vBrk, vCnt, vRaise, fLt, fAdd_int, fGt, fGe, fLe, fSub, fMod, fI, fFdv, cPow, fPow, fMin2, fMax2, fInt, fAbs, fNeg, Option.bind, vRet, vSet, vDrp, vCal, agEv, agIn, agIn1, lns_nil, lns_pd, lns_br, lns_ln, bor_nil, bor_pd, bor_ln, bor_br, out_nil, out_pd, out_br, out_ln, lat_nil, lat_pd, lat_br, lat_ln, keep_fd, ex_pair, keepO_sh, lnAtm_no, agOut_no, Sl.atm, atom_i, atom_s, atom_b, atom_n, atom_k, vCons, vNil, vTup, vLst, vIf, vTru, truD, vNotV, vNotT, flat_fd, vAndV, vOrV, fEq_int, fNe_int, fEq_str, fNe_str, fEq_is, fEq_si, vMet, mvEv, Opr.loc, locAt, Ot.at, Ot.put, Nde.set, append_lv, pop_lv, reverse_lv, insert_lv, vLc_eq, vFor_eq, wipeD, vYes, iR1, iL, iK, vAug, fAug_int, slotInt, fLen_list, ML.isNon, fIsN, fNotN, vIxN, ixLoc, kidQ, ixN, os_inj, ix0, ix1, ix2, ix3, ix4, lx0, lx1, lx2, lx3, fLen_tup, xAnd, xNot, xIs, vTry, enX, keepO, Ot.root, Ot.rd, fInt, vTry0, isB_n, isB_b, isB_i, isB_s, isB_l, isB_t, isI_n, isI_b, isI_i, isI_s, isI_l, isI_t, isS_n, isS_b, isS_i, isS_s, isS_l, isS_t, isL_n, isL_b, isL_i, isL_s, isL_l, isL_t, isT_n, isT_b, isT_i, isT_s, isT_l, isT_t, plc, Sh.pos, Sh.root, vLstO, ots]
      have e2 : n + ((go (m - (n + 1) - ra.2) ⟨[b], ra.1.σ, [] ++ ra.1.sh⟩).2 + ra.2 + 1) = n + 1 + ra.2 + (go (m - (n + 1) - ra.2) ⟨[b], ra.1.σ, ra.1.sh⟩).2 := by
        show n + ((go (m - (n + 1) - ra.2) ⟨[b], ra.1.σ, ra.1.sh⟩).2 + ra.2 + 1) = _
        omega
      rw [e2] at h1
      exact h1
    · rw [if_neg z] at h1
      have e1 : emp ra.1 = false := emp_f.mpr z
      have e3 : emp (frm ra.1 [b] []) = false := emp_f.mpr (by unfold frm; simp)
      have e4 : ra.2 = m - (n + 1) := by
        rw [← hra]
        exact go_all _ (by rw [hra]; exact z)
      simp [-Bool.exists_bool, vSeq, vAsg, vV, vMv, vS, vIfS, vOr, vAnd, vNot, vB, vv1, vv2, vv3, Opr.ev, Opr.fin, Opr.sl, Opr.base, Sl.read, Sl.rd, Sl.ra, Sl.get, Sl.isIn, Sl.ot, Ot.rd, Ot.get, gets_lv, leaves_lv, Sh.data, Sh.root, Rs.to, ↓lv_in, -List.map_map, fst_0, fst_s, ini, List.replicate_succ, enG, bTup, bCons, bName, bNil, inAt, vC, vEnd, vBrk, vCnt, vRaise, fLt, fAdd_int, fGt, fGe, fLe, fSub, fMod, fI, fFdv, cPow, fPow, fMin2, fMax2, fInt, fAbs, fNeg, Option.bind, vRet, vSet, vDrp, vCal, agEv, agIn, agIn1, lns_nil, lns_pd, lns_br, lns_ln, bor_nil, bor_pd, bor_ln, bor_br, out_nil, out_pd, out_br, out_ln, lat_nil, lat_pd, lat_br, lat_ln, keep_fd, ex_pair, keepO_sh, lnAtm_no, agOut_no, Sl.atm, atom_i, atom_s, atom_b, atom_n, atom_k, vCons, vNil, vTup, vLst, vIf, vTru, truD, vNotV, vNotT, flat_fd, vAndV, vOrV, fEq_int, fNe_int, fEq_str, fNe_str, fEq_is, fEq_si, vMet, mvEv, Opr.loc, locAt, Ot.at, Ot.put, Nde.set, append_lv, pop_lv, reverse_lv, insert_lv, vLc_eq, vFor_eq, wipeD, vYes, iR1, iL, iK, vAug, fAug_int, slotInt, fLen_list, ML.isNon, fIsN, fNotN, vIxN, ixLoc, kidQ, ixN, os_inj, ix0, ix1, ix2, ix3, ix4, lx0, lx1, lx2, lx3, fLen_tup, xAnd, xNot, xIs, vTry, enX, keepO, Ot.root, Ot.rd, fInt, vTry0, isB_n, isB_b, isB_i, isB_s, isB_l, isB_t, isI_n, isI_b, isI_i, isI_s, isI_l, isI_t, isS_n, isS_b, isS_i, isS_s, isS_l, isS_t, isL_n, isL_b, isL_i, isL_s, isL_l, isL_t, isT_n, isT_b, isT_i, isT_s, isT_l, isT_t, plc, Sh.pos, Sh.root, vLstO, ots, e1]
      have h2 : Qd (.sh (.bool (emp (frm ra.1 [b] [])))) [.sh (LM.St.seq a b).d, stT p q r (n + (m - (n + 1) + 1)) m ra.1.σ ([] ++ ra.1.sh)] := h1
      rw [e3, show n + (m - (n + 1) + 1) = n + 1 + ra.2 by omega] at h2
      exact h2
  | when e a b =>
    have hd' : 1 + max a.dp b.dp ≤ k + 1 := hd
    simp [-Bool.exists_bool, vSeq, vAsg, vV, vMv, vS, vIfS, vOr, vAnd, vNot, vB, vv1, vv2, vv3, Opr.ev, Opr.fin, Opr.sl, Opr.base, Sl.read, Sl.rd, Sl.ra, Sl.get, Sl.isIn, Sl.ot, Ot.rd, Ot.get, gets_lv, leaves_lv, Sh.data, Sh.root, Rs.to, ↓lv_in, -List.map_map, fst_0, fst_s, ini, List.replicate_succ, enG, bTup, bCons, bName, bNil, inAt, vC, vEnd, vBrk, vCnt, vRaise, fLt, fAdd_int, fGt, fGe, fLe, fSub, fMod, fI, fFdv, cPow, fPow, fMin2, fMax2, fInt, fAbs, fNeg, Option.bind, vRet, vSet, vDrp, vCal, agEv, agIn, agIn1, lns_nil, lns_pd, lns_br, lns_ln, bor_nil, bor_pd, bor_ln, bor_br, out_nil, out_pd, out_br, out_ln, lat_nil, lat_pd, lat_br, lat_ln, keep_fd, ex_pair, keepO_sh, lnAtm_no, agOut_no, Sl.atm, atom_i, atom_s, atom_b, atom_n, atom_k, vCons, vNil, vTup, vLst, vIf, vTru, truD, vNotV, vNotT, flat_fd, vAndV, vOrV, fEq_int, fNe_int, fEq_str, fNe_str, fEq_is, fEq_si, vMet, mvEv, Opr.loc, locAt, Ot.at, Ot.put, Nde.set, append_lv, pop_lv, reverse_lv, insert_lv, vLc_eq, vFor_eq, wipeD, vYes, iR1, iL, iK, vAug, fAug_int, slotInt, fLen_list, ML.isNon, fIsN, fNotN, vIxN, ixLoc, kidQ, ixN, os_inj, ix0, ix1, ix2, ix3, ix4, lx0, lx1, lx2, lx3, fLen_tup, xAnd, xNot, xIs, vTry, enX, keepO, Ot.root, Ot.rd, fInt, vTry0, isB_n, isB_b, isB_i, isB_s, isB_l, isB_t, isI_n, isI_b, isI_i, isI_s, isI_l, isI_t, isS_n, isS_b, isS_i, isS_s, isS_l, isS_t, isL_n, isL_b, isL_i, isL_s, isL_l, isL_t, isT_n, isT_b, isT_i, isT_s, isT_l, isT_t, plc, Sh.pos, Sh.root, vLstO, ots, b2__law_do, b3__law_do, b4__law_do, b5__law_do, q5__law_do, LM.St.d]
    refine ⟨[e.d, .list (zs σ)], rfl, e, σ, rfl, ho.1, hs, fun outs => ?_⟩
    have g : stp ⟨[.when e a b], σ, sh⟩ = ⟨[if ev σ e = 0 then b else a], σ, sh⟩ := rfl
    rw [g] at h1
    by_cases z : ev σ e = 0
    · rw [if_pos z] at h1
      simp [-Bool.exists_bool, vSeq, vAsg, vV, vMv, vS, vIfS, vOr, vAnd, vNot, vB, vv1, vv2, vv3, Opr.ev, Opr.fin, Opr.sl, Opr.base, Sl.read, Sl.rd, Sl.ra, Sl.get, Sl.isIn, Sl.ot, Ot.rd, Ot.get, gets_lv, leaves_lv, Sh.data, Sh.root, Rs.to, ↓lv_in, -List.map_map, fst_0, fst_s, ini, List.replicate_succ, enG, bTup, bCons, bName, bNil, inAt, vC, vEnd, vBrk, vCnt, vRaise, fLt, fAdd_int, fGt, fGe, fLe, fSub, fMod, fI, fFdv, cPow, fPow, fMin2, fMax2, fInt, fAbs, fNeg, Option.bind, vRet, vSet, vDrp, vCal, agEv, agIn, agIn1, lns_nil, lns_pd, lns_br, lns_ln, bor_nil, bor_pd, bor_ln, bor_br, out_nil, out_pd, out_br, out_ln, lat_nil, lat_pd, lat_br, lat_ln, keep_fd, ex_pair, keepO_sh, lnAtm_no, agOut_no, Sl.atm, atom_i, atom_s, atom_b, atom_n, atom_k, vCons, vNil, vTup, vLst, vIf, vTru, truD, vNotV, vNotT, flat_fd, vAndV, vOrV, fEq_int, fNe_int, fEq_str, fNe_str, fEq_is, fEq_si, vMet, mvEv, Opr.loc, locAt, Ot.at, Ot.put, Nde.set, append_lv, pop_lv, reverse_lv, insert_lv, vLc_eq, vFor_eq, wipeD, vYes, iR1, iL, iK, vAug, fAug_int, slotInt, fLen_list, ML.isNon, fIsN, fNotN, vIxN, ixLoc, kidQ, ixN, os_inj, ix0, ix1, ix2, ix3, ix4, lx0, lx1, lx2, lx3, fLen_tup, xAnd, xNot, xIs, vTry, enX, keepO, Ot.root, Ot.rd, fInt, vTry0, isB_n, isB_b, isB_i, isB_s, isB_l, isB_t, isI_n, isI_b, isI_i, isI_s, isI_l, isI_t, isS_n, isS_b, isS_i, isS_s, isS_l, isS_t, isL_n, isL_b, isL_i, isL_s, isL_l, isL_t, isT_n, isT_b, isT_i, isT_s, isT_l, isT_t, plc, Sh.pos, Sh.root, vLstO, ots, z, b107__law_do, LM.St.d]
      refine do_one (k := k) (n := n + 1) (m := m) (σ := σ) (sh := sh) ho.2.2 hn.2 (by omega) (by omega) hm hs (by omega) ?_
      simp [-Bool.exists_bool, vSeq, vAsg, vV, vMv, vS, vIfS, vOr, vAnd, vNot, vB, vv1, vv2, vv3, Opr.ev, Opr.fin, Opr.sl, Opr.base, Sl.read, Sl.rd, Sl.ra, Sl.get, Sl.isIn, Sl.ot, Ot.rd, Ot.get, gets_lv, leaves_lv, Sh.data, Sh.root, Rs.to, ↓lv_in, -List.map_map, fst_0, fst_s, ini, List.replicate_succ, enG, bTup, bCons, bName, bNil, inAt, vC, vEnd, vBrk, vCnt, vRaise, fLt, fAdd_int, fGt, fGe, fLe, fSub, fMod, fI, fFdv, cPow, fPow, fMin2, fMax2, fInt, fAbs, fNeg, Option.bind, vRet, vSet, vDrp, vCal, agEv, agIn, agIn1, lns_nil, lns_pd, lns_br, lns_ln, bor_nil, bor_pd, bor_ln, bor_br, out_nil, out_pd, out_br, out_ln, lat_nil, lat_pd, lat_br, lat_ln, keep_fd, ex_pair, keepO_sh, lnAtm_no, agOut_no, Sl.atm, atom_i, atom_s, atom_b, atom_n, atom_k, vCons, vNil, vTup, vLst, vIf, vTru, truD, vNotV, vNotT, flat_fd, vAndV, vOrV, fEq_int, fNe_int, fEq_str, fNe_str, fEq_is, fEq_si, vMet, mvEv, Opr.loc, locAt, Ot.at, Ot.put, Nde.set, append_lv, pop_lv, reverse_lv, insert_lv, vLc_eq, vFor_eq, wipeD, vYes, iR1, iL, iK, vAug, fAug_int, slotInt, fLen_list, ML.isNon, fIsN, fNotN, vIxN, ixLoc, kidQ, ixN, os_inj, ix0, ix1, ix2, ix3, ix4, lx0, lx1, lx2, lx3, fLen_tup, xAnd, xNot, xIs, vTry, enX, keepO, Ot.root, Ot.rd, fInt, vTry0, isB_n, isB_b, isB_i, isB_s, isB_l, isB_t, isI_n, isI_b, isI_i, isI_s, isI_l, isI_t, isS_n, isS_b, isS_i, isS_s, isS_l, isS_t, isL_n, isL_b, isL_i, isL_s, isL_l, isL_t, isT_n, isT_b, isT_i, isT_s, isT_l, isT_t, plc, Sh.pos, Sh.root, vLstO, ots]
      rw [show n + ((go (m - (n + 1)) ⟨[b], σ, sh⟩).2 + 1) = n + 1 + (go (m - (n + 1)) ⟨[b], σ, sh⟩).2 by omega] at h1
      exact h1
    · rw [if_neg z] at h1
      simp [-Bool.exists_bool, vSeq, vAsg, vV, vMv, vS, vIfS, vOr, vAnd, vNot, vB, vv1, vv2, vv3, Opr.ev, Opr.fin, Opr.sl, Opr.base, Sl.read, Sl.rd, Sl.ra, Sl.get, Sl.isIn, Sl.ot, Ot.rd, Ot.get, gets_lv, leaves_lv, Sh.data, Sh.root, Rs.to, ↓lv_in, -List.map_map, fst_0, fst_s, ini, List.replicate_succ, enG, bTup, bCons, bName, bNil, inAt, vC, vEnd, vBrk, vCnt, vRaise, fLt, fAdd_int, fGt, fGe, fLe, fSub, fMod, fI, fFdv, cPow, fPow, fMin2, fMax2, fInt, fAbs, fNeg, Option.bind, vRet, vSet, vDrp, vCal, agEv, agIn, agIn1, lns_nil, lns_pd, lns_br, lns_ln, bor_nil, bor_pd, bor_ln, bor_br, out_nil, out_pd, out_br, out_ln, lat_nil, lat_pd, lat_br, lat_ln, keep_fd, ex_pair, keepO_sh, lnAtm_no, agOut_no, Sl.atm, atom_i, atom_s, atom_b, atom_n, atom_k, vCons, vNil, vTup, vLst, vIf, vTru, truD, vNotV, vNotT, flat_fd, vAndV, vOrV, fEq_int, fNe_int, fEq_str, fNe_str, fEq_is, fEq_si, vMet, mvEv, Opr.loc, locAt, Ot.at, Ot.put, Nde.set, append_lv, pop_lv, reverse_lv, insert_lv, vLc_eq, vFor_eq, wipeD, vYes, iR1, iL, iK, vAug, fAug_int, slotInt, fLen_list, ML.isNon, fIsN, fNotN, vIxN, ixLoc, kidQ, ixN, os_inj, ix0, ix1, ix2, ix3, ix4, lx0, lx1, lx2, lx3, fLen_tup, xAnd, xNot, xIs, vTry, enX, keepO, Ot.root, Ot.rd, fInt, vTry0, isB_n, isB_b, isB_i, isB_s, isB_l, isB_t, isI_n, isI_b, isI_i, isI_s, isI_l, isI_t, isS_n, isS_b, isS_i, isS_s, isS_l, isS_t, isL_n, isL_b, isL_i, isL_s, isL_l, isL_t, isT_n, isT_b, isT_i, isT_s, isT_l, isT_t, plc, Sh.pos, Sh.root, vLstO, ots, z, q4__law_do, LM.St.d]
      refine do_one (k := k) (n := n + 1) (m := m) (σ := σ) (sh := sh) ho.2.1 hn.1 (by omega) (by omega) hm hs (by omega) ?_
      simp [-Bool.exists_bool, vSeq, vAsg, vV, vMv, vS, vIfS, vOr, vAnd, vNot, vB, vv1, vv2, vv3, Opr.ev, Opr.fin, Opr.sl, Opr.base, Sl.read, Sl.rd, Sl.ra, Sl.get, Sl.isIn, Sl.ot, Ot.rd, Ot.get, gets_lv, leaves_lv, Sh.data, Sh.root, Rs.to, ↓lv_in, -List.map_map, fst_0, fst_s, ini, List.replicate_succ, enG, bTup, bCons, bName, bNil, inAt, vC, vEnd, vBrk, vCnt, vRaise, fLt, fAdd_int, fGt, fGe, fLe, fSub, fMod, fI, fFdv, cPow, fPow, fMin2, fMax2, fInt, fAbs, fNeg, Option.bind, vRet, vSet, vDrp, vCal, agEv, agIn, agIn1, lns_nil, lns_pd, lns_br, lns_ln, bor_nil, bor_pd, bor_ln, bor_br, out_nil, out_pd, out_br, out_ln, lat_nil, lat_pd, lat_br, lat_ln, keep_fd, ex_pair, keepO_sh, lnAtm_no, agOut_no, Sl.atm, atom_i, atom_s, atom_b, atom_n, atom_k, vCons, vNil, vTup, vLst, vIf, vTru, truD, vNotV, vNotT, flat_fd, vAndV, vOrV, fEq_int, fNe_int, fEq_str, fNe_str, fEq_is, fEq_si, vMet, mvEv, Opr.loc, locAt, Ot.at, Ot.put, Nde.set, append_lv, pop_lv, reverse_lv, insert_lv, vLc_eq, vFor_eq, wipeD, vYes, iR1, iL, iK, vAug, fAug_int, slotInt, fLen_list, ML.isNon, fIsN, fNotN, vIxN, ixLoc, kidQ, ixN, os_inj, ix0, ix1, ix2, ix3, ix4, lx0, lx1, lx2, lx3, fLen_tup, xAnd, xNot, xIs, vTry, enX, keepO, Ot.root, Ot.rd, fInt, vTry0, isB_n, isB_b, isB_i, isB_s, isB_l, isB_t, isI_n, isI_b, isI_i, isI_s, isI_l, isI_t, isS_n, isS_b, isS_i, isS_s, isS_l, isS_t, isL_n, isL_b, isL_i, isL_s, isL_l, isL_t, isT_n, isT_b, isT_i, isT_s, isT_l, isT_t, plc, Sh.pos, Sh.root, vLstO, ots]
      rw [show n + ((go (m - (n + 1)) ⟨[a], σ, sh⟩).2 + 1) = n + 1 + (go (m - (n + 1)) ⟨[a], σ, sh⟩).2 by omega] at h1
      exact h1
  | loop e a =>
    have hd' : 1 + a.dp ≤ k + 1 := hd
    have g : stp ⟨[.loop e a], σ, sh⟩ = ⟨[.test e a], σ, sh⟩ := rfl
    rw [g] at h1
    simp [-Bool.exists_bool, vSeq, vAsg, vV, vMv, vS, vIfS, vOr, vAnd, vNot, vB, vv1, vv2, vv3, Opr.ev, Opr.fin, Opr.sl, Opr.base, Sl.read, Sl.rd, Sl.ra, Sl.get, Sl.isIn, Sl.ot, Ot.rd, Ot.get, gets_lv, leaves_lv, Sh.data, Sh.root, Rs.to, ↓lv_in, -List.map_map, fst_0, fst_s, ini, List.replicate_succ, enG, bTup, bCons, bName, bNil, inAt, vC, vEnd, vBrk, vCnt, vRaise, fLt, fAdd_int, fGt, fGe, fLe, fSub, fMod, fI, fFdv, cPow, fPow, fMin2, fMax2, fInt, fAbs, fNeg, Option.bind, vRet, vSet, vDrp, vCal, agEv, agIn, agIn1, lns_nil, lns_pd, lns_br, lns_ln, bor_nil, bor_pd, bor_ln, bor_br, out_nil, out_pd, out_br, out_ln, lat_nil, lat_pd, lat_br, lat_ln, keep_fd, ex_pair, keepO_sh, lnAtm_no, agOut_no, Sl.atm, atom_i, atom_s, atom_b, atom_n, atom_k, vCons, vNil, vTup, vLst, vIf, vTru, truD, vNotV, vNotT, flat_fd, vAndV, vOrV, fEq_int, fNe_int, fEq_str, fNe_str, fEq_is, fEq_si, vMet, mvEv, Opr.loc, locAt, Ot.at, Ot.put, Nde.set, append_lv, pop_lv, reverse_lv, insert_lv, vLc_eq, vFor_eq, wipeD, vYes, iR1, iL, iK, vAug, fAug_int, slotInt, fLen_list, ML.isNon, fIsN, fNotN, vIxN, ixLoc, kidQ, ixN, os_inj, ix0, ix1, ix2, ix3, ix4, lx0, lx1, lx2, lx3, fLen_tup, xAnd, xNot, xIs, vTry, enX, keepO, Ot.root, Ot.rd, fInt, vTry0, isB_n, isB_b, isB_i, isB_s, isB_l, isB_t, isI_n, isI_b, isI_i, isI_s, isI_l, isI_t, isS_n, isS_b, isS_i, isS_s, isS_l, isS_t, isL_n, isL_b, isL_i, isL_s, isL_l, isL_t, isT_n, isT_b, isT_i, isT_s, isT_l, isT_t, plc, Sh.pos, Sh.root, vLstO, ots, b2__law_do, b3__law_do, b4__law_do, b5__law_do, b6__law_do, w1__law_do, LM.St.d]
    refine ⟨by omega, by omega, ?_⟩
    refine FO_by (JD (.loop e a) e a p q r n m σ sh) ⟨n + 1, σ, sh, .un, .un, rfl, by omega, by omega, hs, by omega, by simp⟩ ?_ ?_
    · rintro j d δ2 hk ⟨n', σ', sh', x, y, rfl, hj, hnm, hs', hsh', e1⟩
      obtain ⟨hk1, rfl⟩ := rngD_get hk
      have hkl : j ≤ m := by omega
      have sok1 : ∀ t ∈ [LM.St.test e a], t.ok := fun t ht => by rw [List.mem_singleton.mp ht]; exact ⟨ho.1, ho.2⟩
      rw [e1] at h1
      by_cases c : n' = m
      · subst c
        rw [Nat.sub_self] at h1
        have h2 : Qd (.sh (.bool false)) [.sh (LM.St.loop e a).d, stT p q r (n + ((0 : Nat) + (n' - (n + 1)) + 1)) n' σ' sh'] := h1
        rw [show n + ((0 : Nat) + (n' - (n + 1)) + 1) = n' by omega] at h2
        simp [-Bool.exists_bool, vSeq, vAsg, vV, vMv, vS, vIfS, vOr, vAnd, vNot, vB, vv1, vv2, vv3, Opr.ev, Opr.fin, Opr.sl, Opr.base, Sl.read, Sl.rd, Sl.ra, Sl.get, Sl.isIn, Sl.ot, Ot.rd, Ot.get, gets_lv, leaves_lv, Sh.data, Sh.root, Rs.to, ↓lv_in, -List.map_map, fst_0, fst_s, ini, List.replicate_succ, enG, bTup, bCons, bName, bNil, inAt, vC, vEnd, vBrk, vCnt, vRaise, fLt, fAdd_int, fGt, fGe, fLe, fSub, fMod, fI, fFdv, cPow, fPow, fMin2, fMax2, fInt, fAbs, fNeg, Option.bind, vRet, vSet, vDrp, vCal, agEv, agIn, agIn1, lns_nil, lns_pd, lns_br, lns_ln, bor_nil, bor_pd, bor_ln, bor_br, out_nil, out_pd, out_br, out_ln, lat_nil, lat_pd, lat_br, lat_ln, keep_fd, ex_pair, keepO_sh, lnAtm_no, agOut_no, Sl.atm, atom_i, atom_s, atom_b, atom_n, atom_k, vCons, vNil, vTup, vLst, vIf, vTru, truD, vNotV, vNotT, flat_fd, vAndV, vOrV, fEq_int, fNe_int, fEq_str, fNe_str, fEq_is, fEq_si, vMet, mvEv, Opr.loc, locAt, Ot.at, Ot.put, Nde.set, append_lv, pop_lv, reverse_lv, insert_lv, vLc_eq, vFor_eq, wipeD, vYes, iR1, iL, iK, vAug, fAug_int, slotInt, fLen_list, ML.isNon, fIsN, fNotN, vIxN, ixLoc, kidQ, ixN, os_inj, ix0, ix1, ix2, ix3, ix4, lx0, lx1, lx2, lx3, fLen_tup, xAnd, xNot, xIs, vTry, enX, keepO, Ot.root, Ot.rd, fInt, vTry0, isB_n, isB_b, isB_i, isB_s, isB_l, isB_t, isI_n, isI_b, isI_i, isI_s, isI_l, isI_t, isS_n, isS_b, isS_i, isS_s, isS_l, isS_t, isL_n, isL_b, isL_i, isL_s, isL_l, isL_t, isT_n, isT_b, isT_i, isT_s, isT_l, isT_t, plc, Sh.pos, Sh.root, vLstO, ots]
        exact h2
      · have c' : ¬ ((n' : Int) = (m : Int)) := by omega
        simp [-Bool.exists_bool, vSeq, vAsg, vV, vMv, vS, vIfS, vOr, vAnd, vNot, vB, vv1, vv2, vv3, Opr.ev, Opr.fin, Opr.sl, Opr.base, Sl.read, Sl.rd, Sl.ra, Sl.get, Sl.isIn, Sl.ot, Ot.rd, Ot.get, gets_lv, leaves_lv, Sh.data, Sh.root, Rs.to, ↓lv_in, -List.map_map, fst_0, fst_s, ini, List.replicate_succ, enG, bTup, bCons, bName, bNil, inAt, vC, vEnd, vBrk, vCnt, vRaise, fLt, fAdd_int, fGt, fGe, fLe, fSub, fMod, fI, fFdv, cPow, fPow, fMin2, fMax2, fInt, fAbs, fNeg, Option.bind, vRet, vSet, vDrp, vCal, agEv, agIn, agIn1, lns_nil, lns_pd, lns_br, lns_ln, bor_nil, bor_pd, bor_ln, bor_br, out_nil, out_pd, out_br, out_ln, lat_nil, lat_pd, lat_br, lat_ln, keep_fd, ex_pair, keepO_sh, lnAtm_no, agOut_no, Sl.atm, atom_i, atom_s, atom_b, atom_n, atom_k, vCons, vNil, vTup, vLst, vIf, vTru, truD, vNotV, vNotT, flat_fd, vAndV, vOrV, fEq_int, fNe_int, fEq_str, fNe_str, fEq_is, fEq_si, vMet, mvEv, Opr.loc, locAt, Ot.at, Ot.put, Nde.set, append_lv, pop_lv, reverse_lv, insert_lv, vLc_eq, vFor_eq, wipeD, vYes, iR1, iL, iK, vAug, fAug_int, slotInt, fLen_list, ML.isNon, fIsN, fNotN, vIxN, ixLoc, kidQ, ixN, os_inj, ix0, ix1, ix2, ix3, ix4, lx0, lx1, lx2, lx3, fLen_tup, xAnd, xNot, xIs, vTry, enX, keepO, Ot.root, Ot.rd, fInt, vTry0, isB_n, isB_b, isB_i, isB_s, isB_l, isB_t, isI_n, isI_b, isI_i, isI_s, isI_l, isI_t, isS_n, isS_b, isS_i, isS_s, isS_l, isS_t, isL_n, isL_b, isL_i, isL_s, isL_l, isL_t, isT_n, isT_b, isT_i, isT_s, isT_l, isT_t, plc, Sh.pos, Sh.root, vLstO, ots, c', b112__law_do, vPut, storeL, putIx]
        simp [-Bool.exists_bool, vSeq, vAsg, vV, vMv, vS, vIfS, vOr, vAnd, vNot, vB, vv1, vv2, vv3, Opr.ev, Opr.fin, Opr.sl, Opr.base, Sl.read, Sl.rd, Sl.ra, Sl.get, Sl.isIn, Sl.ot, Ot.rd, Ot.get, gets_lv, leaves_lv, Sh.data, Sh.root, Rs.to, ↓lv_in, -List.map_map, fst_0, fst_s, ini, List.replicate_succ, enG, bTup, bCons, bName, bNil, inAt, vC, vEnd, vBrk, vCnt, vRaise, fLt, fAdd_int, fGt, fGe, fLe, fSub, fMod, fI, fFdv, cPow, fPow, fMin2, fMax2, fInt, fAbs, fNeg, Option.bind, vRet, vSet, vDrp, vCal, agEv, agIn, agIn1, lns_nil, lns_pd, lns_br, lns_ln, bor_nil, bor_pd, bor_ln, bor_br, out_nil, out_pd, out_br, out_ln, lat_nil, lat_pd, lat_br, lat_ln, keep_fd, ex_pair, keepO_sh, lnAtm_no, agOut_no, Sl.atm, atom_i, atom_s, atom_b, atom_n, atom_k, vCons, vNil, vTup, vLst, vIf, vTru, truD, vNotV, vNotT, flat_fd, vAndV, vOrV, fEq_int, fNe_int, fEq_str, fNe_str, fEq_is, fEq_si, vMet, mvEv, Opr.loc, locAt, Ot.at, Ot.put, Nde.set, append_lv, pop_lv, reverse_lv, insert_lv, vLc_eq, vFor_eq, wipeD, vYes, iR1, iL, iK, vAug, fAug_int, slotInt, fLen_list, ML.isNon, fIsN, fNotN, vIxN, ixLoc, kidQ, ixN, os_inj, ix0, ix1, ix2, ix3, ix4, lx0, lx1, lx2, lx3, fLen_tup, xAnd, xNot, xIs, vTry, enX, keepO, Ot.root, Ot.rd, fInt, vTry0, isB_n, isB_b, isB_i, isB_s, isB_l, isB_t, isI_n, isI_b, isI_i, isI_s, isI_l, isI_t, isS_n, isS_b, isS_i, isS_s, isS_l, isS_t, isL_n, isL_b, isL_i, isL_s, isL_l, isL_t, isT_n, isT_b, isT_i, isT_s, isT_l, isT_t, plc, Sh.pos, Sh.root, vLstO, ots, b113__law_do, LM.St.d]
        refine ⟨[e.d, .list (zs σ')], rfl, e, σ', rfl, ho.1, hs', fun outs => ?_⟩
        rw [show m - n' = (m - (n' + 1)) + 1 by omega, go_cons _ (by simp)] at h1 e1
        have g2 : stp ⟨[.test e a], σ', sh'⟩ = if ev σ' e = 0 then S.mk [] σ' sh' else ⟨[a, .test e a], σ', sh'⟩ := rfl
        rw [g2] at h1 e1
        by_cases z : ev σ' e = 0
        · rw [if_pos z, go_nil] at h1
          have h2 : Qd (.sh (.bool true)) [.sh (LM.St.loop e a).d, stT p q r (n + ((0 : Nat) + 1 + (n' - (n + 1)) + 1)) m σ' sh'] := h1
          rw [show n + ((0 : Nat) + 1 + (n' - (n + 1)) + 1) = n' + 1 by omega] at h2
          simp [-Bool.exists_bool, vSeq, vAsg, vV, vMv, vS, vIfS, vOr, vAnd, vNot, vB, vv1, vv2, vv3, Opr.ev, Opr.fin, Opr.sl, Opr.base, Sl.read, Sl.rd, Sl.ra, Sl.get, Sl.isIn, Sl.ot, Ot.rd, Ot.get, gets_lv, leaves_lv, Sh.data, Sh.root, Rs.to, ↓lv_in, -List.map_map, fst_0, fst_s, ini, List.replicate_succ, enG, bTup, bCons, bName, bNil, inAt, vC, vEnd, vBrk, vCnt, vRaise, fLt, fAdd_int, fGt, fGe, fLe, fSub, fMod, fI, fFdv, cPow, fPow, fMin2, fMax2, fInt, fAbs, fNeg, Option.bind, vRet, vSet, vDrp, vCal, agEv, agIn, agIn1, lns_nil, lns_pd, lns_br, lns_ln, bor_nil, bor_pd, bor_ln, bor_br, out_nil, out_pd, out_br, out_ln, lat_nil, lat_pd, lat_br, lat_ln, keep_fd, ex_pair, keepO_sh, lnAtm_no, agOut_no, Sl.atm, atom_i, atom_s, atom_b, atom_n, atom_k, vCons, vNil, vTup, vLst, vIf, vTru, truD, vNotV, vNotT, flat_fd, vAndV, vOrV, fEq_int, fNe_int, fEq_str, fNe_str, fEq_is, fEq_si, vMet, mvEv, Opr.loc, locAt, Ot.at, Ot.put, Nde.set, append_lv, pop_lv, reverse_lv, insert_lv, vLc_eq, vFor_eq, wipeD, vYes, iR1, iL, iK, vAug, fAug_int, slotInt, fLen_list, ML.isNon, fIsN, fNotN, vIxN, ixLoc, kidQ, ixN, os_inj, ix0, ix1, ix2, ix3, ix4, lx0, lx1, lx2, lx3, fLen_tup, xAnd, xNot, xIs, vTry, enX, keepO, Ot.root, Ot.rd, fInt, vTry0, isB_n, isB_b, isB_i, isB_s, isB_l, isB_t, isI_n, isI_b, isI_i, isI_s, isI_l, isI_t, isS_n, isS_b, isS_i, isS_s, isS_l, isS_t, isL_n, isL_b, isL_i, isL_s, isL_l, isL_t, isT_n, isT_b, isT_i, isT_s, isT_l, isT_t, plc, Sh.pos, Sh.root, vLstO, ots, z]
          exact h2
        · rw [if_neg z, show S.mk [a, .test e a] σ' sh' = frm ⟨[a], σ', sh'⟩ [.test e a] [] from rfl, go_app] at h1 e1
          simp [-Bool.exists_bool, vSeq, vAsg, vV, vMv, vS, vIfS, vOr, vAnd, vNot, vB, vv1, vv2, vv3, Opr.ev, Opr.fin, Opr.sl, Opr.base, Sl.read, Sl.rd, Sl.ra, Sl.get, Sl.isIn, Sl.ot, Ot.rd, Ot.get, gets_lv, leaves_lv, Sh.data, Sh.root, Rs.to, ↓lv_in, -List.map_map, fst_0, fst_s, ini, List.replicate_succ, enG, bTup, bCons, bName, bNil, inAt, vC, vEnd, vBrk, vCnt, vRaise, fLt, fAdd_int, fGt, fGe, fLe, fSub, fMod, fI, fFdv, cPow, fPow, fMin2, fMax2, fInt, fAbs, fNeg, Option.bind, vRet, vSet, vDrp, vCal, agEv, agIn, agIn1, lns_nil, lns_pd, lns_br, lns_ln, bor_nil, bor_pd, bor_ln, bor_br, out_nil, out_pd, out_br, out_ln, lat_nil, lat_pd, lat_br, lat_ln, keep_fd, ex_pair, keepO_sh, lnAtm_no, agOut_no, Sl.atm, atom_i, atom_s, atom_b, atom_n, atom_k, vCons, vNil, vTup, vLst, vIf, vTru, truD, vNotV, vNotT, flat_fd, vAndV, vOrV, fEq_int, fNe_int, fEq_str, fNe_str, fEq_is, fEq_si, vMet, mvEv, Opr.loc, locAt, Ot.at, Ot.put, Nde.set, append_lv, pop_lv, reverse_lv, insert_lv, vLc_eq, vFor_eq, wipeD, vYes, iR1, iL, iK, vAug, fAug_int, slotInt, fLen_list, ML.isNon, fIsN, fNotN, vIxN, ixLoc, kidQ, ixN, os_inj, ix0, ix1, ix2, ix3, ix4, lx0, lx1, lx2, lx3, fLen_tup, xAnd, xNot, xIs, vTry, enX, keepO, Ot.root, Ot.rd, fInt, vTry0, isB_n, isB_b, isB_i, isB_s, isB_l, isB_t, isI_n, isI_b, isI_i, isI_s, isI_l, isI_t, isS_n, isS_b, isS_i, isS_s, isS_l, isS_t, isL_n, isL_b, isL_i, isL_s, isL_l, isL_t, isT_n, isT_b, isT_i, isT_s, isT_l, isT_t, plc, Sh.pos, Sh.root, vLstO, ots, z, b114__law_do, LM.St.d]
          refine do_one (k := k) (n := n' + 1) (m := m) (σ := σ') (sh := sh') ho.2 hn (by omega) (by omega) hm hs' (by omega) ?_
          generalize hra : go (m - (n' + 1)) ⟨[a], σ', sh'⟩ = ra at h1 e1
          have s1 : sok ra.1.σ := by
            rw [← hra]
            exact go_st (n := 1 + sh'.length) ⟨fun t ht => by rw [List.mem_singleton.mp ht]; exact ho.2, hs', by simp, by simp⟩ _
          have l1 : ra.1.sh.length ≤ n' + 1 + ra.2 := by
            have := go_sh (m - (n' + 1)) ⟨[a], σ', sh'⟩
            rw [hra] at this
            have h2 : (S.mk [a] σ' sh').sh.length = sh'.length := rfl
            omega
          have l2 : ra.2 ≤ m - (n' + 1) := by
            have := go_le (m - (n' + 1)) ⟨[a], σ', sh'⟩
            rw [hra] at this
            exact this
          by_cases zz : ra.1.td = []
          · rw [if_pos zz] at e1
            have e2 : emp ra.1 = true := emp_iff.mpr zz
            simp [-Bool.exists_bool, vSeq, vAsg, vV, vMv, vS, vIfS, vOr, vAnd, vNot, vB, vv1, vv2, vv3, Opr.ev, Opr.fin, Opr.sl, Opr.base, Sl.read, Sl.rd, Sl.ra, Sl.get, Sl.isIn, Sl.ot, Ot.rd, Ot.get, gets_lv, leaves_lv, Sh.data, Sh.root, Rs.to, ↓lv_in, -List.map_map, fst_0, fst_s, ini, List.replicate_succ, enG, bTup, bCons, bName, bNil, inAt, vC, vEnd, vBrk, vCnt, vRaise, fLt, fAdd_int, fGt, fGe, fLe, fSub, fMod, fI, fFdv, cPow, fPow, fMin2, fMax2, fInt, fAbs, fNeg, Option.bind, vRet, vSet, vDrp, vCal, agEv, agIn, agIn1, lns_nil, lns_pd, lns_br, lns_ln, bor_nil, bor_pd, bor_ln, bor_br, out_nil, out_pd, out_br, out_ln, lat_nil, lat_pd, lat_br, lat_ln, keep_fd, ex_pair, keepO_sh, lnAtm_no, agOut_no, Sl.atm, atom_i, atom_s, atom_b, atom_n, atom_k, vCons, vNil, vTup, vLst, vIf, vTru, truD, vNotV, vNotT, flat_fd, vAndV, vOrV, fEq_int, fNe_int, fEq_str, fNe_str, fEq_is, fEq_si, vMet, mvEv, Opr.loc, locAt, Ot.at, Ot.put, Nde.set, append_lv, pop_lv, reverse_lv, insert_lv, vLc_eq, vFor_eq, wipeD, vYes, iR1, iL, iK, vAug, fAug_int, slotInt, fLen_list, ML.isNon, fIsN, fNotN, vIxN, ixLoc, kidQ, ixN, os_inj, ix0, ix1, ix2, ix3, ix4, lx0, lx1, lx2, lx3, fLen_tup, xAnd, xNot, xIs, vTry, enX, keepO, Ot.root, Ot.rd, fInt, vTry0, isB_n, isB_b, isB_i, isB_s, isB_l, isB_t, isI_n, isI_b, isI_i, isI_s, isI_l, isI_t, isS_n, isS_b, isS_i, isS_s, isS_l, isS_t, isL_n, isL_b, isL_i, isL_s, isL_l, isL_t, isT_n, isT_b, isT_i, isT_s, isT_l, isT_t, plc, Sh.pos, Sh.root, vLstO, ots, e2]
            refine ⟨n' + 1 + ra.2, ra.1.σ, ra.1.sh, _, _, rfl, by omega, by omega, s1, l1, ?_⟩
            rw [e1]
            have : m - (n' + 1) - ra.2 = m - (n' + 1 + ra.2) := by omega
            rw [this]
            refine Prod.ext rfl ?_
            show (go (m - (n' + 1 + ra.2)) ⟨[.test e a], ra.1.σ, [] ++ ra.1.sh⟩).2 + ra.2 + 1 + (n' - (n + 1)) = (go (m - (n' + 1 + ra.2)) ⟨[.test e a], ra.1.σ, ra.1.sh⟩).2 + (n' + 1 + ra.2 - (n + 1))
            show (go (m - (n' + 1 + ra.2)) ⟨[.test e a], ra.1.σ, ra.1.sh⟩).2 + ra.2 + 1 + (n' - (n + 1)) = _
            omega
          · rw [if_neg zz] at h1
            have e2 : emp ra.1 = false := emp_f.mpr zz
            have e3 : emp (frm ra.1 [.test e a] []) = false := emp_f.mpr (by unfold frm; simp)
            have e4 : ra.2 = m - (n' + 1) := by
              rw [← hra]
              exact go_all _ (by rw [hra]; exact zz)
            simp [-Bool.exists_bool, vSeq, vAsg, vV, vMv, vS, vIfS, vOr, vAnd, vNot, vB, vv1, vv2, vv3, Opr.ev, Opr.fin, Opr.sl, Opr.base, Sl.read, Sl.rd, Sl.ra, Sl.get, Sl.isIn, Sl.ot, Ot.rd, Ot.get, gets_lv, leaves_lv, Sh.data, Sh.root, Rs.to, ↓lv_in, -List.map_map, fst_0, fst_s, ini, List.replicate_succ, enG, bTup, bCons, bName, bNil, inAt, vC, vEnd, vBrk, vCnt, vRaise, fLt, fAdd_int, fGt, fGe, fLe, fSub, fMod, fI, fFdv, cPow, fPow, fMin2, fMax2, fInt, fAbs, fNeg, Option.bind, vRet, vSet, vDrp, vCal, agEv, agIn, agIn1, lns_nil, lns_pd, lns_br, lns_ln, bor_nil, bor_pd, bor_ln, bor_br, out_nil, out_pd, out_br, out_ln, lat_nil, lat_pd, lat_br, lat_ln, keep_fd, ex_pair, keepO_sh, lnAtm_no, agOut_no, Sl.atm, atom_i, atom_s, atom_b, atom_n, atom_k, vCons, vNil, vTup, vLst, vIf, vTru, truD, vNotV, vNotT, flat_fd, vAndV, vOrV, fEq_int, fNe_int, fEq_str, fNe_str, fEq_is, fEq_si, vMet, mvEv, Opr.loc, locAt, Ot.at, Ot.put, Nde.set, append_lv, pop_lv, reverse_lv, insert_lv, vLc_eq, vFor_eq, wipeD, vYes, iR1, iL, iK, vAug, fAug_int, slotInt, fLen_list, ML.isNon, fIsN, fNotN, vIxN, ixLoc, kidQ, ixN, os_inj, ix0, ix1, ix2, ix3, ix4, lx0, lx1, lx2, lx3, fLen_tup, xAnd, xNot, xIs, vTry, enX, keepO, Ot.root, Ot.rd, fInt, vTry0, isB_n, isB_b, isB_i, isB_s, isB_l, isB_t, isI_n, isI_b, isI_i, isI_s, isI_l, isI_t, isS_n, isS_b, isS_i, isS_s, isS_l, isS_t, isL_n, isL_b, isL_i, isL_s, isL_l, isL_t, isT_n, isT_b, isT_i, isT_s, isT_l, isT_t, plc, Sh.pos, Sh.root, vLstO, ots, e2]
            have h2 : Qd (.sh (.bool (emp (frm ra.1 [.test e a] [])))) [.sh (LM.St.loop e a).d, stT p q r (n + (m - (n' + 1) + 1 + (n' - (n + 1)) + 1)) m ra.1.σ ([] ++ ra.1.sh)] := h1
            rw [e3, show n + (m - (n' + 1) + 1 + (n' - (n + 1)) + 1) = n' + 1 + ra.2 by omega] at h2
            exact h2
    · rintro δ2 ⟨n', σ', sh', x, y, rfl, hj, hnm, hs', hsh', e1⟩
      exfalso
      have := rngD_len 0 (m + 1)

      rw [this] at hj
      omega
  | test e a => exact hn.elim
end K52

/-! ## S52c -/
set_option Elab.async false
set_option linter.all false
set_option exponentiation.threshold 10000
set_option autoImplicit false
set_option maxRecDepth 100000
set_option maxHeartbeats 8000000
namespace K52
open PySem PySem.Spec PyProof.Rows L2 ML LM
open LP (wr rg32)
def sm_ref : SemG := semV fun ds Qd _ => ∃ (s : LM.St) (f : Nat), ds = [s.d, .int f] ∧ s.ok ∧ f ≤ 100000 ∧ emp (fin s f).1 = false ∧ Qd (.sh (.bool true))
theorem s_ref {cF cS : Addr} {ins : List Sl} {Qd : Sl → List Sl → Prop} {Xd : Exn → List Sl → Prop} (hl : ins.length = 2) (h : sm_ref ins Qd Xd) : t__law_refused (sm_run cF) cF cS (fun C b => C = cF ∧ b = true) true true (enG 2 Qd Xd) (ini 3 ins) := by
  obtain ⟨_, rfl, s, f, rfl, ho, hf, he, h1⟩ := h
  simp [-Bool.exists_bool, vSeq, vAsg, vV, vMv, vS, vIfS, vOr, vAnd, vNot, vB, vv1, vv2, vv3, Opr.ev, Opr.fin, Opr.sl, Opr.base, Sl.read, Sl.rd, Sl.ra, Sl.get, Sl.isIn, Sl.ot, Ot.rd, Ot.get, gets_lv, leaves_lv, Sh.data, Sh.root, Rs.to, ↓lv_in, -List.map_map, fst_0, fst_s, ini, List.replicate_succ, enG, bTup, bCons, bName, bNil, inAt, vC, vEnd, vBrk, vCnt, vRaise, fLt, fAdd_int, fGt, fGe, fLe, fSub, fMod, fI, fFdv, cPow, fPow, fMin2, fMax2, fInt, fAbs, fNeg, Option.bind, vRet, vSet, vDrp, vCal, agEv, agIn, agIn1, lns_nil, lns_pd, lns_br, lns_ln, bor_nil, bor_pd, bor_ln, bor_br, out_nil, out_pd, out_br, out_ln, lat_nil, lat_pd, lat_br, lat_ln, keep_fd, ex_pair, keepO_sh, lnAtm_no, agOut_no, Sl.atm, atom_i, atom_s, atom_b, atom_n, atom_k, vCons, vNil, vTup, vLst, vIf, vTru, truD, vNotV, vNotT, flat_fd, vAndV, vOrV, fEq_int, fNe_int, fEq_str, fNe_str, fEq_is, fEq_si, vMet, mvEv, Opr.loc, locAt, Ot.at, Ot.put, Nde.set, append_lv, pop_lv, reverse_lv, insert_lv, vLc_eq, vFor_eq, wipeD, vYes, iR1, iL, iK, vAug, fAug_int, slotInt, fLen_list, ML.isNon, fIsN, fNotN, vIxN, ixLoc, kidQ, ixN, os_inj, ix0, ix1, ix2, ix3, ix4, lx0, lx1, lx2, lx3, fLen_tup, xAnd, xNot, xIs, vTry, enX, keepO, Ot.root, Ot.rd, fInt, vTry0, isB_n, isB_b, isB_i, isB_s, isB_l, isB_t, isI_n, isI_b, isI_i, isI_s, isI_l, isI_t, isS_n, isS_b, isS_i, isS_s, isS_l, isS_t, isL_n, isL_b, isL_i, isL_s, isL_l, isL_t, isT_n, isT_b, isT_i, isT_s, isT_l, isT_t, plc, Sh.pos, Sh.root, vLstO, ML.ots, Ot.gets, t__law_refused]
  refine ⟨[s.d, .int f], rfl, s, f, rfl, ho, hf, fun e => ?_, fun e outs => ?_⟩
  · rw [he] at e; cases e
  · simp [-Bool.exists_bool, vSeq, vAsg, vV, vMv, vS, vIfS, vOr, vAnd, vNot, vB, vv1, vv2, vv3, Opr.ev, Opr.fin, Opr.sl, Opr.base, Sl.read, Sl.rd, Sl.ra, Sl.get, Sl.isIn, Sl.ot, Ot.rd, Ot.get, gets_lv, leaves_lv, Sh.data, Sh.root, Rs.to, ↓lv_in, -List.map_map, fst_0, fst_s, ini, List.replicate_succ, enG, bTup, bCons, bName, bNil, inAt, vC, vEnd, vBrk, vCnt, vRaise, fLt, fAdd_int, fGt, fGe, fLe, fSub, fMod, fI, fFdv, cPow, fPow, fMin2, fMax2, fInt, fAbs, fNeg, Option.bind, vRet, vSet, vDrp, vCal, agEv, agIn, agIn1, lns_nil, lns_pd, lns_br, lns_ln, bor_nil, bor_pd, bor_ln, bor_br, out_nil, out_pd, out_br, out_ln, lat_nil, lat_pd, lat_br, lat_ln, keep_fd, ex_pair, keepO_sh, lnAtm_no, agOut_no, Sl.atm, atom_i, atom_s, atom_b, atom_n, atom_k, vCons, vNil, vTup, vLst, vIf, vTru, truD, vNotV, vNotT, flat_fd, vAndV, vOrV, fEq_int, fNe_int, fEq_str, fNe_str, fEq_is, fEq_si, vMet, mvEv, Opr.loc, locAt, Ot.at, Ot.put, Nde.set, append_lv, pop_lv, reverse_lv, insert_lv, vLc_eq, vFor_eq, wipeD, vYes, iR1, iL, iK, vAug, fAug_int, slotInt, fLen_list, ML.isNon, fIsN, fNotN, vIxN, ixLoc, kidQ, ixN, os_inj, ix0, ix1, ix2, ix3, ix4, lx0, lx1, lx2, lx3, fLen_tup, xAnd, xNot, xIs, vTry, enX, keepO, Ot.root, Ot.rd, fInt, vTry0, isB_n, isB_b, isB_i, isB_s, isB_l, isB_t, isI_n, isI_b, isI_i, isI_s, isI_l, isI_t, isS_n, isS_b, isS_i, isS_s, isS_l, isS_t, isL_n, isL_b, isL_i, isL_s, isL_l, isL_t, isT_n, isT_b, isT_i, isT_s, isT_l, isT_t, plc, Sh.pos, Sh.root, vLstO, ML.ots, Ot.gets]
    exact h1 _
theorem fin_lt {s : LM.St} {f k : Nat} {c : S} (h : Ends (c0 s) k c) (hk : f < k) : emp (fin s f).1 = false := by
  refine emp_f.mpr fun z => ?_
  obtain ⟨e, l⟩ := go_ends (c := c0 s) (n := f) z
  have := (ends_det e h).1
  omega
theorem ends_pos {s : LM.St} {k : Nat} {c : S} (h : Ends (c0 s) k c) : 1 ≤ k := by
  rcases ends_inv h with ⟨z, _⟩ | ⟨j, rfl, _⟩
  · cases z
  · omega
def sm_law : SemG := fun ins Qd _ => ∃ ns : List Int, ins = [.sh (lkD (ns.map .int))] ∧ ∀ outs, Qd (.sh (.bool true)) outs
theorem mod_nat (a b : Nat) : ((a : Int) % (b : Int)) = ((a % b : Nat) : Int) := by omega
theorem okd_o {b : Bool} {l : List Int} (h : l.length ≤ 1000000) : okd 30 (.tuple [.bool b, .list (zs l)]) := okd_mono (n := 2) (by omega) ⟨by simp, allc (okd_bool _ _) (all1 (okd_zl l h))⟩
theorem okd_r {r : S × Nat} (h1 : r.1.σ.length = 16) (h2 : r.1.sh.length ≤ 1000) : okd 30 (resD r) := okd_mono (n := 2) (by omega) ⟨by simp, allc (okd_zl _ (by omega)) (allc (okd_zl _ (by omega)) (all1 (okd_int _ _)))⟩
abbrev LA {α : Type} (f : SemG → SemG → SemG → SemG → SemG → SemG → SemG → SemG → α) (cF : Addr) : α := f (sm_do 15) LP.sm_numbers LP.sm_pick sm_ref (LP.sm_same 30) (sm_st 6) sm_obs (sm_run cF)
theorem mulS' : fMulV (.list [.int 0]) (.int 16) = some (.nw (zs z16)) := rfl
theorem do0 {k : Nat} {p q r : Addr} {s : LM.St} {m : Nat} {Qd : Sl → List Sl → Prop} {Xd : Exn → List Sl → Prop} (ho : s.ok) (hn : nt s) (hd : s.dp ≤ k) (hm : m ≤ 1000)
    (kk : Qd (.sh (.bool (emp (fin s m).1))) [.sh s.d, stT p q r (fin s m).2 m (fin s m).1.σ (fin s m).1.sh]) : sm_do k [.sh s.d, stT p q r 0 m z16 []] Qd Xd :=
  ⟨p, q, r, s, 0, m, z16, [], rfl, ho, hn, hd, Nat.zero_le _, hm, sok_z, Nat.zero_le _, by rw [Nat.sub_zero, Nat.zero_add]; exact kk⟩
theorem fin_G {s : LM.St} (ho : s.ok) (f : Nat) : sok (fin s f).1.σ ∧ (fin s f).1.sh.length ≤ (fin s f).2 ∧ (fin s f).2 ≤ f := by
  refine ⟨go_st (g0 ho) f, ?_, go_le f _⟩
  have := go_sh f (c0 s)
  have h2 : (c0 s).sh.length = 0 := rfl
  show (go f (c0 s)).1.sh.length ≤ (go f (c0 s)).2
  omega
theorem s_law {cF : Addr} {ins : List Sl} {Qd : Sl → List Sl → Prop} {Xd : Exn → List Sl → Prop} (hl : ins.length = 1) (h : sm_law ins Qd Xd) : LA t_law cF (enG 1 Qd Xd) (ini 10 ins) := by
  obtain ⟨ns, rfl, hq⟩ := h
  simp [-Bool.exists_bool, vSeq, vAsg, vV, vMv, vS, vIfS, vOr, vAnd, vNot, vB, vv1, vv2, vv3, Opr.ev, Opr.fin, Opr.sl, Opr.base, Sl.read, Sl.rd, Sl.ra, Sl.get, Sl.isIn, Sl.ot, Ot.rd, Ot.get, gets_lv, leaves_lv, Sh.data, Sh.root, Rs.to, ↓lv_in, -List.map_map, fst_0, fst_s, ini, List.replicate_succ, enG, bTup, bCons, bName, bNil, inAt, vC, vEnd, vBrk, vCnt, vRaise, fLt, fAdd_int, fGt, fGe, fLe, fSub, fMod, fI, fFdv, cPow, fPow, fMin2, fMax2, fInt, fAbs, fNeg, Option.bind, vRet, vSet, vDrp, vCal, agEv, agIn, agIn1, lns_nil, lns_pd, lns_br, lns_ln, bor_nil, bor_pd, bor_ln, bor_br, out_nil, out_pd, out_br, out_ln, lat_nil, lat_pd, lat_br, lat_ln, keep_fd, ex_pair, keepO_sh, lnAtm_no, agOut_no, Sl.atm, atom_i, atom_s, atom_b, atom_n, atom_k, vCons, vNil, vTup, vLst, vIf, vTru, truD, vNotV, vNotT, flat_fd, vAndV, vOrV, fEq_int, fNe_int, fEq_str, fNe_str, fEq_is, fEq_si, vMet, mvEv, Opr.loc, locAt, Ot.at, Ot.put, Nde.set, append_lv, pop_lv, reverse_lv, insert_lv, vLc_eq, vFor_eq, wipeD, vYes, iR1, iL, iK, vAug, fAug_int, slotInt, fLen_list, ML.isNon, fIsN, fNotN, vIxN, ixLoc, kidQ, ixN, os_inj, ix0, ix1, ix2, ix3, ix4, lx0, lx1, lx2, lx3, fLen_tup, xAnd, xNot, xIs, vTry, enX, keepO, Ot.root, Ot.rd, fInt, vTry0, isB_n, isB_b, isB_i, isB_s, isB_l, isB_t, isI_n, isI_b, isI_i, isI_s, isI_l, isI_t, isS_n, isS_b, isS_i, isS_s, isS_l, isS_t, isL_n, isL_b, isL_i, isL_s, isL_l, isL_t, isT_n, isT_b, isT_i, isT_s, isT_l, isT_t, plc, Sh.pos, Sh.root, vLstO, ML.ots, Ot.gets, LA, t_law]
  refine ⟨[lkD (ns.map .int)], rfl, _, rfl, ⟨ns, rfl⟩, fun p ds hi outs => ?_⟩
  simp [-Bool.exists_bool, vSeq, vAsg, vV, vMv, vS, vIfS, vOr, vAnd, vNot, vB, vv1, vv2, vv3, Opr.ev, Opr.fin, Opr.sl, Opr.base, Sl.read, Sl.rd, Sl.ra, Sl.get, Sl.isIn, Sl.ot, Ot.rd, Ot.get, gets_lv, leaves_lv, Sh.data, Sh.root, Rs.to, ↓lv_in, -List.map_map, fst_0, fst_s, ini, List.replicate_succ, enG, bTup, bCons, bName, bNil, inAt, vC, vEnd, vBrk, vCnt, vRaise, fLt, fAdd_int, fGt, fGe, fLe, fSub, fMod, fI, fFdv, cPow, fPow, fMin2, fMax2, fInt, fAbs, fNeg, Option.bind, vRet, vSet, vDrp, vCal, agEv, agIn, agIn1, lns_nil, lns_pd, lns_br, lns_ln, bor_nil, bor_pd, bor_ln, bor_br, out_nil, out_pd, out_br, out_ln, lat_nil, lat_pd, lat_br, lat_ln, keep_fd, ex_pair, keepO_sh, lnAtm_no, agOut_no, Sl.atm, atom_i, atom_s, atom_b, atom_n, atom_k, vCons, vNil, vTup, vLst, vIf, vTru, truD, vNotV, vNotT, flat_fd, vAndV, vOrV, fEq_int, fNe_int, fEq_str, fNe_str, fEq_is, fEq_si, vMet, mvEv, Opr.loc, locAt, Ot.at, Ot.put, Nde.set, append_lv, pop_lv, reverse_lv, insert_lv, vLc_eq, vFor_eq, wipeD, vYes, iR1, iL, iK, vAug, fAug_int, slotInt, fLen_list, ML.isNon, fIsN, fNotN, vIxN, ixLoc, kidQ, ixN, os_inj, ix0, ix1, ix2, ix3, ix4, lx0, lx1, lx2, lx3, fLen_tup, xAnd, xNot, xIs, vTry, enX, keepO, Ot.root, Ot.rd, fInt, vTry0, isB_n, isB_b, isB_i, isB_s, isB_l, isB_t, isI_n, isI_b, isI_i, isI_s, isI_l, isI_t, isS_n, isS_b, isS_i, isS_s, isS_l, isS_t, isL_n, isL_b, isL_i, isL_s, isL_l, isL_t, isT_n, isT_b, isT_i, isT_s, isT_l, isT_t, plc, Sh.pos, Sh.root, vLstO, ML.ots, Ot.gets, b1_law]
  refine LP.pick hi (by omega) fun m d1 i1 m0 m1 => ?_
  obtain ⟨m, rfl⟩ := nat_of m0
  simp [-Bool.exists_bool, vSeq, vAsg, vV, vMv, vS, vIfS, vOr, vAnd, vNot, vB, vv1, vv2, vv3, Opr.ev, Opr.fin, Opr.sl, Opr.base, Sl.read, Sl.rd, Sl.ra, Sl.get, Sl.isIn, Sl.ot, Ot.rd, Ot.get, gets_lv, leaves_lv, Sh.data, Sh.root, Rs.to, ↓lv_in, -List.map_map, fst_0, fst_s, ini, List.replicate_succ, enG, bTup, bCons, bName, bNil, inAt, vC, vEnd, vBrk, vCnt, vRaise, fLt, fAdd_int, fGt, fGe, fLe, fSub, fMod, fI, fFdv, cPow, fPow, fMin2, fMax2, fInt, fAbs, fNeg, Option.bind, vRet, vSet, vDrp, vCal, agEv, agIn, agIn1, lns_nil, lns_pd, lns_br, lns_ln, bor_nil, bor_pd, bor_ln, bor_br, out_nil, out_pd, out_br, out_ln, lat_nil, lat_pd, lat_br, lat_ln, keep_fd, ex_pair, keepO_sh, lnAtm_no, agOut_no, Sl.atm, atom_i, atom_s, atom_b, atom_n, atom_k, vCons, vNil, vTup, vLst, vIf, vTru, truD, vNotV, vNotT, flat_fd, vAndV, vOrV, fEq_int, fNe_int, fEq_str, fNe_str, fEq_is, fEq_si, vMet, mvEv, Opr.loc, locAt, Ot.at, Ot.put, Nde.set, append_lv, pop_lv, reverse_lv, insert_lv, vLc_eq, vFor_eq, wipeD, vYes, iR1, iL, iK, vAug, fAug_int, slotInt, fLen_list, ML.isNon, fIsN, fNotN, vIxN, ixLoc, kidQ, ixN, os_inj, ix0, ix1, ix2, ix3, ix4, lx0, lx1, lx2, lx3, fLen_tup, xAnd, xNot, xIs, vTry, enX, keepO, Ot.root, Ot.rd, fInt, vTry0, isB_n, isB_b, isB_i, isB_s, isB_l, isB_t, isI_n, isI_b, isI_i, isI_s, isI_l, isI_t, isS_n, isS_b, isS_i, isS_s, isS_l, isS_t, isL_n, isL_b, isL_i, isL_s, isL_l, isL_t, isT_n, isT_b, isT_i, isT_s, isT_l, isT_t, plc, Sh.pos, Sh.root, vLstO, ML.ots, Ot.gets, b2_law]
  refine LP.pick i1 (by omega) fun sr d2 i2 s0 s1 => ?_
  obtain ⟨sr, rfl⟩ := nat_of s0
  simp [-Bool.exists_bool, vSeq, vAsg, vV, vMv, vS, vIfS, vOr, vAnd, vNot, vB, vv1, vv2, vv3, Opr.ev, Opr.fin, Opr.sl, Opr.base, Sl.read, Sl.rd, Sl.ra, Sl.get, Sl.isIn, Sl.ot, Ot.rd, Ot.get, gets_lv, leaves_lv, Sh.data, Sh.root, Rs.to, ↓lv_in, -List.map_map, fst_0, fst_s, ini, List.replicate_succ, enG, bTup, bCons, bName, bNil, inAt, vC, vEnd, vBrk, vCnt, vRaise, fLt, fAdd_int, fGt, fGe, fLe, fSub, fMod, fI, fFdv, cPow, fPow, fMin2, fMax2, fInt, fAbs, fNeg, Option.bind, vRet, vSet, vDrp, vCal, agEv, agIn, agIn1, lns_nil, lns_pd, lns_br, lns_ln, bor_nil, bor_pd, bor_ln, bor_br, out_nil, out_pd, out_br, out_ln, lat_nil, lat_pd, lat_br, lat_ln, keep_fd, ex_pair, keepO_sh, lnAtm_no, agOut_no, Sl.atm, atom_i, atom_s, atom_b, atom_n, atom_k, vCons, vNil, vTup, vLst, vIf, vTru, truD, vNotV, vNotT, flat_fd, vAndV, vOrV, fEq_int, fNe_int, fEq_str, fNe_str, fEq_is, fEq_si, vMet, mvEv, Opr.loc, locAt, Ot.at, Ot.put, Nde.set, append_lv, pop_lv, reverse_lv, insert_lv, vLc_eq, vFor_eq, wipeD, vYes, iR1, iL, iK, vAug, fAug_int, slotInt, fLen_list, ML.isNon, fIsN, fNotN, vIxN, ixLoc, kidQ, ixN, os_inj, ix0, ix1, ix2, ix3, ix4, lx0, lx1, lx2, lx3, fLen_tup, xAnd, xNot, xIs, vTry, enX, keepO, Ot.root, Ot.rd, fInt, vTry0, isB_n, isB_b, isB_i, isB_s, isB_l, isB_t, isI_n, isI_b, isI_i, isI_s, isI_l, isI_t, isS_n, isS_b, isS_i, isS_s, isS_l, isS_t, isL_n, isL_b, isL_i, isL_s, isL_l, isL_t, isT_n, isT_b, isT_i, isT_s, isT_l, isT_t, plc, Sh.pos, Sh.root, vLstO, ML.ots, Ot.gets, b3_law]
  refine ⟨p, d2, 4, rfl, by omega, i2, fun s d3 hs hd i3 mm => ?_⟩
  obtain ⟨ho, hn⟩ := hs
  obtain ⟨g1, g2, g3⟩ := fin_G ho m
  simp [-Bool.exists_bool, vSeq, vAsg, vV, vMv, vS, vIfS, vOr, vAnd, vNot, vB, vv1, vv2, vv3, Opr.ev, Opr.fin, Opr.sl, Opr.base, Sl.read, Sl.rd, Sl.ra, Sl.get, Sl.isIn, Sl.ot, Ot.rd, Ot.get, gets_lv, leaves_lv, Sh.data, Sh.root, Rs.to, ↓lv_in, -List.map_map, fst_0, fst_s, ini, List.replicate_succ, enG, bTup, bCons, bName, bNil, inAt, vC, vEnd, vBrk, vCnt, vRaise, fLt, fAdd_int, fGt, fGe, fLe, fSub, fMod, fI, fFdv, cPow, fPow, fMin2, fMax2, fInt, fAbs, fNeg, Option.bind, vRet, vSet, vDrp, vCal, agEv, agIn, agIn1, lns_nil, lns_pd, lns_br, lns_ln, bor_nil, bor_pd, bor_ln, bor_br, out_nil, out_pd, out_br, out_ln, lat_nil, lat_pd, lat_br, lat_ln, keep_fd, ex_pair, keepO_sh, lnAtm_no, agOut_no, Sl.atm, atom_i, atom_s, atom_b, atom_n, atom_k, vCons, vNil, vTup, vLst, vIf, vTru, truD, vNotV, vNotT, flat_fd, vAndV, vOrV, fEq_int, fNe_int, fEq_str, fNe_str, fEq_is, fEq_si, vMet, mvEv, Opr.loc, locAt, Ot.at, Ot.put, Nde.set, append_lv, pop_lv, reverse_lv, insert_lv, vLc_eq, vFor_eq, wipeD, vYes, iR1, iL, iK, vAug, fAug_int, slotInt, fLen_list, ML.isNon, fIsN, fNotN, vIxN, ixLoc, kidQ, ixN, os_inj, ix0, ix1, ix2, ix3, ix4, lx0, lx1, lx2, lx3, fLen_tup, xAnd, xNot, xIs, vTry, enX, keepO, Ot.root, Ot.rd, fInt, vTry0, isB_n, isB_b, isB_i, isB_s, isB_l, isB_t, isI_n, isI_b, isI_i, isI_s, isI_l, isI_t, isS_n, isS_b, isS_i, isS_s, isS_l, isS_t, isL_n, isL_b, isL_i, isL_s, isL_l, isL_t, isT_n, isT_b, isT_i, isT_s, isT_l, isT_t, plc, Sh.pos, Sh.root, vLstO, ML.ots, Ot.gets, b4_law, mulS']
  intro q1 q2 q3
  simp [-Bool.exists_bool, vSeq, vAsg, vV, vMv, vS, vIfS, vOr, vAnd, vNot, vB, vv1, vv2, vv3, Opr.ev, Opr.fin, Opr.sl, Opr.base, Sl.read, Sl.rd, Sl.ra, Sl.get, Sl.isIn, Sl.ot, Ot.rd, Ot.get, gets_lv, leaves_lv, Sh.data, Sh.root, Rs.to, ↓lv_in, -List.map_map, fst_0, fst_s, ini, List.replicate_succ, enG, bTup, bCons, bName, bNil, inAt, vC, vEnd, vBrk, vCnt, vRaise, fLt, fAdd_int, fGt, fGe, fLe, fSub, fMod, fI, fFdv, cPow, fPow, fMin2, fMax2, fInt, fAbs, fNeg, Option.bind, vRet, vSet, vDrp, vCal, agEv, agIn, agIn1, lns_nil, lns_pd, lns_br, lns_ln, bor_nil, bor_pd, bor_ln, bor_br, out_nil, out_pd, out_br, out_ln, lat_nil, lat_pd, lat_br, lat_ln, keep_fd, ex_pair, keepO_sh, lnAtm_no, agOut_no, Sl.atm, atom_i, atom_s, atom_b, atom_n, atom_k, vCons, vNil, vTup, vLst, vIf, vTru, truD, vNotV, vNotT, flat_fd, vAndV, vOrV, fEq_int, fNe_int, fEq_str, fNe_str, fEq_is, fEq_si, vMet, mvEv, Opr.loc, locAt, Ot.at, Ot.put, Nde.set, append_lv, pop_lv, reverse_lv, insert_lv, vLc_eq, vFor_eq, wipeD, vYes, iR1, iL, iK, vAug, fAug_int, slotInt, fLen_list, ML.isNon, fIsN, fNotN, vIxN, ixLoc, kidQ, ixN, os_inj, ix0, ix1, ix2, ix3, ix4, lx0, lx1, lx2, lx3, fLen_tup, xAnd, xNot, xIs, vTry, enX, keepO, Ot.root, Ot.rd, fInt, vTry0, isB_n, isB_b, isB_i, isB_s, isB_l, isB_t, isI_n, isI_b, isI_i, isI_s, isI_l, isI_t, isS_n, isS_b, isS_i, isS_s, isS_l, isS_t, isL_n, isL_b, isL_i, isL_s, isL_l, isL_t, isT_n, isT_b, isT_i, isT_s, isT_l, isT_t, plc, Sh.pos, Sh.root, vLstO, ML.ots, Ot.gets, b5_law]
  refine do0 (m := m) ho hn (by omega) (by omega) ?_
  simp [-Bool.exists_bool, vSeq, vAsg, vV, vMv, vS, vIfS, vOr, vAnd, vNot, vB, vv1, vv2, vv3, Opr.ev, Opr.fin, Opr.sl, Opr.base, Sl.read, Sl.rd, Sl.ra, Sl.get, Sl.isIn, Sl.ot, Ot.rd, Ot.get, gets_lv, leaves_lv, Sh.data, Sh.root, Rs.to, ↓lv_in, -List.map_map, fst_0, fst_s, ini, List.replicate_succ, enG, bTup, bCons, bName, bNil, inAt, vC, vEnd, vBrk, vCnt, vRaise, fLt, fAdd_int, fGt, fGe, fLe, fSub, fMod, fI, fFdv, cPow, fPow, fMin2, fMax2, fInt, fAbs, fNeg, Option.bind, vRet, vSet, vDrp, vCal, agEv, agIn, agIn1, lns_nil, lns_pd, lns_br, lns_ln, bor_nil, bor_pd, bor_ln, bor_br, out_nil, out_pd, out_br, out_ln, lat_nil, lat_pd, lat_br, lat_ln, keep_fd, ex_pair, keepO_sh, lnAtm_no, agOut_no, Sl.atm, atom_i, atom_s, atom_b, atom_n, atom_k, vCons, vNil, vTup, vLst, vIf, vTru, truD, vNotV, vNotT, flat_fd, vAndV, vOrV, fEq_int, fNe_int, fEq_str, fNe_str, fEq_is, fEq_si, vMet, mvEv, Opr.loc, locAt, Ot.at, Ot.put, Nde.set, append_lv, pop_lv, reverse_lv, insert_lv, vLc_eq, vFor_eq, wipeD, vYes, iR1, iL, iK, vAug, fAug_int, slotInt, fLen_list, ML.isNon, fIsN, fNotN, vIxN, ixLoc, kidQ, ixN, os_inj, ix0, ix1, ix2, ix3, ix4, lx0, lx1, lx2, lx3, fLen_tup, xAnd, xNot, xIs, vTry, enX, keepO, Ot.root, Ot.rd, fInt, vTry0, isB_n, isB_b, isB_i, isB_s, isB_l, isB_t, isI_n, isI_b, isI_i, isI_s, isI_l, isI_t, isS_n, isS_b, isS_i, isS_s, isS_l, isS_t, isL_n, isL_b, isL_i, isL_s, isL_l, isL_t, isT_n, isT_b, isT_i, isT_s, isT_l, isT_t, plc, Sh.pos, Sh.root, vLstO, ML.ots, Ot.gets, b6_law]
  refine ⟨[s.d, .int (m : Int)], rfl, s, m, rfl, ho, by omega, fun outs => ?_⟩
  simp [-Bool.exists_bool, vSeq, vAsg, vV, vMv, vS, vIfS, vOr, vAnd, vNot, vB, vv1, vv2, vv3, Opr.ev, Opr.fin, Opr.sl, Opr.base, Sl.read, Sl.rd, Sl.ra, Sl.get, Sl.isIn, Sl.ot, Ot.rd, Ot.get, gets_lv, leaves_lv, Sh.data, Sh.root, Rs.to, ↓lv_in, -List.map_map, fst_0, fst_s, ini, List.replicate_succ, enG, bTup, bCons, bName, bNil, inAt, vC, vEnd, vBrk, vCnt, vRaise, fLt, fAdd_int, fGt, fGe, fLe, fSub, fMod, fI, fFdv, cPow, fPow, fMin2, fMax2, fInt, fAbs, fNeg, Option.bind, vRet, vSet, vDrp, vCal, agEv, agIn, agIn1, lns_nil, lns_pd, lns_br, lns_ln, bor_nil, bor_pd, bor_ln, bor_br, out_nil, out_pd, out_br, out_ln, lat_nil, lat_pd, lat_br, lat_ln, keep_fd, ex_pair, keepO_sh, lnAtm_no, agOut_no, Sl.atm, atom_i, atom_s, atom_b, atom_n, atom_k, vCons, vNil, vTup, vLst, vIf, vTru, truD, vNotV, vNotT, flat_fd, vAndV, vOrV, fEq_int, fNe_int, fEq_str, fNe_str, fEq_is, fEq_si, vMet, mvEv, Opr.loc, locAt, Ot.at, Ot.put, Nde.set, append_lv, pop_lv, reverse_lv, insert_lv, vLc_eq, vFor_eq, wipeD, vYes, iR1, iL, iK, vAug, fAug_int, slotInt, fLen_list, ML.isNon, fIsN, fNotN, vIxN, ixLoc, kidQ, ixN, os_inj, ix0, ix1, ix2, ix3, ix4, lx0, lx1, lx2, lx3, fLen_tup, xAnd, xNot, xIs, vTry, enX, keepO, Ot.root, Ot.rd, fInt, vTry0, isB_n, isB_b, isB_i, isB_s, isB_l, isB_t, isI_n, isI_b, isI_i, isI_s, isI_l, isI_t, isS_n, isS_b, isS_i, isS_s, isS_l, isS_t, isL_n, isL_b, isL_i, isL_s, isL_l, isL_t, isT_n, isT_b, isT_i, isT_s, isT_l, isT_t, plc, Sh.pos, Sh.root, vLstO, ML.ots, Ot.gets]
  refine ⟨[.tuple [.bool (emp (fin s m).1), .list (zs (fin s m).1.sh)], .tuple [.bool (emp (fin s m).1), .list (zs (fin s m).1.sh)]], rfl, _, rfl, okd_o (by omega), fun outs => ?_⟩
  simp [-Bool.exists_bool, vSeq, vAsg, vV, vMv, vS, vIfS, vOr, vAnd, vNot, vB, vv1, vv2, vv3, Opr.ev, Opr.fin, Opr.sl, Opr.base, Sl.read, Sl.rd, Sl.ra, Sl.get, Sl.isIn, Sl.ot, Ot.rd, Ot.get, gets_lv, leaves_lv, Sh.data, Sh.root, Rs.to, ↓lv_in, -List.map_map, fst_0, fst_s, ini, List.replicate_succ, enG, bTup, bCons, bName, bNil, inAt, vC, vEnd, vBrk, vCnt, vRaise, fLt, fAdd_int, fGt, fGe, fLe, fSub, fMod, fI, fFdv, cPow, fPow, fMin2, fMax2, fInt, fAbs, fNeg, Option.bind, vRet, vSet, vDrp, vCal, agEv, agIn, agIn1, lns_nil, lns_pd, lns_br, lns_ln, bor_nil, bor_pd, bor_ln, bor_br, out_nil, out_pd, out_br, out_ln, lat_nil, lat_pd, lat_br, lat_ln, keep_fd, ex_pair, keepO_sh, lnAtm_no, agOut_no, Sl.atm, atom_i, atom_s, atom_b, atom_n, atom_k, vCons, vNil, vTup, vLst, vIf, vTru, truD, vNotV, vNotT, flat_fd, vAndV, vOrV, fEq_int, fNe_int, fEq_str, fNe_str, fEq_is, fEq_si, vMet, mvEv, Opr.loc, locAt, Ot.at, Ot.put, Nde.set, append_lv, pop_lv, reverse_lv, insert_lv, vLc_eq, vFor_eq, wipeD, vYes, iR1, iL, iK, vAug, fAug_int, slotInt, fLen_list, ML.isNon, fIsN, fNotN, vIxN, ixLoc, kidQ, ixN, os_inj, ix0, ix1, ix2, ix3, ix4, lx0, lx1, lx2, lx3, fLen_tup, xAnd, xNot, xIs, vTry, enX, keepO, Ot.root, Ot.rd, fInt, vTry0, isB_n, isB_b, isB_i, isB_s, isB_l, isB_t, isI_n, isI_b, isI_i, isI_s, isI_l, isI_t, isS_n, isS_b, isS_i, isS_s, isS_l, isS_t, isL_n, isL_b, isL_i, isL_s, isL_l, isL_t, isT_n, isT_b, isT_i, isT_s, isT_l, isT_t, plc, Sh.pos, Sh.root, vLstO, ML.ots, Ot.gets]
  by_cases c : emp (fin s m).1 = true
  · have hE := (go_ends (c := c0 s) (n := m) (emp_iff.mp c)).1
    generalize hres : go m (c0 s) = res at hE
    have fr : fin s m = res := hres
    obtain ⟨c', u⟩ := res
    have hE : Ends (c0 s) u c' := hE
    have up := ends_pos hE
    rw [fr] at g1 g2 g3 c
    have g2 : c'.sh.length ≤ u := g2
    have g3 : u ≤ m := g3
    have g16 : c'.σ.length = 16 := g1.1
    rw [fr]
    simp [-Bool.exists_bool, vSeq, vAsg, vV, vMv, vS, vIfS, vOr, vAnd, vNot, vB, vv1, vv2, vv3, Opr.ev, Opr.fin, Opr.sl, Opr.base, Sl.read, Sl.rd, Sl.ra, Sl.get, Sl.isIn, Sl.ot, Ot.rd, Ot.get, gets_lv, leaves_lv, Sh.data, Sh.root, Rs.to, ↓lv_in, -List.map_map, fst_0, fst_s, ini, List.replicate_succ, enG, bTup, bCons, bName, bNil, inAt, vC, vEnd, vBrk, vCnt, vRaise, fLt, fAdd_int, fGt, fGe, fLe, fSub, fMod, fI, fFdv, cPow, fPow, fMin2, fMax2, fInt, fAbs, fNeg, Option.bind, vRet, vSet, vDrp, vCal, agEv, agIn, agIn1, lns_nil, lns_pd, lns_br, lns_ln, bor_nil, bor_pd, bor_ln, bor_br, out_nil, out_pd, out_br, out_ln, lat_nil, lat_pd, lat_br, lat_ln, keep_fd, ex_pair, keepO_sh, lnAtm_no, agOut_no, Sl.atm, atom_i, atom_s, atom_b, atom_n, atom_k, vCons, vNil, vTup, vLst, vIf, vTru, truD, vNotV, vNotT, flat_fd, vAndV, vOrV, fEq_int, fNe_int, fEq_str, fNe_str, fEq_is, fEq_si, vMet, mvEv, Opr.loc, locAt, Ot.at, Ot.put, Nde.set, append_lv, pop_lv, reverse_lv, insert_lv, vLc_eq, vFor_eq, wipeD, vYes, iR1, iL, iK, vAug, fAug_int, slotInt, fLen_list, ML.isNon, fIsN, fNotN, vIxN, ixLoc, kidQ, ixN, os_inj, ix0, ix1, ix2, ix3, ix4, lx0, lx1, lx2, lx3, fLen_tup, xAnd, xNot, xIs, vTry, enX, keepO, Ot.root, Ot.rd, fInt, vTry0, isB_n, isB_b, isB_i, isB_s, isB_l, isB_t, isI_n, isI_b, isI_i, isI_s, isI_l, isI_t, isS_n, isS_b, isS_i, isS_s, isS_l, isS_t, isL_n, isL_b, isL_i, isL_s, isL_l, isL_t, isT_n, isT_b, isT_i, isT_s, isT_l, isT_t, plc, Sh.pos, Sh.root, vLstO, ML.ots, Ot.gets, b7_law, c]
    simp [-Bool.exists_bool, vSeq, vAsg, vV, vMv, vS, vIfS, vOr, vAnd, vNot, vB, vv1, vv2, vv3, Opr.ev, Opr.fin, Opr.sl, Opr.base, Sl.read, Sl.rd, Sl.ra, Sl.get, Sl.isIn, Sl.ot, Ot.rd, Ot.get, gets_lv, leaves_lv, Sh.data, Sh.root, Rs.to, ↓lv_in, -List.map_map, fst_0, fst_s, ini, List.replicate_succ, enG, bTup, bCons, bName, bNil, inAt, vC, vEnd, vBrk, vCnt, vRaise, fLt, fAdd_int, fGt, fGe, fLe, fSub, fMod, fI, fFdv, cPow, fPow, fMin2, fMax2, fInt, fAbs, fNeg, Option.bind, vRet, vSet, vDrp, vCal, agEv, agIn, agIn1, lns_nil, lns_pd, lns_br, lns_ln, bor_nil, bor_pd, bor_ln, bor_br, out_nil, out_pd, out_br, out_ln, lat_nil, lat_pd, lat_br, lat_ln, keep_fd, ex_pair, keepO_sh, lnAtm_no, agOut_no, Sl.atm, atom_i, atom_s, atom_b, atom_n, atom_k, vCons, vNil, vTup, vLst, vIf, vTru, truD, vNotV, vNotT, flat_fd, vAndV, vOrV, fEq_int, fNe_int, fEq_str, fNe_str, fEq_is, fEq_si, vMet, mvEv, Opr.loc, locAt, Ot.at, Ot.put, Nde.set, append_lv, pop_lv, reverse_lv, insert_lv, vLc_eq, vFor_eq, wipeD, vYes, iR1, iL, iK, vAug, fAug_int, slotInt, fLen_list, ML.isNon, fIsN, fNotN, vIxN, ixLoc, kidQ, ixN, os_inj, ix0, ix1, ix2, ix3, ix4, lx0, lx1, lx2, lx3, fLen_tup, xAnd, xNot, xIs, vTry, enX, keepO, Ot.root, Ot.rd, fInt, vTry0, isB_n, isB_b, isB_i, isB_s, isB_l, isB_t, isI_n, isI_b, isI_i, isI_s, isI_l, isI_t, isS_n, isS_b, isS_i, isS_s, isS_l, isS_t, isL_n, isL_b, isL_i, isL_s, isL_l, isL_t, isT_n, isT_b, isT_i, isT_s, isT_l, isT_t, plc, Sh.pos, Sh.root, vLstO, ML.ots, Ot.gets, b8_law]
    simp [-Bool.exists_bool, vSeq, vAsg, vV, vMv, vS, vIfS, vOr, vAnd, vNot, vB, vv1, vv2, vv3, Opr.ev, Opr.fin, Opr.sl, Opr.base, Sl.read, Sl.rd, Sl.ra, Sl.get, Sl.isIn, Sl.ot, Ot.rd, Ot.get, gets_lv, leaves_lv, Sh.data, Sh.root, Rs.to, ↓lv_in, -List.map_map, fst_0, fst_s, ini, List.replicate_succ, enG, bTup, bCons, bName, bNil, inAt, vC, vEnd, vBrk, vCnt, vRaise, fLt, fAdd_int, fGt, fGe, fLe, fSub, fMod, fI, fFdv, cPow, fPow, fMin2, fMax2, fInt, fAbs, fNeg, Option.bind, vRet, vSet, vDrp, vCal, agEv, agIn, agIn1, lns_nil, lns_pd, lns_br, lns_ln, bor_nil, bor_pd, bor_ln, bor_br, out_nil, out_pd, out_br, out_ln, lat_nil, lat_pd, lat_br, lat_ln, keep_fd, ex_pair, keepO_sh, lnAtm_no, agOut_no, Sl.atm, atom_i, atom_s, atom_b, atom_n, atom_k, vCons, vNil, vTup, vLst, vIf, vTru, truD, vNotV, vNotT, flat_fd, vAndV, vOrV, fEq_int, fNe_int, fEq_str, fNe_str, fEq_is, fEq_si, vMet, mvEv, Opr.loc, locAt, Ot.at, Ot.put, Nde.set, append_lv, pop_lv, reverse_lv, insert_lv, vLc_eq, vFor_eq, wipeD, vYes, iR1, iL, iK, vAug, fAug_int, slotInt, fLen_list, ML.isNon, fIsN, fNotN, vIxN, ixLoc, kidQ, ixN, os_inj, ix0, ix1, ix2, ix3, ix4, lx0, lx1, lx2, lx3, fLen_tup, xAnd, xNot, xIs, vTry, enX, keepO, Ot.root, Ot.rd, fInt, vTry0, isB_n, isB_b, isB_i, isB_s, isB_l, isB_t, isI_n, isI_b, isI_i, isI_s, isI_l, isI_t, isS_n, isS_b, isS_i, isS_s, isS_l, isS_t, isL_n, isL_b, isL_i, isL_s, isL_l, isL_t, isT_n, isT_b, isT_i, isT_s, isT_l, isT_t, plc, Sh.pos, Sh.root, vLstO, ML.ots, Ot.gets, b9_law]
    have fu : ∀ f, u ≤ f → fin s f = (c', u) := fun f hf => ends_go hE f hf
    simp [-Bool.exists_bool, vSeq, vAsg, vV, vMv, vS, vIfS, vOr, vAnd, vNot, vB, vv1, vv2, vv3, Opr.ev, Opr.fin, Opr.sl, Opr.base, Sl.read, Sl.rd, Sl.ra, Sl.get, Sl.isIn, Sl.ot, Ot.rd, Ot.get, gets_lv, leaves_lv, Sh.data, Sh.root, Rs.to, ↓lv_in, -List.map_map, fst_0, fst_s, ini, List.replicate_succ, enG, bTup, bCons, bName, bNil, inAt, vC, vEnd, vBrk, vCnt, vRaise, fLt, fAdd_int, fGt, fGe, fLe, fSub, fMod, fI, fFdv, cPow, fPow, fMin2, fMax2, fInt, fAbs, fNeg, Option.bind, vRet, vSet, vDrp, vCal, agEv, agIn, agIn1, lns_nil, lns_pd, lns_br, lns_ln, bor_nil, bor_pd, bor_ln, bor_br, out_nil, out_pd, out_br, out_ln, lat_nil, lat_pd, lat_br, lat_ln, keep_fd, ex_pair, keepO_sh, lnAtm_no, agOut_no, Sl.atm, atom_i, atom_s, atom_b, atom_n, atom_k, vCons, vNil, vTup, vLst, vIf, vTru, truD, vNotV, vNotT, flat_fd, vAndV, vOrV, fEq_int, fNe_int, fEq_str, fNe_str, fEq_is, fEq_si, vMet, mvEv, Opr.loc, locAt, Ot.at, Ot.put, Nde.set, append_lv, pop_lv, reverse_lv, insert_lv, vLc_eq, vFor_eq, wipeD, vYes, iR1, iL, iK, vAug, fAug_int, slotInt, fLen_list, ML.isNon, fIsN, fNotN, vIxN, ixLoc, kidQ, ixN, os_inj, ix0, ix1, ix2, ix3, ix4, lx0, lx1, lx2, lx3, fLen_tup, xAnd, xNot, xIs, vTry, enX, keepO, Ot.root, Ot.rd, fInt, vTry0, isB_n, isB_b, isB_i, isB_s, isB_l, isB_t, isI_n, isI_b, isI_i, isI_s, isI_l, isI_t, isS_n, isS_b, isS_i, isS_s, isS_l, isS_t, isL_n, isL_b, isL_i, isL_s, isL_l, isL_t, isT_n, isT_b, isT_i, isT_s, isT_l, isT_t, plc, Sh.pos, Sh.root, vLstO, ML.ots, Ot.gets, b10_law]
    refine ⟨[s.d, .int (u : Int)], rfl, s, u, rfl, ho, by omega, fun _ outs => ?_, fun e => ?_⟩
    rotate_left
    · rw [fu u (Nat.le_refl _)] at e
      have c2 : emp c' = true := c
      rw [c2] at e; cases e
    rw [fu u (Nat.le_refl _)]
    simp [-Bool.exists_bool, vSeq, vAsg, vV, vMv, vS, vIfS, vOr, vAnd, vNot, vB, vv1, vv2, vv3, Opr.ev, Opr.fin, Opr.sl, Opr.base, Sl.read, Sl.rd, Sl.ra, Sl.get, Sl.isIn, Sl.ot, Ot.rd, Ot.get, gets_lv, leaves_lv, Sh.data, Sh.root, Rs.to, ↓lv_in, -List.map_map, fst_0, fst_s, ini, List.replicate_succ, enG, bTup, bCons, bName, bNil, inAt, vC, vEnd, vBrk, vCnt, vRaise, fLt, fAdd_int, fGt, fGe, fLe, fSub, fMod, fI, fFdv, cPow, fPow, fMin2, fMax2, fInt, fAbs, fNeg, Option.bind, vRet, vSet, vDrp, vCal, agEv, agIn, agIn1, lns_nil, lns_pd, lns_br, lns_ln, bor_nil, bor_pd, bor_ln, bor_br, out_nil, out_pd, out_br, out_ln, lat_nil, lat_pd, lat_br, lat_ln, keep_fd, ex_pair, keepO_sh, lnAtm_no, agOut_no, Sl.atm, atom_i, atom_s, atom_b, atom_n, atom_k, vCons, vNil, vTup, vLst, vIf, vTru, truD, vNotV, vNotT, flat_fd, vAndV, vOrV, fEq_int, fNe_int, fEq_str, fNe_str, fEq_is, fEq_si, vMet, mvEv, Opr.loc, locAt, Ot.at, Ot.put, Nde.set, append_lv, pop_lv, reverse_lv, insert_lv, vLc_eq, vFor_eq, wipeD, vYes, iR1, iL, iK, vAug, fAug_int, slotInt, fLen_list, ML.isNon, fIsN, fNotN, vIxN, ixLoc, kidQ, ixN, os_inj, ix0, ix1, ix2, ix3, ix4, lx0, lx1, lx2, lx3, fLen_tup, xAnd, xNot, xIs, vTry, enX, keepO, Ot.root, Ot.rd, fInt, vTry0, isB_n, isB_b, isB_i, isB_s, isB_l, isB_t, isI_n, isI_b, isI_i, isI_s, isI_l, isI_t, isS_n, isS_b, isS_i, isS_s, isS_l, isS_t, isL_n, isL_b, isL_i, isL_s, isL_l, isL_t, isT_n, isT_b, isT_i, isT_s, isT_l, isT_t, plc, Sh.pos, Sh.root, vLstO, ML.ots, Ot.gets]
    refine ⟨[resD (c', u), resD (c', u)], rfl, _, rfl, okd_r g16 (by show c'.sh.length ≤ _; omega), fun outs => ?_⟩
    simp [-Bool.exists_bool, vSeq, vAsg, vV, vMv, vS, vIfS, vOr, vAnd, vNot, vB, vv1, vv2, vv3, Opr.ev, Opr.fin, Opr.sl, Opr.base, Sl.read, Sl.rd, Sl.ra, Sl.get, Sl.isIn, Sl.ot, Ot.rd, Ot.get, gets_lv, leaves_lv, Sh.data, Sh.root, Rs.to, ↓lv_in, -List.map_map, fst_0, fst_s, ini, List.replicate_succ, enG, bTup, bCons, bName, bNil, inAt, vC, vEnd, vBrk, vCnt, vRaise, fLt, fAdd_int, fGt, fGe, fLe, fSub, fMod, fI, fFdv, cPow, fPow, fMin2, fMax2, fInt, fAbs, fNeg, Option.bind, vRet, vSet, vDrp, vCal, agEv, agIn, agIn1, lns_nil, lns_pd, lns_br, lns_ln, bor_nil, bor_pd, bor_ln, bor_br, out_nil, out_pd, out_br, out_ln, lat_nil, lat_pd, lat_br, lat_ln, keep_fd, ex_pair, keepO_sh, lnAtm_no, agOut_no, Sl.atm, atom_i, atom_s, atom_b, atom_n, atom_k, vCons, vNil, vTup, vLst, vIf, vTru, truD, vNotV, vNotT, flat_fd, vAndV, vOrV, fEq_int, fNe_int, fEq_str, fNe_str, fEq_is, fEq_si, vMet, mvEv, Opr.loc, locAt, Ot.at, Ot.put, Nde.set, append_lv, pop_lv, reverse_lv, insert_lv, vLc_eq, vFor_eq, wipeD, vYes, iR1, iL, iK, vAug, fAug_int, slotInt, fLen_list, ML.isNon, fIsN, fNotN, vIxN, ixLoc, kidQ, ixN, os_inj, ix0, ix1, ix2, ix3, ix4, lx0, lx1, lx2, lx3, fLen_tup, xAnd, xNot, xIs, vTry, enX, keepO, Ot.root, Ot.rd, fInt, vTry0, isB_n, isB_b, isB_i, isB_s, isB_l, isB_t, isI_n, isI_b, isI_i, isI_s, isI_l, isI_t, isS_n, isS_b, isS_i, isS_s, isS_l, isS_t, isL_n, isL_b, isL_i, isL_s, isL_l, isL_t, isT_n, isT_b, isT_i, isT_s, isT_l, isT_t, plc, Sh.pos, Sh.root, vLstO, ML.ots, Ot.gets]
    refine ⟨[s.d, .int ((u : Int) + (sr : Int))], rfl, s, u + sr, rfl, ho, by omega, fun _ outs => ?_, fun e => ?_⟩
    rotate_left
    · rw [fu (u + sr) (by omega)] at e
      have c2 : emp c' = true := c
      rw [c2] at e; cases e
    rw [fu (u + sr) (by omega)]
    simp [-Bool.exists_bool, vSeq, vAsg, vV, vMv, vS, vIfS, vOr, vAnd, vNot, vB, vv1, vv2, vv3, Opr.ev, Opr.fin, Opr.sl, Opr.base, Sl.read, Sl.rd, Sl.ra, Sl.get, Sl.isIn, Sl.ot, Ot.rd, Ot.get, gets_lv, leaves_lv, Sh.data, Sh.root, Rs.to, ↓lv_in, -List.map_map, fst_0, fst_s, ini, List.replicate_succ, enG, bTup, bCons, bName, bNil, inAt, vC, vEnd, vBrk, vCnt, vRaise, fLt, fAdd_int, fGt, fGe, fLe, fSub, fMod, fI, fFdv, cPow, fPow, fMin2, fMax2, fInt, fAbs, fNeg, Option.bind, vRet, vSet, vDrp, vCal, agEv, agIn, agIn1, lns_nil, lns_pd, lns_br, lns_ln, bor_nil, bor_pd, bor_ln, bor_br, out_nil, out_pd, out_br, out_ln, lat_nil, lat_pd, lat_br, lat_ln, keep_fd, ex_pair, keepO_sh, lnAtm_no, agOut_no, Sl.atm, atom_i, atom_s, atom_b, atom_n, atom_k, vCons, vNil, vTup, vLst, vIf, vTru, truD, vNotV, vNotT, flat_fd, vAndV, vOrV, fEq_int, fNe_int, fEq_str, fNe_str, fEq_is, fEq_si, vMet, mvEv, Opr.loc, locAt, Ot.at, Ot.put, Nde.set, append_lv, pop_lv, reverse_lv, insert_lv, vLc_eq, vFor_eq, wipeD, vYes, iR1, iL, iK, vAug, fAug_int, slotInt, fLen_list, ML.isNon, fIsN, fNotN, vIxN, ixLoc, kidQ, ixN, os_inj, ix0, ix1, ix2, ix3, ix4, lx0, lx1, lx2, lx3, fLen_tup, xAnd, xNot, xIs, vTry, enX, keepO, Ot.root, Ot.rd, fInt, vTry0, isB_n, isB_b, isB_i, isB_s, isB_l, isB_t, isI_n, isI_b, isI_i, isI_s, isI_l, isI_t, isS_n, isS_b, isS_i, isS_s, isS_l, isS_t, isL_n, isL_b, isL_i, isL_s, isL_l, isL_t, isT_n, isT_b, isT_i, isT_s, isT_l, isT_t, plc, Sh.pos, Sh.root, vLstO, ML.ots, Ot.gets]
    refine ⟨[resD (c', u), resD (c', u)], rfl, _, rfl, okd_r g16 (by show c'.sh.length ≤ _; omega), fun outs => ?_⟩
    have tl : sr % u < u := Nat.mod_lt _ (by omega)
    have pu : 0 < u := by omega
    obtain ⟨k1, k2, k3⟩ := fin_G ho (sr % u)
    have em := fin_lt hE tl
    simp [-Bool.exists_bool, vSeq, vAsg, vV, vMv, vS, vIfS, vOr, vAnd, vNot, vB, vv1, vv2, vv3, Opr.ev, Opr.fin, Opr.sl, Opr.base, Sl.read, Sl.rd, Sl.ra, Sl.get, Sl.isIn, Sl.ot, Ot.rd, Ot.get, gets_lv, leaves_lv, Sh.data, Sh.root, Rs.to, ↓lv_in, -List.map_map, fst_0, fst_s, ini, List.replicate_succ, enG, bTup, bCons, bName, bNil, inAt, vC, vEnd, vBrk, vCnt, vRaise, fLt, fAdd_int, fGt, fGe, fLe, fSub, fMod, fI, fFdv, cPow, fPow, fMin2, fMax2, fInt, fAbs, fNeg, Option.bind, vRet, vSet, vDrp, vCal, agEv, agIn, agIn1, lns_nil, lns_pd, lns_br, lns_ln, bor_nil, bor_pd, bor_ln, bor_br, out_nil, out_pd, out_br, out_ln, lat_nil, lat_pd, lat_br, lat_ln, keep_fd, ex_pair, keepO_sh, lnAtm_no, agOut_no, Sl.atm, atom_i, atom_s, atom_b, atom_n, atom_k, vCons, vNil, vTup, vLst, vIf, vTru, truD, vNotV, vNotT, flat_fd, vAndV, vOrV, fEq_int, fNe_int, fEq_str, fNe_str, fEq_is, fEq_si, vMet, mvEv, Opr.loc, locAt, Ot.at, Ot.put, Nde.set, append_lv, pop_lv, reverse_lv, insert_lv, vLc_eq, vFor_eq, wipeD, vYes, iR1, iL, iK, vAug, fAug_int, slotInt, fLen_list, ML.isNon, fIsN, fNotN, vIxN, ixLoc, kidQ, ixN, os_inj, ix0, ix1, ix2, ix3, ix4, lx0, lx1, lx2, lx3, fLen_tup, xAnd, xNot, xIs, vTry, enX, keepO, Ot.root, Ot.rd, fInt, vTry0, isB_n, isB_b, isB_i, isB_s, isB_l, isB_t, isI_n, isI_b, isI_i, isI_s, isI_l, isI_t, isS_n, isS_b, isS_i, isS_s, isS_l, isS_t, isL_n, isL_b, isL_i, isL_s, isL_l, isL_t, isT_n, isT_b, isT_i, isT_s, isT_l, isT_t, plc, Sh.pos, Sh.root, vLstO, ML.ots, Ot.gets, b11_law, mulS', pu, mod_nat, -Int.natCast_emod]
    intro q4 q5 q6
    simp [-Bool.exists_bool, vSeq, vAsg, vV, vMv, vS, vIfS, vOr, vAnd, vNot, vB, vv1, vv2, vv3, Opr.ev, Opr.fin, Opr.sl, Opr.base, Sl.read, Sl.rd, Sl.ra, Sl.get, Sl.isIn, Sl.ot, Ot.rd, Ot.get, gets_lv, leaves_lv, Sh.data, Sh.root, Rs.to, ↓lv_in, -List.map_map, fst_0, fst_s, ini, List.replicate_succ, enG, bTup, bCons, bName, bNil, inAt, vC, vEnd, vBrk, vCnt, vRaise, fLt, fAdd_int, fGt, fGe, fLe, fSub, fMod, fI, fFdv, cPow, fPow, fMin2, fMax2, fInt, fAbs, fNeg, Option.bind, vRet, vSet, vDrp, vCal, agEv, agIn, agIn1, lns_nil, lns_pd, lns_br, lns_ln, bor_nil, bor_pd, bor_ln, bor_br, out_nil, out_pd, out_br, out_ln, lat_nil, lat_pd, lat_br, lat_ln, keep_fd, ex_pair, keepO_sh, lnAtm_no, agOut_no, Sl.atm, atom_i, atom_s, atom_b, atom_n, atom_k, vCons, vNil, vTup, vLst, vIf, vTru, truD, vNotV, vNotT, flat_fd, vAndV, vOrV, fEq_int, fNe_int, fEq_str, fNe_str, fEq_is, fEq_si, vMet, mvEv, Opr.loc, locAt, Ot.at, Ot.put, Nde.set, append_lv, pop_lv, reverse_lv, insert_lv, vLc_eq, vFor_eq, wipeD, vYes, iR1, iL, iK, vAug, fAug_int, slotInt, fLen_list, ML.isNon, fIsN, fNotN, vIxN, ixLoc, kidQ, ixN, os_inj, ix0, ix1, ix2, ix3, ix4, lx0, lx1, lx2, lx3, fLen_tup, xAnd, xNot, xIs, vTry, enX, keepO, Ot.root, Ot.rd, fInt, vTry0, isB_n, isB_b, isB_i, isB_s, isB_l, isB_t, isI_n, isI_b, isI_i, isI_s, isI_l, isI_t, isS_n, isS_b, isS_i, isS_s, isS_l, isS_t, isL_n, isL_b, isL_i, isL_s, isL_l, isL_t, isT_n, isT_b, isT_i, isT_s, isT_l, isT_t, plc, Sh.pos, Sh.root, vLstO, ML.ots, Ot.gets, b12_law, -Int.natCast_emod]
    refine do0 (m := sr % u) ho hn (by omega) (by omega) ?_
    simp [-Bool.exists_bool, vSeq, vAsg, vV, vMv, vS, vIfS, vOr, vAnd, vNot, vB, vv1, vv2, vv3, Opr.ev, Opr.fin, Opr.sl, Opr.base, Sl.read, Sl.rd, Sl.ra, Sl.get, Sl.isIn, Sl.ot, Ot.rd, Ot.get, gets_lv, leaves_lv, Sh.data, Sh.root, Rs.to, ↓lv_in, -List.map_map, fst_0, fst_s, ini, List.replicate_succ, enG, bTup, bCons, bName, bNil, inAt, vC, vEnd, vBrk, vCnt, vRaise, fLt, fAdd_int, fGt, fGe, fLe, fSub, fMod, fI, fFdv, cPow, fPow, fMin2, fMax2, fInt, fAbs, fNeg, Option.bind, vRet, vSet, vDrp, vCal, agEv, agIn, agIn1, lns_nil, lns_pd, lns_br, lns_ln, bor_nil, bor_pd, bor_ln, bor_br, out_nil, out_pd, out_br, out_ln, lat_nil, lat_pd, lat_br, lat_ln, keep_fd, ex_pair, keepO_sh, lnAtm_no, agOut_no, Sl.atm, atom_i, atom_s, atom_b, atom_n, atom_k, vCons, vNil, vTup, vLst, vIf, vTru, truD, vNotV, vNotT, flat_fd, vAndV, vOrV, fEq_int, fNe_int, fEq_str, fNe_str, fEq_is, fEq_si, vMet, mvEv, Opr.loc, locAt, Ot.at, Ot.put, Nde.set, append_lv, pop_lv, reverse_lv, insert_lv, vLc_eq, vFor_eq, wipeD, vYes, iR1, iL, iK, vAug, fAug_int, slotInt, fLen_list, ML.isNon, fIsN, fNotN, vIxN, ixLoc, kidQ, ixN, os_inj, ix0, ix1, ix2, ix3, ix4, lx0, lx1, lx2, lx3, fLen_tup, xAnd, xNot, xIs, vTry, enX, keepO, Ot.root, Ot.rd, fInt, vTry0, isB_n, isB_b, isB_i, isB_s, isB_l, isB_t, isI_n, isI_b, isI_i, isI_s, isI_l, isI_t, isS_n, isS_b, isS_i, isS_s, isS_l, isS_t, isL_n, isL_b, isL_i, isL_s, isL_l, isL_t, isT_n, isT_b, isT_i, isT_s, isT_l, isT_t, plc, Sh.pos, Sh.root, vLstO, ML.ots, Ot.gets, b13_law, -Int.natCast_emod]
    refine ⟨[s.d, .int ((sr % u : Nat) : Int)], rfl, s, sr % u, rfl, ho, by omega, fun outs => ?_⟩
    rw [em]
    simp [-Bool.exists_bool, vSeq, vAsg, vV, vMv, vS, vIfS, vOr, vAnd, vNot, vB, vv1, vv2, vv3, Opr.ev, Opr.fin, Opr.sl, Opr.base, Sl.read, Sl.rd, Sl.ra, Sl.get, Sl.isIn, Sl.ot, Ot.rd, Ot.get, gets_lv, leaves_lv, Sh.data, Sh.root, Rs.to, ↓lv_in, -List.map_map, fst_0, fst_s, ini, List.replicate_succ, enG, bTup, bCons, bName, bNil, inAt, vC, vEnd, vBrk, vCnt, vRaise, fLt, fAdd_int, fGt, fGe, fLe, fSub, fMod, fI, fFdv, cPow, fPow, fMin2, fMax2, fInt, fAbs, fNeg, Option.bind, vRet, vSet, vDrp, vCal, agEv, agIn, agIn1, lns_nil, lns_pd, lns_br, lns_ln, bor_nil, bor_pd, bor_ln, bor_br, out_nil, out_pd, out_br, out_ln, lat_nil, lat_pd, lat_br, lat_ln, keep_fd, ex_pair, keepO_sh, lnAtm_no, agOut_no, Sl.atm, atom_i, atom_s, atom_b, atom_n, atom_k, vCons, vNil, vTup, vLst, vIf, vTru, truD, vNotV, vNotT, flat_fd, vAndV, vOrV, fEq_int, fNe_int, fEq_str, fNe_str, fEq_is, fEq_si, vMet, mvEv, Opr.loc, locAt, Ot.at, Ot.put, Nde.set, append_lv, pop_lv, reverse_lv, insert_lv, vLc_eq, vFor_eq, wipeD, vYes, iR1, iL, iK, vAug, fAug_int, slotInt, fLen_list, ML.isNon, fIsN, fNotN, vIxN, ixLoc, kidQ, ixN, os_inj, ix0, ix1, ix2, ix3, ix4, lx0, lx1, lx2, lx3, fLen_tup, xAnd, xNot, xIs, vTry, enX, keepO, Ot.root, Ot.rd, fInt, vTry0, isB_n, isB_b, isB_i, isB_s, isB_l, isB_t, isI_n, isI_b, isI_i, isI_s, isI_l, isI_t, isS_n, isS_b, isS_i, isS_s, isS_l, isS_t, isL_n, isL_b, isL_i, isL_s, isL_l, isL_t, isT_n, isT_b, isT_i, isT_s, isT_l, isT_t, plc, Sh.pos, Sh.root, vLstO, ML.ots, Ot.gets, -Int.natCast_emod]
    refine ⟨[.tuple [.bool false, .list (zs (fin s (sr % u)).1.sh)], .tuple [.bool false, .list (zs (fin s (sr % u)).1.sh)]], rfl, _, rfl, okd_o (by omega), fun outs => ?_⟩
    simp [-Bool.exists_bool, vSeq, vAsg, vV, vMv, vS, vIfS, vOr, vAnd, vNot, vB, vv1, vv2, vv3, Opr.ev, Opr.fin, Opr.sl, Opr.base, Sl.read, Sl.rd, Sl.ra, Sl.get, Sl.isIn, Sl.ot, Ot.rd, Ot.get, gets_lv, leaves_lv, Sh.data, Sh.root, Rs.to, ↓lv_in, -List.map_map, fst_0, fst_s, ini, List.replicate_succ, enG, bTup, bCons, bName, bNil, inAt, vC, vEnd, vBrk, vCnt, vRaise, fLt, fAdd_int, fGt, fGe, fLe, fSub, fMod, fI, fFdv, cPow, fPow, fMin2, fMax2, fInt, fAbs, fNeg, Option.bind, vRet, vSet, vDrp, vCal, agEv, agIn, agIn1, lns_nil, lns_pd, lns_br, lns_ln, bor_nil, bor_pd, bor_ln, bor_br, out_nil, out_pd, out_br, out_ln, lat_nil, lat_pd, lat_br, lat_ln, keep_fd, ex_pair, keepO_sh, lnAtm_no, agOut_no, Sl.atm, atom_i, atom_s, atom_b, atom_n, atom_k, vCons, vNil, vTup, vLst, vIf, vTru, truD, vNotV, vNotT, flat_fd, vAndV, vOrV, fEq_int, fNe_int, fEq_str, fNe_str, fEq_is, fEq_si, vMet, mvEv, Opr.loc, locAt, Ot.at, Ot.put, Nde.set, append_lv, pop_lv, reverse_lv, insert_lv, vLc_eq, vFor_eq, wipeD, vYes, iR1, iL, iK, vAug, fAug_int, slotInt, fLen_list, ML.isNon, fIsN, fNotN, vIxN, ixLoc, kidQ, ixN, os_inj, ix0, ix1, ix2, ix3, ix4, lx0, lx1, lx2, lx3, fLen_tup, xAnd, xNot, xIs, vTry, enX, keepO, Ot.root, Ot.rd, fInt, vTry0, isB_n, isB_b, isB_i, isB_s, isB_l, isB_t, isI_n, isI_b, isI_i, isI_s, isI_l, isI_t, isS_n, isS_b, isS_i, isS_s, isS_l, isS_t, isL_n, isL_b, isL_i, isL_s, isL_l, isL_t, isT_n, isT_b, isT_i, isT_s, isT_l, isT_t, plc, Sh.pos, Sh.root, vLstO, ML.ots, Ot.gets, b14_law, -Int.natCast_emod]
    refine ⟨[s.d, .int ((sr % u : Nat) : Int)], rfl, s, sr % u, rfl, ho, by omega, em, fun outs => ?_⟩
    simp [-Bool.exists_bool, vSeq, vAsg, vV, vMv, vS, vIfS, vOr, vAnd, vNot, vB, vv1, vv2, vv3, Opr.ev, Opr.fin, Opr.sl, Opr.base, Sl.read, Sl.rd, Sl.ra, Sl.get, Sl.isIn, Sl.ot, Ot.rd, Ot.get, gets_lv, leaves_lv, Sh.data, Sh.root, Rs.to, ↓lv_in, -List.map_map, fst_0, fst_s, ini, List.replicate_succ, enG, bTup, bCons, bName, bNil, inAt, vC, vEnd, vBrk, vCnt, vRaise, fLt, fAdd_int, fGt, fGe, fLe, fSub, fMod, fI, fFdv, cPow, fPow, fMin2, fMax2, fInt, fAbs, fNeg, Option.bind, vRet, vSet, vDrp, vCal, agEv, agIn, agIn1, lns_nil, lns_pd, lns_br, lns_ln, bor_nil, bor_pd, bor_ln, bor_br, out_nil, out_pd, out_br, out_ln, lat_nil, lat_pd, lat_br, lat_ln, keep_fd, ex_pair, keepO_sh, lnAtm_no, agOut_no, Sl.atm, atom_i, atom_s, atom_b, atom_n, atom_k, vCons, vNil, vTup, vLst, vIf, vTru, truD, vNotV, vNotT, flat_fd, vAndV, vOrV, fEq_int, fNe_int, fEq_str, fNe_str, fEq_is, fEq_si, vMet, mvEv, Opr.loc, locAt, Ot.at, Ot.put, Nde.set, append_lv, pop_lv, reverse_lv, insert_lv, vLc_eq, vFor_eq, wipeD, vYes, iR1, iL, iK, vAug, fAug_int, slotInt, fLen_list, ML.isNon, fIsN, fNotN, vIxN, ixLoc, kidQ, ixN, os_inj, ix0, ix1, ix2, ix3, ix4, lx0, lx1, lx2, lx3, fLen_tup, xAnd, xNot, xIs, vTry, enX, keepO, Ot.root, Ot.rd, fInt, vTry0, isB_n, isB_b, isB_i, isB_s, isB_l, isB_t, isI_n, isI_b, isI_i, isI_s, isI_l, isI_t, isS_n, isS_b, isS_i, isS_s, isS_l, isS_t, isL_n, isL_b, isL_i, isL_s, isL_l, isL_t, isT_n, isT_b, isT_i, isT_s, isT_l, isT_t, plc, Sh.pos, Sh.root, vLstO, ML.ots, Ot.gets, -Int.natCast_emod]
    refine ⟨[s.d, .int ((u : Int) - 1)], rfl, s, u - 1, ?_, ho, by omega, fin_lt hE (by omega), fun outs => ?_⟩
    · rw [show ((u - 1 : Nat) : Int) = (u : Int) - 1 by omega]
    simp [-Bool.exists_bool, vSeq, vAsg, vV, vMv, vS, vIfS, vOr, vAnd, vNot, vB, vv1, vv2, vv3, Opr.ev, Opr.fin, Opr.sl, Opr.base, Sl.read, Sl.rd, Sl.ra, Sl.get, Sl.isIn, Sl.ot, Ot.rd, Ot.get, gets_lv, leaves_lv, Sh.data, Sh.root, Rs.to, ↓lv_in, -List.map_map, fst_0, fst_s, ini, List.replicate_succ, enG, bTup, bCons, bName, bNil, inAt, vC, vEnd, vBrk, vCnt, vRaise, fLt, fAdd_int, fGt, fGe, fLe, fSub, fMod, fI, fFdv, cPow, fPow, fMin2, fMax2, fInt, fAbs, fNeg, Option.bind, vRet, vSet, vDrp, vCal, agEv, agIn, agIn1, lns_nil, lns_pd, lns_br, lns_ln, bor_nil, bor_pd, bor_ln, bor_br, out_nil, out_pd, out_br, out_ln, lat_nil, lat_pd, lat_br, lat_ln, keep_fd, ex_pair, keepO_sh, lnAtm_no, agOut_no, Sl.atm, atom_i, atom_s, atom_b, atom_n, atom_k, vCons, vNil, vTup, vLst, vIf, vTru, truD, vNotV, vNotT, flat_fd, vAndV, vOrV, fEq_int, fNe_int, fEq_str, fNe_str, fEq_is, fEq_si, vMet, mvEv, Opr.loc, locAt, Ot.at, Ot.put, Nde.set, append_lv, pop_lv, reverse_lv, insert_lv, vLc_eq, vFor_eq, wipeD, vYes, iR1, iL, iK, vAug, fAug_int, slotInt, fLen_list, ML.isNon, fIsN, fNotN, vIxN, ixLoc, kidQ, ixN, os_inj, ix0, ix1, ix2, ix3, ix4, lx0, lx1, lx2, lx3, fLen_tup, xAnd, xNot, xIs, vTry, enX, keepO, Ot.root, Ot.rd, fInt, vTry0, isB_n, isB_b, isB_i, isB_s, isB_l, isB_t, isI_n, isI_b, isI_i, isI_s, isI_l, isI_t, isS_n, isS_b, isS_i, isS_s, isS_l, isS_t, isL_n, isL_b, isL_i, isL_s, isL_l, isL_t, isT_n, isT_b, isT_i, isT_s, isT_l, isT_t, plc, Sh.pos, Sh.root, vLstO, ML.ots, Ot.gets]
    exact hq _
  · have c2 : emp (fin s m).1 = false := by simpa using c
    simp [-Bool.exists_bool, vSeq, vAsg, vV, vMv, vS, vIfS, vOr, vAnd, vNot, vB, vv1, vv2, vv3, Opr.ev, Opr.fin, Opr.sl, Opr.base, Sl.read, Sl.rd, Sl.ra, Sl.get, Sl.isIn, Sl.ot, Ot.rd, Ot.get, gets_lv, leaves_lv, Sh.data, Sh.root, Rs.to, ↓lv_in, -List.map_map, fst_0, fst_s, ini, List.replicate_succ, enG, bTup, bCons, bName, bNil, inAt, vC, vEnd, vBrk, vCnt, vRaise, fLt, fAdd_int, fGt, fGe, fLe, fSub, fMod, fI, fFdv, cPow, fPow, fMin2, fMax2, fInt, fAbs, fNeg, Option.bind, vRet, vSet, vDrp, vCal, agEv, agIn, agIn1, lns_nil, lns_pd, lns_br, lns_ln, bor_nil, bor_pd, bor_ln, bor_br, out_nil, out_pd, out_br, out_ln, lat_nil, lat_pd, lat_br, lat_ln, keep_fd, ex_pair, keepO_sh, lnAtm_no, agOut_no, Sl.atm, atom_i, atom_s, atom_b, atom_n, atom_k, vCons, vNil, vTup, vLst, vIf, vTru, truD, vNotV, vNotT, flat_fd, vAndV, vOrV, fEq_int, fNe_int, fEq_str, fNe_str, fEq_is, fEq_si, vMet, mvEv, Opr.loc, locAt, Ot.at, Ot.put, Nde.set, append_lv, pop_lv, reverse_lv, insert_lv, vLc_eq, vFor_eq, wipeD, vYes, iR1, iL, iK, vAug, fAug_int, slotInt, fLen_list, ML.isNon, fIsN, fNotN, vIxN, ixLoc, kidQ, ixN, os_inj, ix0, ix1, ix2, ix3, ix4, lx0, lx1, lx2, lx3, fLen_tup, xAnd, xNot, xIs, vTry, enX, keepO, Ot.root, Ot.rd, fInt, vTry0, isB_n, isB_b, isB_i, isB_s, isB_l, isB_t, isI_n, isI_b, isI_i, isI_s, isI_l, isI_t, isS_n, isS_b, isS_i, isS_s, isS_l, isS_t, isL_n, isL_b, isL_i, isL_s, isL_l, isL_t, isT_n, isT_b, isT_i, isT_s, isT_l, isT_t, plc, Sh.pos, Sh.root, vLstO, ML.ots, Ot.gets, b7_law, c2]
    refine ⟨[s.d, .int (m : Int)], rfl, s, m, rfl, ho, by omega, c2, fun outs => ?_⟩
    simp [-Bool.exists_bool, vSeq, vAsg, vV, vMv, vS, vIfS, vOr, vAnd, vNot, vB, vv1, vv2, vv3, Opr.ev, Opr.fin, Opr.sl, Opr.base, Sl.read, Sl.rd, Sl.ra, Sl.get, Sl.isIn, Sl.ot, Ot.rd, Ot.get, gets_lv, leaves_lv, Sh.data, Sh.root, Rs.to, ↓lv_in, -List.map_map, fst_0, fst_s, ini, List.replicate_succ, enG, bTup, bCons, bName, bNil, inAt, vC, vEnd, vBrk, vCnt, vRaise, fLt, fAdd_int, fGt, fGe, fLe, fSub, fMod, fI, fFdv, cPow, fPow, fMin2, fMax2, fInt, fAbs, fNeg, Option.bind, vRet, vSet, vDrp, vCal, agEv, agIn, agIn1, lns_nil, lns_pd, lns_br, lns_ln, bor_nil, bor_pd, bor_ln, bor_br, out_nil, out_pd, out_br, out_ln, lat_nil, lat_pd, lat_br, lat_ln, keep_fd, ex_pair, keepO_sh, lnAtm_no, agOut_no, Sl.atm, atom_i, atom_s, atom_b, atom_n, atom_k, vCons, vNil, vTup, vLst, vIf, vTru, truD, vNotV, vNotT, flat_fd, vAndV, vOrV, fEq_int, fNe_int, fEq_str, fNe_str, fEq_is, fEq_si, vMet, mvEv, Opr.loc, locAt, Ot.at, Ot.put, Nde.set, append_lv, pop_lv, reverse_lv, insert_lv, vLc_eq, vFor_eq, wipeD, vYes, iR1, iL, iK, vAug, fAug_int, slotInt, fLen_list, ML.isNon, fIsN, fNotN, vIxN, ixLoc, kidQ, ixN, os_inj, ix0, ix1, ix2, ix3, ix4, lx0, lx1, lx2, lx3, fLen_tup, xAnd, xNot, xIs, vTry, enX, keepO, Ot.root, Ot.rd, fInt, vTry0, isB_n, isB_b, isB_i, isB_s, isB_l, isB_t, isI_n, isI_b, isI_i, isI_s, isI_l, isI_t, isS_n, isS_b, isS_i, isS_s, isS_l, isS_t, isL_n, isL_b, isL_i, isL_s, isL_l, isL_t, isT_n, isT_b, isT_i, isT_s, isT_l, isT_t, plc, Sh.pos, Sh.root, vLstO, ML.ots, Ot.gets]
    exact hq _
theorem law_start (ns : List Int) (hl : ns.length ≤ 63) : sm_law [.sh (lkD (ns.map .int))] (fun rv _ => rv = .sh (.bool true)) (fun _ _ => False) := ⟨ns, rfl, fun _ => rfl⟩
end K52

/-! ## E52_mk -/
set_option Elab.async false
set_option linter.all false
set_option autoImplicit false
set_option maxRecDepth 100000
set_option maxHeartbeats 8000000
namespace K52
open PySem PySem.Spec PyProof.Rows L2 ML
theorem all_mk {l : PySem.W.OpenLaw} {w : World} {K : PySem.W.Frag} {h : Heap} {mg : Str → Option Value} {fa f0 f1 f2 f3 f4 f5 f6 f7 f8 f9 f10 f11 f12 f13 f14 f15 f16 f17 f18 f19 c_FuelError c_ScribeError  : Addr} {tk_SLOTS : Tok} {od0 an0 : Option Addr} {sl0 : Array (Option Value)} {oc0 kV0 dc0 pm0 cd0 ct0 : Value} {od1 an1 : Option Addr} {sl1 : Array (Option Value)} {oc1 kV1 dc1 pm1 cd1 ct1 : Value} {od2 an2 : Option Addr} {sl2 : Array (Option Value)} {oc2 kV2 dc2 pm2 cd2 ct2 : Value} {od3 an3 : Option Addr} {sl3 : Array (Option Value)} {oc3 kV3 dc3 pm3 cd3 ct3 : Value} {od4 an4 : Option Addr} {sl4 : Array (Option Value)} {oc4 kV4 dc4 pm4 cd4 ct4 : Value} {od5 an5 : Option Addr} {sl5 : Array (Option Value)} {oc5 kV5 dc5 pm5 cd5 ct5 : Value} {od6 an6 : Option Addr} {sl6 : Array (Option Value)} {oc6 kV6 dc6 pm6 cd6 ct6 : Value} {od7 an7 : Option Addr} {sl7 : Array (Option Value)} {oc7 kV7 dc7 pm7 cd7 ct7 : Value} {od8 an8 : Option Addr} {sl8 : Array (Option Value)} {oc8 kV8 dc8 pm8 cd8 ct8 : Value} {od9 an9 : Option Addr} {sl9 : Array (Option Value)} {oc9 kV9 dc9 pm9 cd9 ct9 : Value} {od10 an10 : Option Addr} {sl10 : Array (Option Value)} {oc10 kV10 dc10 pm10 cd10 ct10 : Value} {od11 an11 : Option Addr} {sl11 : Array (Option Value)} {oc11 kV11 dc11 pm11 cd11 ct11 : Value} {od12 an12 : Option Addr} {sl12 : Array (Option Value)} {oc12 kV12 dc12 pm12 cd12 ct12 : Value} {od13 an13 : Option Addr} {sl13 : Array (Option Value)} {oc13 kV13 dc13 pm13 cd13 ct13 : Value} {od14 an14 : Option Addr} {sl14 : Array (Option Value)} {oc14 kV14 dc14 pm14 cd14 ct14 : Value} {od15 an15 : Option Addr} {sl15 : Array (Option Value)} {oc15 kV15 dc15 pm15 cd15 ct15 : Value} {od16 an16 : Option Addr} {sl16 : Array (Option Value)} {oc16 kV16 dc16 pm16 cd16 ct16 : Value} {od17 an17 : Option Addr} {sl17 : Array (Option Value)} {oc17 kV17 dc17 pm17 cd17 ct17 : Value} {od18 an18 : Option Addr} {sl18 : Array (Option Value)} {oc18 kV18 dc18 pm18 cd18 ct18 : Value} {od19 an19 : Option Addr} {sl19 : Array (Option Value)} {oc19 kV19 dc19 pm19 cd19 ct19 : Value} (X : K.In h) (G : h.Ns mainGlobals mg) (hfa : mg "law" = some (.ref fa))
    (a0 : PySem.W.nsIn K mainGlobals "wrapped" = some (some (.ref f0)))
    (l0 : K.lookup f0 = some ⟨oc0, od0, .func (PySem.W.fnOf "wrapped" "wrapped" (defArgs st_wrapped) (defBody st_wrapped) (defScope st_wrapped) .none kV0 dc0 pm0 an0 cd0 ct0), sl0⟩)
    (e0 : PySem.W.codeIn K cd0 "wrapped" = true)
    (k0 : PySem.W.keepIn K (.ref f0) = true)
    (a1 : PySem.W.nsIn K mainGlobals "operate" = some (some (.ref f1)))
    (l1 : K.lookup f1 = some ⟨oc1, od1, .func (PySem.W.fnOf "operate" "operate" (defArgs st_operate) (defBody st_operate) (defScope st_operate) .none kV1 dc1 pm1 an1 cd1 ct1), sl1⟩)
    (e1 : PySem.W.codeIn K cd1 "operate" = true)
    (k1 : PySem.W.keepIn K (.ref f1) = true)
    (a2 : PySem.W.nsIn K mainGlobals "evaluate" = some (some (.ref f2)))
    (l2 : K.lookup f2 = some ⟨oc2, od2, .func (PySem.W.fnOf "evaluate" "evaluate" (defArgs st_evaluate) (defBody st_evaluate) (defScope st_evaluate) .none kV2 dc2 pm2 an2 cd2 ct2), sl2⟩)
    (e2 : PySem.W.codeIn K cd2 "evaluate" = true)
    (k2 : PySem.W.keepIn K (.ref f2) = true)
    (a3 : PySem.W.nsIn K mainGlobals "act" = some (some (.ref f3)))
    (l3 : K.lookup f3 = some ⟨oc3, od3, .func (PySem.W.fnOf "act" "act" (defArgs st_act) (defBody st_act) (defScope st_act) .none kV3 dc3 pm3 an3 cd3 ct3), sl3⟩)
    (e3 : PySem.W.codeIn K cd3 "act" = true)
    (k3 : PySem.W.keepIn K (.ref f3) = true)
    (a4 : PySem.W.nsIn K mainGlobals "ran" = some (some (.ref f4)))
    (l4 : K.lookup f4 = some ⟨oc4, od4, .func (PySem.W.fnOf "ran" "ran" (defArgs st_ran) (defBody st_ran) (defScope st_ran) .none kV4 dc4 pm4 an4 cd4 ct4), sl4⟩)
    (e4 : PySem.W.codeIn K cd4 "ran" = true)
    (k4 : PySem.W.keepIn K (.ref f4) = true)
    (a5 : PySem.W.nsIn K mainGlobals "run" = some (some (.ref f5)))
    (l5 : K.lookup f5 = some ⟨oc5, od5, .func (PySem.W.fnOf "run" "run" (defArgs st_run) (defBody st_run) (defScope st_run) .none kV5 dc5 pm5 an5 cd5 ct5), sl5⟩)
    (e5 : PySem.W.codeIn K cd5 "run" = true)
    (k5 : PySem.W.keepIn K (.ref f5) = true)
    (a6 : PySem.W.nsIn K mainGlobals "observe" = some (some (.ref f6)))
    (l6 : K.lookup f6 = some ⟨oc6, od6, .func (PySem.W.fnOf "observe" "observe" (defArgs st_observe) (defBody st_observe) (defScope st_observe) .none kV6 dc6 pm6 an6 cd6 ct6), sl6⟩)
    (e6 : PySem.W.codeIn K cd6 "observe" = true)
    (k6 : PySem.W.keepIn K (.ref f6) = true)
    (a7 : PySem.W.nsIn K mainGlobals "_law_numbers" = some (some (.ref f7)))
    (l7 : K.lookup f7 = some ⟨oc7, od7, .func (PySem.W.fnOf "_law_numbers" "_law_numbers" (defArgs st__law_numbers) (defBody st__law_numbers) (defScope st__law_numbers) .none kV7 dc7 pm7 an7 cd7 ct7), sl7⟩)
    (e7 : PySem.W.codeIn K cd7 "_law_numbers" = true)
    (k7 : PySem.W.keepIn K (.ref f7) = true)
    (a8 : PySem.W.nsIn K mainGlobals "_law_pick" = some (some (.ref f8)))
    (l8 : K.lookup f8 = some ⟨oc8, od8, .func (PySem.W.fnOf "_law_pick" "_law_pick" (defArgs st__law_pick) (defBody st__law_pick) (defScope st__law_pick) .none kV8 dc8 pm8 an8 cd8 ct8), sl8⟩)
    (e8 : PySem.W.codeIn K cd8 "_law_pick" = true)
    (k8 : PySem.W.keepIn K (.ref f8) = true)
    (a9 : PySem.W.nsIn K mainGlobals "_law_wrap" = some (some (.ref f9)))
    (l9 : K.lookup f9 = some ⟨oc9, od9, .func (PySem.W.fnOf "_law_wrap" "_law_wrap" (defArgs st__law_wrap) (defBody st__law_wrap) (defScope st__law_wrap) .none kV9 dc9 pm9 an9 cd9 ct9), sl9⟩)
    (e9 : PySem.W.codeIn K cd9 "_law_wrap" = true)
    (k9 : PySem.W.keepIn K (.ref f9) = true)
    (a10 : PySem.W.nsIn K mainGlobals "_law_number" = some (some (.ref f10)))
    (l10 : K.lookup f10 = some ⟨oc10, od10, .func (PySem.W.fnOf "_law_number" "_law_number" (defArgs st__law_number) (defBody st__law_number) (defScope st__law_number) .none kV10 dc10 pm10 an10 cd10 ct10), sl10⟩)
    (e10 : PySem.W.codeIn K cd10 "_law_number" = true)
    (k10 : PySem.W.keepIn K (.ref f10) = true)
    (a11 : PySem.W.nsIn K mainGlobals "_law_operate" = some (some (.ref f11)))
    (l11 : K.lookup f11 = some ⟨oc11, od11, .func (PySem.W.fnOf "_law_operate" "_law_operate" (defArgs st__law_operate) (defBody st__law_operate) (defScope st__law_operate) .none kV11 dc11 pm11 an11 cd11 ct11), sl11⟩)
    (e11 : PySem.W.codeIn K cd11 "_law_operate" = true)
    (k11 : PySem.W.keepIn K (.ref f11) = true)
    (a12 : PySem.W.nsIn K mainGlobals "_law_leaf" = some (some (.ref f12)))
    (l12 : K.lookup f12 = some ⟨oc12, od12, .func (PySem.W.fnOf "_law_leaf" "_law_leaf" (defArgs st__law_leaf) (defBody st__law_leaf) (defScope st__law_leaf) .none kV12 dc12 pm12 an12 cd12 ct12), sl12⟩)
    (e12 : PySem.W.codeIn K cd12 "_law_leaf" = true)
    (k12 : PySem.W.keepIn K (.ref f12) = true)
    (a13 : PySem.W.nsIn K mainGlobals "_law_expression" = some (some (.ref f13)))
    (l13 : K.lookup f13 = some ⟨oc13, od13, .func (PySem.W.fnOf "_law_expression" "_law_expression" (defArgs st__law_expression) (defBody st__law_expression) (defScope st__law_expression) .none kV13 dc13 pm13 an13 cd13 ct13), sl13⟩)
    (e13 : PySem.W.codeIn K cd13 "_law_expression" = true)
    (k13 : PySem.W.keepIn K (.ref f13) = true)
    (a14 : PySem.W.nsIn K mainGlobals "_law_value" = some (some (.ref f14)))
    (l14 : K.lookup f14 = some ⟨oc14, od14, .func (PySem.W.fnOf "_law_value" "_law_value" (defArgs st__law_value) (defBody st__law_value) (defScope st__law_value) .none kV14 dc14 pm14 an14 cd14 ct14), sl14⟩)
    (e14 : PySem.W.codeIn K cd14 "_law_value" = true)
    (k14 : PySem.W.keepIn K (.ref f14) = true)
    (a15 : PySem.W.nsIn K mainGlobals "_law_statement" = some (some (.ref f15)))
    (l15 : K.lookup f15 = some ⟨oc15, od15, .func (PySem.W.fnOf "_law_statement" "_law_statement" (defArgs st__law_statement) (defBody st__law_statement) (defScope st__law_statement) .none kV15 dc15 pm15 an15 cd15 ct15), sl15⟩)
    (e15 : PySem.W.codeIn K cd15 "_law_statement" = true)
    (k15 : PySem.W.keepIn K (.ref f15) = true)
    (a16 : PySem.W.nsIn K mainGlobals "_law_do" = some (some (.ref f16)))
    (l16 : K.lookup f16 = some ⟨oc16, od16, .func (PySem.W.fnOf "_law_do" "_law_do" (defArgs st__law_do) (defBody st__law_do) (defScope st__law_do) .none kV16 dc16 pm16 an16 cd16 ct16), sl16⟩)
    (e16 : PySem.W.codeIn K cd16 "_law_do" = true)
    (k16 : PySem.W.keepIn K (.ref f16) = true)
    (a17 : PySem.W.nsIn K mainGlobals "_law_same" = some (some (.ref f17)))
    (l17 : K.lookup f17 = some ⟨oc17, od17, .func (PySem.W.fnOf "_law_same" "_law_same" (defArgs st__law_same) (defBody st__law_same) (defScope st__law_same) .none kV17 dc17 pm17 an17 cd17 ct17), sl17⟩)
    (e17 : PySem.W.codeIn K cd17 "_law_same" = true)
    (k17 : PySem.W.keepIn K (.ref f17) = true)
    (a18 : PySem.W.nsIn K mainGlobals "_law_refused" = some (some (.ref f18)))
    (l18 : K.lookup f18 = some ⟨oc18, od18, .func (PySem.W.fnOf "_law_refused" "_law_refused" (defArgs st__law_refused) (defBody st__law_refused) (defScope st__law_refused) .none kV18 dc18 pm18 an18 cd18 ct18), sl18⟩)
    (e18 : PySem.W.codeIn K cd18 "_law_refused" = true)
    (k18 : PySem.W.keepIn K (.ref f18) = true)
    (a19 : PySem.W.nsIn K mainGlobals "law" = some (some (.ref f19)))
    (l19 : K.lookup f19 = some ⟨oc19, od19, .func (PySem.W.fnOf "law" "law" (defArgs st_law) (defBody st_law) (defScope st_law) .none kV19 dc19 pm19 an19 cd19 ct19), sl19⟩)
    (e19 : PySem.W.codeIn K cd19 "law" = true)
    (k19 : PySem.W.keepIn K (.ref f19) = true)
    (ga_SLOTS : PySem.W.nsIn K mainGlobals "SLOTS" = some (some (.int (16) tk_SLOTS)))
    (g_FuelError : PySem.W.nsIn K mainGlobals "FuelError" = some (some (.ref c_FuelError)))
    (q_FuelError : PySem.W.excIn K c_FuelError [.type "ValueError", .type "Exception", .type "BaseException", .type "object"] "ValueError.__new__" = true)
    (k_FuelError : PySem.W.keepIn K (.ref c_FuelError) = true)
    (r1_FuelError : PySem.W.subIn K (.ref c_FuelError) (.type "BaseException") = some true)
    (r2_FuelError : PySem.W.typeIn K (.ref c_FuelError) = some (.type "type"))
    (g_ScribeError : PySem.W.nsIn K mainGlobals "ScribeError" = some (some (.ref c_ScribeError)))
    (q_ScribeError : PySem.W.excIn K c_ScribeError [.type "ValueError", .type "Exception", .type "BaseException", .type "object"] "ValueError.__new__" = true)
    (k_ScribeError : PySem.W.keepIn K (.ref c_ScribeError) = true)
    (r1_ScribeError : PySem.W.subIn K (.ref c_ScribeError) (.type "BaseException") = some true)
    (r2_ScribeError : PySem.W.typeIn K (.ref c_ScribeError) = some (.type "type"))
    (ic_FuelError : PySem.W.isClsIn K c_FuelError = true)
    (ic_ScribeError : PySem.W.isClsIn K c_ScribeError = true)
    (s_FuelError_FuelError : PySem.W.subIn K (.ref c_FuelError) (.ref c_FuelError) = some true)
    (s_FuelError_ScribeError : PySem.W.subIn K (.ref c_FuelError) (.ref c_ScribeError) = some true)
    (s_FuelError_ValueError : PySem.W.subIn K (.ref c_FuelError) (.type "ValueError") = some true)
    (hg_FuelError : W.findIn K (Value.ref c_FuelError) "__getattribute__" = some (some (Value.builtin "BaseException.__getattribute__")))
    (hk_FuelError : W.findIn K (Value.ref c_FuelError) "__getattr__" = some none)
    (hd_FuelError : W.hasDictIn K c_FuelError = true)
    (ha_FuelError : W.findIn K (Value.ref c_FuelError) "__class__" = some (some (Value.builtin "object.__class__")))
    (hn_FuelError : W.specialIn K (Value.builtin "object.__class__") "__get__" = some (some (Value.builtin "getset_descriptor.__get__")))
    (ht_FuelError : W.takesIn K (Value.builtin "object.__class__") = some true)
    (hm_FuelError : W.mroIn K c_FuelError (Value.type "object") = some true)
    (z_ValueError : PySem.W.nsIn K mainGlobals "ValueError" = some none)
    (z_bool : PySem.W.nsIn K mainGlobals "bool" = some none)
    (z_int : PySem.W.nsIn K mainGlobals "int" = some none)
    (z_isinstance : PySem.W.nsIn K mainGlobals "isinstance" = some none)
    (z_len : PySem.W.nsIn K mainGlobals "len" = some none)
    (z_list : PySem.W.nsIn K mainGlobals "list" = some none)
    (z_range : PySem.W.nsIn K mainGlobals "range" = some none)
    (z_str : PySem.W.nsIn K mainGlobals "str" = some none)
    (z_tuple : PySem.W.nsIn K mainGlobals "tuple" = some none) :
    ∃ fd : FuncData, (∀ (s : Shared) (v : Value), BindsTo s fd ⟨[v], []⟩ [("script", v)]) ∧ ∀ base : Heap, K.In base → base.Ns mainGlobals mg → FnOk l.prog w K mg base (L2.CX l.prog w) 32 fa fd ["script"] (spG K 1 sm_law) := by
  have e := hfa.symm.trans (PySem.W.mg_of X G a19)
  cases e
  have GC_SLOTS : GlC K mg "SLOTS" g_SLOTS := glc_int (PySem.W.mg_of X G ga_SLOTS)
  have E_FuelError : ExF K mg "FuelError" c_FuelError := ⟨q_FuelError, PySem.W.mg_of X G g_FuelError, k_FuelError, r1_FuelError, r2_FuelError⟩
  have E_ScribeError : ExF K mg "ScribeError" c_ScribeError := ⟨q_ScribeError, PySem.W.mg_of X G g_ScribeError, k_ScribeError, r1_ScribeError, r2_ScribeError⟩
  have S_ScribeError : ∀ C b, (fun C b => (C = c_FuelError ∧ b = true)) C b → PySem.W.exmOne K (.ref C) (.ref c_ScribeError) = some b := by
    intro C b h
    rcases h with ⟨h, h2⟩
    · rw [h, h2]; exact exm_cls r1_ScribeError ic_ScribeError r2_ScribeError s_FuelError_ScribeError
  have X_FuelError : ExcC K c_FuelError := ⟨hg_FuelError, hk_FuelError, r1_FuelError, hd_FuelError, ha_FuelError, hn_FuelError, ht_FuelError, hm_FuelError⟩
  have I_FuelError_FuelError := kit_cls ic_FuelError r2_FuelError s_FuelError_FuelError
  have I_FuelError_ValueError := kit_type (T := "ValueError") (by decide +kernel) s_FuelError_ValueError
  have m_ValueError := PySem.W.mg_none_of X G z_ValueError
  have m_bool := PySem.W.mg_none_of X G z_bool
  have m_int := PySem.W.mg_none_of X G z_int
  have m_isinstance := PySem.W.mg_none_of X G z_isinstance
  have m_len := PySem.W.mg_none_of X G z_len
  have m_list := PySem.W.mg_none_of X G z_list
  have m_range := PySem.W.mg_none_of X G z_range
  have m_str := PySem.W.mg_none_of X G z_str
  have m_tuple := PySem.W.mg_none_of X G z_tuple
  have F0 := fun_mk (st := st_wrapped) l0 e0 k0
  have b0 := F0.binds (ps := ["n"]) fun _ _ _ _ _ _ us hl => match us, hl with | [_], _ => rfl
  have F1 := fun_mk (st := st_operate) l1 e1 k1
  have b1 := F1.binds (ps := ["name", "a", "b"]) fun _ _ _ _ _ _ us hl => match us, hl with | [_, _, _], _ => rfl
  have F2 := fun_mk (st := st_evaluate) l2 e2 k2
  have b2 := F2.binds (ps := ["expression", "store"]) fun _ _ _ _ _ _ us hl => match us, hl with | [_, _], _ => rfl
  have F3 := fun_mk (st := st_act) l3 e3 k3
  have b3 := F3.binds (ps := ["todo", "store", "shown"]) fun _ _ _ _ _ _ us hl => match us, hl with | [_, _, _], _ => rfl
  have F4 := fun_mk (st := st_ran) l4 e4 k4
  have b4 := F4.binds (ps := ["statement", "fuel"]) fun _ _ _ _ _ _ us hl => match us, hl with | [_, _], _ => rfl
  have F5 := fun_mk (st := st_run) l5 e5 k5
  have b5 := F5.binds (ps := ["statement", "fuel"]) fun _ _ _ _ _ _ us hl => match us, hl with | [_, _], _ => rfl
  have F6 := fun_mk (st := st_observe) l6 e6 k6
  have b6 := F6.binds (ps := ["statement", "fuel"]) fun _ _ _ _ _ _ us hl => match us, hl with | [_, _], _ => rfl
  have F7 := fun_mk (st := st__law_numbers) l7 e7 k7
  have b7 := F7.binds (ps := ["script"]) fun _ _ _ _ _ _ us hl => match us, hl with | [_], _ => rfl
  have F8 := fun_mk (st := st__law_pick) l8 e8 k8
  have b8 := F8.binds (ps := ["feed", "many"]) fun _ _ _ _ _ _ us hl => match us, hl with | [_, _], _ => rfl
  have F9 := fun_mk (st := st__law_wrap) l9 e9 k9
  have b9 := F9.binds (ps := ["number"]) fun _ _ _ _ _ _ us hl => match us, hl with | [_], _ => rfl
  have F10 := fun_mk (st := st__law_number) l10 e10 k10
  have b10 := F10.binds (ps := ["feed"]) fun _ _ _ _ _ _ us hl => match us, hl with | [_], _ => rfl
  have F11 := fun_mk (st := st__law_operate) l11 e11 k11
  have b11 := F11.binds (ps := ["name", "a", "b"]) fun _ _ _ _ _ _ us hl => match us, hl with | [_, _, _], _ => rfl
  have F12 := fun_mk (st := st__law_leaf) l12 e12 k12
  have b12 := F12.binds (ps := ["feed"]) fun _ _ _ _ _ _ us hl => match us, hl with | [_], _ => rfl
  have F13 := fun_mk (st := st__law_expression) l13 e13 k13
  have b13 := F13.binds (ps := ["feed", "room"]) fun _ _ _ _ _ _ us hl => match us, hl with | [_, _], _ => rfl
  have F14 := fun_mk (st := st__law_value) l14 e14 k14
  have b14 := F14.binds (ps := ["e", "store"]) fun _ _ _ _ _ _ us hl => match us, hl with | [_, _], _ => rfl
  have F15 := fun_mk (st := st__law_statement) l15 e15 k15
  have b15 := F15.binds (ps := ["feed", "room"]) fun _ _ _ _ _ _ us hl => match us, hl with | [_, _], _ => rfl
  have F16 := fun_mk (st := st__law_do) l16 e16 k16
  have b16 := F16.binds (ps := ["item", "state"]) fun _ _ _ _ _ _ us hl => match us, hl with | [_, _], _ => rfl
  have F17 := fun_mk (st := st__law_same) l17 e17 k17
  have b17 := F17.binds (ps := ["actual", "due"]) fun _ _ _ _ _ _ us hl => match us, hl with | [_, _], _ => rfl
  have F18 := fun_mk (st := st__law_refused) l18 e18 k18
  have b18 := F18.binds (ps := ["statement", "fuel"]) fun _ _ _ _ _ _ us hl => match us, hl with | [_, _], _ => rfl
  have F19 := fun_mk (st := st_law) l19 e19 k19
  have b19 := F19.binds (ps := ["script"]) fun _ _ _ _ _ _ us hl => match us, hl with | [_], _ => rfl
  have all : ∀ base : Heap, FnOk l.prog w K mg base (L2.CX l.prog w) 32 fa (PySem.W.fnOf "law" "law" (defArgs st_law) (defBody st_law) (defScope st_law) .none kV19 dc19 pm19 an19 cd19 ct19) ["script"] (spG K 1 sm_law) := by
    intro base
    have G0 : FnG l.prog w K mg base 1 "wrapped" 1 LM.sm_wrapped := ⟨⟨_, _, _, fn_g F0 sc_wrapped rfl (fun cdv hcd0 A outer s H E W wx hr tk pso => der_wrapped  cdv hcd0 A outer s H E W wx hr tk pso) (fun ins Qd Xd hl h => LM.s_wrapped hl h), PySem.W.mg_of X G a0, k0, b0⟩⟩
    have G1 : FnG l.prog w K mg base 2 "operate" 3 LM.sm_op := ⟨⟨_, _, _, fn_g F1 sc_operate rfl (fun cdv hcd0 A outer s H E W wx hr tk pso => der_operate LM.sm_wrapped G0 cdv hcd0 A outer s H E W wx hr tk pso) (fun ins Qd Xd hl h => LM.s_op hl h), PySem.W.mg_of X G a1, k1, b1⟩⟩
    have R2 : ∀ m : Nat, FnG l.prog w K mg base (m + 3) "evaluate" 2 (LM.sm_ev m) := by
      intro m
      induction m with
      | zero => exact ⟨⟨_, _, _, fn_g (k := 2) F2 sc_evaluate rfl (fun cdv hcd0 A outer s H E W wx hr tk pso => der_evaluate (k := 2) (kf := 2) semNo LM.sm_op (Nat.le_refl _) (by omega) (FnG.mono ⟨⟨_, _, _, fn_no (f := f2), PySem.W.mg_of X G a2, k2, b2⟩⟩ (Nat.zero_le _)) G1 cdv hcd0 A outer s H E W wx hr tk pso) (fun ins Qd Xd hl h => LM.s_ev0 hl h), PySem.W.mg_of X G a2, k2, b2⟩⟩
      | succ m ih => exact ⟨⟨_, _, _, fn_g (k := m + 3) F2 sc_evaluate rfl (fun cdv hcd0 A outer s H E W wx hr tk pso => der_evaluate (k := m + 3) (kf := m + 3) (LM.sm_ev m) LM.sm_op (Nat.le_refl _) (by omega) ih G1 cdv hcd0 A outer s H E W wx hr tk pso) (fun ins Qd Xd hl h => LM.s_ev hl h), PySem.W.mg_of X G a2, k2, b2⟩⟩
    have G2 : FnG l.prog w K mg base 6 "evaluate" 2 (LM.sm_ev 3) := R2 3
    have G3 : FnG l.prog w K mg base 7 "act" 3 LM.sm_act := ⟨⟨_, _, _, fn_g F3 sc_act rfl (fun cdv hcd0 A outer s H E W wx hr tk pso => der_act (LM.sm_ev 3) G2 cdv hcd0 A outer s H E W wx hr tk pso) (fun ins Qd Xd hl h => LM.s_act hl h), PySem.W.mg_of X G a3, k3, b3⟩⟩
    have G4 : FnG l.prog w K mg base 8 "ran" 2 LM.sm_ran := ⟨⟨_, _, _, fn_g F4 sc_ran rfl (fun cdv hcd0 A outer s H E W wx hr tk pso => der_ran LM.sm_act G3 GC_SLOTS cdv hcd0 A outer s H E W wx hr tk pso) (fun ins Qd Xd hl h => LM.s_ran hl h), PySem.W.mg_of X G a4, k4, b4⟩⟩
    have G5 : FnG l.prog w K mg base 9 "run" 2 (LM.sm_run c_FuelError) := ⟨⟨_, _, _, fn_g F5 sc_run rfl (fun cdv hcd0 A outer s H E W wx hr tk pso => der_run LM.sm_ran c_FuelError G4 E_FuelError cdv hcd0 A outer s H E W wx hr tk pso) (fun ins Qd Xd hl h => LM.s_run hl h), PySem.W.mg_of X G a5, k5, b5⟩⟩
    have G6 : FnG l.prog w K mg base 9 "observe" 2 LM.sm_obs := ⟨⟨_, _, _, fn_g F6 sc_observe rfl (fun cdv hcd0 A outer s H E W wx hr tk pso => der_observe LM.sm_ran G4 cdv hcd0 A outer s H E W wx hr tk pso) (fun ins Qd Xd hl h => LM.s_obs hl h), PySem.W.mg_of X G a6, k6, b6⟩⟩
    have G7 : FnG l.prog w K mg base 1 "_law_numbers" 1 LP.sm_numbers := ⟨⟨_, _, _, fn_g F7 sc__law_numbers rfl (fun cdv hcd0 A outer s H E W wx hr tk pso => der__law_numbers m_int m_range cdv hcd0 A outer s H E W wx hr tk pso) (fun ins Qd Xd hl h => LP.s_numbers hl h), PySem.W.mg_of X G a7, k7, b7⟩⟩
    have G8 : FnG l.prog w K mg base 1 "_law_pick" 2 LP.sm_pick := ⟨⟨_, _, _, fn_g F8 sc__law_pick rfl (fun cdv hcd0 A outer s H E W wx hr tk pso => der__law_pick m_int m_len cdv hcd0 A outer s H E W wx hr tk pso) (fun ins Qd Xd hl h => LP.s_pick hl h), PySem.W.mg_of X G a8, k8, b8⟩⟩
    have G9 : FnG l.prog w K mg base 1 "_law_wrap" 1 LP.sm_wrap := ⟨⟨_, _, _, fn_g F9 sc__law_wrap rfl (fun cdv hcd0 A outer s H E W wx hr tk pso => der__law_wrap m_int cdv hcd0 A outer s H E W wx hr tk pso) (fun ins Qd Xd hl h => LP.s_wrap hl h), PySem.W.mg_of X G a9, k9, b9⟩⟩
    have G10 : FnG l.prog w K mg base 2 "_law_number" 1 LP.sm_num := ⟨⟨_, _, _, fn_g F10 sc__law_number rfl (fun cdv hcd0 A outer s H E W wx hr tk pso => der__law_number LP.sm_pick LP.sm_wrap G8 G9 cdv hcd0 A outer s H E W wx hr tk pso) (fun ins Qd Xd hl h => LP.s_num hl h), PySem.W.mg_of X G a10, k10, b10⟩⟩
    have G11 : FnG l.prog w K mg base 2 "_law_operate" 3 sm_lop := ⟨⟨_, _, _, fn_g F11 sc__law_operate rfl (fun cdv hcd0 A outer s H E W wx hr tk pso => der__law_operate LP.sm_wrap G9 m_int cdv hcd0 A outer s H E W wx hr tk pso) (fun ins Qd Xd hl h => s_lop hl h), PySem.W.mg_of X G a11, k11, b11⟩⟩
    have G12 : FnG l.prog w K mg base 3 "_law_leaf" 1 LM.sm_leaf := ⟨⟨_, _, _, fn_g F12 sc__law_leaf rfl (fun cdv hcd0 A outer s H E W wx hr tk pso => der__law_leaf LP.sm_num LP.sm_pick G10 G8 cdv hcd0 A outer s H E W wx hr tk pso) (fun ins Qd Xd hl h => LM.s_leaf hl h), PySem.W.mg_of X G a12, k12, b12⟩⟩
    have R13 : ∀ m : Nat, FnG l.prog w K mg base (m + 4) "_law_expression" 2 (LM.sm_exp m) := by
      intro m
      induction m with
      | zero => exact ⟨⟨_, _, _, fn_g (k := 3) F13 sc__law_expression rfl (fun cdv hcd0 A outer s H E W wx hr tk pso => der__law_expression (k := 3) (kf := 3) semNo LM.sm_leaf LP.sm_pick (Nat.le_refl _) (by omega) (FnG.mono ⟨⟨_, _, _, fn_no (f := f13), PySem.W.mg_of X G a13, k13, b13⟩⟩ (Nat.zero_le _)) G12 G8 cdv hcd0 A outer s H E W wx hr tk pso) (fun ins Qd Xd hl h => LM.s_exp0 hl h), PySem.W.mg_of X G a13, k13, b13⟩⟩
      | succ m ih => exact ⟨⟨_, _, _, fn_g (k := m + 4) F13 sc__law_expression rfl (fun cdv hcd0 A outer s H E W wx hr tk pso => der__law_expression (k := m + 4) (kf := m + 4) (LM.sm_exp m) LM.sm_leaf LP.sm_pick (Nat.le_refl _) (by omega) ih G12 G8 cdv hcd0 A outer s H E W wx hr tk pso) (fun ins Qd Xd hl h => LM.s_exp hl h), PySem.W.mg_of X G a13, k13, b13⟩⟩
    have G13 : FnG l.prog w K mg base 8 "_law_expression" 2 (LM.sm_exp 4) := R13 4
    have R14 : ∀ m : Nat, FnG l.prog w K mg base (m + 3) "_law_value" 2 (sm_val m) := by
      intro m
      induction m with
      | zero => exact ⟨⟨_, _, _, fn_g (k := 2) F14 sc__law_value rfl (fun cdv hcd0 A outer s H E W wx hr tk pso => der__law_value (k := 2) (kf := 2) sm_lop semNo (Nat.le_refl _) (by omega) G11 (FnG.mono ⟨⟨_, _, _, fn_no (f := f14), PySem.W.mg_of X G a14, k14, b14⟩⟩ (Nat.zero_le _)) cdv hcd0 A outer s H E W wx hr tk pso) (fun ins Qd Xd hl h => s_val0 hl h), PySem.W.mg_of X G a14, k14, b14⟩⟩
      | succ m ih => exact ⟨⟨_, _, _, fn_g (k := m + 3) F14 sc__law_value rfl (fun cdv hcd0 A outer s H E W wx hr tk pso => der__law_value (k := m + 3) (kf := m + 3) sm_lop (sm_val m) (Nat.le_refl _) (by omega) G11 ih cdv hcd0 A outer s H E W wx hr tk pso) (fun ins Qd Xd hl h => s_val hl h), PySem.W.mg_of X G a14, k14, b14⟩⟩
    have G14 : FnG l.prog w K mg base 6 "_law_value" 2 (sm_val 3) := R14 3
    have R15 : ∀ m : Nat, FnG l.prog w K mg base (m + 9) "_law_statement" 2 (LM.sm_st m) := by
      intro m
      induction m with
      | zero => exact ⟨⟨_, _, _, fn_g (k := 8) F15 sc__law_statement rfl (fun cdv hcd0 A outer s H E W wx hr tk pso => der__law_statement (k := 8) (kf := 8) (LM.sm_exp 4) LP.sm_pick semNo (Nat.le_refl _) (by omega) G13 G8 (FnG.mono ⟨⟨_, _, _, fn_no (f := f15), PySem.W.mg_of X G a15, k15, b15⟩⟩ (Nat.zero_le _)) cdv hcd0 A outer s H E W wx hr tk pso) (fun ins Qd Xd hl h => LM.s_st0 hl h), PySem.W.mg_of X G a15, k15, b15⟩⟩
      | succ m ih => exact ⟨⟨_, _, _, fn_g (k := m + 9) F15 sc__law_statement rfl (fun cdv hcd0 A outer s H E W wx hr tk pso => der__law_statement (k := m + 9) (kf := m + 9) (LM.sm_exp 4) LP.sm_pick (LM.sm_st m) (Nat.le_refl _) (by omega) G13 G8 ih cdv hcd0 A outer s H E W wx hr tk pso) (fun ins Qd Xd hl h => LM.s_st hl h), PySem.W.mg_of X G a15, k15, b15⟩⟩
    have G15 : FnG l.prog w K mg base 15 "_law_statement" 2 (LM.sm_st 6) := R15 6
    have R16 : ∀ m : Nat, FnG l.prog w K mg base (m + 7) "_law_do" 2 (sm_do m) := by
      intro m
      induction m with
      | zero => exact ⟨⟨_, _, _, fn_g (k := 6) F16 sc__law_do rfl (fun cdv hcd0 A outer s H E W wx hr tk pso => der__law_do (k := 6) (kf := 6) semNo (sm_val 3) (Nat.le_refl _) (by omega) (FnG.mono ⟨⟨_, _, _, fn_no (f := f16), PySem.W.mg_of X G a16, k16, b16⟩⟩ (Nat.zero_le _)) G14 m_range cdv hcd0 A outer s H E W wx hr tk pso) (fun ins Qd Xd hl h => s_do0 hl h), PySem.W.mg_of X G a16, k16, b16⟩⟩
      | succ m ih => exact ⟨⟨_, _, _, fn_g (k := m + 7) F16 sc__law_do rfl (fun cdv hcd0 A outer s H E W wx hr tk pso => der__law_do (k := m + 7) (kf := m + 7) (sm_do m) (sm_val 3) (Nat.le_refl _) (by omega) ih G14 m_range cdv hcd0 A outer s H E W wx hr tk pso) (fun ins Qd Xd hl h => s_do hl h), PySem.W.mg_of X G a16, k16, b16⟩⟩
    have G16 : FnG l.prog w K mg base 22 "_law_do" 2 (sm_do 15) := R16 15
    have R17 : ∀ m : Nat, FnG l.prog w K mg base (m + 1) "_law_same" 2 (LP.sm_same m) := by
      intro m
      induction m with
      | zero => exact ⟨⟨_, _, _, fn_g (k := 0) F17 sc__law_same rfl (fun cdv hcd0 A outer s H E W wx hr tk pso => der__law_same (k := 0) (kf := 0) semNo (Nat.le_refl _) (by omega) (FnG.mono ⟨⟨_, _, _, fn_no (f := f17), PySem.W.mg_of X G a17, k17, b17⟩⟩ (Nat.zero_le _)) m_bool m_int m_isinstance m_len m_list m_range m_str m_tuple cdv hcd0 A outer s H E W wx hr tk pso) (fun ins Qd Xd hl h => LP.s_same0 hl h), PySem.W.mg_of X G a17, k17, b17⟩⟩
      | succ m ih => exact ⟨⟨_, _, _, fn_g (k := m + 1) F17 sc__law_same rfl (fun cdv hcd0 A outer s H E W wx hr tk pso => der__law_same (k := m + 1) (kf := m + 1) (LP.sm_same m) (Nat.le_refl _) (by omega) ih m_bool m_int m_isinstance m_len m_list m_range m_str m_tuple cdv hcd0 A outer s H E W wx hr tk pso) (fun ins Qd Xd hl h => LP.s_same hl h), PySem.W.mg_of X G a17, k17, b17⟩⟩
    have G17 : FnG l.prog w K mg base 31 "_law_same" 2 (LP.sm_same 30) := R17 30
    have G18 : FnG l.prog w K mg base 10 "_law_refused" 2 sm_ref := ⟨⟨_, _, _, fn_g F18 sc__law_refused rfl (fun cdv hcd0 A outer s H E W wx hr tk pso => der__law_refused (LM.sm_run c_FuelError) c_FuelError c_ScribeError (fun C b => (C = c_FuelError ∧ b = true)) true true G5 E_FuelError E_ScribeError S_ScribeError X_FuelError I_FuelError_FuelError I_FuelError_ValueError m_ValueError m_isinstance cdv hcd0 A outer s H E W wx hr tk pso) (fun ins Qd Xd hl h => s_ref hl h), PySem.W.mg_of X G a18, k18, b18⟩⟩
    exact fn_g F19 sc_law rfl (fun cdv hcd0 A outer s H E W wx hr tk pso => der_law (sm_do 15) LP.sm_numbers LP.sm_pick sm_ref (LP.sm_same 30) (LM.sm_st 6) LM.sm_obs (LM.sm_run c_FuelError) G16 G7 G8 G18 G17 G15 G6 G5 m_int cdv hcd0 A outer s H E W wx hr tk pso) (fun ins Qd Xd hl h => s_law hl h)
  exact ⟨_, fun s v => .of_eq rfl, fun base _ _ => all base⟩
end K52

/-! ## E52_end -/
open PySem PySem.W PyProof.Rows
set_option maxHeartbeats 0 in
theorem PySem.Challenge.cw_scribeself_k52_whole_small_steps_holds : PySem.Challenge.rw_scribeself_k52_whole_small_steps.Holds := by
  w_on; o_law; k_head; (case hw => w_witness2)
  k_fill
  refine L2.walk_of (l := PySem.Challenge.rw_scribeself_k52_whole_small_steps) (n := 63) (k := 32) (x := "script") (CX := L2.CX PySem.Challenge.rw_scribeself_k52_whole_small_steps.prog) (sp := fun w => ML.spG _ 1 K52.sm_law) rfl (by decide) rfl ⟨rfl, by decide, by decide⟩ (fun w h Y => PySem.W.kIn_of Y) ?F (fun w H a ns hl _ hS => ML.law_in hS (K52.law_start ns hl)) (fun _ _ _ _ _ h => ML.cx_no h)
  case F =>
    intro w mg fa h KX G hmg
    refine' K52.all_mk KX G hmg ?a0 ?l0 ?e0 ?k0 ?a1 ?l1 ?e1 ?k1 ?a2 ?l2 ?e2 ?k2 ?a3 ?l3 ?e3 ?k3 ?a4 ?l4 ?e4 ?k4 ?a5 ?l5 ?e5 ?k5 ?a6 ?l6 ?e6 ?k6 ?a7 ?l7 ?e7 ?k7 ?a8 ?l8 ?e8 ?k8 ?a9 ?l9 ?e9 ?k9 ?a10 ?l10 ?e10 ?k10 ?a11 ?l11 ?e11 ?k11 ?a12 ?l12 ?e12 ?k12 ?a13 ?l13 ?e13 ?k13 ?a14 ?l14 ?e14 ?k14 ?a15 ?l15 ?e15 ?k15 ?a16 ?l16 ?e16 ?k16 ?a17 ?l17 ?e17 ?k17 ?a18 ?l18 ?e18 ?k18 ?a19 ?l19 ?e19 ?k19 ?ga_SLOTS ?g_FuelError ?q_FuelError ?k_FuelError ?r1_FuelError ?r2_FuelError ?g_ScribeError ?q_ScribeError ?k_ScribeError ?r1_ScribeError ?r2_ScribeError ?ic_FuelError ?ic_ScribeError ?s_FuelError_FuelError ?s_FuelError_ScribeError ?s_FuelError_ValueError ?hg_FuelError ?hk_FuelError ?hd_FuelError ?ha_FuelError ?hn_FuelError ?ht_FuelError ?hm_FuelError ?z_ValueError ?z_bool ?z_int ?z_isinstance ?z_len ?z_list ?z_range ?z_str ?z_tuple
    (case a0 => k_is); (case l0 => k_is); (case e0 => k_is); (case k0 => k_is); (case a1 => k_is); (case l1 => k_is)
    (case e1 => k_is); (case k1 => k_is); (case a2 => k_is); (case l2 => k_is); (case e2 => k_is); (case k2 => k_is)
    (case a3 => k_is); (case l3 => k_is); (case e3 => k_is); (case k3 => k_is); (case a4 => k_is); (case l4 => k_is)
    (case e4 => k_is); (case k4 => k_is); (case a5 => k_is); (case l5 => k_is); (case e5 => k_is); (case k5 => k_is)
    (case a6 => k_is); (case l6 => k_is); (case e6 => k_is); (case k6 => k_is); (case a7 => k_is); (case l7 => k_is)
    (case e7 => k_is); (case k7 => k_is); (case a8 => k_is); (case l8 => k_is); (case e8 => k_is); (case k8 => k_is)
    (case a9 => k_is); (case l9 => k_is); (case e9 => k_is); (case k9 => k_is); (case a10 => k_is); (case l10 => k_is)
    (case e10 => k_is); (case k10 => k_is); (case a11 => k_is); (case l11 => k_is); (case e11 => k_is); (case k11 => k_is)
    (case a12 => k_is); (case l12 => k_is); (case e12 => k_is); (case k12 => k_is); (case a13 => k_is); (case l13 => k_is)
    (case e13 => k_is); (case k13 => k_is); (case a14 => k_is); (case l14 => k_is); (case e14 => k_is); (case k14 => k_is)
    (case a15 => k_is); (case l15 => k_is); (case e15 => k_is); (case k15 => k_is); (case a16 => k_is); (case l16 => k_is)
    (case e16 => k_is); (case k16 => k_is); (case a17 => k_is); (case l17 => k_is); (case e17 => k_is); (case k17 => k_is)
    (case a18 => k_is); (case l18 => k_is); (case e18 => k_is); (case k18 => k_is); (case a19 => k_is); (case l19 => k_is)
    (case e19 => k_is); (case k19 => k_is); (case ga_SLOTS => k_is); (case g_FuelError => k_is); (case q_FuelError => k_exc); (case k_FuelError => k_is)
    (case r1_FuelError => k_is); (case r2_FuelError => k_is); (case g_ScribeError => k_is); (case q_ScribeError => k_exc); (case k_ScribeError => k_is); (case r1_ScribeError => k_is)
    (case r2_ScribeError => k_is); (case ic_FuelError => k_is); (case ic_ScribeError => k_is); (case s_FuelError_FuelError => first | rfl | k_is); (case s_FuelError_ScribeError => first | rfl | k_is); (case s_FuelError_ValueError => first | rfl | k_is)
    (case hg_FuelError => k_is); (case hk_FuelError => k_is); (case hd_FuelError => k_is); (case ha_FuelError => k_is); (case hn_FuelError => k_is); (case ht_FuelError => k_is)
    (case hm_FuelError => k_is); (case z_ValueError => k_is); (case z_bool => k_is); (case z_int => k_is); (case z_isinstance => k_is); (case z_len => k_is)
    (case z_list => k_is); (case z_range => k_is); (case z_str => k_is); (case z_tuple => k_is)
