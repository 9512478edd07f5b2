import PyProof.Rows.All
import Wide.All
import OpenK.AllK
import Wide.FinOn
import HandS.ForMost
import HandS.ForExc
import HandS.Exc
import HandS.ExcOwn
import HandS.WordsExc
import HandS.Small
import HandS.SetKeys
import HandS.More
import HandS.DictComp
import HandS.Deep
import HandS.TupAny
import HandS.Text
import HandS.Codes
import HandS.Wide
import HandS.Steps
import HandS.Style
import HandS.TryOnly
import HandS.ExcIs
import HandS.ExcField
import PyProof.WalksEnum
import HandS.Conv
import HandS.IsInst
import HandS.Flt
import HandS.EndBits
import HandS.Strs
import HandS.TupMul
import HandS.Flow
import HandS.ExcInit
import KE.KExcIs
import HandS.HeadHook3
import KE.GoesMore
import KE.GoesEnum
import HandS.SortInts
import HandS.SetFor
import PyProof.ListNew
import HandS.Iter
import HandS.Zip
import KE.KSortTupUse
import HandS.TupSets
import HandS.NoneIn
import PyProof.AssignAttr
import PySem.Challenge.RW_scribeself_k63_least_pulled_objects
/-! ## M1 -/
set_option Elab.async false
set_option linter.all false
set_option autoImplicit false
set_option maxRecDepth 100000
set_option maxHeartbeats 4000000
namespace ML
open PySem PySem.Spec PyProof.Rows L2

abbrev D := PyData

/-- the heap without anything that is tracked: what is read off it stands in the written part -/
def H00 : Hp := fun _ => none
def LsR (K : PySem.W.Frag) (S : Addr → Prop) (H : Hp) (a : Addr) (xs : List V) : Prop := H a = some (.lst xs) ∧ ¬ S a
/-- a list that is locked (the script), or written -/
def LkR (K : PySem.W.Frag) (S : Addr → Prop) (H : Hp) (a : Addr) (xs : List V) : Prop := (Rd H a (.lst xs) ∧ ¬ S a) ∨ SqL K H00 a xs
def TsR (K : PySem.W.Frag) (S : Addr → Prop) (H : Hp) (a : Addr) (xs : List V) : Prop := (Rd H a (.tup xs) ∧ ¬ S a) ∨ SqT K H00 a xs

section
variable {K : PySem.W.Frag} {S S' : Addr → Prop} {H H' : Hp} {a : Addr} {xs : List V}
theorem Rd.no {u : HO} (h : Rd H00 a u) : False := by
  rcases h with h | ⟨o, h⟩ <;> cases h
theorem LsR.sq (h : LsR K S H a xs) : SqL K H a xs := SqL.of h.1
theorem LkR.sq (h : LkR K S H a xs) : SqL K H a xs := by
  rcases h with h | h | h
  · exact .inl h.1
  · exact (Rd.no h).elim
  · exact .inr h
theorem TsR.sq (h : TsR K S H a xs) : SqT K H a xs := by
  rcases h with h | h | h
  · exact .inl h.1
  · exact (Rd.no h).elim
  · exact .inr h
/-- what is kept of the heap, and of the addresses to stay away from -/
structure Ev (S : Addr → Prop) (H : Hp) (S' : Addr → Prop) (H' : Hp) : Prop where
  kp : ∀ b o, H b = some o → ¬ S b → H' b = some o
  nw : ∀ b, S' b → S b ∨ H b = none
theorem Rd.ev (e : Ev S H S' H') {u : HO} (h : Rd H a u) (n : ¬ S a) : Rd H' a u ∧ ¬ S' a := by
  rcases h with h | ⟨o, h⟩
  · exact ⟨.inl (e.kp _ _ h n), fun q => (e.nw _ q).elim n fun z => by rw [h] at z; cases z⟩
  · exact ⟨.inr ⟨o, e.kp _ _ h n⟩, fun q => (e.nw _ q).elim n fun z => by rw [h] at z; cases z⟩
theorem LsR.ev (e : Ev S H S' H') (h : LsR K S H a xs) : LsR K S' H' a xs := ⟨e.kp _ _ h.1 h.2, fun q => (e.nw _ q).elim h.2 fun z => by rw [h.1] at z; cases z⟩
theorem LkR.ev (e : Ev S H S' H') (h : LkR K S H a xs) : LkR K S' H' a xs := by
  rcases h with h | h
  · exact .inl (Rd.ev e h.1 h.2)
  · exact .inr h
theorem TsR.ev (e : Ev S H S' H') (h : TsR K S H a xs) : TsR K S' H' a xs := by
  rcases h with h | h
  · exact .inl (Rd.ev e h.1 h.2)
  · exact .inr h
end

/-- a text of the model: no stray signs, within the line -/
def okS (x : Str) : Bool := PyData.strOk x && decide (x.length ≤ sizeLine)
def okK : Key → Bool
  | .inl _ => true
  | .inr x => okS x
/-- a key as data -/
def kD : Key → D
  | .inl i => .int i
  | .inr x => .str x
/-- what a frozen dict or instance is written as; the class of an instance comes first, under none -/
def dctD (ks : List Key) (ds : List D) : D := .dict ((ks.map kD).zip ds)
def objD (C : Addr) (ks : List Str) (ds : List D) : D := .dict ((.none, .int (C : Nat)) :: (ks.map PyData.str).zip ds)
/-- .. and a list that is locked -/
def lkD (ds : List D) : D := .dict [(.bool true, .list ds)]
/-- .. and a range -/
def rgD (i j : Int) : D := .dict [(.bool false, .tuple [.int i, .int j])]
inductive Rpt | one (v : V) (d : D) | all (vs : List V) (ds : List D)
/-- the value v reads as the data d, over nothing that S names -/
inductive RpX (K : PySem.W.Frag) (S : Addr → Prop) (H : Hp) : Rpt → Prop
  | non : RpX K S H (.one .non .none)
  | bl (b : Bool) : RpX K S H (.one (.bl b) (.bool b))
  | int (i : Int) : RpX K S H (.one (.int i) (.int i))
  | str (x : Str) : okS x = true → RpX K S H (.one (.str x) (.str x))
  | lst {a : Addr} {xs : List V} {ds : List D} : LsR K S H a xs → RpX K S H (.all xs ds) → RpX K S H (.one (.ref a) (.list ds))
  | lck {a : Addr} {xs : List V} {ds : List D} : LkR K S H a xs → RpX K S H (.all xs ds) → RpX K S H (.one (.ref a) (lkD ds))
  | tup {a : Addr} {xs : List V} {ds : List D} : TsR K S H a xs → RpX K S H (.all xs ds) → RpX K S H (.one (.ref a) (.tuple ds))
  | dct {a : Addr} {ks : List Key} {xs : List V} {ds : List D} : Rd H a (.dK (ks.zip xs)) → ¬ S a → ks.length = xs.length → ks.Nodup → (∀ k ∈ ks, okK k = true) → RpX K S H (.all xs ds) → RpX K S H (.one (.ref a) (dctD ks ds))
  | obj {a dx C : Addr} {ks : List Str} {xs : List V} {ds : List D} : H a = some (.ins C dx (ks.zip xs)) → H dx = some (.own a) → ¬ S a → ¬ S dx → ks.length = xs.length → RpX K S H (.all xs ds) → RpX K S H (.one (.ref a) (objD C ks ds))
  | rng {a : Addr} {i j : Int} : H a = some (.rng i j) → ¬ S a → RpX K S H (.one (.ref a) (rgD i j))
  | nil : RpX K S H (.all [] [])
  | cons {v : V} {vs : List V} {d : D} {ds : List D} : RpX K S H (.one v d) → RpX K S H (.all vs ds) → RpX K S H (.all (v :: vs) (d :: ds))
abbrev Rp (K : PySem.W.Frag) (S : Addr → Prop) (H : Hp) (v : V) (d : D) : Prop := RpX K S H (.one v d)
abbrev Rps (K : PySem.W.Frag) (S : Addr → Prop) (H : Hp) (vs : List V) (ds : List D) : Prop := RpX K S H (.all vs ds)

mutual
/-- no dict and no instance in it -/
def noD : D → Bool
  | .list ds => noDs ds
  | .tuple ds => noDs ds
  | .dict _ => false
  | _ => true
def noDs : List D → Bool
  | [] => true
  | d :: ds => noD d && noDs ds
end

section
variable {K : PySem.W.Frag} {S S' : Addr → Prop} {H H' : Hp}
theorem RpX.ev (e : Ev S H S' H') {t : Rpt} (h : RpX K S H t) : RpX K S' H' t := by
  induction h with
  | non => exact .non
  | bl b => exact .bl b
  | int i => exact .int i
  | str x h => exact .str x h
  | lst h _ ih => exact .lst (h.ev e) ih
  | lck h _ ih => exact .lck (h.ev e) ih
  | tup h _ ih => exact .tup (h.ev e) ih
  | dct h1 h2 h3 h4 h5 _ ih => exact .dct (Rd.ev e h1 h2).1 (Rd.ev e h1 h2).2 h3 h4 h5 ih
  | obj h1 h2 h3 h4 h5 _ ih => exact .obj (e.kp _ _ h1 h3) (e.kp _ _ h2 h4) (fun q => (e.nw _ q).elim h3 fun z => by rw [h1] at z; cases z) (fun q => (e.nw _ q).elim h4 fun z => by rw [h2] at z; cases z) h5 ih
  | rng h1 h2 => exact .rng (e.kp _ _ h1 h2) (fun q => (e.nw _ q).elim h2 fun z => by rw [h1] at z; cases z)
  | nil => exact .nil
  | cons _ _ i1 i2 => exact .cons i1 i2
theorem Rp.ev (e : Ev S H S' H') (d : D) (v : V) (h : Rp K S H v d) : Rp K S' H' v d := RpX.ev e h
theorem Rps.ev (e : Ev S H S' H') (ds : List D) (vs : List V) (h : Rps K S H vs ds) : Rps K S' H' vs ds := RpX.ev e h
mutual
theorem Rp.dp : ∀ (d : D) (v : V), noD d = true → Rp K S H v d → Dp K H v d
  | .none, _, _, h => by cases h; exact .non
  | .bool _, _, _, h => by cases h; exact .bl _
  | .int _, _, _, h => by cases h; exact .int _
  | .str _, _, _, h => by cases h; exact .str _
  | .list ds, _, n, h => by
    cases h with
    | lst h1 h2 => exact .lst h1.sq (Rps.dp ds _ (by simpa [noD] using n) h2)
  | .tuple ds, _, n, h => by
    cases h with
    | tup h1 h2 => exact .tup h1.sq (Rps.dp ds _ (by simpa [noD] using n) h2)
  | .dict _, _, n, h => by simp [noD] at n
theorem Rps.dp : ∀ (ds : List D) (vs : List V), noDs ds = true → Rps K S H vs ds → DpAll K H vs ds
  | [], _, _, h => by cases h; exact .nil
  | d :: ds, _, n, h => by
    have n' : noD d = true ∧ noDs ds = true := by simpa [noDs] using n
    cases h with
    | cons h1 h2 => exact .cons (Rp.dp d _ n'.1 h1) (Rps.dp ds _ n'.2 h2)
end
theorem Rps.length : ∀ {vs : List V} {ds : List D}, Rps K S H vs ds → vs.length = ds.length
  | _, [], h => by cases h; rfl
  | _, d :: ds, h => by
    cases h with
    | cons h1 h2 => rw [List.length_cons, List.length_cons, Rps.length h2]
theorem Rps.get : ∀ {vs : List V} {ds : List D} {i : Nat} {d : D}, Rps K S H vs ds → ds[i]? = some d → ∃ v, vs[i]? = some v ∧ Rp K S H v d
  | _, [], _, _, h, e => by simp at e
  | _, d :: ds, 0, _, h, e => by
    cases h with
    | cons h1 h2 => simp at e; subst e; exact ⟨_, rfl, h1⟩
  | _, d :: ds, i + 1, _, h, e => by
    cases h with
    | cons h1 h2 =>
      obtain ⟨v, q, r⟩ := Rps.get (i := i) h2 (by simpa using e)
      exact ⟨v, by simpa using q, r⟩
theorem Rps.get' : ∀ {vs : List V} {ds : List D} {i : Nat} {v : V}, Rps K S H vs ds → vs[i]? = some v → ∃ d, ds[i]? = some d ∧ Rp K S H v d
  | [], _, _, _, h, e => by simp at e
  | v :: vs, _, 0, _, h, e => by
    cases h with
    | cons h1 h2 => simp at e; subst e; exact ⟨_, rfl, h1⟩
  | v :: vs, _, i + 1, _, h, e => by
    cases h with
    | cons h1 h2 =>
      obtain ⟨d, q, r⟩ := Rps.get' (i := i) h2 (by simpa using e)
      exact ⟨d, by simpa using q, r⟩
theorem Rps.append : ∀ {vs us : List V} {ds es : List D}, Rps K S H vs ds → Rps K S H us es → Rps K S H (vs ++ us) (ds ++ es)
  | _, _, [], _, h, q => by cases h; exact q
  | _, _, d :: ds, _, h, q => by
    cases h with
    | cons h1 h2 => exact .cons h1 (Rps.append h2 q)
theorem Rps.set : ∀ {vs : List V} {ds : List D} {i : Nat} {v : V} {d : D}, Rps K S H vs ds → Rp K S H v d → Rps K S H (vs.set i v) (ds.set i d)
  | _, [], _, _, _, h, q => by cases h; exact .nil
  | _, d :: ds, 0, _, _, h, q => by
    cases h with
    | cons h1 h2 => exact .cons q h2
  | _, d :: ds, i + 1, _, _, h, q => by
    cases h with
    | cons h1 h2 => exact .cons h1 (Rps.set h2 q)
theorem Rps.take : ∀ {vs : List V} {ds : List D} (n : Nat), Rps K S H vs ds → Rps K S H (vs.take n) (ds.take n)
  | _, _, 0, h => by simp; exact .nil
  | _, [], n + 1, h => by cases h; exact .nil
  | _, d :: ds, n + 1, h => by
    cases h with
    | cons h1 h2 => exact .cons h1 (Rps.take n h2)
theorem Rps.drop : ∀ {vs : List V} {ds : List D} (n : Nat), Rps K S H vs ds → Rps K S H (vs.drop n) (ds.drop n)
  | _, _, 0, h => h
  | _, [], n + 1, h => by cases h; exact .nil
  | _, d :: ds, n + 1, h => by
    cases h with
    | cons h1 h2 => exact Rps.drop n h2
theorem Rps.reverse : ∀ {vs : List V} {ds : List D}, Rps K S H vs ds → Rps K S H vs.reverse ds.reverse
  | _, [], h => by cases h; exact .nil
  | _, d :: ds, h => by
    cases h with
    | cons h1 h2 =>
      rw [List.reverse_cons, List.reverse_cons]
      exact Rps.append (Rps.reverse h2) (.cons h1 .nil)
theorem RpX.length {vs : List V} {ds : List D} (h : RpX K S H (.all vs ds)) : vs.length = ds.length := Rps.length h
theorem RpX.get {vs : List V} {ds : List D} {i : Nat} {d : D} (h : RpX K S H (.all vs ds)) (e : ds[i]? = some d) : ∃ v, vs[i]? = some v ∧ Rp K S H v d := Rps.get h e
theorem RpX.get' {vs : List V} {ds : List D} {i : Nat} {v : V} (h : RpX K S H (.all vs ds)) (e : vs[i]? = some v) : ∃ d, ds[i]? = some d ∧ Rp K S H v d := Rps.get' h e
theorem RpX.append {vs us : List V} {ds es : List D} (h : RpX K S H (.all vs ds)) (q : Rps K S H us es) : Rps K S H (vs ++ us) (ds ++ es) := Rps.append h q
theorem RpX.take {vs : List V} {ds : List D} (h : RpX K S H (.all vs ds)) (n : Nat) : Rps K S H (vs.take n) (ds.take n) := Rps.take n h
theorem RpX.drop {vs : List V} {ds : List D} (h : RpX K S H (.all vs ds)) (n : Nat) : Rps K S H (vs.drop n) (ds.drop n) := Rps.drop n h
theorem RpX.reverse {vs : List V} {ds : List D} (h : RpX K S H (.all vs ds)) : Rps K S H vs.reverse ds.reverse := Rps.reverse h
theorem Rps.ints : ∀ (ns : List Int), Rps K S H (ns.map V.int) (ns.map PyData.int)
  | [] => .nil
  | n :: ns => .cons (.int n) (Rps.ints ns)
theorem Rps.strs : ∀ (ns : List Str), (∀ x ∈ ns, okS x = true) → Rps K S H (ns.map V.str) (ns.map PyData.str)
  | [], _ => .nil
  | n :: ns, h => .cons (.str n (h n List.mem_cons_self)) (Rps.strs ns fun x hx => h x (List.mem_cons_of_mem _ hx))
theorem Rps.keys : ∀ (ns : List Key), (∀ x ∈ ns, okK x = true) → Rps K S H (ns.map kV) (ns.map kD)
  | [], _ => .nil
  | .inl n :: ns, h => .cons (.int n) (Rps.keys ns fun x hx => h x (List.mem_cons_of_mem _ hx))
  | .inr n :: ns, h => .cons (.str n (h (.inr n) List.mem_cons_self)) (Rps.keys ns fun x hx => h x (List.mem_cons_of_mem _ hx))
theorem Rp.key {k : Key} (h : okK k = true) : Rp K S H (kV k) (kD k) := by
  cases k with
  | inl i => exact .int i
  | inr x => exact .str x h
theorem Rps.strs_ok : ∀ {vs : List V} {ns : List Str}, Rps K S H vs (ns.map PyData.str) → ∀ x ∈ ns, okS x = true
  | _, [], _, x, hx => by cases hx
  | _, n :: ns, h, x, hx => by
    cases h with
    | cons h1 h2 =>
      cases h1 with
      | str _ h1 =>
        rcases List.mem_cons.mp hx with rfl | hx
        · exact h1
        · exact Rps.strs_ok h2 x hx
theorem Rps.ints_v : ∀ {vs : List V} {ns : List Int}, Rps K S H vs (ns.map PyData.int) → vs = ns.map V.int
  | _, [], h => by cases h; rfl
  | _, n :: ns, h => by
    cases h with
    | cons h1 h2 => cases h1; rw [Rps.ints_v h2]; rfl
theorem Rps.strs_v : ∀ {vs : List V} {ns : List Str}, Rps K S H vs (ns.map PyData.str) → vs = ns.map V.str
  | _, [], h => by cases h; rfl
  | _, n :: ns, h => by
    cases h with
    | cons h1 h2 => cases h1; rw [Rps.strs_v h2]; rfl
theorem Rps.bools_v : ∀ {vs : List V} {ns : List Bool}, Rps K S H vs (ns.map PyData.bool) → vs = ns.map V.bl
  | _, [], h => by cases h; rfl
  | _, n :: ns, h => by
    cases h with
    | cons h1 h2 => cases h1; rw [Rps.bools_v h2]; rfl
/-- data without an address -/
def atom : D → Bool
  | .none => true
  | .bool _ => true
  | .int _ => true
  | .str _ => true
  | _ => false
theorem Rp.atm {S2 : Addr → Prop} {H2 : Hp} {v : V} {d : D} (a : atom d = true) (h : Rp K S H v d) : Rp K S2 H2 v d := by
  cases d with
  | none => cases h; exact .non
  | bool b => cases h; exact .bl _
  | int i => cases h; exact .int _
  | str x => cases h with | str _ h => exact .str _ h
  | _ => cases a
end

/-! ### what is owned -/
inductive Sh where
  | lst (p : Addr)
  | dct (p : Addr) (ks : List Key)
  | obj (p dx C : Addr) (ks : List Str)
  | lkd (p : Addr) (ks : List Key) (us : List V) (o : Obj)
  | tup (p : Addr)
def Sh.root : Sh → Addr
  | .lst p => p
  | .dct p _ => p
  | .obj p _ _ _ => p
  | .lkd p _ _ _ => p
  | .tup p => p
def Sh.own : Sh → List Addr
  | .lst p => [p]
  | .dct p _ => [p]
  | .obj p dx _ _ => [p, dx]
  | .lkd p _ _ _ => [p]
  | .tup p => [p]
def Sh.holds (H : Hp) (xs : List V) : Sh → Prop
  | .lst p => H p = some (.lst xs)
  | .dct p ks => H p = some (.dK (ks.zip xs)) ∧ ks.length = xs.length ∧ ks.Nodup ∧ ∀ k ∈ ks, okK k = true
  | .obj p dx C ks => H p = some (.ins C dx (ks.zip xs)) ∧ H dx = some (.own p) ∧ ks.length = xs.length
  | .lkd p ks us o => H p = some (.frz o (.dK (ks.zip xs))) ∧ xs = us ∧ ks.length = xs.length ∧ ks.Nodup ∧ ∀ k ∈ ks, okK k = true
  | .tup p => H p = some (.tup xs)
def Sh.data (ds : List D) : Sh → D
  | .lst _ => .list ds
  | .dct _ ks => dctD ks ds
  | .obj _ _ C ks => objD C ks ds
  | .lkd _ ks _ _ => dctD ks ds
  | .tup _ => .tuple ds
/-- what an operation reads there: nothing of a tuple of one's own -/
def Sh.datR (ds : List D) : Sh → D
  | .lst _ => .list ds
  | .dct _ ks => dctD ks ds
  | .obj _ _ C ks => objD C ks ds
  | .lkd _ ks _ _ => dctD ks ds
  | .tup _ => .dict [(.none, .none)]
inductive Ot where
  | leaf (d : D)
  | nod (s : Sh) (os : List Ot)

mutual
def Ot.get : Ot → D
  | .leaf d => d
  | .nod s os => s.data (Ot.gets os)
def Ot.gets : List Ot → List D
  | [] => []
  | o :: os => o.get :: Ot.gets os
end
mutual
def Ot.adr : Ot → List Addr
  | .leaf _ => []
  | .nod s os => s.own ++ Ot.adrs os
def Ot.adrs : List Ot → List Addr
  | [] => []
  | o :: os => o.adr ++ Ot.adrs os
end
abbrev Ot.lst (p : Addr) (os : List Ot) : Ot := .nod (.lst p) os
abbrev Ot.flat (p : Addr) (ds : List D) : Ot := .nod (.lst p) (ds.map .leaf)
theorem Ot.gets_map : ∀ os : List Ot, Ot.gets os = os.map Ot.get
  | [] => rfl
  | o :: os => by rw [Ot.gets, List.map_cons, Ot.gets_map os]
theorem Ot.gets_leaf (ds : List D) : Ot.gets (ds.map .leaf) = ds := by
  rw [Ot.gets_map, List.map_map]
  induction ds with
  | nil => rfl
  | cons d ds ih => rw [List.map_cons, ih]; rfl
theorem Ot.get_flat {p : Addr} (ds : List D) : (Ot.flat p ds).get = .list ds := by rw [Ot.get, Ot.gets_leaf]; rfl
theorem Ot.adrs_leaf (ds : List D) : Ot.adrs (ds.map .leaf) = [] := by
  induction ds with
  | nil => rfl
  | cons d ds ih => rw [List.map_cons, Ot.adrs, ih]; rfl
theorem Ot.adrs_app : ∀ os ps : List Ot, Ot.adrs (os ++ ps) = Ot.adrs os ++ Ot.adrs ps
  | [], ps => rfl
  | o :: os, ps => by rw [List.cons_append, Ot.adrs, Ot.adrs, Ot.adrs_app os ps, List.append_assoc]
theorem Ot.mem_adrs {b : Addr} : ∀ {os : List Ot}, b ∈ Ot.adrs os ↔ ∃ o ∈ os, b ∈ o.adr
  | [] => by simp [Ot.adrs]
  | o :: os => by rw [Ot.adrs, List.mem_append, Ot.mem_adrs]; simp

mutual
inductive Ow (K : PySem.W.Frag) (S : Addr → Prop) (H : Hp) : V → Ot → Prop
  | leaf {v : V} {d : D} : Rp K S H v d → Ow K S H v (.leaf d)
  | nod {s : Sh} {xs : List V} {os : List Ot} : s.holds H xs → Ows K S H xs os → Ow K S H (.ref s.root) (.nod s os)
inductive Ows (K : PySem.W.Frag) (S : Addr → Prop) (H : Hp) : List V → List Ot → Prop
  | nil : Ows K S H [] []
  | cons {x : V} {xs : List V} {o : Ot} {os : List Ot} : Ow K S H x o → Ows K S H xs os → Ows K S H (x :: xs) (o :: os)
end

section
variable {K : PySem.W.Frag} {S S' : Addr → Prop} {H H' : Hp}
theorem Sh.holds_of {s : Sh} {xs : List V} (k : ∀ b ∈ s.own, ∀ u, H b = some u → H' b = some u) (h : s.holds H xs) : s.holds H' xs := by
  cases s with
  | lst p => exact k p (List.mem_singleton.mpr rfl) _ h
  | dct p ks => exact ⟨k p (List.mem_singleton.mpr rfl) _ h.1, h.2⟩
  | lkd p ks us o => exact ⟨k p (List.mem_singleton.mpr rfl) _ h.1, h.2⟩
  | tup p => exact k p (List.mem_singleton.mpr rfl) _ h
  | obj p dx C ks => exact ⟨k p List.mem_cons_self _ h.1, k dx (List.mem_cons_of_mem _ List.mem_cons_self) _ h.2.1, h.2.2⟩
theorem Sh.holds_in {s : Sh} {xs : List V} (h : s.holds H xs) : ∀ b ∈ s.own, H b ≠ none := by
  intro b hb
  cases s with
  | lst p =>
    rw [List.mem_singleton.mp hb, show H p = _ from h]; exact fun z => nomatch z
  | dct p ks =>
    rw [List.mem_singleton.mp hb, h.1]; exact fun z => nomatch z
  | lkd p ks us o =>
    rw [List.mem_singleton.mp hb, h.1]; exact fun z => nomatch z
  | tup p =>
    rw [List.mem_singleton.mp hb, show H p = _ from h]; exact fun z => nomatch z
  | obj p dx C ks =>
    rcases List.mem_cons.mp hb with rfl | hb
    · rw [h.1]; exact fun z => nomatch z
    · rw [List.mem_singleton.mp hb, h.2.1]; exact fun z => nomatch z
theorem Sh.root_own (s : Sh) : s.root ∈ s.own := by cases s <;> exact List.mem_cons_self
/-! owned things stay: what is shared by Ev, what is owned as it is -/
mutual
theorem Ow.ev (e : Ev S H S' H') : ∀ (o : Ot) (v : V), (∀ b ∈ o.adr, ∀ u, H b = some u → H' b = some u) → Ow K S H v o → Ow K S' H' v o
  | .leaf d, _, _, h => by cases h with | leaf h => exact .leaf (Rp.ev e d _ h)
  | .nod s os, _, k, h => by
    cases h with
    | nod h1 h2 =>
      rw [Ot.adr] at k
      exact .nod (Sh.holds_of (fun b hb => k b (List.mem_append_left _ hb)) h1) (Ows.ev e os _ (fun b hb => k b (List.mem_append_right _ hb)) h2)
theorem Ows.ev (e : Ev S H S' H') : ∀ (os : List Ot) (vs : List V), (∀ b ∈ Ot.adrs os, ∀ u, H b = some u → H' b = some u) → Ows K S H vs os → Ows K S' H' vs os
  | [], _, _, h => by cases h; exact .nil
  | o :: os, _, k, h => by
    cases h with
    | cons h1 h2 =>
      rw [Ot.adrs] at k
      exact .cons (Ow.ev e o _ (fun b hb => k b (List.mem_append_left _ hb)) h1) (Ows.ev e os _ (fun b hb => k b (List.mem_append_right _ hb)) h2)
end
/-! what is owned is given away -/
mutual
theorem Ow.rp {T : Addr → Prop} : ∀ (o : Ot) (v : V), (∀ b ∈ o.adr, ¬ T b) → (∀ b, T b → S b) → Ow K S H v o → Rp K T H v o.get
  | .leaf d, _, _, s, h => by
    cases h with
    | leaf h =>
      rw [Ot.get]
      exact Rp.ev ⟨fun _ _ q _ => q, fun b hb => .inl (s b hb)⟩ d _ h
  | .nod sh os, _, k, s, h => by
    cases h with
    | nod h1 h2 =>
      rw [Ot.adr] at k
      have hr := Ows.rp os _ (fun b hb => k b (List.mem_append_right _ hb)) s h2
      have ko : ∀ b ∈ sh.own, ¬ T b := fun b hb => k b (List.mem_append_left _ hb)
      rw [Ot.get]
      cases sh with
      | lst p => exact .lst ⟨h1, ko _ List.mem_cons_self⟩ hr
      | dct p ks => exact .dct (.inl h1.1) (ko _ List.mem_cons_self) h1.2.1 h1.2.2.1 h1.2.2.2 hr
      | tup p => exact .tup (.inl ⟨.inl h1, ko _ List.mem_cons_self⟩) hr
      | lkd p ks us o => exact .dct (.inr ⟨o, h1.1⟩) (ko _ List.mem_cons_self) h1.2.2.1 h1.2.2.2.1 h1.2.2.2.2 hr
      | obj p dx C ks => exact .obj h1.1 h1.2.1 (ko _ List.mem_cons_self) (ko _ (List.mem_cons_of_mem _ List.mem_cons_self)) h1.2.2 hr
theorem Ows.rp {T : Addr → Prop} : ∀ (os : List Ot) (vs : List V), (∀ b ∈ Ot.adrs os, ¬ T b) → (∀ b, T b → S b) → Ows K S H vs os → Rps K T H vs (Ot.gets os)
  | [], _, _, s, h => by cases h; rw [Ot.gets]; exact .nil
  | o :: os, _, k, s, h => by
    cases h with
    | cons h1 h2 =>
      rw [Ot.gets]
      rw [Ot.adrs] at k
      exact .cons (Ow.rp o _ (fun b hb => k b (List.mem_append_left _ hb)) s h1) (Ows.rp os _ (fun b hb => k b (List.mem_append_right _ hb)) s h2)
end
theorem Ows.leaves : ∀ {vs : List V} {ds : List D}, Rps K S H vs ds → Ows K S H vs (ds.map .leaf)
  | _, [], h => by cases h; exact .nil
  | _, d :: ds, h => by
    cases h with
    | cons h1 h2 => exact .cons (.leaf h1) (Ows.leaves h2)
theorem Ows.of_leaves : ∀ {vs : List V} {ds : List D}, Ows K S H vs (ds.map .leaf) → Rps K S H vs ds
  | _, [], h => by cases h; exact .nil
  | _, d :: ds, h => by
    cases h with
    | cons h1 h2 =>
      cases h1 with
      | leaf h1 => exact .cons h1 (Ows.of_leaves h2)
theorem Ows.length : ∀ {vs : List V} {os : List Ot}, Ows K S H vs os → vs.length = os.length
  | _, [], h => by cases h; rfl
  | _, o :: os, h => by cases h with | cons h1 h2 => rw [List.length_cons, List.length_cons, Ows.length h2]
theorem Ows.get : ∀ {vs : List V} {os : List Ot} {i : Nat} {o : Ot}, Ows K S H vs os → os[i]? = some o → ∃ v, vs[i]? = some v ∧ Ow K S H v o
  | _, [], _, _, h, e => by simp at e
  | _, d :: ds, 0, _, h, e => by
    cases h with
    | cons h1 h2 => simp at e; subst e; exact ⟨_, rfl, h1⟩
  | _, d :: ds, i + 1, _, h, e => by
    cases h with
    | cons h1 h2 =>
      obtain ⟨v, q, r⟩ := Ows.get (i := i) h2 (by simpa using e)
      exact ⟨v, by simpa using q, r⟩
theorem Ows.append : ∀ {vs us : List V} {os ps : List Ot}, Ows K S H vs os → Ows K S H us ps → Ows K S H (vs ++ us) (os ++ ps)
  | _, _, [], _, h, q => by cases h; exact q
  | _, _, d :: ds, _, h, q => by
    cases h with
    | cons h1 h2 => exact .cons h1 (Ows.append h2 q)
theorem Ows.set : ∀ {vs : List V} {os : List Ot} {i : Nat} {v : V} {o : Ot}, Ows K S H vs os → Ow K S H v o → Ows K S H (vs.set i v) (os.set i o)
  | _, [], _, _, _, h, q => by cases h; exact .nil
  | _, d :: ds, 0, _, _, h, q => by
    cases h with
    | cons h1 h2 => exact .cons q h2
  | _, d :: ds, i + 1, _, _, h, q => by
    cases h with
    | cons h1 h2 => exact .cons h1 (Ows.set h2 q)
theorem Ows.reverse : ∀ {vs : List V} {os : List Ot}, Ows K S H vs os → Ows K S H vs.reverse os.reverse
  | _, [], h => by cases h; exact .nil
  | _, d :: ds, h => by
    cases h with
    | cons h1 h2 =>
      rw [List.reverse_cons, List.reverse_cons]
      exact Ows.append (Ows.reverse h2) (.cons h1 .nil)
theorem Ows.take : ∀ {vs : List V} {ds : List Ot} (n : Nat), Ows K S H vs ds → Ows K S H (vs.take n) (ds.take n)
  | _, _, 0, h => by simp; exact .nil
  | _, [], n + 1, h => by cases h; exact .nil
  | _, d :: ds, n + 1, h => by
    cases h with
    | cons h1 h2 => exact .cons h1 (Ows.take n h2)
theorem Ows.drop : ∀ {vs : List V} {ds : List Ot} (n : Nat), Ows K S H vs ds → Ows K S H (vs.drop n) (ds.drop n)
  | _, _, 0, h => h
  | _, [], n + 1, h => by cases h; exact .nil
  | _, d :: ds, n + 1, h => by
    cases h with
    | cons h1 h2 => exact Ows.drop n h2
mutual
/-- the addresses of what is owned hold something -/
theorem Ow.ins : ∀ (o : Ot) (v : V), Ow K S H v o → ∀ b ∈ o.adr, H b ≠ none
  | .leaf d, _, h, b, hb => by rw [Ot.adr] at hb; cases hb
  | .nod s os, _, h, b, hb => by
    cases h with
    | nod h1 h2 =>
      rw [Ot.adr] at hb
      rcases List.mem_append.mp hb with hb | hb
      · exact Sh.holds_in h1 b hb
      · exact Ows.ins os _ h2 b hb
theorem Ows.ins : ∀ (os : List Ot) (vs : List V), Ows K S H vs os → ∀ b ∈ Ot.adrs os, H b ≠ none
  | [], _, h, b, hb => by rw [Ot.adrs] at hb; cases hb
  | o :: os, _, h, b, hb => by
    cases h with
    | cons h1 h2 =>
      rw [Ot.adrs] at hb
      rcases List.mem_append.mp hb with hb | hb
      · exact Ow.ins o _ h1 b hb
      · exact Ows.ins os _ h2 b hb
end
end
/-! ### places in owned trees -/
inductive Step where
  | ix (n : Nat)
  | key (k : Key)
  | fld (f : Str)
/-- the first place of a key -/
def kpos {κ : Type} [DecidableEq κ] : List κ → κ → Option Nat
  | [], _ => none
  | x :: r, k => if x = k then some 0 else (kpos r k).map (· + 1)
/-- which of the kids a step leads to -/
def Sh.pos : Sh → Step → Option Nat
  | .lst _, .ix n => some n
  | .dct _ ks, .key k => kpos ks k
  | .obj _ _ _ ks, .fld f => kpos ks f
  | .lkd _ ks _ _, .key k => kpos ks k
  | .tup _, .ix n => some n
  | _, _ => none
def Ot.at : Ot → List Step → Option Ot
  | o, [] => some o
  | .leaf _, _ :: _ => none
  | .nod s os, t :: r => match s.pos t with
    | none => none
    | some n => match os[n]? with
      | none => none
      | some o => o.at r
def Ot.put (o' : Ot) : Ot → List Step → Ot
  | _, [] => o'
  | .leaf d, _ :: _ => .leaf d
  | .nod s os, t :: r => match s.pos t with
    | none => .nod s os
    | some n => match os[n]? with
      | none => .nod s os
      | some o => .nod s (os.set n (Ot.put o' o r))
def Ot.root : Ot → Option Addr
  | .leaf _ => none
  | .nod s _ => some s.root
section
variable {K : PySem.W.Frag} {S S' : Addr → Prop} {H H' : Hp}
theorem adrs_set_mem {os : List Ot} {n : Nat} {o : Ot} {b : Addr} (h : b ∈ Ot.adrs (os.set n o)) : b ∈ o.adr ∨ b ∈ Ot.adrs os := by
  obtain ⟨x, hx, hb⟩ := Ot.mem_adrs.mp h
  rcases List.mem_or_eq_of_mem_set hx with hx | rfl
  · exact .inr (Ot.mem_adrs.mpr ⟨x, hx, hb⟩)
  · exact .inl hb
theorem adrs_at {os : List Ot} {n : Nat} {o : Ot} (h : os[n]? = some o) : ∀ b ∈ o.adr, b ∈ Ot.adrs os := fun b hb => Ot.mem_adrs.mpr ⟨o, List.mem_of_getElem? h, hb⟩
theorem Ot.adr_at : ∀ {o o1 : Ot} {π : List Step}, o.at π = some o1 → ∀ b ∈ o1.adr, b ∈ o.adr
  | o, o1, [], h, b, hb => by
    unfold Ot.at at h
    cases h
    exact hb
  | .leaf _, _, _ :: _, h, _, _ => by cases h
  | .nod s os, o1, t :: r, h, b, hb => by
    have h' : (match s.pos t with | none => none | some n => match os[n]? with | none => none | some o => o.at r) = some o1 := h
    split at h'
    · cases h'
    · split at h'
      · cases h'
      · rename_i n e1 o e2
        rw [Ot.adr]
        exact List.mem_append_right _ (adrs_at e2 b (Ot.adr_at h' b hb))
/-- a new node in a place: nothing but its own and what was there -/
theorem Ot.adr_put {o' : Ot} : ∀ {o : Ot} {π : List Step}, ∀ b ∈ (Ot.put o' o π).adr, b ∈ o'.adr ∨ b ∈ o.adr
  | o, [], b, hb => .inl (by cases o <;> exact hb)
  | .leaf _, _ :: _, b, hb => .inr hb
  | .nod s os, t :: r, b, hb => by
    have hb' : b ∈ (match s.pos t with | none => Ot.nod s os | some n => match os[n]? with | none => .nod s os | some o => .nod s (os.set n (Ot.put o' o r))).adr := hb
    split at hb'
    · exact .inr hb'
    · split at hb'
      · exact .inr hb'
      · rename_i n e1 o e2
        rw [Ot.adr] at hb' ⊢
        rcases List.mem_append.mp hb' with hb' | hb'
        · exact .inr (List.mem_append_left _ hb')
        · rcases adrs_set_mem hb' with hb' | hb'
          · rcases Ot.adr_put (o := o) (π := r) b hb' with z | z
            · exact .inl z
            · exact .inr (List.mem_append_right _ (adrs_at e2 b z))
          · exact .inr (List.mem_append_right _ hb')
theorem adrs_split {os : List Ot} {n : Nat} {o : Ot} (h : os[n]? = some o) : Ot.adrs os = Ot.adrs (os.take n) ++ (o.adr ++ Ot.adrs (os.drop (n + 1))) ∧ ∀ o', Ot.adrs (os.set n o') = Ot.adrs (os.take n) ++ (o'.adr ++ Ot.adrs (os.drop (n + 1))) := by
  have hn : n < os.length := (List.getElem?_eq_some_iff.mp h).1
  refine ⟨?_, fun o' => ?_⟩
  · have e : os = os.take n ++ o :: os.drop (n + 1) := by
      have := (List.getElem?_eq_some_iff.mp h).2
      rw [← this, List.getElem_cons_drop, List.take_append_drop]
    conv => lhs; rw [e]
    rw [Ot.adrs_app, Ot.adrs]
  · rw [List.set_eq_take_append_cons_drop, if_pos hn, Ot.adrs_app, Ot.adrs]
/-- the new tree's addresses are all different, if the new node's are and stay away from the rest -/
theorem Ot.nodup_put {o' : Ot} (ok : o'.adr.Nodup) : ∀ {o o1 : Ot} {π : List Step}, o.at π = some o1 → o.adr.Nodup → (∀ b ∈ o'.adr, b ∈ o1.adr ∨ b ∉ o.adr) → (Ot.put o' o π).adr.Nodup
  | o, o1, [], h, nd, hb => by cases o <;> exact ok
  | .leaf _, _, _ :: _, h, _, _ => by cases h
  | .nod s os, o1, t :: r, h, nd, hb => by
    have h' : (match s.pos t with | none => none | some n => match os[n]? with | none => none | some o => o.at r) = some o1 := h
    show (match s.pos t with | none => Ot.nod s os | some n => match os[n]? with | none => .nod s os | some o => .nod s (os.set n (Ot.put o' o r))).adr.Nodup
    cases e1 : s.pos t with
    | none => rw [e1] at h'; cases h'
    | some n =>
      rw [e1] at h'
      cases e2 : os[n]? with
      | none => simp only [e2] at h'; cases h'
      | some o =>
        simp only [e2] at h' ⊢
        obtain ⟨es, eset⟩ := adrs_split e2
        generalize hAd : Ot.adrs (os.take n) = A at es eset
        generalize hBd : Ot.adrs (os.drop (n + 1)) = B at es eset
        rw [Ot.adr, es] at nd
        have hmem : ∀ b ∈ o.adr, b ∈ (Ot.nod s os).adr := fun b hb => by rw [Ot.adr, es]; simp [hb]
        have nd2 : o.adr.Nodup := by
          rw [List.nodup_append, List.nodup_append, List.nodup_append] at nd
          exact nd.2.1.2.1.1
        have ih := Ot.nodup_put ok (π := r) h' nd2 (fun b q => (hb b q).elim .inl fun z => .inr fun w => z (hmem b w))
        rw [Ot.adr, eset]
        have sub : ∀ b ∈ (Ot.put o' o r).adr, b ∈ o.adr ∨ b ∉ (Ot.nod s os).adr := fun b q => by
          rcases Ot.adr_put b q with z | z
          · rcases hb b z with z | z
            · exact .inl (Ot.adr_at h' b z)
            · exact .inr z
          · exact .inl z
        rw [Ot.adr, es] at sub
        simp only [List.nodup_append, List.mem_append] at nd ih sub ⊢
        obtain ⟨n1, ⟨n2, ⟨n3, n4, n5⟩, n6⟩, n7⟩ := nd
        refine ⟨n1, ⟨n2, ⟨ih, n4, fun a ha b hb e => ?_⟩, fun a ha b hb e => ?_⟩, fun a ha b hb e => ?_⟩
        · subst e
          rcases sub a ha with z | z
          · exact n5 a z a hb rfl
          · exact z (.inr (.inr (.inr hb)))
        · subst e
          rcases hb with hb | hb
          · rcases sub a hb with z | z
            · exact n6 a ha a (.inl z) rfl
            · exact z (.inr (.inl ha))
          · exact n6 a ha a (.inr hb) rfl
        · subst e
          rcases hb with hb | hb | hb
          · exact n7 a ha a (.inl hb) rfl
          · rcases sub a hb with z | z
            · exact n7 a ha a (.inr (.inl z)) rfl
            · exact z (.inl ha)
          · exact n7 a ha a (.inr (.inr hb)) rfl
/-- what stands in a place -/
theorem Ow.at : ∀ {o o1 : Ot} {π : List Step} {v : V}, Ow K S H v o → o.at π = some o1 → ∃ u, Ow K S H u o1
  | o, o1, [], v, w, h => by
    unfold Ot.at at h
    cases h
    exact ⟨v, w⟩
  | .leaf _, _, _ :: _, _, _, h => by cases h
  | .nod s os, o1, t :: r, v, w, h => by
    have h' : (match s.pos t with | none => none | some n => match os[n]? with | none => none | some o => o.at r) = some o1 := h
    split at h'
    · cases h'
    · split at h'
      · cases h'
      · rename_i n e1 o e2
        cases w with
        | nod h1 h2 =>
          obtain ⟨u, _, hu⟩ := h2.get e2
          exact hu.at h'
theorem Ow.root {o : Ot} {v : V} {p : Addr} (w : Ow K S H v o) (h : o.root = some p) : v = .ref p := by
  cases w with
  | leaf _ => cases h
  | nod _ _ => cases h; rfl
/-- another node in the place, in another heap: the rest stays, as its addresses are not the new node's -/
theorem Ow.put (e : Ev S H S' H') {o' : Ot} : ∀ {o o1 : Ot} {π : List Step} {v : V}, Ow K S H v o → o.at π = some o1 → o'.root = o1.root → o1.root ≠ none → (∀ u, Ow K S H u o1 → Ow K S' H' u o') → o.adr.Nodup →
    (∀ b ∈ o.adr, b ∉ o1.adr → ∀ u, H b = some u → H' b = some u) → Ow K S' H' v (Ot.put o' o π)
  | o, o1, [], v, w, h, hr, hn, hu, nd, kp => by
    unfold Ot.at at h
    cases h
    have := hu v w
    cases o <;> exact this
  | .leaf _, _, _ :: _, _, _, h, _, _, _, _, _ => by cases h
  | .nod s os, o1, t :: r, v, w, h, hr, hn, hu, nd, kp => by
    have h' : (match s.pos t with | none => none | some n => match os[n]? with | none => none | some o => o.at r) = some o1 := h
    show Ow K S' H' v (match s.pos t with | none => Ot.nod s os | some n => match os[n]? with | none => .nod s os | some o => .nod s (os.set n (Ot.put o' o r)))
    cases e1 : s.pos t with
    | none => rw [e1] at h'; cases h'
    | some n =>
      rw [e1] at h'
      cases e2 : os[n]? with
      | none => simp only [e2] at h'; cases h'
      | some o =>
        simp only [e2] at h' ⊢
        obtain ⟨es, eset⟩ := adrs_split e2
        generalize hAd : Ot.adrs (os.take n) = A at es eset
        generalize hBd : Ot.adrs (os.drop (n + 1)) = B at es eset
        rw [Ot.adr, es] at nd
        simp only [List.nodup_append, List.mem_append] at nd
        obtain ⟨n1, ⟨n2, ⟨n3, n4, n5⟩, n6⟩, n7⟩ := nd
        have kp' : ∀ b, (b ∈ s.own ∨ b ∈ A ∨ b ∈ o.adr ∨ b ∈ B) → b ∉ o1.adr → ∀ u, H b = some u → H' b = some u := fun b hb => kp b (by rw [Ot.adr, es]; simp only [List.mem_append]; exact hb)
        cases w with
        | @nod _ xs _ h1 h2 =>
          have own_no : ∀ b ∈ s.own, b ∉ o1.adr := fun b hb z => n7 b hb b (.inr (.inl (Ot.adr_at h' b z))) rfl
          refine .nod (s := s) (xs := xs) (Sh.holds_of (fun b hb => kp' b (.inl hb) (own_no b hb)) h1) ?_
          obtain ⟨u, hxu, hw⟩ := h2.get e2
          have hwu := Ow.put e (π := r) hw h' hr hn hu n3 (fun b hb => kp' b (.inr (.inr (.inl hb))))
          -- the kids beside stay
          have hA : ∀ b ∈ A, b ∉ o1.adr := fun b hb z => n6 b hb b (.inl (Ot.adr_at h' b z)) rfl
          have hB : ∀ b ∈ B, b ∉ o1.adr := fun b hb z => n5 b (Ot.adr_at h' b z) b hb rfl
          have hn : n < os.length := (List.getElem?_eq_some_iff.mp e2).1
          have hx : n < xs.length := by rw [h2.length]; exact hn
          rw [List.set_eq_take_append_cons_drop, if_pos hn]
          have ex : xs = xs.take n ++ u :: xs.drop (n + 1) := by
            have := (List.getElem?_eq_some_iff.mp hxu).2
            rw [← this, List.getElem_cons_drop, List.take_append_drop]
          rw [ex]
          refine Ows.append (Ows.ev e _ _ (fun b hb => ?_) (h2.take n)) (.cons hwu (Ows.ev e _ _ (fun b hb => ?_) (h2.drop (n + 1))))
          · rw [hAd] at hb
            exact kp' b (.inr (.inl hb)) (hA b hb)
          · rw [hBd] at hb
            exact kp' b (.inr (.inr (.inr hb))) (hB b hb)
end
end ML

/-! ## M2 -/
set_option Elab.async false
set_option linter.all false
set_option autoImplicit false
set_option maxRecDepth 100000
set_option maxHeartbeats 4000000
namespace ML
open PySem PySem.Spec PyProof.Rows L2

/-- what a place holds: nothing that is known; a shared value; a value of its own; a way into the slot i's own value -/
inductive Sl where
  | un
  | sh (d : D)
  | ow (o : Ot)
  | rf (i : Nat) (π : List Step) (p : Addr)
/-- what an operation hands back: shared data, a list that is to be made -/
inductive Rs where
  | sh (d : D)
  | nw (ds : List D)

def leaves? : List Ot → Option (List D)
  | [] => some []
  | .leaf d :: os => (leaves? os).map (d :: ·)
  | .nod _ _ :: _ => none
theorem leaves_map : ∀ ds : List D, leaves? (ds.map .leaf) = some ds
  | [] => rfl
  | d :: ds => by rw [List.map_cons, leaves?, leaves_map ds]; rfl
theorem of_leaves? : ∀ {os : List Ot} {ds : List D}, leaves? os = some ds → os = ds.map .leaf
  | [], ds, h => by
    rw [leaves?] at h
    cases h
    rfl
  | .leaf d :: os, ds, h => by
    rw [leaves?] at h
    obtain ⟨es, h1, h2⟩ := Option.map_eq_some_iff.mp h
    subst h2
    rw [of_leaves? h1]
    rfl
  | .nod _ _ :: _, ds, h => by
    rw [leaves?] at h
    cases h
/-- data whose items may be handed on -/
def Ot.rd : Ot → Option D
  | .leaf d => some d
  | .nod s os => (leaves? os).map s.datR
/-- the tree that a place names -/
def plc (δ : List Sl) (i : Nat) (π : List Step) (p : Addr) : Option Ot := match δ[i]? with
  | some (.ow o) => match o.at π with
    | some o1 => if o1.root = some p then some o1 else none
    | none => none
  | _ => none
def Sl.rd (δ : List Sl) : Sl → Option D
  | .sh d => some d
  | .ow o => o.rd
  | .rf i π p => (plc δ i π p).bind Ot.rd
  | _ => none
/-- data to be looked at alone -/
def Sl.ra (δ : List Sl) : Sl → Option D
  | .sh d => some d
  | .ow o => some o.get
  | .rf i π p => (plc δ i π p).map Ot.get
  | _ => none
def Sl.get : Sl → D
  | .sh d => d
  | .ow o => o.get
  | _ => .none
def Sl.isIn : Sl → Bool
  | .sh _ => true
  | .ow _ => true
  | _ => false
/-- an operation's result, made at p -/
def Rs.to (p : Addr) : Rs → Sl
  | .nw ds => .ow (Ot.flat p ds)
  | .sh d => .sh d

abbrev Cell := Option V × Sl
/-- the world at a def's entry: the heap, what it may change, what it stays away from -/
structure Wd where
  H0 : Hp
  F0 : Addr → Prop
  A : Addr → Prop

structure StF (K : PySem.W.Frag) (W : Wd) (H : Hp) (cs : List Cell) (S : Addr → Prop) : Prop where
  aw : ∀ b, W.A b → W.H0 b ≠ none ∧ ¬ W.F0 b
  trk : ∀ b, S b → H b ≠ none
  sub : ∀ b, W.A b → S b
  kp : ∀ b o, W.H0 b = some o → ¬ W.F0 b → H b = some o
  th : ∀ b, W.H0 b ≠ none → H b ≠ none
  sh : ∀ (i : Nat) v d, cs[i]? = some (v, Sl.sh d) → ∃ u, v = some u ∧ Rp K S H u d
  ow : ∀ (i : Nat) v o, cs[i]? = some (v, Sl.ow o) → ∃ u, v = some u ∧ Ow K S H u o
  rf : ∀ (i : Nat) v j π p, cs[i]? = some (v, Sl.rf j π p) → v = some (.ref p)
  fp : ∀ (i : Nat) v o b, cs[i]? = some (v, Sl.ow o) → b ∈ o.adr → S b ∧ (W.F0 b ∨ W.H0 b = none)
  dj : ∀ (i j : Nat) v o w p b, i ≠ j → cs[i]? = some (v, Sl.ow o) → cs[j]? = some (w, Sl.ow p) → b ∈ o.adr → b ∉ p.adr
  nd : ∀ (i : Nat) v o, cs[i]? = some (v, Sl.ow o) → o.adr.Nodup
def St (K : PySem.W.Frag) (W : Wd) (H : Hp) (cs : List Cell) : Prop := ∃ S, StF K W H cs S

section
variable {K : PySem.W.Frag} {W : Wd} {H H' : Hp} {cs cs' : List Cell} {S : Addr → Prop}
/-- the places in another order, some forgotten -/
theorem StF.re (x : StF K W H cs S) (f : Nat → Nat) (h : ∀ (i : Nat) c, cs'[i]? = some c → c.2 = .un ∨ cs[f i]? = some c) (inj : ∀ i j, i ≠ j → f i = f j → ∀ v o w p, cs'[i]? = some (v, Sl.ow o) → cs'[j]? = some (w, Sl.ow p) → False) :
    StF K W H cs' S where
  aw := x.aw
  trk := x.trk
  sub := x.sub
  kp := x.kp
  th := x.th
  sh := fun i v d e => (h i _ e).elim (fun z => nomatch z) fun z => x.sh _ v d z
  ow := fun i v d e => (h i _ e).elim (fun z => nomatch z) fun z => x.ow _ v d z
  rf := fun i v j π p e => (h i _ e).elim (fun z => nomatch z) fun z => x.rf _ v j π p z
  fp := fun i v o b e hb => (h i _ e).elim (fun z => nomatch z) fun z => x.fp _ v o b z hb
  dj := fun i j v o w p b ne e1 e2 hb => (h i _ e1).elim (fun z => nomatch z) fun z1 => (h j _ e2).elim (fun z => nomatch z) fun z2 =>
    x.dj _ _ v o w p b (fun q => inj i j ne q v o w p e1 e2) z1 z2 hb
  nd := fun i v o e => (h i _ e).elim (fun z => nomatch z) fun z => x.nd _ v o z
theorem St.drop {ds : List Cell} (x : St K W H (cs ++ ds)) : St K W H cs := by
  obtain ⟨S, x⟩ := x
  refine ⟨S, x.re (fun i => i) (fun i c e => .inr ?_) (fun i j n q => absurd q n)⟩
  have hi : i < cs.length := (List.getElem?_eq_some_iff.mp e).1
  rw [List.getElem?_append_left hi]
  exact e
theorem getElem?_snoc {α : Type} {l : List α} {x c : α} {i : Nat} : (l ++ [x])[i]? = some c → (i < l.length ∧ l[i]? = some c) ∨ (i = l.length ∧ c = x) := fun h => by
  by_cases hi : i < l.length
  · rw [List.getElem?_append_left hi] at h
    exact .inl ⟨hi, h⟩
  · have h1 : i < (l ++ [x]).length := (List.getElem?_eq_some_iff.mp h).1
    rw [List.length_append, List.length_cons, List.length_nil] at h1
    have e : i = l.length := by omega
    subst e
    rw [List.getElem?_append_right (Nat.le_refl _), Nat.sub_self] at h
    exact .inr ⟨rfl, (Option.some.inj h).symm⟩
theorem snoc_last {α : Type} {l : List α} {x : α} : (l ++ [x])[l.length]? = some x := by
  rw [List.getElem?_append_right (Nat.le_refl _), Nat.sub_self]
  rfl
theorem snoc_old {α : Type} {l : List α} {x c : α} {i : Nat} (h : l[i]? = some c) : (l ++ [x])[i]? = some c := by
  rw [List.getElem?_append_left (List.getElem?_eq_some_iff.mp h).1]
  exact h
/-- one more value, of the kinds that bring nothing of their own -/
theorem StF.add (x : StF K W H cs S) {v : Option V} {sl : Sl} (h1 : ∀ o, sl ≠ .ow o) (h2 : ∀ d, sl = .sh d → ∃ u, v = some u ∧ Rp K S H u d) (h3 : ∀ j π p, sl = .rf j π p → v = some (.ref p)) : StF K W H (cs ++ [(v, sl)]) S where
  aw := x.aw
  trk := x.trk
  sub := x.sub
  kp := x.kp
  th := x.th
  sh := fun i w e q => by
    rcases getElem?_snoc q with ⟨_, q⟩ | ⟨_, q⟩
    · exact x.sh i w e q
    · cases q; exact h2 _ rfl
  ow := fun i w e q => by
    rcases getElem?_snoc q with ⟨_, q⟩ | ⟨_, q⟩
    · exact x.ow i w e q
    · cases q; exact absurd rfl (h1 _)
  rf := fun i w j π p q => by
    rcases getElem?_snoc q with ⟨_, q⟩ | ⟨_, q⟩
    · exact x.rf i w j π p q
    · cases q; exact h3 _ _ _ rfl
  fp := fun i w o b q hb => by
    rcases getElem?_snoc q with ⟨_, q⟩ | ⟨_, q⟩
    · exact x.fp i w o b q hb
    · cases q; exact absurd rfl (h1 _)
  dj := fun i j v o w p b ne e1 e2 hb => by
    rcases getElem?_snoc e1 with ⟨_, e1⟩ | ⟨_, e1⟩
    · rcases getElem?_snoc e2 with ⟨_, e2⟩ | ⟨_, e2⟩
      · exact x.dj i j v o w p b ne e1 e2 hb
      · cases e2; exact absurd rfl (h1 _)
    · cases e1; exact absurd rfl (h1 _)
  nd := fun i w o q => by
    rcases getElem?_snoc q with ⟨_, q⟩ | ⟨_, q⟩
    · exact x.nd i w o q
    · cases q; exact absurd rfl (h1 _)
/-- one more shared value -/
theorem StF.push (x : StF K W H cs S) {v : V} {d : D} (r : Rp K S H v d) : StF K W H (cs ++ [(some v, .sh d)]) S :=
  x.add (fun _ z => nomatch z) (fun _ z => by cases z; exact ⟨v, rfl, r⟩) (fun _ _ _ z => nomatch z)
/-- a value of which nothing is said -/
theorem StF.blank (x : StF K W H cs S) {v : Option V} : StF K W H (cs ++ [(v, .un)]) S :=
  x.add (fun _ z => nomatch z) (fun _ z => nomatch z) (fun _ _ _ z => nomatch z)
theorem StF.way (x : StF K W H cs S) {j : Nat} {π : List Step} {p : Addr} : StF K W H (cs ++ [(some (.ref p), .rf j π p)]) S :=
  x.add (fun _ z => nomatch z) (fun _ z => nomatch z) (fun _ _ _ z => by cases z; rfl)
/-- a place's own value is given away -/
theorem StF.frz (x : StF K W H cs S) {i : Nat} {v : Option V} {o : Ot} (e : cs[i]? = some (v, .ow o)) : StF K W H (cs.set i (v, .sh o.get)) (fun b => S b ∧ b ∉ o.adr) := by
  have hi : i < cs.length := (List.getElem?_eq_some_iff.mp e).1
  have old : ∀ {j : Nat} {w : Option V} {sl : Sl}, (cs.set i (v, .sh o.get))[j]? = some (w, sl) → (∀ d, sl ≠ .sh d) → j ≠ i ∧ cs[j]? = some (w, sl) := fun {j w sl} q nsh => by
    by_cases hj : i = j
    · subst hj
      rw [List.getElem?_set_self hi] at q
      cases q
      exact absurd rfl (nsh _)
    · rw [List.getElem?_set_ne hj] at q
      exact ⟨fun z => hj z.symm, q⟩
  have ev : Ev S H (fun b => S b ∧ b ∉ o.adr) H := ⟨fun _ _ q _ => q, fun b hb => .inl hb.1⟩
  refine ⟨x.aw, fun b hb => x.trk b hb.1, fun b hb => ⟨x.sub b hb, fun hf => ?_⟩, x.kp, x.th, fun j w d q => ?_, fun j w p q => ?_, fun j w k π p q => x.rf _ _ _ _ _ (old q (fun _ z => nomatch z)).2, fun j w p b q hb => ?_,
    fun j k w p u r b ne q1 q2 hb => x.dj j k w p u r b ne (old q1 (fun _ z => nomatch z)).2 (old q2 (fun _ z => nomatch z)).2 hb, fun j w p q => x.nd _ _ _ (old q (fun _ z => nomatch z)).2⟩
  · obtain ⟨_, h1⟩ := x.fp i v o b e hf
    rcases h1 with h1 | h1
    · exact (x.aw b hb).2 h1
    · exact (x.aw b hb).1 h1
  · by_cases hj : i = j
    · subst hj
      rw [List.getElem?_set_self hi] at q
      cases q
      obtain ⟨u, rfl, h⟩ := x.ow i v o e
      exact ⟨u, rfl, Ow.rp o u (fun b hb z => z.2 hb) (fun b z => z.1) h⟩
    · rw [List.getElem?_set_ne hj] at q
      obtain ⟨u, rfl, h⟩ := x.sh j w d q
      exact ⟨u, rfl, Rp.ev ev d u h⟩
  · obtain ⟨hj, q⟩ := old q (fun _ z => nomatch z)
    obtain ⟨u, rfl, h⟩ := x.ow j w p q
    exact ⟨u, rfl, Ow.ev ev p u (fun _ _ _ z => z) h⟩
  · obtain ⟨hj, q⟩ := old q (fun _ z => nomatch z)
    obtain ⟨h1, h2⟩ := x.fp j w p b q hb
    exact ⟨⟨h1, fun z => x.dj i j v o w p b (fun q => hj q.symm) e q z hb⟩, h2⟩
/-- the heap has more -/
theorem StF.grow (x : StF K W H cs S) (kp : ∀ b o, H b = some o → H' b = some o) : StF K W H' cs S := by
  have ev : Ev S H S H' := ⟨fun b u q _ => kp b u q, fun b hb => .inl hb⟩
  have ne : ∀ b, H b ≠ none → H' b ≠ none := fun b hb => by
    cases q : H b with
    | none => exact absurd q hb
    | some o => rw [kp b o q]; exact fun z => nomatch z
  refine ⟨x.aw, fun b hb => ne b (x.trk b hb), x.sub, fun b u q n => kp b u (x.kp b u q n), fun b hb => ne b (x.th b hb), fun i v d q => ?_, fun i v o q => ?_, x.rf, x.fp, x.dj, x.nd⟩
  · obtain ⟨u, rfl, h⟩ := x.sh i v d q
    exact ⟨u, rfl, Rp.ev ev d u h⟩
  · obtain ⟨u, rfl, h⟩ := x.ow i v o q
    exact ⟨u, rfl, Ow.ev ev o u (fun b hb w z => kp b w z) h⟩
theorem upd_grow {p : Addr} {o : HO} (hp : H p = none) : ∀ b u, H b = some u → upd H p o b = some u := fun b u q => by
  rw [upd_ne (fun z => by rw [z, hp] at q; cases q)]
  exact q
/-- a new object is tracked -/
theorem StF.more (x : StF K W H cs S) {p : Addr} {o : HO} (hp : H p = none) : StF K W (upd H p o) cs S := x.grow (upd_grow hp)
/-- one more owned value, over new addresses -/
theorem StF.own (x : StF K W H cs S) {v : V} {o : Ot} (hn : ∀ b ∈ o.adr, W.H0 b = none ∧ ¬ S b ∧ H b ≠ none) (hr : ∀ (i : Nat) w d, cs[i]? = some (w, Sl.sh d) → ∀ u, w = some u → Rp K (fun b => S b ∨ b ∈ o.adr) H u d)
    (ho : ∀ (i : Nat) w d, cs[i]? = some (w, Sl.ow d) → ∀ u, w = some u → Ow K (fun b => S b ∨ b ∈ o.adr) H u d) (h : Ow K (fun b => S b ∨ b ∈ o.adr) H v o) (nd : o.adr.Nodup) :
    StF K W H (cs ++ [(some v, .ow o)]) (fun b => S b ∨ b ∈ o.adr) := by
  refine ⟨x.aw, fun b hb => ?_, fun b hb => .inl (x.sub b hb), x.kp, x.th, fun i w d q => ?_, fun i w d q => ?_, fun i w j π p q => ?_, fun i w d b q hb => ?_, fun i j w d u p b ne q1 q2 hb => ?_, fun i w d q => ?_⟩
  · rcases hb with z | z
    · exact x.trk b z
    · exact (hn b z).2.2
  · rcases getElem?_snoc q with ⟨_, q⟩ | ⟨_, q⟩
    · obtain ⟨u, rfl, _⟩ := x.sh i w d q
      exact ⟨u, rfl, hr i _ d q u rfl⟩
    · cases q
  · rcases getElem?_snoc q with ⟨_, q⟩ | ⟨e, q⟩
    · obtain ⟨u, rfl, _⟩ := x.ow i w d q
      exact ⟨u, rfl, ho i _ d q u rfl⟩
    · cases q
      exact ⟨v, rfl, h⟩
  · rcases getElem?_snoc q with ⟨_, q⟩ | ⟨_, q⟩
    · exact x.rf i w j π p q
    · cases q
  · rcases getElem?_snoc q with ⟨_, q⟩ | ⟨e, q⟩
    · obtain ⟨h1, h2⟩ := x.fp i w d b q hb
      exact ⟨.inl h1, h2⟩
    · cases q
      exact ⟨.inr hb, .inr (hn b hb).1⟩
  · rcases getElem?_snoc q1 with ⟨_, q1⟩ | ⟨e1, q1⟩
    · rcases getElem?_snoc q2 with ⟨_, q2⟩ | ⟨e2, q2⟩
      · exact x.dj i j w d u p b ne q1 q2 hb
      · cases q2
        exact fun z => (hn b z).2.1 (x.fp i w d b q1 hb).1
    · rcases getElem?_snoc q2 with ⟨_, q2⟩ | ⟨e2, q2⟩
      · cases q1
        exact fun z => (hn b hb).2.1 (x.fp j u p b q2 z).1
      · exact absurd (e1.trans e2.symm) ne
  · rcases getElem?_snoc q with ⟨_, q⟩ | ⟨e, q⟩
    · exact x.nd i w d q
    · cases q
      exact nd
/-- a new object of one address, owned: its kids are shared -/
theorem StF.newS (x : StF K W H cs S) {p : Addr} {u : HO} {s : Sh} {xs : List V} {ds : List D} (hp : H p = none) (ho : s.own = [p]) (hh : s.holds (upd H p u) xs) (r : Rps K S H xs ds) :
    StF K W (upd H p u) (cs ++ [(some (.ref s.root), .ow (.nod s (ds.map .leaf)))]) (fun b => S b ∨ b = p) := by
  have y := x.more (o := u) hp
  have ea : (Ot.nod s (ds.map .leaf)).adr = [p] := by rw [Ot.adr, Ot.adrs_leaf, ho]; rfl
  have eS : (fun b => S b ∨ b = p) = (fun b => S b ∨ b ∈ (Ot.nod s (ds.map .leaf)).adr) := by
    funext b
    rw [ea, List.mem_singleton]
  have ev : Ev S H (fun b => S b ∨ b ∈ (Ot.nod s (ds.map .leaf)).adr) (upd H p u) := ⟨fun b w q _ => upd_grow hp b w q, fun b hb => hb.elim .inl fun z => .inr (by rw [ea, List.mem_singleton] at z; rw [z]; exact hp)⟩
  rw [eS]
  refine y.own (fun b hb => ?_) (fun i w d q v e => ?_) (fun i w d q v e => ?_) (.nod hh (Ows.leaves (Rps.ev ev ds xs r))) (by rw [ea]; simp)
  · rw [ea, List.mem_singleton] at hb
    subst hb
    refine ⟨?_, fun z => x.trk _ z hp, by rw [upd_same]; exact fun z => nomatch z⟩
    cases q : W.H0 b with
    | none => rfl
    | some o => exact absurd hp (x.th b (by rw [q]; exact fun z => nomatch z))
  · obtain ⟨u', e', h⟩ := x.sh i w d q
    rw [e] at e'; cases e'
    exact Rp.ev ev d v h
  · obtain ⟨u', e', h⟩ := x.ow i w d q
    rw [e] at e'; cases e'
    exact Ow.ev ev d v (fun b _ o z => upd_grow hp b o z) h
/-- a new list, owned -/
theorem StF.newL (x : StF K W H cs S) {p : Addr} {xs : List V} {ds : List D} (hp : H p = none) (r : Rps K S H xs ds) :
    StF K W (upd H p (.lst xs)) (cs ++ [(some (.ref p), .ow (Ot.flat p ds))]) (fun b => S b ∨ b = p) :=
  x.newS (s := .lst p) hp rfl upd_same r
/-- a new tuple -/
theorem StF.newT (x : StF K W H cs S) {p : Addr} {xs : List V} {ds : List D} (hp : H p = none) (r : Rps K S H xs ds) :
    StF K W (upd H p (.tup xs)) (cs ++ [(some (.ref p), .sh (.tuple ds))]) S := by
  have y := x.more (o := .tup xs) hp
  have ev : Ev S H S (upd H p (.tup xs)) := ⟨fun b u q _ => upd_grow hp b u q, fun b hb => .inl hb⟩
  exact y.push (.tup (.inl ⟨.inl upd_same, fun z => x.trk _ z hp⟩) (Rps.ev ev ds xs r))
/-- a new range -/
theorem StF.newR (x : StF K W H cs S) {p : Addr} {i j : Int} (hp : H p = none) :
    StF K W (upd H p (.rng i j)) (cs ++ [(some (.ref p), .sh (rgD i j))]) S := by
  have y := x.more (o := .rng i j) hp
  exact y.push (.rng upd_same fun z => x.trk _ z hp)
theorem nodup_at : ∀ {o o1 : Ot} {π : List Step}, o.at π = some o1 → o.adr.Nodup → o1.adr.Nodup
  | o, o1, [], h, nd => by unfold Ot.at at h; cases h; exact nd
  | .leaf _, _, _ :: _, h, _ => by cases h
  | .nod s os, o1, t :: r, h, nd => by
    have h' : (match s.pos t with | none => none | some n => match os[n]? with | none => none | some o => o.at r) = some o1 := h
    split at h'
    · cases h'
    · split at h'
      · cases h'
      · rename_i n e1 o e2
        refine nodup_at h' ?_
        rw [Ot.adr, (adrs_split e2).1] at nd
        rw [List.nodup_append, List.nodup_append, List.nodup_append] at nd
        exact nd.2.1.2.1.1
/-- a node of an owned tree is changed: its kids are old ones and what the cells in J own -/
theorem StF.mutAt (x : StF K W H cs S) {i : Nat} {v : Option V} {o : Ot} {π : List Step} {s : Sh} {os : List Ot} (e : cs[i]? = some (v, .ow o)) (h : o.at π = some (.nod s os)) :
    ∃ xs, s.holds H xs ∧ Ows K S H xs os ∧ (∀ b ∈ s.own, S b) ∧ (∀ b ∈ s.own, b ∉ Ot.adrs os) ∧ (∀ H', (∀ b, b ∉ s.own → H' b = H b) → Ev S H S H') ∧
      ∀ (s' : Sh) (xs' : List V) (os' : List Ot) (H' : Hp) (J : Nat → Prop) (cs' : List Cell), s'.root = s.root → s'.own = s.own → (∀ b, b ∉ s.own → H' b = H b) → s'.holds H' xs' → Ows K S H' xs' os' → (Ot.adrs os').Nodup →
        (∀ b ∈ Ot.adrs os', b ∈ Ot.adrs os ∨ ∃ j w oj, j ≠ i ∧ J j ∧ cs[j]? = some (w, .ow oj) ∧ b ∈ oj.adr) → cs'[i]? = some (v, .ow (Ot.put (.nod s' os') o π)) → (∀ j c, j ≠ i → cs'[j]? = some c → c.2 = .un ∨ (cs[j]? = some c ∧ ¬ J j)) → StF K W H' cs' S := by
  obtain ⟨u, rfl, w⟩ := x.ow i v o e
  obtain ⟨u1, w1⟩ := w.at h
  cases w1 with
  | @nod _ xs _ h1 h2 =>
    have mem : ∀ b ∈ s.own, b ∈ o.adr := fun b hb => Ot.adr_at h b (by rw [Ot.adr]; exact List.mem_append_left _ hb)
    have memk : ∀ b ∈ Ot.adrs os, b ∈ o.adr := fun b hb => Ot.adr_at h b (by rw [Ot.adr]; exact List.mem_append_right _ hb)
    have hS : ∀ b ∈ s.own, S b := fun b hb => (x.fp i _ o b e (mem b hb)).1
    have nd1 := nodup_at h (x.nd i _ o e)
    rw [Ot.adr] at nd1
    have nd2 := List.nodup_append.mp nd1
    have own_no : ∀ b ∈ s.own, b ∉ Ot.adrs os := fun b hb z => nd2.2.2 b hb b z rfl
    have evs : ∀ H', (∀ b, b ∉ s.own → H' b = H b) → Ev S H S H' := fun H' k => ⟨fun b q z n => by rw [k b (fun y => n (hS b y))]; exact z, fun b hb => .inl hb⟩
    refine ⟨xs, h1, h2, hS, own_no, evs, fun s' xs' os' H' J cs' r1 r2 k hh ho ndo sb ei ej => ?_⟩
    have ev := evs H' k
    have hin : ∀ b, H b ≠ none → H' b ≠ none := fun b hb => by
      by_cases z : b ∈ s.own
      · exact Sh.holds_in hh b (by rw [r2]; exact z)
      · rw [k b z]; exact hb
    have newmem : ∀ b ∈ (Ot.nod s' os').adr, b ∈ o.adr ∨ ∃ j w oj, j ≠ i ∧ J j ∧ cs[j]? = some (w, .ow oj) ∧ b ∈ oj.adr := fun b hb => by
      rw [Ot.adr, r2] at hb
      rcases List.mem_append.mp hb with hb | hb
      · exact .inl (mem b hb)
      · rcases sb b hb with z | z
        · exact .inl (memk b z)
        · exact .inr z
    have putmem : ∀ b ∈ (Ot.put (.nod s' os') o π).adr, b ∈ o.adr ∨ ∃ j w oj, j ≠ i ∧ J j ∧ cs[j]? = some (w, .ow oj) ∧ b ∈ oj.adr := fun b hb => (Ot.adr_put b hb).elim (newmem b) .inl
    have own_new : ∀ b ∈ s.own, b ∉ Ot.adrs os' := fun b hb z => by
      rcases sb b z with z | ⟨j, w, oj, nj, _, ej, hb2⟩
      · exact own_no b hb z
      · exact x.dj i j _ _ _ _ b (fun q => nj q.symm) e ej (mem b hb) hb2
    have ndn : (Ot.nod s' os').adr.Nodup := by
      rw [Ot.adr, r2, List.nodup_append]
      exact ⟨nd2.1, ndo, fun a ha b hb q => own_new a ha (q ▸ hb)⟩
    have wput : Ow K S H' u (Ot.put (.nod s' os') o π) := Ow.put ev w h (by show some s'.root = some s.root; rw [r1]) (fun z => nomatch z)
      (fun u' hu' => by
        have eu := Ow.root hu' (show (Ot.nod s os).root = some s.root from rfl)
        rw [eu, ← r1]
        exact .nod hh ho)
      (x.nd i _ o e) (fun b hb hb2 q z => by
        rw [k b (fun y => hb2 (by rw [Ot.adr]; exact List.mem_append_left _ y))]
        exact z)
    have ndput := Ot.nodup_put ndn h (x.nd i _ o e) (fun b hb => by
      rw [Ot.adr, r2] at hb
      rcases List.mem_append.mp hb with hb | hb
      · exact .inl (by rw [Ot.adr]; exact List.mem_append_left _ hb)
      · rcases sb b hb with z | ⟨j, w, oj, nj, _, ej, hb2⟩
        · exact .inl (by rw [Ot.adr]; exact List.mem_append_right _ z)
        · exact .inr fun z => x.dj i j _ _ _ _ b (fun q => nj q.symm) e ej z hb2)
    have old : ∀ {j : Nat} {c : Cell}, j ≠ i → cs'[j]? = some c → c.2 ≠ .un → cs[j]? = some c ∧ ¬ J j := fun {j c} n q z => (ej j c n q).resolve_left z
    refine ⟨x.aw, fun b hb => hin b (x.trk b hb), x.sub, fun b q z n => ?_, fun b hb => hin b (x.th b hb), fun j w d q => ?_, fun j w p q => ?_, fun j w a ρ p q => ?_, fun j w p b q hb => ?_, fun j l w p w2 p2 b ne q1 q2 hb => ?_, fun j w p q => ?_⟩
    · rw [k b (fun y => ?_)]
      · exact x.kp b q z n
      · rcases (x.fp i _ o b e (mem b y)).2 with y | y
        · exact n y
        · rw [z] at y; cases y
    · by_cases hj : j = i
      · subst hj; rw [ei] at q; cases q
      · obtain ⟨u2, rfl, r⟩ := x.sh j w d (old hj q (fun z => nomatch z)).1
        exact ⟨u2, rfl, Rp.ev ev d u2 r⟩
    · by_cases hj : j = i
      · subst hj; rw [ei] at q; cases q
        exact ⟨u, rfl, wput⟩
      · have q' := (old hj q (fun z => nomatch z)).1
        obtain ⟨u2, rfl, r⟩ := x.ow j w p q'
        exact ⟨u2, rfl, Ow.ev ev p u2 (fun b hb o z => by rw [k b (fun y => x.dj i j _ _ _ _ b (fun q => hj q.symm) e q' (mem b y) hb)]; exact z) r⟩
    · by_cases hj : j = i
      · subst hj; rw [ei] at q; cases q
      · exact x.rf j w a ρ p (old hj q (fun z => nomatch z)).1
    · by_cases hj : j = i
      · subst hj; rw [ei] at q; cases q
        rcases putmem b hb with z | ⟨a, w, oj, _, _, ea, hb2⟩
        · exact x.fp j _ o b e z
        · exact x.fp a w oj b ea hb2
      · exact x.fp j w p b (old hj q (fun z => nomatch z)).1 hb
    · by_cases hj : j = i
      · subst hj; rw [ei] at q1; cases q1
        obtain ⟨q2', nJ⟩ := old (fun z => ne z.symm) q2 (fun z => nomatch z)
        rcases putmem b hb with z | ⟨a, w3, oj, _, hJ, ea, hb2⟩
        · exact x.dj j l _ _ _ _ b ne e q2' z
        · exact x.dj a l _ _ _ _ b (fun q => nJ (q ▸ hJ)) ea q2' hb2
      · obtain ⟨q1', nJ⟩ := old hj q1 (fun z => nomatch z)
        by_cases hl : l = i
        · subst hl; rw [ei] at q2; cases q2
          intro hb3
          rcases putmem b hb3 with z | ⟨a, w3, oj, _, hJ, ea, hb2⟩
          · exact x.dj j l _ _ _ _ b ne q1' e hb z
          · exact x.dj a j _ _ _ _ b (fun q => nJ (q ▸ hJ)) ea q1' hb2 hb
        · exact x.dj j l _ _ _ _ b ne q1' (old hl q2 (fun z => nomatch z)).1 hb
    · by_cases hj : j = i
      · subst hj; rw [ei] at q; cases q
        exact ndput
      · exact x.nd j w p (old hj q (fun z => nomatch z)).1
/-- no address in it -/
def Sl.atoms : Sl → Prop
  | .sh d => atom d = true
  | .ow o => ∀ (K : PySem.W.Frag) (S S2 : Addr → Prop) (H : Hp) (u : V), Ow K S H u o → Ow K S2 H u o
  | _ => True
/-- behind a call: the cells are the caller's, or come from the callee -/
theorem StF.merge (x : StF K W H cs S) {F0 A : Addr → Prop} {cs1 : List Cell} {S' : Addr → Prop} (y : StF K ⟨H, F0, A⟩ H' cs1 S') (hF : ∀ b, F0 b → S b ∧ (W.F0 b ∨ W.H0 b = none)) {cs' : List Cell} (f : Nat → Nat ⊕ Nat)
    (hc : ∀ (i : Nat) c, cs'[i]? = some c → c.2 = .un ∨ (∃ j, f i = .inl j ∧ cs[j]? = some c ∧ ∀ o, c.2 = .ow o → ∀ b ∈ o.adr, ¬ F0 b) ∨ (∃ j, f i = .inr j ∧ cs1[j]? = some c ∧ ((∀ b, S b → ¬ F0 b → A b) ∨ c.2.atoms)))
    (inj : ∀ i j, i ≠ j → f i = f j → ∀ v o w p, cs'[i]? = some (v, Sl.ow o) → cs'[j]? = some (w, Sl.ow p) → False) : ∃ S2, StF K W H' cs' S2 := by
  have kp : ∀ b o, H b = some o → ¬ F0 b → H' b = some o := fun b o q n => y.kp b o q n
  have S2 : ∃ S2 : Addr → Prop, S2 = fun b => (S b ∧ ¬ F0 b) ∨ ∃ (i j : Nat) (v : Option V) (o : Ot), f i = .inr j ∧ cs'[i]? = some (v, Sl.ow o) ∧ cs1[j]? = some (v, Sl.ow o) ∧ b ∈ o.adr := ⟨_, rfl⟩
  obtain ⟨S2, eS⟩ := S2
  have s2 : ∀ b, S2 b ↔ (S b ∧ ¬ F0 b) ∨ ∃ (i j : Nat) (v : Option V) (o : Ot), f i = .inr j ∧ cs'[i]? = some (v, Sl.ow o) ∧ cs1[j]? = some (v, Sl.ow o) ∧ b ∈ o.adr := fun b => by rw [eS]
  have cal : ∀ {j : Nat} {v : Option V} {o : Ot} {b : Addr}, cs1[j]? = some (v, Sl.ow o) → b ∈ o.adr → S' b ∧ (F0 b ∨ H b = none) := fun {j v o b} q hb => y.fp j v o b q hb
  -- the caller's things stay
  have ev : Ev S H S2 H' := ⟨fun b o q n => kp b o q fun z => n (hF b z).1, fun b hb => by
    rcases (s2 b).mp hb with z | ⟨i, j, v, o, _, _, q, hb2⟩
    · exact .inl z.1
    · rcases (cal q hb2).2 with z | z
      · exact .inl (hF b z).1
      · exact .inr z⟩
  -- the callee's, where nothing was borrowed
  have evd : (∀ b, S b → ¬ F0 b → A b) → Ev S' H' S2 H' := fun hA => ⟨fun _ _ q _ => q, fun b hb => .inl (by
    rcases (s2 b).mp hb with z | ⟨i, j, v, o, _, _, q, hb2⟩
    · exact y.sub b (hA b z.1 z.2)
    · exact (cal q hb2).1)⟩
  have cls : ∀ {i : Nat} {v : Option V} {sl : Sl}, cs'[i]? = some (v, sl) → sl ≠ .un → (∃ j, f i = .inl j ∧ cs[j]? = some (v, sl) ∧ ∀ o, sl = .ow o → ∀ b ∈ o.adr, ¬ F0 b) ∨ (∃ j, f i = .inr j ∧ cs1[j]? = some (v, sl) ∧ ((∀ b, S b → ¬ F0 b → A b) ∨ sl.atoms)) :=
    fun {i v sl} q n => (hc i _ q).resolve_left n
  refine ⟨S2, x.aw, fun b hb => ?_, fun b hb => ?_, fun b o q n => ?_, fun b q => y.th b (x.th b q), fun i v d q => ?_, fun i v o q => ?_, fun i v j π p q => ?_, fun i v o b q hb => ?_, fun i k v o w p b ne q1 q2 hb => ?_, fun i v o q => ?_⟩
  · rcases (s2 b).mp hb with z | ⟨i, j, v, o, _, _, q, hb2⟩
    · exact y.th b (x.trk b z.1)
    · exact y.trk b (cal q hb2).1
  · refine (s2 b).mpr (.inl ⟨x.sub b hb, fun z => ?_⟩)
    rcases (hF b z).2 with q | q
    · exact (x.aw b hb).2 q
    · exact (x.aw b hb).1 q
  · refine kp b o (x.kp b o q n) fun z => ?_
    rcases (hF b z).2 with q2 | q2
    · exact n q2
    · rw [q] at q2; cases q2
  · rcases cls q (fun z => nomatch z) with ⟨j, _, q1, _⟩ | ⟨j, _, q1, ha⟩
    · obtain ⟨u, rfl, r⟩ := x.sh j v d q1
      exact ⟨u, rfl, Rp.ev ev d u r⟩
    · obtain ⟨u, rfl, r⟩ := y.sh j v d q1
      rcases ha with ha | ha
      · exact ⟨u, rfl, Rp.ev (evd ha) d u r⟩
      · exact ⟨u, rfl, Rp.atm ha r⟩
  · rcases cls q (fun z => nomatch z) with ⟨j, _, q1, hn⟩ | ⟨j, _, q1, ha⟩
    · obtain ⟨u, rfl, r⟩ := x.ow j v o q1
      exact ⟨u, rfl, Ow.ev ev o u (fun b hb w z => kp b w z (hn o rfl b hb)) r⟩
    · obtain ⟨u, rfl, r⟩ := y.ow j v o q1
      rcases ha with ha | ha
      · exact ⟨u, rfl, Ow.ev (evd ha) o u (fun _ _ _ z => z) r⟩
      · exact ⟨u, rfl, ha K S' S2 H' u r⟩
  · rcases cls q (fun z => nomatch z) with ⟨j', _, q1, _⟩ | ⟨j', _, q1, _⟩
    · exact x.rf j' v j π p q1
    · exact y.rf j' v j π p q1
  · rcases cls q (fun z => nomatch z) with ⟨j, _, q1, hn⟩ | ⟨j, fj, q1, ha⟩
    · obtain ⟨h1, h2⟩ := x.fp j v o b q1 hb
      exact ⟨(s2 b).mpr (.inl ⟨h1, hn o rfl b hb⟩), h2⟩
    · refine ⟨(s2 b).mpr (.inr ⟨i, j, v, o, fj, q, q1, hb⟩), ?_⟩
      rcases (cal q1 hb).2 with z | z
      · exact (hF b z).2
      · refine .inr ?_
        cases q2 : W.H0 b with
        | none => rfl
        | some u => exact absurd z (x.th b (by rw [q2]; exact fun z => nomatch z))
  · rcases cls q1 (fun z => nomatch z) with ⟨j, fj, r1, hn⟩ | ⟨j, fj, r1, _⟩
    · rcases cls q2 (fun z => nomatch z) with ⟨l, fl, r2, hn2⟩ | ⟨l, fl, r2, _⟩
      · exact x.dj j l v o w p b (fun z => inj i k ne (by rw [fj, fl, z]) v o w p q1 q2) r1 r2 hb
      · intro hb2
        rcases (cal r2 hb2).2 with z | z
        · exact hn o rfl b hb z
        · exact x.trk b (x.fp j v o b r1 hb).1 z
    · rcases cls q2 (fun z => nomatch z) with ⟨l, fl, r2, hn2⟩ | ⟨l, fl, r2, _⟩
      · intro hb2
        rcases (cal r1 hb).2 with z | z
        · exact hn2 p rfl b hb2 z
        · exact x.trk b (x.fp l w p b r2 hb2).1 z
      · exact y.dj j l v o w p b (fun z => inj i k ne (by rw [fj, fl, z]) v o w p q1 q2) r1 r2 hb
  · rcases cls q (fun z => nomatch z) with ⟨j, _, q1, _⟩ | ⟨j, _, q1, _⟩
    · exact x.nd j v o q1
    · exact y.nd j v o q1
end
end ML

/-! ## M3 -/
set_option Elab.async false
set_option linter.all false
set_option autoImplicit false
set_option maxRecDepth 100000
set_option maxHeartbeats 4000000
namespace ML
open PySem PySem.Spec PyProof.Rows L2

/-- an exception: its class, the names and the data of its fields -/
structure Exn where
  cls : Addr
  names : List Str
  vals : List D

abbrev VT := List Sl → (Sl → List Sl → Prop) → (Exn → List Sl → Prop) → Prop

def shs (vs : List V) (ds : List D) : List Cell := (vs.map some).zip (ds.map Sl.sh)
def DS (H : Hp) (d : Option Addr) (names : List Str) (vs : List V) : Prop := vs.length = names.length ∧ ((names = [] ∧ d = none) ∨ ∃ a, d = some a ∧ names ≠ [] ∧ H a = some (.xd (names.zip vs)))

structure SS (K : PySem.W.Frag) (W : Wd) (H : Hp) (σ : L2.St) (δ : List Sl) (π : List Cell) : Prop where
  len : σ.length = δ.length
  st : ML.St K W H (σ.zip δ ++ π)

def XR (K : PySem.W.Frag) (W : Wd) (wx : WX) (σ : L2.St) (π : List Cell) (Xd : Exn → List Sl → Prop) : Prop :=
  ∀ x δ', Xd x δ' → ∀ (d : Option Addr) (H' : Hp) (vs : List V), SS K W H' σ δ' (π ++ shs vs x.vals) → vs.length = x.vals.length → DS H' d x.names vs → wx (.ref x.cls) d σ H'

def lE (K : PySem.W.Frag) (W : Wd) (wx : WX) (t : VT) : TE := fun σ H Q => ∃ δ π Qd Xd, SS K W H σ δ π ∧ t δ Qd Xd ∧
  (∀ rv δ', Qd rv δ' → ∀ v H', SS K W H' σ δ' (π ++ [(some v, rv)]) → Q v H') ∧ XR K W wx σ π Xd

structure VE (X : Cx) (W : Wd) (wx : WX) (e : Expr) (t : VT) : Prop where
  pe : PE X e (lE X.K W wx t)

section
variable {X : Cx} {W : Wd} {wx : WX} {K : PySem.W.Frag} {H H' : Hp} {σ : L2.St} {δ δ' : List Sl} {π : List Cell}
theorem PE.imp {e : Expr} {t t' : TE} (h : PE X e t) (i : ∀ σ H Q, t' σ H Q → t σ H Q) : PE X e t' := ⟨fun pins s σ H Q I q => h.run pins s σ H Q I (i σ H Q q)⟩
theorem PT.imp {e : Expr} {t t' : TT} (h : PT X e t) (i : ∀ σ H Q, t' σ H Q → t σ H Q) : PT X e t' := ⟨fun pins s σ H Q I q => h.run pins s σ H Q I (i σ H Q q)⟩
theorem PA.imp {e : List Expr} {t t' : TA} (h : PA X e t) (i : ∀ σ H Q, t' σ H Q → t σ H Q) : PA X e t' := ⟨fun pos pins s σ H Q I q => h.run pos pins s σ H Q I (i σ H Q q)⟩
theorem PS.imp {e : Stmt} {t t' : TS} (h : PS X e t) (i : ∀ D σ H, t' D σ H → t D σ H) : PS X e t' := ⟨fun pins s σ H D I q => h.run pins s σ H D I (i D σ H q)⟩
theorem PSs.imp {e : List Stmt} {t t' : TS} (h : PSs X e t) (i : ∀ D σ H, t' D σ H → t D σ H) : PSs X e t' := ⟨fun pins s σ H D I q => h.run pins s σ H D I (i D σ H q)⟩

theorem SS.drop {ρ : List Cell} (s : SS K W H σ δ (π ++ ρ)) : SS K W H σ δ π := ⟨s.len, ML.St.drop (ds := ρ) (by rw [List.append_assoc]; exact s.st)⟩
theorem zip_get : ∀ {σ : L2.St} {δ : List Sl} {i : Nat} {sl : Sl}, σ.length = δ.length → δ[i]? = some sl → ∃ w, σ[i]? = some w ∧ (σ.zip δ)[i]? = some (w, sl)
  | [], [], _, _, _, h => by simp at h
  | [], _ :: _, _, _, h, _ => by simp at h
  | _ :: _, [], _, _, h, _ => by simp at h
  | w :: σ, d :: δ, 0, sl, _, h => by
    simp at h
    subst h
    exact ⟨w, rfl, rfl⟩
  | w :: σ, d :: δ, i + 1, sl, l, h => by
    obtain ⟨u, h1, h2⟩ := zip_get (σ := σ) (δ := δ) (i := i) (sl := sl) (by simpa using l) (by simpa using h)
    exact ⟨u, by simpa using h1, by simpa using h2⟩
theorem zip_set : ∀ {σ : L2.St} {δ : List Sl} {i : Nat} {w : Option V} {sl : Sl}, σ[i]? = some w → (σ.zip δ).set i (w, sl) = σ.zip (δ.set i sl)
  | [], _, _, _, _, h => by simp at h
  | _ :: _, [], _, _, _, _ => by simp
  | w :: σ, d :: δ, 0, u, sl, h => by
    simp at h
    subst h
    rfl
  | w :: σ, d :: δ, i + 1, u, sl, h => by
    have := zip_set (σ := σ) (δ := δ) (i := i) (w := u) (sl := sl) (by simpa using h)
    simp [this]
theorem zip_length {σ : L2.St} {δ : List Sl} (h : σ.length = δ.length) : (σ.zip δ).length = δ.length := by rw [List.length_zip, h, Nat.min_self]
theorem SS.cell (s : SS K W H σ δ π) {i : Nat} {sl : Sl} (h : δ[i]? = some sl) : ∃ w, σ[i]? = some w ∧ (σ.zip δ ++ π)[i]? = some (w, sl) := by
  obtain ⟨w, h1, h2⟩ := zip_get s.len h
  refine ⟨w, h1, ?_⟩
  rw [List.getElem?_append_left (List.getElem?_eq_some_iff.mp h2).1]
  exact h2
theorem SS.pushF {S : Addr → Prop} (s : SS K W H σ δ π) (x : StF K W H (σ.zip δ ++ π) S) {v : V} {d : D} (r : Rp K S H v d) : SS K W H σ δ (π ++ [(some v, .sh d)]) :=
  ⟨s.len, S, by rw [← List.append_assoc]; exact x.push r⟩
theorem SS.push (s : SS K W H σ δ π) {v : V} {d : D} (r : ∀ S, Rp K S H v d) : SS K W H σ δ (π ++ [(some v, .sh d)]) := by
  obtain ⟨S, x⟩ := s.st
  exact s.pushF x (r S)
theorem SS.blank (s : SS K W H σ δ π) {v : Option V} : SS K W H σ δ (π ++ [(v, .un)]) := by
  obtain ⟨S, x⟩ := s.st
  exact ⟨s.len, S, by rw [← List.append_assoc]; exact x.blank⟩
/-- what waits last is shared -/
theorem SS.shr {v : V} {sl : Sl} (s : SS K W H σ δ (π ++ [(some v, sl)])) (h : sl.isIn = true) : SS K W H σ δ (π ++ [(some v, .sh sl.get)]) := by
  cases sl with
  | un => cases h
  | rf _ _ _ => cases h
  | sh d => exact s
  | ow o =>
    obtain ⟨S, x⟩ := s.st
    rw [← List.append_assoc] at x
    have y := x.frz (i := (σ.zip δ ++ π).length) (v := some v) (o := o) snoc_last
    rw [List.set_append_right _ _ (Nat.le_refl _), Nat.sub_self] at y
    exact ⟨s.len, _, by rw [← List.append_assoc]; exact y⟩
/-- a slot's own value is shared -/
theorem SS.frz (s : SS K W H σ δ π) {i : Nat} {o : Ot} (h : δ[i]? = some (.ow o)) : SS K W H σ (δ.set i (.sh o.get)) π := by
  obtain ⟨w, h1, h2⟩ := s.cell h
  obtain ⟨S, x⟩ := s.st
  have y := x.frz h2
  have hi : i < (σ.zip δ).length := by rw [zip_length s.len]; exact (List.getElem?_eq_some_iff.mp h).1
  rw [List.set_append_left _ _ hi, zip_set h1] at y
  exact ⟨by rw [List.length_set]; exact s.len, _, y⟩
theorem SS.shv (s : SS K W H σ δ π) {i : Nat} {d : D} (h : δ[i]? = some (.sh d)) : ∃ v, σ[i]? = some (some v) ∧ SS K W H σ δ (π ++ [(some v, .sh d)]) := by
  obtain ⟨w, h1, h2⟩ := s.cell h
  obtain ⟨S, x⟩ := s.st
  obtain ⟨v, rfl, r⟩ := x.sh i w d h2
  exact ⟨v, h1, s.pushF x r⟩

/-! ### constants and names -/
def vC (d : D) : VT := fun δ Q _ => Q (.sh d) δ
theorem ve_int {i j pos} : VE X W wx (.Constant (.int i) j pos) (vC (.int i)) := ⟨PE.imp pe_int fun σ H Q ⟨δ, π, Qd, Xd, s, h, k, _⟩ => k _ _ h _ _ (s.push fun _ => .int i)⟩
theorem ve_bl {b j pos} : VE X W wx (.Constant (.bool b) j pos) (vC (.bool b)) := ⟨PE.imp pe_bl fun σ H Q ⟨δ, π, Qd, Xd, s, h, k, _⟩ => k _ _ h _ _ (s.push fun _ => .bl b)⟩
theorem ve_non {j pos} : VE X W wx (.Constant .none j pos) (vC .none) := ⟨PE.imp pe_non fun σ H Q ⟨δ, π, Qd, Xd, s, h, k, _⟩ => k _ _ h _ _ (s.push fun _ => .non)⟩
theorem ve_str {x j pos} (hx : okS x = true := by decide +kernel) : VE X W wx (.Constant (.str x) j pos) (vC (.str x)) := ⟨PE.imp pe_str fun σ H Q ⟨δ, π, Qd, Xd, s, h, k, _⟩ => k _ _ h _ _ (s.push fun _ => .str x hx)⟩
/-- a name's value, from then on shared -/
def vV (i : Nat) : VT := fun δ Q _ => match δ[i]? with
  | some (.sh d) => Q (.sh d) δ
  | some (.ow o) => Q (.sh o.get) (δ.set i (.sh o.get))
  | _ => False
theorem vV_run {i : Nat} {Q : VK} (h : lE K W wx (vV i) σ H Q) : tVar i σ H Q := by
  obtain ⟨δ, π, Qd, Xd, s, h, k, _⟩ := h
  have h0 : (match δ[i]? with | some (.sh d) => Qd (.sh d) δ | some (.ow o) => Qd (.sh o.get) (δ.set i (.sh o.get)) | _ => False) := h
  cases e : δ[i]? with
  | none => rw [e] at h0; exact h0.elim
  | some sl =>
    rw [e] at h0
    cases sl with
    | sh d =>
      obtain ⟨v, h1, s1⟩ := s.shv e
      exact ⟨v, h1, k _ _ h0 _ _ s1⟩
    | ow o =>
      have s1 := s.frz e
      obtain ⟨v, h1, s2⟩ := s1.shv (i := i) (d := o.get) (by rw [List.getElem?_set_self (List.getElem?_eq_some_iff.mp e).1])
      exact ⟨v, h1, k _ _ h0 _ _ s2⟩
    | _ => exact h0.elim
theorem ve_var (i : Nat) {x : Str} {pos : Pos} (hN : X.N[i]? = some x := by rfl) (hv : Vis X.env.scope x := by first | exact Or.inl rfl | exact Or.inr (Or.inl rfl) | exact Or.inr (Or.inr rfl)) (hd : (x == ("__debug__" : Str)) = false := by decide)
    (hcd : (x == ("__classdict__" : Str)) = false := by decide) : VE X W wx (.Name x pos) (vV i) := ⟨PE.imp (pe_var hN hv hd hcd) fun _ _ _ h => vV_run h⟩
/-- a name's value; what it owns goes with it -/
def vMv (i : Nat) : VT := fun δ Q _ => match δ[i]? with
  | some (.sh d) => Q (.sh d) δ
  | some (.ow o) => Q (.ow o) (δ.set i .un)
  | _ => False
theorem SS.mv (s : SS K W H σ δ π) {i : Nat} {o : Ot} (h : δ[i]? = some (.ow o)) : ∃ v, σ[i]? = some (some v) ∧ SS K W H σ (δ.set i .un) (π ++ [(some v, .ow o)]) := by
  obtain ⟨w, h1, h2⟩ := s.cell h
  obtain ⟨S, x⟩ := s.st
  obtain ⟨v, rfl, _⟩ := x.ow i w o h2
  have hi : i < δ.length := (List.getElem?_eq_some_iff.mp h).1
  have lz := zip_length s.len
  refine ⟨v, h1, by rw [List.length_set]; exact s.len, S, x.re (cs' := σ.zip (δ.set i .un) ++ (π ++ [(some v, .ow o)])) (fun j => if j = (σ.zip δ ++ π).length then i else j) (fun j c q => ?_) (fun j k n q => ?_)⟩
  · have lz2 : (σ.zip (δ.set i .un)).length = (σ.zip δ).length := by rw [zip_length (by rw [List.length_set]; exact s.len), lz, List.length_set]
    rw [← List.append_assoc] at q
    rcases getElem?_snoc q with ⟨hl, q⟩ | ⟨hl, q⟩
    · have nl : j ≠ (σ.zip δ ++ π).length := by rw [List.length_append, lz2, ← List.length_append] at hl; omega
      rw [if_neg nl]
      by_cases hj : j = i
      · subst hj
        rw [List.getElem?_append_left (by rw [lz2, lz]; exact hi), ← zip_set (σ := σ) h1, List.getElem?_set_self (by rw [lz]; exact hi)] at q
        cases q
        exact .inl rfl
      · refine .inr ?_
        by_cases hz : j < (σ.zip δ).length
        · rw [List.getElem?_append_left (by rw [lz2]; exact hz), ← zip_set (σ := σ) h1, List.getElem?_set_ne (fun z => hj z.symm)] at q
          rw [List.getElem?_append_left hz]
          exact q
        · rw [List.getElem?_append_right (by omega), lz2] at q
          rw [List.getElem?_append_right (by omega)]
          exact q
    · rw [List.length_append, lz2, ← List.length_append] at hl
      rw [if_pos hl, q]
      exact .inr h2
  · intro v1 o1 v2 o2 q1 q2
    have lz2 : (σ.zip (δ.set i .un)).length = (σ.zip δ).length := by rw [zip_length (by rw [List.length_set]; exact s.len), lz, List.length_set]
    have self : (σ.zip (δ.set i .un) ++ (π ++ [(some v, Sl.ow o)]))[i]? = some (some v, .un) := by
      rw [List.getElem?_append_left (by rw [lz2, lz]; exact hi), ← zip_set (σ := σ) h1, List.getElem?_set_self (by rw [lz]; exact hi)]
    by_cases a1 : j = (σ.zip δ ++ π).length
    · by_cases a2 : k = (σ.zip δ ++ π).length
      · exact n (a1.trans a2.symm)
      · rw [if_pos a1, if_neg a2] at q
        rw [← q, self] at q2
        cases q2
    · by_cases a2 : k = (σ.zip δ ++ π).length
      · rw [if_neg a1, if_pos a2] at q
        rw [q, self] at q1
        cases q1
      · rw [if_neg a1, if_neg a2] at q
        exact n q
theorem ve_mv (i : Nat) {x : Str} {pos : Pos} (hN : X.N[i]? = some x := by rfl) (hv : Vis X.env.scope x := by first | exact Or.inl rfl | exact Or.inr (Or.inl rfl) | exact Or.inr (Or.inr rfl)) (hd : (x == ("__debug__" : Str)) = false := by decide)
    (hcd : (x == ("__classdict__" : Str)) = false := by decide) : VE X W wx (.Name x pos) (vMv i) := ⟨PE.imp (pe_var hN hv hd hcd) fun σ H Q h => by
  obtain ⟨δ, π, Qd, Xd, s, h, k, _⟩ := h
  have h0 : (match δ[i]? with | some (.sh d) => Qd (.sh d) δ | some (.ow o) => Qd (.ow o) (δ.set i .un) | _ => False) := h
  cases e : δ[i]? with
  | none => rw [e] at h0; exact h0.elim
  | some sl =>
    rw [e] at h0
    cases sl with
    | sh d =>
      obtain ⟨v, h1, s1⟩ := s.shv e
      exact ⟨v, h1, k _ _ h0 _ _ s1⟩
    | ow o =>
      obtain ⟨v, h1, s1⟩ := s.mv e
      exact ⟨v, h1, k _ _ h0 _ _ s1⟩
    | _ => exact h0.elim⟩
/-- a module's constant -/
theorem ve_glob {x : Str} {u : Value} {pos : Pos} {v : V} {d : D} (hm : X.mg x = some u) (r : RelV v u) (hr : ∀ S H, Rp X.K S H v d) (hg : Gl X x := by rfl) (hd : (x == ("__debug__" : Str)) = false := by decide) : VE X W wx (.Name x pos) (vC d) :=
  ⟨PE.imp (pe_glob hg hm r hd) fun σ H Q ⟨δ, π, Qd, Xd, s, h, k, _⟩ => k _ _ h _ _ (s.push fun S => hr S H)⟩
/-- the value is shared from then on -/
def vS (t : VT) : VT := fun δ Q Xc => t δ (fun rv δ' => rv.isIn = true ∧ Q (.sh rv.get) δ') Xc
theorem ve_sh {e : Expr} {t : VT} (h : VE X W wx e t) : VE X W wx e (vS t) := ⟨PE.imp h.pe fun σ H Q ⟨δ, π, Qd, Xd, s, h, k, xr⟩ =>
  ⟨δ, π, _, Xd, s, h, fun rv δ' q v H' s' => k _ _ q.2 v H' (s'.shr q.1), xr⟩⟩

/-! ### operands -/
/-- an operand: a value that is reckoned; a name, looked at when the operation is done -/
inductive Opr where
  | pd (t : VT)
  | pk (i : Nat)
def inAt (δ : List Sl) (i : Nat) : Prop := match δ[i]? with
  | some (.sh _) => True
  | some (.ow _) => True
  | some (.rf _ _ _) => True
  | _ => False
def Opr.ev : Opr → VT
  | .pd t => t
  | .pk i => fun δ Q _ => inAt δ i ∧ Q .un δ
/-- what the operand holds when the operation is done -/
def Opr.sl : Opr → Sl → List Sl → Option Sl
  | .pd _, r, _ => some r
  | .pk i, _, δ => δ[i]?
/-- m: looked at alone -/
def Sl.read (m : Bool) (δ : List Sl) (s : Sl) : Option D := match m with
  | false => s.rd δ
  | true => s.ra δ
def Opr.fin (m : Bool) (o : Opr) (r : Sl) (δ : List Sl) : Option D := match o with
  | .pd _ => r.read m δ
  | .pk i => (δ[i]?).bind (Sl.read m δ)
def Opr.is : Opr → L2.St → V → Prop
  | .pd _, _, _ => True
  | .pk i, σ, v => σ[i]? = some (some v)

structure VOt (X : Cx) (W : Wd) (wx : WX) (e : Expr) (o : Opr) (te : TE) : Prop where
  pe : PE X e te
  run : ∀ σ H δ π Qd Xd (Q : VK), SS X.K W H σ δ π → o.ev δ Qd Xd → XR X.K W wx σ π Xd → (∀ rv δ', Qd rv δ' → ∀ v H', SS X.K W H' σ δ' (π ++ [(some v, rv)]) → o.is σ v → Q v H') → te σ H Q
def VO (X : Cx) (W : Wd) (wx : WX) (e : Expr) (o : Opr) : Prop := ∃ te, VOt X W wx e o te
theorem vo_pd {e : Expr} {t : VT} (h : VE X W wx e t) : VO X W wx e (.pd t) :=
  ⟨_, h.pe, fun σ H δ π Qd Xd Q s q xr k => ⟨δ, π, Qd, Xd, s, q, fun rv δ' q' v H' s' => k rv δ' q' v H' s' trivial, xr⟩⟩
theorem SS.inAt (s : SS K W H σ δ π) {i : Nat} (h : ML.inAt δ i) : ∃ v, σ[i]? = some (some v) := by
  have h' : (match δ[i]? with | some (.sh _) => True | some (.ow _) => True | some (.rf _ _ _) => True | _ => False) := h
  cases e : δ[i]? with
  | none => rw [e] at h'; exact h'.elim
  | some sl =>
    rw [e] at h'
    obtain ⟨w, h1, h2⟩ := s.cell e
    obtain ⟨S, x⟩ := s.st
    cases sl with
    | sh d =>
      obtain ⟨v, rfl, r⟩ := x.sh i w d h2
      exact ⟨v, h1⟩
    | ow o =>
      obtain ⟨v, rfl, r⟩ := x.ow i w o h2
      exact ⟨v, h1⟩
    | rf j ρ p =>
      rw [x.rf i w j ρ p h2] at h1
      exact ⟨_, h1⟩
    | _ => exact h'.elim
theorem vo_pk (i : Nat) {x : Str} {pos : Pos} (hN : X.N[i]? = some x := by rfl) (hv : Vis X.env.scope x := by first | exact Or.inl rfl | exact Or.inr (Or.inl rfl) | exact Or.inr (Or.inr rfl)) (hd : (x == ("__debug__" : Str)) = false := by decide)
    (hcd : (x == ("__classdict__" : Str)) = false := by decide) : VO X W wx (.Name x pos) (.pk i) := by
  refine ⟨_, pe_var hN hv hd hcd, fun σ H δ π Qd Xd Q s q xr k => ?_⟩
  obtain ⟨q1, q2⟩ := q
  obtain ⟨v, h1⟩ := s.inAt q1
  exact ⟨v, h1, k _ _ q2 _ _ s.blank h1⟩

/-- a value that is read now: shared, or one of one's own with shared items -/
def Rq (K : PySem.W.Frag) (S : Addr → Prop) (H : Hp) (v : V) (d : D) : Prop :=
  Rp K S H v d ∨ ∃ (s : Sh) (xs : List V) (ds : List D), v = .ref s.root ∧ d = s.datR ds ∧ s.holds H xs ∧ Rps K S H xs ds
/-- .. or any of one's own, to be looked at alone -/
def RqA (K : PySem.W.Frag) (S : Addr → Prop) (H : Hp) (v : V) (d : D) : Prop :=
  Rp K S H v d ∨ ∃ o, d = o.get ∧ Ow K S H v o
def Rr (m : Bool) (K : PySem.W.Frag) (S : Addr → Prop) (H : Hp) (v : V) (d : D) : Prop := match m with
  | false => Rq K S H v d
  | true => RqA K S H v d
theorem Ow.rq {S : Addr → Prop} {v : V} {o : Ot} {d : D} (w : Ow K S H v o) (h : o.rd = some d) : Rq K S H v d := by
  cases w with
  | leaf r => cases h; exact .inl r
  | @nod s xs os h1 h2 =>
    have h' : (leaves? os).map s.datR = some d := h
    obtain ⟨ds, e1, rfl⟩ := Option.map_eq_some_iff.mp h'
    have e2 := of_leaves? e1
    subst e2
    exact .inr ⟨s, xs, ds, rfl, rfl, h1, Ows.of_leaves h2⟩
theorem plc_some {δ : List Sl} {i : Nat} {ρ : List Step} {p : Addr} {o1 : Ot} (h : plc δ i ρ p = some o1) : ∃ o, δ[i]? = some (.ow o) ∧ o.at ρ = some o1 ∧ o1.root = some p := by
  unfold plc at h
  split at h
  · rename_i o e
    split at h
    · rename_i o2 e2
      by_cases q : o2.root = some p
      · rw [if_pos q] at h
        cases h
        exact ⟨o, e, e2, q⟩
      · rw [if_neg q] at h; cases h
    · cases h
  · cases h
theorem zipcell {ρ : List Cell} {i : Nat} {sl : Sl} (len : σ.length = δ.length) (h : δ[i]? = some sl) : ∃ w, σ[i]? = some w ∧ (σ.zip δ ++ ρ)[i]? = some (w, sl) := by
  obtain ⟨w, h1, h2⟩ := zip_get len h
  exact ⟨w, h1, by rw [List.getElem?_append_left (List.getElem?_eq_some_iff.mp h2).1]; exact h2⟩
theorem StF.plc {S : Addr → Prop} {ρ : List Cell} (len : σ.length = δ.length) (x : StF K W H (σ.zip δ ++ ρ) S) {i : Nat} {τ : List Step} {p : Addr} {o1 : Ot} (h : ML.plc δ i τ p = some o1) : Ow K S H (.ref p) o1 := by
  obtain ⟨o, e, e2, e3⟩ := plc_some h
  obtain ⟨w, h1, h2⟩ := zipcell (ρ := ρ) len e
  obtain ⟨u, _, wo⟩ := x.ow i w o h2
  obtain ⟨u1, w1⟩ := wo.at e2
  have := w1.root e3
  subst this
  exact w1
theorem StF.rr {m : Bool} {S : Addr → Prop} {ρ : List Cell} (len : σ.length = δ.length) (x : StF K W H (σ.zip δ ++ ρ) S) {i : Nat} {v : V} {sl : Sl} {d : D} (e : (σ.zip δ ++ ρ)[i]? = some (some v, sl)) (h : sl.read m δ = some d) : Rr m K S H v d := by
  cases sl with
  | un => cases m <;> cases h
  | sh d' =>
    obtain ⟨u, eu, r⟩ := x.sh i _ _ e
    cases eu
    cases m <;> (cases h; exact .inl r)
  | ow o =>
    obtain ⟨u, eu, r⟩ := x.ow i _ _ e
    cases eu
    cases m with
    | false => exact Ow.rq r h
    | true => cases h; exact .inr ⟨o, rfl, r⟩
  | rf j τ p =>
    have ev := x.rf i _ j τ p e
    cases ev
    cases m with
    | false =>
      obtain ⟨o1, q1, q2⟩ := Option.bind_eq_some_iff.mp (show (ML.plc δ j τ p).bind Ot.rd = some d from h)
      exact Ow.rq (StF.plc len x q1) q2
    | true =>
      obtain ⟨o1, q1, q2⟩ := Option.map_eq_some_iff.mp (show (ML.plc δ j τ p).map Ot.get = some d from h)
      exact .inr ⟨o1, q2.symm, StF.plc len x q1⟩
theorem Rq.lst {S : Addr → Prop} {v : V} {ds : List D} (h : Rq K S H v (.list ds)) : ∃ p xs, v = .ref p ∧ H p = some (.lst xs) ∧ Rps K S H xs ds := by
  rcases h with h | ⟨s, xs, es, rfl, e, h1, h2⟩
  · cases h with
    | lst h1 h2 => exact ⟨_, _, rfl, h1.1, h2⟩
  · cases s with
    | lst p => cases e; exact ⟨p, xs, rfl, h1, h2⟩
    | _ => cases e
theorem Rq.list {S : Addr → Prop} {v : V} {ds : List D} (h : Rq K S H v (.list ds)) : ∃ p xs, v = .ref p ∧ SqL K H p xs ∧ Rps K S H xs ds := by
  obtain ⟨p, xs, e, h1, h2⟩ := h.lst
  exact ⟨p, xs, e, SqL.of h1, h2⟩
theorem Rq.lck {S : Addr → Prop} {v : V} {ds : List D} (h : Rq K S H v (lkD ds)) : ∃ p xs, v = .ref p ∧ SqL K H p xs ∧ Rps K S H xs ds := by
  have key : ∀ t, RpX K S H t → ∀ v ds, t = .one v (lkD ds) → ∃ p xs, v = .ref p ∧ SqL K H p xs ∧ Rps K S H xs ds := by
    intro t ht v ds e
    cases ht with
    | @lck a xs es h1 h2 =>
      injection e with e1 e2
      unfold lkD at e2
      injection e2 with e2
      injection e2 with e2 _
      injection e2 with _ e2
      injection e2 with e2
      subst e1 e2
      exact ⟨_, _, rfl, h1.sq, h2⟩
    | @dct a ks xs es h1 h2 h3 h4 h5 h6 =>
      exfalso
      injection e with e1 e2
      unfold lkD dctD at e2
      injection e2 with e2
      cases ks with
      | nil => cases e2
      | cons k ks =>
        cases es with
        | nil => cases e2
        | cons d es => cases k <;> cases e2
    | obj h1 h2 h3 h4 h5 h6 =>
      exfalso
      injection e with e1 e2
      unfold lkD objD at e2
      injection e2 with e2
      injection e2 with e2 _
      cases e2
    | rng h1 h2 =>
      exfalso
      injection e with e1 e2
      unfold lkD rgD at e2
      injection e2 with e2
      injection e2 with e2 _
      injection e2 with e2 _
      cases e2
    | _ => cases e
  rcases h with h | ⟨s, xs, es, rfl, e, h1, h2⟩
  · exact key _ h _ _ rfl
  · exfalso
    cases s with
    | lst p => cases e
    | dct p ks =>
      have e' : lkD ds = dctD ks es := e
      unfold lkD dctD at e'
      injection e' with e'
      cases ks with
      | nil => cases e'
      | cons k ks =>
        cases es with
        | nil => cases e'
        | cons d es => cases k <;> cases e'
    | tup p =>
      have e' : lkD ds = .dict [(.none, .none)] := e
      unfold lkD at e'
      injection e' with e'
      injection e' with e' _
      cases e'
    | lkd p ks us o =>
      have e' : lkD ds = dctD ks es := e
      unfold lkD dctD at e'
      injection e' with e'
      cases ks with
      | nil => cases e'
      | cons k ks =>
        cases es with
        | nil => cases e'
        | cons d es => cases k <;> cases e'
    | obj p dx C ks =>
      have e' : lkD ds = objD C ks es := e
      unfold lkD objD at e'
      injection e' with e'
      injection e' with e' _
      cases e'
theorem Rq.tup {S : Addr → Prop} {v : V} {ds : List D} (h : Rq K S H v (.tuple ds)) : ∃ p xs, v = .ref p ∧ SqT K H p xs ∧ Rps K S H xs ds := by
  rcases h with h | ⟨s, xs, es, rfl, e, h1, h2⟩
  · cases h with
    | tup h1 h2 => exact ⟨_, _, rfl, h1.sq, h2⟩
  · cases s <;> cases e
theorem Rq.rp {S : Addr → Prop} {v : V} {ds : List D} (h : Rq K S H v (.tuple ds)) : Rp K S H v (.tuple ds) := by
  rcases h with h | ⟨s, xs, es, rfl, e, h1, h2⟩
  · exact h
  · cases s <;> cases e
theorem Rr.rp {m : Bool} {S : Addr → Prop} {v : V} {d : D} (a : atom d = true) (h : Rr m K S H v d) : Rp K S H v d := by
  cases m with
  | false =>
    rcases h with h | ⟨s, xs, es, rfl, e, h1, h2⟩
    · exact h
    · subst e; cases s <;> cases a
  | true =>
    rcases h with h | ⟨o, e, h⟩
    · exact h
    · cases h with
      | leaf r => cases e; exact r
      | @nod s xs os h1 h2 => subst e; cases s <;> cases a
theorem Rr.int {m : Bool} {S : Addr → Prop} {v : V} {i : Int} (h : Rr m K S H v (.int i)) : v = .int i := by
  cases Rr.rp rfl h; rfl
theorem Rr.bool {m : Bool} {S : Addr → Prop} {v : V} {i : Bool} (h : Rr m K S H v (.bool i)) : v = .bl i := by
  cases Rr.rp rfl h; rfl
theorem Rr.str {m : Bool} {S : Addr → Prop} {v : V} {i : Str} (h : Rr m K S H v (.str i)) : v = .str i := by
  cases Rr.rp rfl h; rfl
theorem Rr.okS {m : Bool} {S : Addr → Prop} {v : V} {i : Str} (h : Rr m K S H v (.str i)) : okS i = true := by
  cases Rr.rp rfl h with | str _ q => exact q
theorem Rr.none {m : Bool} {S : Addr → Prop} {v : V} (h : Rr m K S H v .none) : v = .non := by
  cases Rr.rp rfl h; rfl
theorem Rq.int {S : Addr → Prop} {v : V} {i : Int} (h : Rq K S H v (.int i)) : v = .int i := Rr.int (m := false) h
theorem Rq.bool {S : Addr → Prop} {v : V} {i : Bool} (h : Rq K S H v (.bool i)) : v = .bl i := Rr.bool (m := false) h
theorem Rq.str {S : Addr → Prop} {v : V} {i : Str} (h : Rq K S H v (.str i)) : v = .str i := Rr.str (m := false) h
theorem Rq.okS {S : Addr → Prop} {v : V} {i : Str} (h : Rq K S H v (.str i)) : ML.okS i = true := Rr.okS (m := false) h
theorem Rq.none {S : Addr → Prop} {v : V} (h : Rq K S H v .none) : v = .non := Rr.none (m := false) h
mutual
theorem Ow.dp {S : Addr → Prop} : ∀ (o : Ot) (v : V), noD o.get = true → Ow K S H v o → Dp K H v o.get
  | .leaf d, _, n, h => by
    cases h with
    | leaf r => rw [Ot.get] at n ⊢; exact Rp.dp d _ n r
  | .nod s os, _, n, h => by
    cases h with
    | nod h1 h2 =>
      rw [Ot.get] at n ⊢
      cases s with
      | lst p => exact .lst (SqL.of h1) (Ows.dp os _ (by simpa [Sh.data, noD] using n) h2)
      | dct p ks => simp [Sh.data, dctD, noD] at n
      | tup p => exact .tup (TsR.sq (S := fun _ => False) (.inl ⟨.inl h1, fun z => z⟩)) (Ows.dp os _ (by simpa [Sh.data, noD] using n) h2)
      | lkd p ks us o => simp [Sh.data, dctD, noD] at n
      | obj p dx C ks => simp [Sh.data, objD, noD] at n
theorem Ows.dp {S : Addr → Prop} : ∀ (os : List Ot) (vs : List V), noDs (Ot.gets os) = true → Ows K S H vs os → DpAll K H vs (Ot.gets os)
  | [], _, _, h => by cases h; rw [Ot.gets]; exact .nil
  | o :: os, _, n, h => by
    cases h with
    | cons h1 h2 =>
      rw [Ot.gets] at n ⊢
      have n' : noD o.get = true ∧ noDs (Ot.gets os) = true := by simpa [noDs] using n
      exact .cons (Ow.dp o _ n'.1 h1) (Ows.dp os _ n'.2 h2)
end
theorem RqA.dp {S : Addr → Prop} {v : V} {d : D} (n : noD d = true) (h : RqA K S H v d) : Dp K H v d := by
  rcases h with h | ⟨o, rfl, h⟩
  · exact Rp.dp d v n h
  · exact Ow.dp o v n h
theorem RqA.list {S : Addr → Prop} {v : V} {ds : List D} (h : RqA K S H v (.list ds)) : ∃ p xs, v = .ref p ∧ SqL K H p xs ∧ xs.length = ds.length := by
  rcases h with h | ⟨o, e, h⟩
  · cases h with
    | lst h1 h2 => exact ⟨_, _, rfl, h1.sq, Rps.length h2⟩
  · cases h with
    | leaf r =>
      rw [Ot.get] at e
      subst e
      cases r with
      | lst h1 h2 => exact ⟨_, _, rfl, h1.sq, Rps.length h2⟩
    | @nod s xs os h1 h2 =>
      rw [Ot.get] at e
      cases s with
      | lst p =>
        cases e
        exact ⟨p, xs, rfl, SqL.of h1, by rw [h2.length, Ot.gets_map, List.length_map]⟩
      | _ => cases e
theorem Ows.atoms {S : Addr → Prop} : ∀ {os : List Ot} {vs : List V}, (Ot.gets os).all atom = true → Ows K S H vs os → Rps K S H vs (Ot.gets os)
  | [], _, _, h => by cases h; rw [Ot.gets]; exact .nil
  | o :: os, _, n, h => by
    cases h with
    | cons h1 h2 =>
      rw [Ot.gets, List.all_cons, Bool.and_eq_true] at n
      rw [Ot.gets]
      refine .cons ?_ (Ows.atoms n.2 h2)
      cases h1 with
      | leaf r => rw [Ot.get]; exact r
      | @nod s xs os' g1 g2 =>
        exfalso
        have n1 := n.1
        rw [Ot.get] at n1
        cases s <;> cases n1
theorem RqA.tup {S : Addr → Prop} {v : V} {ds : List D} (h : RqA K S H v (.tuple ds)) : ∃ p xs, v = .ref p ∧ SqT K H p xs ∧ xs.length = ds.length ∧ (ds.all atom = true → Rps K S H xs ds) := by
  rcases h with h | ⟨o, e, h⟩
  · cases h with
    | tup h1 h2 => exact ⟨_, _, rfl, h1.sq, Rps.length h2, fun _ => h2⟩
  · cases h with
    | leaf r =>
      rw [Ot.get] at e
      subst e
      cases r with
      | tup h1 h2 => exact ⟨_, _, rfl, h1.sq, Rps.length h2, fun _ => h2⟩
    | @nod s xs os h1 h2 =>
      rw [Ot.get] at e
      cases s with
      | tup p =>
        cases e
        exact ⟨p, xs, rfl, TsR.sq (S := fun _ => False) (.inl ⟨.inl h1, fun z => z⟩), by rw [h2.length, Ot.gets_map, List.length_map], fun a => Ows.atoms a h2⟩
      | _ => cases e

/-- what an operation hands back: something that is there, a new list, a new tuple -/
inductive NewV (K : PySem.W.Frag) (S : Addr → Prop) (H : Hp) : V → Hp → Rs → Prop
  | old {v : V} {d : D} : Rp K S H v d → NewV K S H v H (.sh d)
  | lst {p : Addr} {xs : List V} {ds : List D} : H p = none → Rps K S H xs ds → NewV K S H (.ref p) (upd H p (.lst xs)) (.nw ds)
  | tup {p : Addr} {xs : List V} {ds : List D} : H p = none → Rps K S H xs ds → NewV K S H (.ref p) (upd H p (.tup xs)) (.sh (.tuple ds))
  | rng {p : Addr} {i j : Int} : H p = none → NewV K S H (.ref p) (upd H p (.rng i j)) (.sh (rgD i j))
theorem SS.new {S : Addr → Prop} (s : SS K W H σ δ π) (x : StF K W H (σ.zip δ ++ π) S) {v : V} {sl : Rs} (h : NewV K S H v H' sl) : ∃ p, SS K W H' σ δ (π ++ [(some v, sl.to p)]) := by
  cases h with
  | old r => exact ⟨0, s.pushF x r⟩
  | @lst p _ _ hp r => exact ⟨p, s.len, _, by rw [← List.append_assoc]; exact x.newL hp r⟩
  | tup hp r => exact ⟨0, s.len, _, by rw [← List.append_assoc]; exact x.newT hp r⟩
  | rng hp => exact ⟨0, s.len, _, by rw [← List.append_assoc]; exact x.newR hp⟩
theorem SS.restrict {ρ : List Cell} {S : Addr → Prop} (x : StF K W H (σ.zip δ ++ (π ++ ρ)) S) : StF K W H (σ.zip δ ++ π) S :=
  x.re (fun i => i) (fun i c e => .inr (by
    have hi : i < (σ.zip δ ++ π).length := (List.getElem?_eq_some_iff.mp e).1
    rw [← List.append_assoc, List.getElem?_append_left hi]
    exact e)) (fun i j n q => absurd q n)
/-- an operand's data, at the operation -/
theorem Opr.read {m : Bool} {o : Opr} {S : Addr → Prop} {rv : Sl} {v : V} {d : D} {ρ : List Cell} (len : σ.length = δ.length) (x : StF K W H (σ.zip δ ++ (π ++ ((some v, rv) :: ρ))) S) (hi : o.is σ v) (h : o.fin m rv δ = some d) : Rr m K S H v d := by
  cases o with
  | pd t =>
    refine StF.rr len x (i := (σ.zip δ ++ π).length) (sl := rv) ?_ h
    rw [← List.append_assoc, List.getElem?_append_right (Nat.le_refl _), Nat.sub_self]
    rfl
  | pk i =>
    have hi' : σ[i]? = some (some v) := hi
    have h' : (δ[i]?).bind (Sl.read m δ) = some d := h
    obtain ⟨sl, e1, e2⟩ := Option.bind_eq_some_iff.mp h'
    obtain ⟨w, q1, q2⟩ := zipcell (ρ := π ++ ((some v, rv) :: ρ)) len e1
    rw [hi'] at q1
    cases q1
    exact StF.rr len x q2 e2

/-! ### operations of one, two and three operands, by values -/
def vv1 (m : Bool) (f : D → Option Rs) (a : Opr) : VT := fun δ Q Xc => a.ev δ (fun ra δ1 => ∃ x r, a.fin m ra δ1 = some x ∧ f x = some r ∧ ∀ p, Q (r.to p) δ1) Xc
def vv2 (m : Bool) (f : D → D → Option Rs) (a b : Opr) : VT := fun δ Q Xc => a.ev δ (fun ra δ1 => b.ev δ1 (fun rb δ2 => ∃ x y r, a.fin m ra δ2 = some x ∧ b.fin m rb δ2 = some y ∧ f x y = some r ∧ ∀ p, Q (r.to p) δ2) Xc) Xc
def vv3 (m : Bool) (f : D → D → D → Option Rs) (a b c : Opr) : VT := fun δ Q Xc => a.ev δ (fun ra δ1 => b.ev δ1 (fun rb δ2 => c.ev δ2 (fun rc δ3 => ∃ x y z r, a.fin m ra δ3 = some x ∧ b.fin m rb δ3 = some y ∧ c.fin m rc δ3 = some z ∧ f x y z = some r ∧ ∀ p, Q (r.to p) δ3) Xc) Xc) Xc
def SndN1 (m : Bool) (K : PySem.W.Frag) (r : V → Hp → VK → Prop) (f : D → Option Rs) : Prop := ∀ S H x d res (Q : VK), Rr m K S H x d → f d = some res → (∀ v H', NewV K S H v H' res → Q v H') → r x H Q
def SndN2 (m : Bool) (K : PySem.W.Frag) (r : R2) (f : D → D → Option Rs) : Prop := ∀ S H x y d e res (Q : VK), Rr m K S H x d → Rr m K S H y e → f d e = some res → (∀ v H', NewV K S H v H' res → Q v H') → r x y H Q
def SndN3 (m : Bool) (K : PySem.W.Frag) (r : V → V → V → Hp → VK → Prop) (f : D → D → D → Option Rs) : Prop := ∀ S H x y z d e g res (Q : VK), Rr m K S H x d → Rr m K S H y e → Rr m K S H z g → f d e g = some res → (∀ v H', NewV K S H v H' res → Q v H') → r x y z H Q
abbrev v1 := vv1 false
abbrev v2 := vv2 false
abbrev v3 := vv3 false
abbrev w1 := vv1 true
abbrev w2 := vv2 true
abbrev Snd1 := SndN1 false
abbrev Snd2 := SndN2 false
abbrev Snd3 := SndN3 false
theorem XR.more {ρ : List Cell} {Xd : Exn → List Sl → Prop} (h : XR K W wx σ π Xd) : XR K W wx σ (π ++ ρ) Xd := fun x δ' q d H' vs s l e => by
  refine h x δ' q d H' vs ⟨s.len, ?_⟩ l e
  obtain ⟨S, y⟩ := s.st
  refine ⟨S, y.re (fun i => if i < (σ.zip δ' ++ π).length then i else i + ρ.length) (fun i c q => .inr ?_) (fun i j n q => ?_)⟩
  · by_cases hi : i < (σ.zip δ' ++ π).length
    · rw [if_pos hi]
      rw [← List.append_assoc, List.getElem?_append_left hi] at q
      rw [List.append_assoc π, ← List.append_assoc, List.getElem?_append_left hi]
      exact q
    · rw [if_neg hi]
      have hi' := Nat.le_of_not_lt hi
      rw [← List.append_assoc, List.getElem?_append_right hi'] at q
      rw [← List.append_assoc, ← List.append_assoc, List.getElem?_append_right (by rw [List.length_append]; omega), List.length_append]
      rw [← q]
      congr 1
      omega
  · by_cases h1 : i < (σ.zip δ' ++ π).length
    · by_cases h2 : j < (σ.zip δ' ++ π).length
      · rw [if_pos h1, if_pos h2] at q; exact absurd q n
      · rw [if_pos h1, if_neg h2] at q; omega
    · by_cases h2 : j < (σ.zip δ' ++ π).length
      · rw [if_neg h1, if_pos h2] at q; omega
      · rw [if_neg h1, if_neg h2] at q; omega
theorem run1 {m : Bool} {r : V → Hp → VK → Prop} {f : D → Option Rs} {a : Expr} {oa : Opr} {ta : TE} {Q : VK} (A : VOt X W wx a oa ta) (snd : SndN1 m X.K r f) (h : lE X.K W wx (vv1 m f oa) σ H Q) : ta σ H fun x H1 => r x H1 Q := by
  obtain ⟨δ, π, Qd, Xd, s, h, k, xr⟩ := h
  refine A.run σ H δ π _ Xd _ s h xr fun ra δ1 q v H1 s1 i1 => ?_
  obtain ⟨x, res, e1, e2, q⟩ := q
  obtain ⟨S, y⟩ := s1.st
  refine snd S H1 v x res Q (Opr.read (ρ := []) s1.len y i1 e1) e2 fun v' H' nv => ?_
  obtain ⟨p, s2⟩ := s1.drop.new (SS.restrict y) nv
  exact k _ _ (q p) _ _ s2
theorem run2 {m : Bool} {r : R2} {f : D → D → Option Rs} {a b : Expr} {oa ob : Opr} {ta tb : TE} {Q : VK} (A : VOt X W wx a oa ta) (B : VOt X W wx b ob tb) (snd : SndN2 m X.K r f) (h : lE X.K W wx (vv2 m f oa ob) σ H Q) : ta σ H fun x H1 => tb σ H1 fun y H2 => r x y H2 Q := by
  obtain ⟨δ, π, Qd, Xd, s, h, k, xr⟩ := h
  refine A.run σ H δ π _ Xd _ s h xr fun ra δ1 q v H1 s1 i1 => ?_
  refine B.run σ H1 δ1 _ _ Xd _ s1 q xr.more fun rb δ2 q u H2 s2 i2 => ?_
  obtain ⟨x, y, res, e1, e2, e3, q⟩ := q
  obtain ⟨S, z⟩ := s2.st
  have z1 : StF X.K W H2 (σ.zip δ2 ++ (π ++ ((some v, ra) :: [(some u, rb)]))) S := by
    rw [List.append_assoc] at z
    exact z
  refine snd S H2 v u x y res Q (Opr.read s2.len z1 i1 e1) (Opr.read (ρ := []) s2.len z i2 e2) e3 fun v' H' nv => ?_
  obtain ⟨p, s3⟩ := s2.drop.drop.new (SS.restrict (SS.restrict z)) nv
  exact k _ _ (q p) _ _ s3
theorem run3 {m : Bool} {r : V → V → V → Hp → VK → Prop} {f : D → D → D → Option Rs} {a b c : Expr} {oa ob oc : Opr} {ta tb tc : TE} {Q : VK} (A : VOt X W wx a oa ta) (B : VOt X W wx b ob tb) (C : VOt X W wx c oc tc) (snd : SndN3 m X.K r f)
    (h : lE X.K W wx (vv3 m f oa ob oc) σ H Q) : ta σ H fun x H1 => tb σ H1 fun y H2 => tc σ H2 fun z H3 => r x y z H3 Q := by
  obtain ⟨δ, π, Qd, Xd, s, h, k, xr⟩ := h
  refine A.run σ H δ π _ Xd _ s h xr fun ra δ1 q v H1 s1 i1 => ?_
  refine B.run σ H1 δ1 _ _ Xd _ s1 q xr.more fun rb δ2 q u H2 s2 i2 => ?_
  refine C.run σ H2 δ2 _ _ Xd _ s2 q xr.more.more fun rc δ3 q w H3 s3 i3 => ?_
  obtain ⟨x, y, z, res, e1, e2, e3, e4, q⟩ := q
  obtain ⟨S, zz⟩ := s3.st
  have z2 : StF X.K W H3 (σ.zip δ3 ++ ((π ++ [(some v, ra)]) ++ ((some u, rb) :: [(some w, rc)]))) S := by
    rw [List.append_assoc (π ++ [(some v, ra)])] at zz
    exact zz
  have z1 : StF X.K W H3 (σ.zip δ3 ++ (π ++ ((some v, ra) :: [(some u, rb), (some w, rc)]))) S := by
    rw [List.append_assoc π] at z2
    exact z2
  refine snd S H3 v u w x y z res Q (Opr.read s3.len z1 i1 e1) (Opr.read s3.len z2 i2 e2) (Opr.read (ρ := []) s3.len zz i3 e3) e4 fun v' H' nv => ?_
  obtain ⟨p, s4⟩ := s3.drop.drop.drop.new (SS.restrict (SS.restrict (SS.restrict zz))) nv
  exact k _ _ (q p) _ _ s4
theorem ve_op {m : Bool} {op : Operator} {r : R2} {f : D → D → Option Rs} {a b : Expr} {oa ob : Opr} {pos : Pos} (ho : OpR X (binaryOp op) r) (snd : SndN2 m X.K r f) (ha : VO X W wx a oa) (hb : VO X W wx b ob) : VE X W wx (.BinOp a op b pos) (vv2 m f oa ob) := by
  obtain ⟨ta, A⟩ := ha
  obtain ⟨tb, B⟩ := hb
  exact ⟨PE.imp (pe_op ho A.pe B.pe) fun _ _ _ h => run2 A B snd h⟩
theorem ve_cmp {m : Bool} {op : CmpOp} {r : R2} {f : D → D → Option Rs} {a b : Expr} {oa ob : Opr} {pos : Pos} (ho : OpR X (compareOp op) r) (snd : SndN2 m X.K r f) (ha : VO X W wx a oa) (hb : VO X W wx b ob) (hm : behindInMarks op b = false) : VE X W wx (.Compare a [op] [b] pos) (vv2 m f oa ob) := by
  obtain ⟨ta, A⟩ := ha
  obtain ⟨tb, B⟩ := hb
  exact ⟨PE.imp (pe_cmpR ho A.pe B.pe hm) fun _ _ _ h => run2 A B snd h⟩
theorem ve_ix {m : Bool} {r : R2} {f : D → D → Option Rs} {a b : Expr} {oa ob : Opr} {pos : Pos} (ho : IxR X r) (snd : SndN2 m X.K r f) (ha : VO X W wx a oa) (hb : VO X W wx b ob) (hs : PlainIx b) : VE X W wx (.Subscript a b pos) (vv2 m f oa ob) := by
  obtain ⟨ta, A⟩ := ha
  obtain ⟨tb, B⟩ := hb
  exact ⟨PE.imp (pe_ix ho A.pe B.pe hs) fun _ _ _ h => run2 A B snd h⟩
theorem ve_un {m : Bool} {op : UnaryOp} {r : V → Hp → VK → Prop} {f : D → Option Rs} {a : Expr} {oa : Opr} {pos : Pos} (ho : UnR X (unaryOp op) r) (snd : SndN1 m X.K r f) (ha : VO X W wx a oa) : VE X W wx (.UnaryOp op a pos) (vv1 m f oa) := by
  obtain ⟨ta, A⟩ := ha
  exact ⟨PE.imp (pe_un ho A.pe) fun _ _ _ h => run1 A snd h⟩
/-- a built-in's call with one, two, three values -/
theorem ve_b1 {m : Bool} {id : String} {x : Str} {p pos : Pos} {r : List V → Hp → VK → Prop} {f : D → Option Rs} {a : Expr} {oa : Opr} (hc : CallR X (.builtin id) r) (snd : SndN1 m X.K (fun v => r [v]) f) (hm : X.mg x = none) (hv : bootBuiltins x = some (.builtin id)) (ha : VO X W wx a oa)
    (hg : Gl X x := by rfl) (hn : x ≠ "__name__" := by decide) (hdb : (x == ("__debug__" : Str)) = false := by decide) (he : starEach [a] X.env = (false, eval a X.env) :: starEach [] X.env := by rfl) : VE X W wx (.Call (.Name x p) [a] [] pos) (vv1 m f oa) := by
  obtain ⟨ta, A⟩ := ha
  exact ⟨PE.imp (pe_callB hc hg hm hv (pa_cons A.pe pa_nil he) hn hdb he rfl) fun σ H Q h => by
    show ta σ H fun x H1 => r [x] H1 Q
    exact run1 A snd h⟩
theorem ve_t1 {m : Bool} {T : String} {x : Str} {p pos : Pos} {r : List V → Hp → VK → Prop} {f : D → Option Rs} {a : Expr} {oa : Opr} (hc : CallR X (.type T) r) (snd : SndN1 m X.K (fun v => r [v]) f) (hm : X.mg x = none) (hv : bootBuiltins x = some (.type T)) (ha : VO X W wx a oa)
    (hg : Gl X x := by rfl) (hn : x ≠ "__name__" := by decide) (hdb : (x == ("__debug__" : Str)) = false := by decide) (he : starEach [a] X.env = (false, eval a X.env) :: starEach [] X.env := by rfl) : VE X W wx (.Call (.Name x p) [a] [] pos) (vv1 m f oa) := by
  obtain ⟨ta, A⟩ := ha
  exact ⟨PE.imp (pe_callTy hc hg hm hv (pa_cons A.pe pa_nil he) hn hdb he rfl) fun σ H Q h => by
    show ta σ H fun x H1 => r [x] H1 Q
    exact run1 A snd h⟩
theorem ve_b2 {m : Bool} {id : String} {x : Str} {p pos : Pos} {r : List V → Hp → VK → Prop} {f : D → D → Option Rs} {a b : Expr} {oa ob : Opr} (hc : CallR X (.builtin id) r) (snd : SndN2 m X.K (fun v u => r [v, u]) f) (hm : X.mg x = none) (hv : bootBuiltins x = some (.builtin id)) (ha : VO X W wx a oa) (hb : VO X W wx b ob)
    (hg : Gl X x := by rfl) (hn : x ≠ "__name__" := by decide) (hdb : (x == ("__debug__" : Str)) = false := by decide) (he : starEach [a, b] X.env = (false, eval a X.env) :: starEach [b] X.env := by rfl) (he2 : starEach [b] X.env = (false, eval b X.env) :: starEach [] X.env := by rfl)
    (hpl : (backTo pos (starEach [b] X.env)).any (·.1) = false := by rfl) : VE X W wx (.Call (.Name x p) [a, b] [] pos) (vv2 m f oa ob) := by
  obtain ⟨ta, A⟩ := ha
  obtain ⟨tb, B⟩ := hb
  exact ⟨PE.imp (pe_callB hc hg hm hv (pa_cons A.pe (pa_cons B.pe pa_nil he2) he) hn hdb he hpl) fun σ H Q h => by
    show ta σ H fun x H1 => tb σ H1 fun y H2 => r [x, y] H2 Q
    exact run2 A B snd h⟩
end
end ML

/-! ## M4 -/
set_option Elab.async false
set_option linter.all false
set_option autoImplicit false
set_option maxRecDepth 100000
set_option maxHeartbeats 4000000
namespace ML
open PySem PySem.Spec PyProof.Rows L2

abbrev VTs := List Sl → (List D → List Sl → Prop) → (Exn → List Sl → Prop) → Prop
abbrev VTt := List Sl → (Bool → List Sl → Prop) → (Exn → List Sl → Prop) → Prop
def lA (K : PySem.W.Frag) (W : Wd) (wx : WX) (n : Nat) (t : VTs) : TA := fun σ H Q => ∃ δ π Qd Xd, SS K W H σ δ π ∧ t δ Qd Xd ∧
  (∀ ds δ', Qd ds δ' → ∀ vs H', vs.length = ds.length → ds.length = n → SS K W H' σ δ' (π ++ shs vs ds) → Q vs H') ∧ XR K W wx σ π Xd
structure VA (X : Cx) (W : Wd) (wx : WX) (es : List Expr) (t : VTs) : Prop where
  pa : PA X es (lA X.K W wx es.length t)
def lT (K : PySem.W.Frag) (W : Wd) (wx : WX) (t : VTt) : TT := fun σ H Q => ∃ δ π Qd Xd, SS K W H σ δ π ∧ t δ Qd Xd ∧
  (∀ b δ', Qd b δ' → ∀ H', SS K W H' σ δ' π → Q b H') ∧ XR K W wx σ π Xd
structure VC (X : Cx) (W : Wd) (wx : WX) (e : Expr) (t : VTt) : Prop where
  pt : PT X e (lT X.K W wx t)

section
variable {X : Cx} {W : Wd} {wx : WX} {K : PySem.W.Frag} {H H' : Hp} {σ : L2.St} {δ δ' : List Sl} {π : List Cell} {e a b c : Expr} {es : List Expr} {t u : VT} {ts : VTs} {pos : Pos}
def vNil : VTs := fun δ Q _ => Q [] δ
def vCons (t : VT) (ts : VTs) : VTs := fun δ Q Xc => vS t δ (fun rv δ1 => ts δ1 (fun ds δ2 => Q (rv.get :: ds) δ2) Xc) Xc
theorem shs_nil {ds : List D} : shs [] ds = [] := rfl
theorem shs_cons {v : V} {vs : List V} {d : D} {ds : List D} : shs (v :: vs) (d :: ds) = (some v, .sh d) :: shs vs ds := rfl
theorem va_nil : VA X W wx [] vNil := ⟨PA.imp pa_nil fun σ H Q ⟨δ, π, Qd, Xd, s, h, k, xr⟩ => k _ _ h [] H rfl rfl (by rw [shs_nil, List.append_nil]; exact s)⟩
theorem va_cons (he : VE X W wx e t) (hr : VA X W wx es ts) (hs : starEach (e :: es) X.env = (false, eval e X.env) :: starEach es X.env := by rfl) : VA X W wx (e :: es) (vCons t ts) := by
  refine ⟨PA.imp (pa_cons he.pe hr.pa hs) fun σ H Q ⟨δ, π, Qd, Xd, s, h, k, xr⟩ => ?_⟩
  refine ⟨δ, π, _, Xd, s, h, fun rv δ1 q v H1 s1 => ?_, xr⟩
  refine ⟨δ1, π ++ [(some v, .sh rv.get)], _, Xd, s1.shr q.1, q.2, fun ds δ2 q2 vs H2 l2 n2 s2 => ?_, xr.more⟩
  refine k _ _ q2 (v :: vs) H2 (by rw [List.length_cons, List.length_cons, l2]) (by rw [List.length_cons, List.length_cons, n2]) ?_
  rw [show shs (v :: vs) ((Sl.sh rv.get).get :: ds) = (some v, .sh rv.get) :: shs vs ds from rfl, List.append_cons]
  exact s2
theorem shs_get : ∀ {vs : List V} {ds : List D} {i : Nat} {c : Cell}, (shs vs ds)[i]? = some c → ∃ v d, c = (some v, .sh d) ∧ vs[i]? = some v ∧ ds[i]? = some d
  | [], _, _, _, h => by simp [shs] at h
  | _ :: _, [], _, _, h => by simp [shs] at h
  | v :: vs, d :: ds, 0, c, h => by
    rw [shs_cons] at h
    simp at h
    exact ⟨v, d, h.symm, rfl, rfl⟩
  | v :: vs, d :: ds, i + 1, c, h => by
    rw [shs_cons] at h
    obtain ⟨x, y, h1, h2, h3⟩ := shs_get (vs := vs) (ds := ds) (i := i) (c := c) (by simpa using h)
    exact ⟨x, y, h1, by simpa using h2, by simpa using h3⟩
theorem shs_at : ∀ {vs : List V} {ds : List D} {i : Nat} {v : V} {d : D}, vs[i]? = some v → ds[i]? = some d → (shs vs ds)[i]? = some (some v, .sh d)
  | [], _, _, _, _, h, _ => by simp at h
  | _ :: _, [], _, _, _, _, h => by simp at h
  | v :: vs, d :: ds, 0, _, _, h, q => by
    simp at h q
    subst h q
    rfl
  | v :: vs, d :: ds, i + 1, _, _, h, q => by
    rw [shs_cons]
    simpa using shs_at (vs := vs) (ds := ds) (i := i) (by simpa using h) (by simpa using q)
theorem StF.pushs {S : Addr → Prop} : ∀ {vs : List V} {ds : List D} {cs : List Cell}, StF K W H cs S → Rps K S H vs ds → StF K W H (cs ++ shs vs ds) S
  | _, [], cs, x, r => by cases r; rw [shs_nil, List.append_nil]; exact x
  | _, d :: ds, cs, x, r => by
    cases r with
    | cons r1 r2 =>
      rw [shs_cons, List.append_cons]
      exact StF.pushs (x.push r1) r2
/-- what waits, read -/
theorem StF.reads {S : Addr → Prop} : ∀ {vs : List V} {ds : List D} {cs : List Cell}, StF K W H (cs ++ shs vs ds) S → vs.length = ds.length → Rps K S H vs ds
  | [], [], _, _, _ => .nil
  | [], _ :: _, _, _, h => by simp at h
  | _ :: _, [], _, _, h => by simp at h
  | v :: vs, d :: ds, cs, x, h => by
    rw [shs_cons] at x
    have e : (cs ++ (some v, Sl.sh d) :: shs vs ds)[cs.length]? = some (some v, Sl.sh d) := by
      rw [List.getElem?_append_right (Nat.le_refl _), Nat.sub_self]
      rfl
    obtain ⟨u, eu, r⟩ := x.sh _ _ _ e
    cases eu
    rw [List.append_cons] at x
    exact .cons r (StF.reads (cs := cs ++ [(some v, Sl.sh d)]) x (by simpa using h))
theorem SS.reads {S : Addr → Prop} {vs : List V} {ds : List D} (x : StF K W H (σ.zip δ ++ (π ++ shs vs ds)) S) (h : vs.length = ds.length) : Rps K S H vs ds :=
  StF.reads (cs := σ.zip δ ++ π) (by rw [← List.append_assoc] at x; exact x) h
/-! ### displays -/
def vTup (ts : VTs) : VT := fun δ Q Xc => ts δ (fun ds δ' => Q (.sh (.tuple ds)) δ') Xc
def vLst (ts : VTs) : VT := fun δ Q Xc => ts δ (fun ds δ' => ∀ p, Q (.ow (Ot.flat p ds)) δ') Xc
theorem ve_tup {k : Nat} (h : VA X W wx es ts) (hl : es.length ≤ 1000) (hs : starEach es X.env = starEach es X.env := by rfl) : VE X W wx (.Tuple es k pos) (vTup ts) :=
  ⟨PE.imp (pe_tup h.pa) fun σ H Q ⟨δ, π, Qd, Xd, s, h, kk, xr⟩ => ⟨δ, π, _, Xd, s, h, fun ds δ' q vs H' l n s' => by
    refine ⟨Nat.le_of_lt (small1000 (by omega)), fun p hp => ?_⟩
    obtain ⟨S, x⟩ := s'.st
    obtain ⟨_, z⟩ := s'.drop.new (SS.restrict x) (.tup hp (SS.reads x l))
    exact kk _ _ q _ _ z, xr⟩⟩
theorem ve_lst (h : VA X W wx es ts) (hl : es.length ≤ 1000) : VE X W wx (.List es pos) (vLst ts) :=
  ⟨PE.imp (pe_lst h.pa) fun σ H Q ⟨δ, π, Qd, Xd, s, h, kk, xr⟩ => ⟨δ, π, _, Xd, s, h, fun ds δ' q vs H' l n s' => by
    refine ⟨Nat.le_of_lt (small1000 (by omega)), fun p hp => ?_⟩
    obtain ⟨S, x⟩ := s'.st
    obtain ⟨p2, z⟩ := s'.drop.new (SS.restrict x) (.lst hp (SS.reads x l))
    exact kk _ _ (q p2) _ _ z, xr⟩⟩

/-! ### tests -/
def vB (t : VT) : VTt := fun δ Q Xc => t δ (fun rv δ' => ∃ b, rv = .sh (.bool b) ∧ Q b δ') Xc
theorem SS.bool {v : V} {b : Bool} (s : SS K W H σ δ (π ++ [(some v, .sh (.bool b))])) : v = .bl b := by
  obtain ⟨S, x⟩ := s.st
  rw [← List.append_assoc] at x
  obtain ⟨u, e, r⟩ := x.sh _ _ _ snoc_last
  cases e
  cases r
  rfl
theorem vc_val (h : VE X W wx e t) (he : ∀ whole, isTrue e X.env whole = (do let v ← whole; standAt e.pos; holding [v] (truthy v)) := by intro _; rfl) : VC X W wx e (vB t) :=
  ⟨PT.imp (pt_val h.pe he) fun σ H Q ⟨δ, π, Qd, Xd, s, h, k, xr⟩ => ⟨δ, π, _, Xd, s, h, fun rv δ' q v H' s' => by
    obtain ⟨b, rfl, q⟩ := q
    exact ⟨b, s'.bool, k _ _ q _ s'.drop⟩, xr⟩⟩
theorem vc_cmp {m : Bool} {op : CmpOp} {r : R2} {f : D → D → Option Rs} {oa ob : Opr} (ho : OpR X (compareOp op) r) (snd : SndN2 m X.K r f) (ha : VO X W wx a oa) (hb : VO X W wx b ob) (hm : behindInMarks op b = false) : VC X W wx (.Compare a [op] [b] pos) (vB (vv2 m f oa ob)) := by
  obtain ⟨ta, A⟩ := ha
  obtain ⟨tb, B⟩ := hb
  refine ⟨PT.imp (pt_cmpR ho A.pe B.pe hm) fun σ H Q ⟨δ, π, Qd, Xd, s, h, k, xr⟩ => ?_⟩
  show tOp r ta tb σ H _
  refine run2 A B snd ⟨δ, π, _, Xd, s, h, fun rv δ' q v H' s' => ?_, xr⟩
  obtain ⟨b, rfl, q⟩ := q
  exact ⟨b, s'.bool, k _ _ q _ s'.drop⟩
def vNot (t : VTt) : VTt := fun δ Q Xc => t δ (fun b δ' => Q (!b) δ') Xc
def vAnd (t u : VTt) : VTt := fun δ Q Xc => t δ (fun b δ' => if b = true then u δ' Q Xc else Q false δ') Xc
def vOr (t u : VTt) : VTt := fun δ Q Xc => t δ (fun b δ' => if b = true then Q true δ' else u δ' Q Xc) Xc
theorem vc_not {t : VTt} (h : VC X W wx a t) : VC X W wx (.UnaryOp .Not a pos) (vNot t) :=
  ⟨PT.imp (pt_not h.pt) fun σ H Q ⟨δ, π, Qd, Xd, s, h, k, xr⟩ => ⟨δ, π, _, Xd, s, h, fun b δ' q H' s' => k _ _ q _ s', xr⟩⟩
structure VW (X : Cx) (W : Wd) (wx : WX) (e : Expr) (t : VTt) : Prop where
  pw : PW X e (lT X.K W wx t)
theorem PW.imp {e : Expr} {t t' : TT} (h : PW X e t) (i : ∀ σ H Q, t' σ H Q → t σ H Q) : PW X e t' := ⟨fun wh pins s σ H Q I q => h.run wh pins s σ H Q I (i σ H Q q)⟩
theorem vw_and1 {t : VTt} (h : VC X W wx a t) : VW X W wx (.BoolOp .And [a] pos) t := ⟨pw_and1 h.pt⟩
theorem vw_or1 {t : VTt} (h : VC X W wx a t) : VW X W wx (.BoolOp .Or [a] pos) t := ⟨pw_or1 h.pt⟩
theorem vw_and {t u : VTt} (ha : VC X W wx a t) (hb : VW X W wx (.BoolOp .And (b :: es) pos) u) : VW X W wx (.BoolOp .And (a :: b :: es) pos) (vAnd t u) :=
  ⟨PW.imp (pw_and ha.pt hb.pw) fun σ H Q ⟨δ, π, Qd, Xd, s, h, k, xr⟩ => ⟨δ, π, _, Xd, s, h, fun b δ' q H' s' => by
    cases b with
    | true =>
      rw [if_pos rfl]
      rw [if_pos rfl] at q
      exact ⟨δ', π, Qd, Xd, s', q, k, xr⟩
    | false =>
      rw [if_neg (by decide)]
      rw [if_neg (by decide)] at q
      exact k _ _ q _ s', xr⟩⟩
theorem vw_or {t u : VTt} (ha : VC X W wx a t) (hb : VW X W wx (.BoolOp .Or (b :: es) pos) u) : VW X W wx (.BoolOp .Or (a :: b :: es) pos) (vOr t u) :=
  ⟨PW.imp (pw_or ha.pt hb.pw) fun σ H Q ⟨δ, π, Qd, Xd, s, h, k, xr⟩ => ⟨δ, π, _, Xd, s, h, fun b δ' q H' s' => by
    cases b with
    | true =>
      rw [if_pos rfl]
      rw [if_pos rfl] at q
      exact k _ _ q _ s'
    | false =>
      rw [if_neg (by decide)]
      rw [if_neg (by decide)] at q
      exact ⟨δ', π, Qd, Xd, s', q, k, xr⟩, xr⟩⟩
theorem vc_w {t : VTt} (h : VW X W wx e t) : VC X W wx e t := ⟨h.pw.pt⟩
/-- a dict, not an instance -/
def isDct : List (D × D) → Bool
  | (.none, _) :: _ => false
  | (.bool _, _) :: _ => false
  | _ => true
theorem isDct_of {ks : List Key} {ds : List D} : isDct ((ks.map kD).zip ds) = true := by
  cases ks with
  | nil => rfl
  | cons k ks =>
    cases ds with
    | nil => rfl
    | cons d ds => cases k <;> rfl
theorem Rp.dictI {S : Addr → Prop} {v : V} {kvs : List (D × D)} (h : Rp K S H v (.dict kvs)) (hd : isDct kvs = true) : ∃ (a : Addr) (ks : List Key) (xs : List V) (ds : List D),
    v = .ref a ∧ kvs = (ks.map kD).zip ds ∧ Rd H a (.dK (ks.zip xs)) ∧ ¬ S a ∧ ks.length = xs.length ∧ ks.Nodup ∧ (∀ k ∈ ks, okK k = true) ∧ Rps K S H xs ds := by
  have key : ∀ t, RpX K S H t → ∀ v kvs, t = .one v (.dict kvs) → isDct kvs = true → ∃ (a : Addr) (ks : List Key) (xs : List V) (ds : List D),
    v = .ref a ∧ kvs = (ks.map kD).zip ds ∧ Rd H a (.dK (ks.zip xs)) ∧ ¬ S a ∧ ks.length = xs.length ∧ ks.Nodup ∧ (∀ k ∈ ks, okK k = true) ∧ Rps K S H xs ds := by
    intro t ht v kvs e hd
    cases ht with
    | dct h1 h2 h3 h4 h5 h6 =>
      injection e with e1 e2
      injection e2 with e2
      subst e1 e2
      exact ⟨_, _, _, _, rfl, rfl, h1, h2, h3, h4, h5, h6⟩
    | obj h1 h2 h3 h4 h5 h6 =>
      injection e with e1 e2
      injection e2 with e2
      subst e2
      cases hd
    | lck h1 h2 =>
      injection e with e1 e2
      injection e2 with e2
      subst e2
      cases hd
    | rng h1 h2 =>
      injection e with e1 e2
      injection e2 with e2
      subst e2
      cases hd
    | _ => cases e
  exact key _ h v kvs rfl hd
theorem RqA.dictI {S : Addr → Prop} {v : V} {kvs : List (D × D)} (h : RqA K S H v (.dict kvs)) (hd : isDct kvs = true) : ∃ (a : Addr) (ks : List Key) (xs : List V) (ds : List D),
    v = .ref a ∧ kvs = (ks.map kD).zip ds ∧ Rd H a (.dK (ks.zip xs)) ∧ ks.length = xs.length ∧ xs.length = ds.length ∧ ks.Nodup ∧ (∀ k ∈ ks, okK k = true) := by
  rcases h with h | ⟨o, e, h⟩
  · obtain ⟨a, ks, xs, ds, h1, h2, h3, _, h4, h5, h6, h7⟩ := Rp.dictI h hd
    exact ⟨a, ks, xs, ds, h1, h2, h3, h4, Rps.length h7, h5, h6⟩
  · cases h with
    | leaf r =>
      rw [Ot.get] at e
      subst e
      obtain ⟨a, ks, xs, ds, h1, h2, h3, _, h4, h5, h6, h7⟩ := Rp.dictI r hd
      exact ⟨a, ks, xs, ds, h1, h2, h3, h4, Rps.length h7, h5, h6⟩
    | @nod s xs os h1 h2 =>
      rw [Ot.get] at e
      cases s with
      | lst p => cases e
      | dct p ks =>
        injection e with e
        subst e
        exact ⟨p, ks, xs, _, rfl, rfl, .inl h1.1, h1.2.1, by rw [h2.length, Ot.gets_map, List.length_map], h1.2.2.1, h1.2.2.2⟩
      | tup p => cases e
      | lkd p ks us o =>
        injection e with e
        subst e
        exact ⟨p, ks, xs, _, rfl, rfl, .inr ⟨o, h1.1⟩, h1.2.2.1, by rw [h2.length, Ot.gets_map, List.length_map], h1.2.2.2.1, h1.2.2.2.2⟩
      | obj p dx C ks =>
        injection e with e
        subst e
        cases hd
theorem Rq.dictI {S : Addr → Prop} {v : V} {kvs : List (D × D)} (h : Rq K S H v (.dict kvs)) (hd : isDct kvs = true) : ∃ (a : Addr) (ks : List Key) (xs : List V) (ds : List D),
    v = .ref a ∧ kvs = (ks.map kD).zip ds ∧ Rd H a (.dK (ks.zip xs)) ∧ ks.length = xs.length ∧ ks.Nodup ∧ (∀ k ∈ ks, okK k = true) ∧ Rps K S H xs ds := by
  rcases h with h | ⟨s, xs, es, rfl, e, h1, h2⟩
  · obtain ⟨a, ks, xs, ds, h1, h2, h3, _, h4, h5, h6, h7⟩ := Rp.dictI h hd
    exact ⟨a, ks, xs, ds, h1, h2, h3, h4, h5, h6, h7⟩
  · cases s with
    | lst p => cases e
    | dct p ks =>
      injection e with e
      subst e
      exact ⟨p, ks, xs, _, rfl, rfl, .inl h1.1, h1.2.1, h1.2.2.1, h1.2.2.2, h2⟩
    | tup p =>
      injection e with e
      subst e
      cases hd
    | lkd p ks us o =>
      injection e with e
      subst e
      exact ⟨p, ks, xs, _, rfl, rfl, .inr ⟨o, h1.1⟩, h1.2.2.1, h1.2.2.2.1, h1.2.2.2.2, h2⟩
    | obj p dx C ks =>
      injection e with e
      subst e
      cases hd
/-- the truth of a value -/
def truD : D → Option Bool
  | .none => some false
  | .bool b => some b
  | .int i => some (i != 0)
  | .str y => some ((y.length : Int) != 0)
  | .list ds => some (!ds.isEmpty)
  | .tuple ds => some (!ds.isEmpty)
  | .dict kvs => if isDct kvs = true then some (!kvs.isEmpty) else none
/-- the truth of a value, a locked dict's too -/
def TruL (K : PySem.W.Frag) (x : V) (H : Hp) (k : Bool) : Prop := TruV K x H k ∨ ∃ a kvs, x = .ref a ∧ Rd H a (.dK kvs) ∧ k = !kvs.isEmpty
theorem truL_ok : TruR X (fun x H Q => ∃ k, TruL X.K x H k ∧ Q k H) := by
  intro pins s σ H x v Q I rx h
  obtain ⟨k, e, q⟩ := h
  rcases e with e | ⟨a, kvs, rfl, hd, rfl⟩
  · exact tru_ok pins s σ H x v Q I rx ⟨k, e, q⟩
  · obtain rfl : v = Value.ref a := rx
    exact d_truth I hd fun s' I' => ⟨H, I', q⟩
theorem pt_truthL {ta : TE} (ha : PE X a ta) (he : ∀ whole, isTrue a X.env whole = (do let v ← whole; standAt a.pos; holding [v] (truthy v))) :
    PT X a (fun σ H Q => ta σ H fun x H' => ∃ k, TruL X.K x H' k ∧ Q k H') := by
  refine ⟨fun pins s σ H Q I h => ?_⟩
  exact isTrue_plain (thn (ha.run pins s σ H _ I h) fun v s1 ⟨x, H1, I1, r1, q1⟩ => truL_ok pins s1 σ H1 x v Q I1 r1 q1) (he _)
def vTru (o : Opr) : VTt := fun δ Q Xc => o.ev δ (fun ra δ1 => ∃ x b, o.fin true ra δ1 = some x ∧ truD x = some b ∧ Q b δ1) Xc
theorem empty_len {α β : Type} {l : List α} {m : List β} (h : l.length = m.length) : l.isEmpty = m.isEmpty := by
  cases l <;> cases m <;> simp at h ⊢
theorem okS_line {x : Str} (h : okS x = true) : x.length ≤ sizeLine := by
  unfold okS at h
  rw [Bool.and_eq_true] at h
  exact of_decide_eq_true h.2
theorem vc_tru {o : Opr} (ha : VO X W wx a o) (he : ∀ whole, isTrue a X.env whole = (do let v ← whole; standAt a.pos; holding [v] (truthy v)) := by intro _; rfl) : VC X W wx a (vTru o) := by
  obtain ⟨ta, A⟩ := ha
  refine ⟨PT.imp (pt_truthL A.pe he) fun σ H Q ⟨δ, π, Qd, Xd, s, h, k, xr⟩ => ?_⟩
  refine A.run σ H δ π _ Xd _ s h xr fun ra δ1 q v H1 s1 i1 => ?_
  obtain ⟨x, b, e1, e2, q⟩ := q
  obtain ⟨S, y⟩ := s1.st
  have r : RqA X.K S H1 v x := Opr.read (m := true) (ρ := []) s1.len y i1 e1
  refine ⟨b, ?_, k _ _ q _ s1.drop⟩
  cases x with
  | none => cases e2; rw [Rr.none (m := true) r]; exact .inl rfl
  | bool c => cases e2; rw [Rr.bool (m := true) r]; exact .inl rfl
  | int c => cases e2; rw [Rr.int (m := true) r]; exact .inl rfl
  | str c => cases e2; rw [Rr.str (m := true) r]; exact .inl ⟨okS_line (Rr.okS (m := true) r), rfl⟩
  | list ds =>
    cases e2
    obtain ⟨p, xs, rfl, h1, h2⟩ := r.list
    exact .inl <| .inl ⟨xs, h1, by rw [empty_len h2]⟩
  | tuple ds =>
    cases e2
    obtain ⟨p, xs, rfl, h1, h2⟩ := r.tup
    exact .inl <| .inr (.inl ⟨xs, h1, by rw [empty_len h2.1]⟩)
  | dict kvs =>
    have e3 : (if isDct kvs = true then some (!kvs.isEmpty) else none) = some b := e2
    by_cases hd : isDct kvs = true
    · rw [if_pos hd] at e3
      cases e3
      obtain ⟨p, ks, xs, ds, rfl, rfl, h1, h2, h3, _, _⟩ := r.dictI hd
      exact .inr (⟨_, _, rfl, h1, by rw [empty_len (l := (ks.map kD).zip ds) (m := ks.zip xs) (by simp; omega)]⟩)
    · rw [if_neg hd] at e3; cases e3
/-- as values -/
def vTv (t : VTt) : VT := fun δ Q Xc => t δ (fun b δ' => Q (.sh (.bool b)) δ') Xc
def vAndV (t u : VT) : VT := fun δ Q Xc => t δ (fun rv δ' => ∃ b, rv = .sh (.bool b) ∧ if b = true then u δ' Q Xc else Q (.sh (.bool false)) δ') Xc
def vOrV (t u : VT) : VT := fun δ Q Xc => t δ (fun rv δ' => ∃ b, rv = .sh (.bool b) ∧ if b = true then Q (.sh (.bool true)) δ' else u δ' Q Xc) Xc
def vNotV (t : VT) : VT := fun δ Q Xc => t δ (fun rv δ' => ∃ b, rv = .sh (.bool b) ∧ Q (.sh (.bool (!b))) δ') Xc
theorem ve_one {op} (h : VE X W wx a t) : VE X W wx (.BoolOp op [a] pos) t := ⟨pe_one h.pe⟩
theorem ve_and (ha : VE X W wx a t) (hb : VE X W wx (.BoolOp .And (b :: es) pos) u) : VE X W wx (.BoolOp .And (a :: b :: es) pos) (vAndV t u) :=
  ⟨PE.imp (pe_and ha.pe hb.pe) fun σ H Q ⟨δ, π, Qd, Xd, s, h, k, xr⟩ => ⟨δ, π, _, Xd, s, h, fun rv δ' q v H' s' => by
    obtain ⟨b, rfl, q⟩ := q
    refine ⟨b, s'.bool, ?_⟩
    cases b with
    | true =>
      rw [if_pos rfl]
      rw [if_pos rfl] at q
      exact ⟨δ', π, Qd, Xd, s'.drop, q, k, xr⟩
    | false =>
      rw [if_neg (by decide)]
      rw [if_neg (by decide)] at q
      exact k _ _ q _ _ (s'.drop.push fun _ => .bl _), xr⟩⟩
theorem ve_or (ha : VE X W wx a t) (hb : VE X W wx (.BoolOp .Or (b :: es) pos) u) : VE X W wx (.BoolOp .Or (a :: b :: es) pos) (vOrV t u) :=
  ⟨PE.imp (pe_or ha.pe hb.pe) fun σ H Q ⟨δ, π, Qd, Xd, s, h, k, xr⟩ => ⟨δ, π, _, Xd, s, h, fun rv δ' q v H' s' => by
    obtain ⟨b, rfl, q⟩ := q
    refine ⟨b, s'.bool, ?_⟩
    cases b with
    | true =>
      rw [if_pos rfl]
      rw [if_pos rfl] at q
      exact k _ _ q _ _ (s'.drop.push fun _ => .bl _)
    | false =>
      rw [if_neg (by decide)]
      rw [if_neg (by decide)] at q
      exact ⟨δ', π, Qd, Xd, s'.drop, q, k, xr⟩, xr⟩⟩
theorem ve_not (ha : VE X W wx a t) : VE X W wx (.UnaryOp .Not a pos) (vNotV t) :=
  ⟨PE.imp (pe_not ha.pe) fun σ H Q ⟨δ, π, Qd, Xd, s, h, k, xr⟩ => ⟨δ, π, _, Xd, s, h, fun rv δ' q v H' s' => by
    obtain ⟨b, rfl, q⟩ := q
    exact ⟨b, s'.bool, k _ _ q _ _ (s'.drop.push fun _ => .bl _)⟩, xr⟩⟩
def vIf (c : VTt) (t u : VT) : VT := fun δ Q Xc => c δ (fun b δ' => if b = true then t δ' Q Xc else u δ' Q Xc) Xc
theorem ve_if {tc : VTt} (hc : VC X W wx c tc) (ha : VE X W wx a t) (hb : VE X W wx b u) : VE X W wx (.IfExp c a b pos) (vIf tc t u) :=
  ⟨PE.imp (pe_ifExp hc.pt ha.pe hb.pe) fun σ H Q ⟨δ, π, Qd, Xd, s, h, k, xr⟩ => ⟨δ, π, _, Xd, s, h, fun d δ' q H' s' => by
    cases d with
    | true =>
      rw [if_pos rfl]
      rw [if_pos rfl] at q
      exact ⟨δ', π, Qd, Xd, s', q, k, xr⟩
    | false =>
      rw [if_neg (by decide)]
      rw [if_neg (by decide)] at q
      exact ⟨δ', π, Qd, Xd, s', q, k, xr⟩, xr⟩⟩

/-! ### slices, methods -/
def inO (lo : Option D) : Option (Option Int) := match lo with
  | none => some none
  | some (.int i) => some (some i)
  | _ => none
end
end ML

/-! ## M5 -/
set_option Elab.async false
set_option linter.all false
set_option autoImplicit false
set_option maxRecDepth 100000
set_option maxHeartbeats 4000000
namespace ML
open PySem PySem.Spec PyProof.Rows L2

/-- what is wanted behind a statement -/
structure En where
  nx : List Sl → Prop
  rt : Sl → List Sl → Prop
  bk : List Sl → Prop
  ct : List Sl → Prop
  ex : Exn → List Sl → Prop
abbrev VSt := En → List Sl → Prop
/-- the exceptions, whatever the slots have become -/
def XRs (K : PySem.W.Frag) (W : Wd) (wx : WX) (π : List Cell) (Xd : Exn → List Sl → Prop) : Prop := ∀ σ, XR K W wx σ π Xd
structure EnOk (K : PySem.W.Frag) (W : Wd) (wx : WX) (π : List Cell) (E : En) (Dd : Ends) : Prop where
  nx : ∀ δ', E.nx δ' → ∀ σ' H', SS K W H' σ' δ' π → Dd.nx σ' H'
  rt : ∀ rv δ', E.rt rv δ' → ∀ v σ' H', SS K W H' σ' δ' (π ++ [(some v, rv)]) → Dd.rt v H'
  bk : ∀ δ', E.bk δ' → ∀ σ' H', SS K W H' σ' δ' π → Dd.bk σ' H'
  ct : ∀ δ', E.ct δ' → ∀ σ' H', SS K W H' σ' δ' π → Dd.ct σ' H'
  ex : XRs K W wx π E.ex
def lS (K : PySem.W.Frag) (W : Wd) (wx : WX) (t : VSt) : TS := fun Dd σ H => ∃ δ π E, SS K W H σ δ π ∧ t E δ ∧ EnOk K W wx π E Dd
structure VS (X : Cx) (W : Wd) (wx : WX) (st : Stmt) (t : VSt) : Prop where
  ps : PS X st (lS X.K W wx t)
structure VSs (X : Cx) (W : Wd) (wx : WX) (st : List Stmt) (t : VSt) : Prop where
  ps : PSs X st (lS X.K W wx t)

section
variable {X : Cx} {W : Wd} {wx : WX} {K : PySem.W.Frag} {H H' : Hp} {σ : L2.St} {δ δ' : List Sl} {π : List Cell} {e a b c : Expr} {es : List Expr} {t u : VT} {ts : VTs} {pos : Pos} {st : Stmt} {sts : List Stmt} {p q : VSt}
/-- cells taken out of the middle -/
theorem StF.mid {cs ρ τ : List Cell} {S : Addr → Prop} (y : StF K W H (cs ++ (ρ ++ τ)) S) : StF K W H (cs ++ τ) S := by
  refine y.re (fun i => if i < cs.length then i else i + ρ.length) (fun i c q => .inr ?_) (fun i j n q => ?_)
  · by_cases hi : i < cs.length
    · rw [if_pos hi]
      rw [List.getElem?_append_left hi] at q
      rw [List.getElem?_append_left hi]
      exact q
    · rw [if_neg hi]
      have hi' := Nat.le_of_not_lt hi
      rw [List.getElem?_append_right hi'] at q
      rw [List.getElem?_append_right (by omega), List.getElem?_append_right (by omega), ← q]
      congr 1
      omega
  · by_cases h1 : i < cs.length
    · by_cases h2 : j < cs.length
      · rw [if_pos h1, if_pos h2] at q; exact absurd q n
      · rw [if_pos h1, if_neg h2] at q; omega
    · by_cases h2 : j < cs.length
      · rw [if_neg h1, if_pos h2] at q; omega
      · rw [if_neg h1, if_neg h2] at q; omega
theorem SS.mid {ρ τ : List Cell} (s : SS K W H σ δ (π ++ ρ ++ τ)) : SS K W H σ δ (π ++ τ) := by
  obtain ⟨S, y⟩ := s.st
  rw [List.append_assoc, ← List.append_assoc] at y
  exact ⟨s.len, S, by rw [← List.append_assoc]; exact StF.mid y⟩
theorem EnOk.more {E : En} {Dd : Ends} {ρ : List Cell} (h : EnOk K W wx π E Dd) : EnOk K W wx (π ++ ρ) E Dd :=
  ⟨fun δ' q σ' H' s => h.nx δ' q σ' H' s.drop, fun rv δ' q v σ' H' s => h.rt rv δ' q v σ' H' s.mid, fun δ' q σ' H' s => h.bk δ' q σ' H' s.drop, fun δ' q σ' H' s => h.ct δ' q σ' H' s.drop, fun σ => (h.ex σ).more⟩
theorem zip_set2 : ∀ {σ : L2.St} {δ : List Sl} {i : Nat} {w : Option V} {sl : Sl}, (σ.set i w).zip (δ.set i sl) = (σ.zip δ).set i (w, sl)
  | [], _, _, _, _ => by simp
  | _ :: _, [], _, _, _ => by simp
  | _ :: _, _ :: _, 0, _, _ => rfl
  | a :: σ, d :: δ, i + 1, w, sl => by
    have := zip_set2 (σ := σ) (δ := δ) (i := i) (w := w) (sl := sl)
    simp [this]
/-- what waits last goes to a slot -/
theorem SS.put {v : V} {sl : Sl} (s : SS K W H σ δ (π ++ [(some v, sl)])) {i : Nat} (hi : i < δ.length) : SS K W H (σ.set i (some v)) (δ.set i sl) π := by
  obtain ⟨S, y⟩ := s.st
  have lz := zip_length s.len
  have hiσ : i < σ.length := by rw [s.len]; exact hi
  have ez : (σ.set i (some v)).zip (δ.set i sl) = (σ.zip δ).set i (some v, sl) := zip_set2
  refine ⟨by rw [List.length_set, List.length_set]; exact s.len, S, y.re (cs' := (σ.set i (some v)).zip (δ.set i sl) ++ π) (fun j => if j = i then (σ.zip δ ++ π).length else j) (fun j c q => .inr ?_) (fun j k n q => ?_)⟩
  · rw [ez] at q
    rw [← List.append_assoc]
    by_cases hj : j = i
    · subst hj
      rw [if_pos rfl, snoc_last]
      rw [List.getElem?_append_left (by rw [List.length_set, lz]; exact hi), List.getElem?_set_self (by rw [lz]; exact hi)] at q
      exact q
    · rw [if_neg hj]
      have hl : j < (σ.zip δ ++ π).length := by
        have := (List.getElem?_eq_some_iff.mp q).1
        rw [List.length_append, List.length_set] at this
        rw [List.length_append]
        exact this
      rw [List.getElem?_append_left hl]
      rw [← List.set_append_left _ _ (by rw [lz]; exact hi), List.getElem?_set_ne (fun z => hj z.symm)] at q
      exact q
  · intro w o w' o' q1 q2
    have l1 := (List.getElem?_eq_some_iff.mp q1).1
    have l2 := (List.getElem?_eq_some_iff.mp q2).1
    rw [ez, List.length_append, List.length_set] at l1 l2
    rw [List.length_append] at q
    by_cases h1 : j = i
    · by_cases h2 : k = i
      · exact n (h1.trans h2.symm)
      · rw [if_pos h1, if_neg h2] at q; omega
    · by_cases h2 : k = i
      · rw [if_neg h1, if_pos h2] at q; omega
      · rw [if_neg h1, if_neg h2] at q; exact n q

/-! ### blocks and small statements -/
def vEnd : VSt := fun E δ => E.nx δ
def vSeq (p q : VSt) : VSt := fun E δ => p { E with nx := q E } δ
theorem vss_nil : VSs X W wx [] vEnd := ⟨PSs.imp pss_nil fun Dd σ H ⟨δ, π, E, s, h, k⟩ => k.nx _ h _ _ s⟩
theorem vss_cons (h1 : VS X W wx st p) (h2 : VSs X W wx sts q) : VSs X W wx (st :: sts) (vSeq p q) :=
  ⟨PSs.imp (pss_cons h1.ps h2.ps) fun Dd σ H ⟨δ, π, E, s, h, k⟩ => ⟨δ, π, _, s, h, ⟨fun δ' z σ' H' s' => ⟨δ', π, E, s', z, k⟩, k.rt, k.bk, k.ct, k.ex⟩⟩⟩
theorem vss_one (h1 : VS X W wx st p) : VSs X W wx [st] p := ⟨pss_one h1.ps⟩
theorem vs_pass : VS X W wx (.Pass pos) vEnd := ⟨PS.imp ps_pass fun Dd σ H ⟨δ, π, E, s, h, k⟩ => k.nx _ h _ _ s⟩
def vBrk : VSt := fun E δ => E.bk δ
def vCnt : VSt := fun E δ => E.ct δ
theorem vs_brk : VS X W wx (.Break pos) vBrk := ⟨PS.imp ps_break fun Dd σ H ⟨δ, π, E, s, h, k⟩ => k.bk _ h _ _ s⟩
theorem vs_cnt : VS X W wx (.Continue pos) vCnt := ⟨PS.imp ps_continue fun Dd σ H ⟨δ, π, E, s, h, k⟩ => k.ct _ h _ _ s⟩
theorem vs_doc {x j pos'} : VS X W wx (.Expr (.Constant (.str x) j pos) pos') vEnd := ⟨PS.imp ps_doc fun Dd σ H ⟨δ, π, E, s, h, k⟩ => k.nx _ h _ _ s⟩
def vDrp (t : VT) : VSt := fun E δ => t δ (fun _ δ' => E.nx δ') E.ex
theorem vs_expr (he : VE X W wx e t) (hs : swapsWith e none pos.line X.env = pure false := by rfl) : VS X W wx (.Expr e pos) (vDrp t) :=
  ⟨PS.imp (ps_expr he.pe hs) fun Dd σ H ⟨δ, π, E, s, h, k⟩ => ⟨δ, π, _, _, s, h, fun rv δ' z v H' s' => k.nx _ z _ _ s'.drop, k.ex σ⟩⟩
def vRet (t : VT) : VSt := fun E δ => t δ E.rt E.ex
theorem vs_ret (he : VE X W wx e t) : VS X W wx (.Return (some e) pos) (vRet t) :=
  ⟨PS.imp (ps_ret he.pe) fun Dd σ H ⟨δ, π, E, s, h, k⟩ => ⟨δ, π, _, _, s, h, fun rv δ' z v H' s' => k.rt _ _ z _ _ _ s', k.ex σ⟩⟩
def vRetN : VSt := fun E δ => E.rt (.sh .none) δ
theorem vs_retN : VS X W wx (.Return none pos) vRetN :=
  ⟨PS.imp ps_retN fun Dd σ H ⟨δ, π, E, s, h, k⟩ => k.rt _ _ h .non σ H (s.push fun _ => .non)⟩
def vIfS (c : VTt) (p q : VSt) : VSt := fun E δ => c δ (fun b δ' => if b = true then p E δ' else q E δ') E.ex
theorem vs_if {tc : VTt} {xs ys : List Stmt} (hc : VC X W wx c tc) (ha : VSs X W wx xs p) (hb : VSs X W wx ys q) : VS X W wx (.If c xs ys pos) (vIfS tc p q) :=
  ⟨PS.imp (ps_if hc.pt ha.ps hb.ps) fun Dd σ H ⟨δ, π, E, s, h, k⟩ => ⟨δ, π, _, _, s, h, fun d δ' z H' s' => by
    cases d with
    | true =>
      rw [if_pos rfl]
      rw [if_pos rfl] at z
      exact ⟨δ', π, E, s', z, k⟩
    | false =>
      rw [if_neg (by decide)]
      rw [if_neg (by decide)] at z
      exact ⟨δ', π, E, s', z, k⟩, k.ex σ⟩⟩
def vSet (i : Nat) (t : VT) : VSt := fun E δ => t δ (fun rv δ' => i < δ'.length ∧ E.nx (δ'.set i rv)) E.ex
theorem vs_set {i : Nat} {x : Str} {pos' : Pos} (hN : X.N.Nodup) (hi : X.N[i]? = some x) (hx : Loc X.env.scope x) (he : VE X W wx e t) (hs : swapsWith e (some (.Name x pos')) pos.line X.env = pure false := by rfl)
    (hf : X.fn x = true ∨ X.env.scope.names.lookup x = some .local := by first | exact .inl rfl | exact .inr rfl | assumption) : VS X W wx (.Assign [.Name x pos'] e pos) (vSet i t) :=
  ⟨PS.imp (ps_set hN hi hx he.pe hs hf) fun Dd σ H ⟨δ, π, E, s, h, k⟩ => ⟨δ, π, _, _, s, h, fun rv δ' z v H' s' => k.nx _ z.2 _ _ (s'.put z.1), k.ex σ⟩⟩
/-- never come to -/
def vNever : VSt := fun _ _ => False
theorem vss_never : VSs X W wx sts vNever := ⟨⟨fun _ _ _ _ _ _ ⟨_, _, _, _, h, _⟩ => h.elim⟩⟩
theorem vs_never : VS X W wx st vNever := ⟨⟨fun _ _ _ _ _ _ ⟨_, _, _, _, h, _⟩ => h.elim⟩⟩

/-! ### targets -/
def lG (K : PySem.W.Frag) (W : Wd) (ws : List Nat) (g : D → List Sl → Option (List Sl)) : TG := fun x σ H k => ∃ (δ : List Sl) (π : List Cell) (d : D) (j : Nat) (δ' : List Sl),
  π[j]? = some (some x, Sl.sh d) ∧ SS K W H σ δ π ∧ g d δ = some δ' ∧ ∀ σ', wipe σ' ws = wipe σ ws → SS K W H σ' δ' π → k σ' H
/-- g: what the binding makes of the places; ws: the slots that it sets -/
structure VG (X : Cx) (W : Wd) (tg : Expr) (ws : List Nat) (g : D → List Sl → Option (List Sl)) : Prop where
  pg : PG X tg (lG X.K W ws g)
theorem SS.copy {v : V} {d : D} {j : Nat} (s : SS K W H σ δ π) (e : π[j]? = some (some v, .sh d)) : SS K W H σ δ (π ++ [(some v, .sh d)]) := by
  obtain ⟨S, y⟩ := s.st
  have e2 : (σ.zip δ ++ π)[(σ.zip δ).length + j]? = some (some v, .sh d) := by
    rw [List.getElem?_append_right (by omega), Nat.add_sub_cancel_left]
    exact e
  obtain ⟨u, eu, r⟩ := y.sh _ _ _ e2
  cases eu
  exact s.pushF y r
def bName (i : Nat) : D → List Sl → Option (List Sl) := fun d δ => if i < δ.length then some (δ.set i (.sh d)) else none
theorem wipe_one {i : Nat} {v : Option V} : wipe (σ.set i v) [i] = wipe σ [i] := by
  show (σ.set i v).set i none = σ.set i none
  rw [List.set_set]
theorem vg_name {i : Nat} {x : Str} (hN : X.N.Nodup) (hi : X.N[i]? = some x) (hx : Loc X.env.scope x) (hf : X.fn x = true ∨ X.env.scope.names.lookup x = some .local := by first | exact .inl rfl | exact .inr rfl | assumption) : VG X W (.Name x pos) [i] (bName i) :=
  ⟨⟨fun pins sh σ H v u Q I r h => (pg_name hN hi hx hf).run pins sh σ H v u Q I r (by
    obtain ⟨δ, π, d, j, δ', e, s, g, k⟩ := h
    have g' : (if i < δ.length then some (δ.set i (.sh d)) else none) = some δ' := g
    by_cases hl : i < δ.length
    · rw [if_pos hl] at g'
      cases g'
      exact k _ wipe_one ((s.copy e).put hl)
    · rw [if_neg hl] at g'
      cases g')⟩⟩
/-- several targets -/
def lGs (K : PySem.W.Frag) (W : Wd) (ws : List Nat) (g : List D → List Sl → Option (List Sl)) : TGs := fun xs σ H k => ∃ (δ : List Sl) (π : List Cell) (ds : List D) (j : Nat) (δ' : List Sl),
  (∀ (i : Nat) x, xs[i]? = some x → ∃ d, ds[i]? = some d ∧ π[j + i]? = some (some x, Sl.sh d)) ∧ xs.length = ds.length ∧ SS K W H σ δ π ∧ g ds δ = some δ' ∧ ∀ σ', wipe σ' ws = wipe σ ws → SS K W H σ' δ' π → k σ' H
structure VGs (X : Cx) (W : Wd) (tgs : List Expr) (ws : List Nat) (g : List D → List Sl → Option (List Sl)) : Prop where
  pg : PGs X tgs (lGs X.K W ws g)
def bNil : List D → List Sl → Option (List Sl) := fun ds δ => match ds with
  | [] => some δ
  | _ => none
def bCons (g : D → List Sl → Option (List Sl)) (gs : List D → List Sl → Option (List Sl)) : List D → List Sl → Option (List Sl) := fun ds δ => match ds with
  | [] => none
  | d :: r => (g d δ).bind (gs r)
theorem vgs_nil {ws : List Nat} : VGs X W [] ws bNil := ⟨⟨fun pins sh σ H vs us Q I r h => pgs_nil.run pins sh σ H vs us Q I r (by
    obtain ⟨δ, π, ds, j, δ', e, l, s, g, k⟩ := h
    cases ds with
    | nil =>
      cases g
      exact ⟨List.length_eq_zero_iff.mp (by simpa using l), k σ rfl s⟩
    | cons d r => cases g)⟩⟩
theorem wipe_set : ∀ {σ : L2.St} {ws : List Nat} {i : Nat}, (wipe σ ws).set i none = wipe (σ.set i none) ws
  | _, [], _ => rfl
  | σ, w :: ws, i => by
    show ((wipe σ ws).set w none).set i none = (wipe (σ.set i none) ws).set w none
    rw [← wipe_set (σ := σ) (ws := ws) (i := i)]
    by_cases h : w = i
    · subst h; rfl
    · rw [List.set_comm _ _ h]
theorem wipe_app : ∀ {σ : L2.St} {ws vs : List Nat}, wipe σ (ws ++ vs) = wipe (wipe σ vs) ws
  | _, [], _ => rfl
  | σ, w :: ws, vs => by
    show (wipe σ (ws ++ vs)).set w none = (wipe (wipe σ vs) ws).set w none
    rw [wipe_app]
theorem wipe_com : ∀ {σ : L2.St} {ws vs : List Nat}, wipe (wipe σ vs) ws = wipe (wipe σ ws) vs
  | _, [], _ => rfl
  | σ, w :: ws, vs => by
    show (wipe (wipe σ vs) ws).set w none = wipe ((wipe σ ws).set w none) vs
    rw [wipe_com, wipe_set]
theorem vgs_cons {tg : Expr} {tgs : List Expr} {ws vs : List Nat} {g : D → List Sl → Option (List Sl)} {gs : List D → List Sl → Option (List Sl)} (h1 : VG X W tg ws g) (h2 : VGs X W tgs vs gs)
    (hs : (assignEach (tg :: tgs) X.env).map (·.2) = assign tg X.env :: (assignEach tgs X.env).map (·.2) := by rfl) : VGs X W (tg :: tgs) (ws ++ vs) (bCons g gs) :=
  ⟨⟨fun pins sh σ H xs us Q I r h => (pgs_cons h1.pg h2.pg hs).run pins sh σ H xs us Q I r (by
    obtain ⟨δ, π, ds, j, δ', e, l, s, gg, k⟩ := h
    cases ds with
    | nil => cases gg
    | cons d dr =>
      cases xs with
      | nil => simp at l
      | cons x xr =>
        obtain ⟨δ1, g1, g2⟩ := Option.bind_eq_some_iff.mp (show (g d δ).bind (gs dr) = some δ' from gg)
        obtain ⟨d', e1, e2⟩ := e 0 x rfl
        cases e1
        refine ⟨x, xr, rfl, δ, π, d, j, δ1, e2, s, g1, fun σ1 w1 s1 => ?_⟩
        refine ⟨δ1, π, dr, j + 1, δ', fun i y hy => ?_, by simpa using l, s1, g2, fun σ2 w2 s2 => k σ2 ?_ s2⟩
        · obtain ⟨d2, q1, q2⟩ := e (i + 1) y (by simpa using hy)
          exact ⟨d2, by simpa using q1, by rw [← q2]; congr 1; omega⟩
        · rw [wipe_app, wipe_app, w2, wipe_com, w1, wipe_com])⟩⟩
def bTup (n : Nat) (gs : List D → List Sl → Option (List Sl)) : D → List Sl → Option (List Sl) := fun d δ => match d with
  | .tuple ds => if ds.length = n then gs ds δ else none
  | _ => none
theorem vg_tup {tgs : List Expr} {k n : Nat} {ws : List Nat} {gs : List D → List Sl → Option (List Sl)} (hc : X.calm = true) (h : VGs X W tgs ws gs)
    (hn : (assignEach tgs X.env).length = n := by rfl) (hst : (assignEach tgs X.env).findIdx? (·.1) = none := by rfl) : VG X W (.Tuple tgs k pos) ws (bTup n gs) :=
  ⟨⟨fun pins sh σ H v u Q I r hh => (pg_tup (pos := pos) (k := k) hc h.pg hn hst).run pins sh σ H v u Q I r (by
    obtain ⟨δ, π, d, j, δ', e, s, g, kk⟩ := hh
    cases d with
    | tuple ds =>
      have g' : (if ds.length = n then gs ds δ else none) = some δ' := g
      by_cases hl : ds.length = n
      · rw [if_pos hl] at g'
        have s2 := s.copy e
        obtain ⟨S, y⟩ := s2.st
        rw [← List.append_assoc] at y
        obtain ⟨u', eu, rr⟩ := y.sh _ _ _ snoc_last
        cases eu
        cases rr with
        | @tup a0 xs0 _ h1 h2 =>
          refine ⟨_, _, rfl, h1.sq, by rw [h2.length]; exact hl, δ, π ++ shs xs0 ds, ds, π.length, δ', fun i x hx => ?_, h2.length, ?_, g', fun σ' w s3 => kk σ' w s3.drop⟩
          · obtain ⟨d2, q1, _⟩ := Rps.get' h2 hx
            refine ⟨d2, q1, ?_⟩
            rw [List.getElem?_append_right (by omega), Nat.add_sub_cancel_left]
            exact shs_at hx q1
          · obtain ⟨S2, y2⟩ := s2.st
            have y3 : StF X.K W H (σ.zip δ ++ π) S := y.re (fun i => i) (fun i c q => .inr (snoc_old q)) (fun i j n q => absurd q n)
            exact ⟨s.len, S, by rw [← List.append_assoc]; exact y3.pushs h2⟩
      · rw [if_neg hl] at g'
        cases g'
    | _ => cases g)⟩⟩
/-- a, (b, c) = value -/
def vAsg (t : VT) (g : D → List Sl → Option (List Sl)) : VSt := fun E δ => vS t δ (fun rv δ' => ∃ δ2, g rv.get δ' = some δ2 ∧ E.nx δ2) E.ex
theorem vs_asg {tg : Expr} {ws : List Nat} {g : D → List Sl → Option (List Sl)} (he : VE X W wx e t) (hg : VG X W tg ws g) (hs : swapsWithSole [tg] e pos.line X.env = pure false := by rfl) (hw : swappedStores [tg] e X.env = pure none := by rfl)
    (h1 : (assignEach [tg] X.env).map (·.2) = [assign tg X.env] := by rfl) : VS X W wx (.Assign [tg] e pos) (vAsg t g) :=
  ⟨PS.imp (ps_asg he.pe hg.pg hs hw h1) fun Dd σ H ⟨δ, π, E, s, h, k⟩ => ⟨δ, π, _, _, s, h, fun rv δ' z v H' s' => by
    obtain ⟨z1, δ2, z2, z3⟩ := z
    exact ⟨δ', π ++ [(some v, .sh rv.get)], rv.get, π.length, δ2, snoc_last, s'.shr z1, z2, fun σ' w s2 => k.nx _ z3 _ _ s2.drop⟩, k.ex σ⟩⟩
end
end ML

/-! ## M6 -/
set_option Elab.async false
set_option linter.all false
set_option autoImplicit false
set_option maxRecDepth 100000
set_option maxHeartbeats 4000000
namespace ML
open PySem PySem.Spec PyProof.Rows L2

/-! ### promises of defs: what comes in, what comes out, what the parameters hold then -/
abbrev SemG := List Sl → (Sl → List Sl → Prop) → (Exn → List Sl → Prop) → Prop
def spG (K : PySem.W.Frag) (n : Nat) (sem : SemG) : Sp := fun vs H Q E => ∃ (A F0 : Addr → Prop) (ins : List Sl) (Qd : Sl → List Sl → Prop) (Xd : Exn → List Sl → Prop),
  vs.length = n ∧ ins.length = n ∧ StF K ⟨H, F0, A⟩ H ((vs.map some).zip ins) (fun b => A b ∨ F0 b) ∧ sem ins Qd Xd ∧
  (∀ rv outs, Qd rv outs → ∀ v H' (ws : List (Option V)), ws.length = n → outs.length = n → ML.St K ⟨H, F0, A⟩ H' (ws.zip outs ++ [(some v, rv)]) → Q v H') ∧
  (∀ x outs, Xd x outs → ∀ d H' us (ws : List (Option V)), ws.length = n → outs.length = n → ML.St K ⟨H, F0, A⟩ H' (ws.zip outs ++ shs us x.vals) → us.length = x.vals.length → DS H' d x.names us → E (.ref x.cls) d H')
/-- a def that reads alone -/
abbrev SemV := List D → (Sl → Prop) → (Exn → Prop) → Prop
def semV (s : SemV) : SemG := fun ins Qd Xd => ∃ ds, ins = ds.map Sl.sh ∧ s ds (fun rv => ∀ outs, Qd rv outs) (fun x => ∀ outs, Xd x outs)
/-- what a caller knows of a def -/
structure FnG (P : Program) (w : World) (K : PySem.W.Frag) (mg : Str → Option Value) (base : Heap) (k : Nat) (x : Str) (n : Nat) (sem : SemG) : Prop where
  ex : ∃ (f : Addr) (fd : FuncData) (ps : List Str), FnOk P w K mg base (L2.CX P w) k f fd ps (spG K n sem) ∧ mg x = some (.ref f) ∧ PySem.W.keepIn K (.ref f) = true ∧ Binds K fd ps []

/-! ### arguments: a value that is shared; a slot that is lent; a value that is looked at alone -/
inductive Ag where
  | pd (t : VT)
  | ln (i : Nat)
  | br (o : Opr)
  | mv (t : VT)
abbrev VAs := List Sl → (List Sl → List Sl → Prop) → (Exn → List Sl → Prop) → Prop
def agEv : List Ag → VAs
  | [] => fun δ Q _ => Q [] δ
  | .pd t :: r => fun δ Q Xc => t δ (fun rv δ1 => rv.isIn = true ∧ agEv r δ1 (fun l δ2 => Q (.sh rv.get :: l) δ2) Xc) Xc
  | .ln i :: r => fun δ Q Xc => inAt δ i ∧ agEv r δ (fun l δ2 => Q (.un :: l) δ2) Xc
  | .br o :: r => fun δ Q Xc => o.ev δ (fun rv δ1 => agEv r δ1 (fun l δ2 => Q (rv :: l) δ2) Xc) Xc
  | .mv t :: r => fun δ Q Xc => t δ (fun rv δ1 => agEv r δ1 (fun l δ2 => Q (rv :: l) δ2) Xc) Xc
def Ag.is : Ag → L2.St → V → Prop
  | .pd _, _, _ => True
  | .ln i, σ, v => σ[i]? = some (some v)
  | .br o, σ, v => o.is σ v
  | .mv _, _, _ => True
def lnsOf : List Ag → List Nat
  | [] => []
  | .ln i :: r => i :: lnsOf r
  | _ :: r => lnsOf r
/-- the slot that a place looked at lies in -/
def Opr.base (δ : List Sl) (o : Opr) (s : Sl) : Option Nat := match o with
  | .pk i => match δ[i]? with
    | some (.ow _) => some i
    | some (.rf j _ _) => some j
    | _ => none
  | .pd _ => match s with
    | .rf j _ _ => some j
    | _ => none
def agIn1 (δ : List Sl) (lns : List Nat) (a : Ag) (s : Sl) : Option Sl := match a with
  | .pd _ => match s with
    | .sh d => some (.sh d)
    | _ => none
  | .ln i => match δ[i]? with
    | some (.ow o) => some (.ow o)
    | some (.sh d) => some (.sh d)
    | _ => none
  | .br o => match o.base δ s with
    | none => (o.fin true s δ).map .sh
    | some j => if j ∈ lns then none else (o.fin true s δ).map .sh
  | .mv _ => match s with
    | .ow o => some (.ow o)
    | .sh d => some (.sh d)
    | _ => none
def agIn (δ : List Sl) (lns : List Nat) : List Ag → List Sl → Option (List Sl)
  | [], [] => some []
  | a :: r, s :: l => match agIn1 δ lns a s with
    | none => none
    | some x => match agIn δ lns r l with
      | none => none
      | some y => some (x :: y)
  | _, _ => none
def isSh : Sl → Bool
  | .sh _ => true
  | _ => false
/-- is something of the caller's looked at -/
def agBor (δ : List Sl) : List Ag → List Sl → Bool
  | .br o :: r, s :: l => (match o.sl s δ with
    | some (.sh _) => agBor δ r l
    | _ => true)
  | _ :: r, _ :: l => agBor δ r l
  | _, _ => false
def keepO : Option Sl → Sl → Sl
  | some (.ow o), .ow o' => match o.root, o'.root with
    | some p, some q => if p = q then .ow o' else .un
    | _, _ => .un
  | some (.sh d), _ => .sh d
  | _, _ => .un
def agOut (δ : List Sl) : List Ag → List Sl → List Sl
  | .ln i :: r, s :: l => agOut (δ.set i (keepO δ[i]? s)) r l
  | _ :: r, _ :: l => agOut δ r l
  | _, _ => δ
mutual
def Ot.atm : Ot → Bool
  | .leaf d => atom d
  | .nod _ os => Ot.atms os
def Ot.atms : List Ot → Bool
  | [] => true
  | o :: os => o.atm && Ot.atms os
end
def Sl.atm : Sl → Bool
  | .sh d => atom d
  | .ow o => o.atm
  | _ => true
/-- what comes back of what was lent holds no address -/
def lnAtm : List Ag → List Sl → Bool
  | .ln _ :: r, s :: l => s.atm && lnAtm r l
  | _ :: r, _ :: l => lnAtm r l
  | _, _ => true
theorem lnAtm_at : ∀ {as : List Ag} {l : List Sl} {k i : Nat} {s : Sl}, lnAtm as l = true → as[k]? = some (.ln i) → l[k]? = some s → s.atm = true
  | [], _, _, _, _, _, h, _ => by simp at h
  | _ :: _, [], _, _, _, _, _, h => by simp at h
  | a :: r, s0 :: l, 0, i, s, n, h, q => by
    simp at h q
    subst h q
    have n' : (s0.atm && lnAtm r l) = true := n
    rw [Bool.and_eq_true] at n'
    exact n'.1
  | a :: r, s0 :: l, k + 1, i, s, n, h, q => by
    have n' : lnAtm r l = true := by
      cases a with
      | ln j =>
        have n' : (s0.atm && lnAtm r l) = true := n
        rw [Bool.and_eq_true] at n'
        exact n'.2
      | _ => exact n
    exact lnAtm_at (k := k) n' (by simpa using h) (by simpa using q)
section
variable {X : Cx} {W : Wd} {wx : WX} {K : PySem.W.Frag} {H H' : Hp} {σ : L2.St} {δ δ' : List Sl} {π : List Cell} {e a b c : Expr} {es : List Expr} {t u : VT} {ts : VTs} {pos : Pos} {S S' : Addr → Prop} {cs cs' : List Cell}
mutual
theorem Ow.atm {S2 : Addr → Prop} : ∀ (o : Ot) (v : V), o.atm = true → Ow K S H v o → Ow K S2 H v o
  | .leaf d, _, n, h => by
    cases h with
    | leaf r => rw [Ot.atm] at n; exact .leaf (Rp.atm n r)
  | .nod s os, _, n, h => by
    cases h with
    | nod h1 h2 => rw [Ot.atm] at n; exact .nod h1 (Ows.atm os _ n h2)
theorem Ows.atm {S2 : Addr → Prop} : ∀ (os : List Ot) (vs : List V), Ot.atms os = true → Ows K S H vs os → Ows K S2 H vs os
  | [], _, _, h => by cases h; exact .nil
  | o :: os, _, n, h => by
    cases h with
    | cons h1 h2 =>
      rw [Ot.atms, Bool.and_eq_true] at n
      exact .cons (Ow.atm o _ n.1 h1) (Ows.atm os _ n.2 h2)
end
theorem Sl.atoms_of {s : Sl} (h : s.atm = true) : s.atoms := by
  cases s with
  | sh d => exact h
  | ow o => exact fun K S S2 H u w => Ow.atm o u h w
  | _ => exact trivial
abbrev cells (vs : List V) (l : List Sl) : List Cell := (vs.map some).zip l
def lAg (K : PySem.W.Frag) (W : Wd) (wx : WX) (as : List Ag) : TA := fun σ H Q => ∃ δ π Qd Xd, SS K W H σ δ π ∧ agEv as δ Qd Xd ∧
  (∀ l δ', Qd l δ' → ∀ vs H', vs.length = as.length → l.length = as.length → (∀ (k : Nat) (a : Ag) (v : V), as[k]? = some a → vs[k]? = some v → a.is σ v) → SS K W H' σ δ' (π ++ cells vs l) → Q vs H') ∧ XR K W wx σ π Xd
structure VAg (X : Cx) (W : Wd) (wx : WX) (es : List Expr) (as : List Ag) : Prop where
  pa : PA X es (lAg X.K W wx as)
  len : es.length = as.length
theorem vg0 : VAg X W wx [] [] := ⟨PA.imp pa_nil fun σ H Q ⟨δ, π, Qd, Xd, s, h, k, xr⟩ => k _ _ h [] H rfl rfl (fun k a v q => by simp at q) (by rw [show cells [] [] = [] from rfl, List.append_nil]; exact s), rfl⟩
theorem cells_cons {v : V} {vs : List V} {s : Sl} {l : List Sl} : cells (v :: vs) (s :: l) = (some v, s) :: cells vs l := rfl
theorem ag_is {as : List Ag} {a0 : Ag} {v0 : V} {vs : List V} (h0 : a0.is σ v0) (h : ∀ (k : Nat) (a : Ag) (v : V), as[k]? = some a → vs[k]? = some v → a.is σ v) : ∀ (k : Nat) (a : Ag) (v : V), (a0 :: as)[k]? = some a → (v0 :: vs)[k]? = some v → a.is σ v := fun k a v q1 q2 => by
  cases k with
  | zero => simp at q1 q2; subst q1 q2; exact h0
  | succ k => exact h k a v (by simpa using q1) (by simpa using q2)
theorem vg_pd {as : List Ag} (he : VE X W wx e t) (hr : VAg X W wx es as) (hs : starEach (e :: es) X.env = (false, eval e X.env) :: starEach es X.env := by rfl) : VAg X W wx (e :: es) (.pd t :: as) := by
  refine ⟨PA.imp (pa_cons he.pe hr.pa hs) fun σ H Q ⟨δ, π, Qd, Xd, s, h, k, xr⟩ => ?_, by rw [List.length_cons, List.length_cons, hr.len]⟩
  refine ⟨δ, π, _, Xd, s, h, fun rv δ1 q v H1 s1 => ?_, xr⟩
  refine ⟨δ1, π ++ [(some v, .sh rv.get)], _, Xd, s1.shr q.1, q.2, fun l δ2 q2 vs H2 l2 n2 i2 s2 => ?_, xr.more⟩
  refine k _ _ q2 (v :: vs) H2 (by rw [List.length_cons, List.length_cons, l2]) (by rw [List.length_cons, List.length_cons, n2]) (ag_is (a0 := .pd t) trivial i2) ?_
  rw [cells_cons, List.append_cons]
  exact s2
theorem vg_ln (i : Nat) {as : List Ag} {x : Str} {pn : Pos} (hr : VAg X W wx es as) (hN : X.N[i]? = some x := by rfl) (hv : Vis X.env.scope x := by first | exact Or.inl rfl | exact Or.inr (Or.inl rfl) | exact Or.inr (Or.inr rfl)) (hd : (x == ("__debug__" : Str)) = false := by decide)
    (hcd : (x == ("__classdict__" : Str)) = false := by decide) (hs : starEach (.Name x pn :: es) X.env = (false, eval (.Name x pn) X.env) :: starEach es X.env := by rfl) : VAg X W wx (.Name x pn :: es) (.ln i :: as) := by
  refine ⟨PA.imp (pa_cons (pe_var hN hv hd hcd) hr.pa hs) fun σ H Q ⟨δ, π, Qd, Xd, s, ⟨h0, h⟩, k, xr⟩ => ?_, by rw [List.length_cons, List.length_cons, hr.len]⟩
  obtain ⟨v, hv⟩ := s.inAt h0
  refine ⟨v, hv, δ, π ++ [(some v, .un)], _, Xd, s.blank, h, fun l δ2 q2 vs H2 l2 n2 i2 s2 => ?_, xr.more⟩
  refine k _ _ q2 (v :: vs) H2 (by rw [List.length_cons, List.length_cons, l2]) (by rw [List.length_cons, List.length_cons, n2]) (ag_is (a0 := .ln i) hv i2) ?_
  rw [cells_cons, List.append_cons]
  exact s2
theorem vg_br {o : Opr} {as : List Ag} (ho : VO X W wx e o) (hr : VAg X W wx es as) (hs : starEach (e :: es) X.env = (false, eval e X.env) :: starEach es X.env := by rfl) : VAg X W wx (e :: es) (.br o :: as) := by
  obtain ⟨te, A⟩ := ho
  refine ⟨PA.imp (pa_cons A.pe hr.pa hs) fun σ H Q ⟨δ, π, Qd, Xd, s, h, k, xr⟩ => ?_, by rw [List.length_cons, List.length_cons, hr.len]⟩
  refine A.run σ H δ π _ Xd _ s h xr fun rv δ1 q v H1 s1 i1 => ?_
  refine ⟨δ1, π ++ [(some v, rv)], _, Xd, s1, q, fun l δ2 q2 vs H2 l2 n2 i2 s2 => ?_, xr.more⟩
  refine k _ _ q2 (v :: vs) H2 (by rw [List.length_cons, List.length_cons, l2]) (by rw [List.length_cons, List.length_cons, n2]) (ag_is (a0 := .br o) i1 i2) ?_
  rw [cells_cons, List.append_cons]
  exact s2
theorem vg_mv {as : List Ag} (he : VE X W wx e t) (hr : VAg X W wx es as) (hs : starEach (e :: es) X.env = (false, eval e X.env) :: starEach es X.env := by rfl) : VAg X W wx (e :: es) (.mv t :: as) := by
  refine ⟨PA.imp (pa_cons he.pe hr.pa hs) fun σ H Q ⟨δ, π, Qd, Xd, s, h, k, xr⟩ => ?_, by rw [List.length_cons, List.length_cons, hr.len]⟩
  refine ⟨δ, π, _, Xd, s, h, fun rv δ1 q v H1 s1 => ?_, xr⟩
  refine ⟨δ1, π ++ [(some v, rv)], _, Xd, s1, q, fun l δ2 q2 vs H2 l2 n2 i2 s2 => ?_, xr.more⟩
  refine k _ _ q2 (v :: vs) H2 (by rw [List.length_cons, List.length_cons, l2]) (by rw [List.length_cons, List.length_cons, n2]) (ag_is (a0 := .mv t) trivial i2) ?_
  rw [cells_cons, List.append_cons]
  exact s2

theorem agIn_at {δ : List Sl} {lns : List Nat} : ∀ {as : List Ag} {l ins : List Sl}, agIn δ lns as l = some ins → ins.length = as.length ∧ ∀ (k : Nat) x, ins[k]? = some x → ∃ a s, as[k]? = some a ∧ l[k]? = some s ∧ agIn1 δ lns a s = some x
  | [], [], ins, h => by cases h; exact ⟨rfl, fun k x q => by simp at q⟩
  | [], _ :: _, ins, h => by cases h
  | _ :: _, [], ins, h => by cases h
  | a :: r, s :: l, ins, h => by
    unfold agIn at h
    split at h
    · cases h
    · rename_i x ex
      split at h
      · cases h
      · rename_i y ey
        cases h
        obtain ⟨h1, h2⟩ := agIn_at ey
        refine ⟨by rw [List.length_cons, List.length_cons, h1], fun k z q => ?_⟩
        cases k with
        | zero => simp at q; subst q; exact ⟨a, s, rfl, rfl, ex⟩
        | succ k =>
          obtain ⟨a', s', q1, q2, q3⟩ := h2 k z (by simpa using q)
          exact ⟨a', s', by simpa using q1, by simpa using q2, q3⟩
theorem lns_mem : ∀ {as : List Ag} {k i : Nat}, as[k]? = some (.ln i) → i ∈ lnsOf as
  | [], _, _, h => by simp at h
  | a :: r, 0, i, h => by simp at h; subst h; exact List.mem_cons_self
  | a :: r, k + 1, i, h => by
    have := lns_mem (as := r) (k := k) (i := i) (by simpa using h)
    cases a with
    | ln j => exact List.mem_cons_of_mem _ this
    | _ => exact this
theorem lns_one : ∀ {as : List Ag} {k j i : Nat}, (lnsOf as).Nodup → as[k]? = some (.ln i) → as[j]? = some (.ln i) → k = j
  | [], _, _, _, _, h, _ => by simp at h
  | a :: r, 0, 0, i, _, _, _ => rfl
  | a :: r, 0, j + 1, i, n, h, q => by
    simp at h; subst h
    exact absurd (lns_mem (as := r) (k := j) (i := i) (by simpa using q)) (List.nodup_cons.mp n).1
  | a :: r, k + 1, 0, i, n, h, q => by
    simp at q; subst q
    exact absurd (lns_mem (as := r) (k := k) (i := i) (by simpa using h)) (List.nodup_cons.mp n).1
  | a :: r, k + 1, j + 1, i, n, h, q => by
    have n' : (lnsOf r).Nodup := by
      cases a with
      | ln j => exact (List.nodup_cons.mp n).2
      | _ => exact n
    rw [lns_one n' (show r[k]? = some (.ln i) by simpa using h) (by simpa using q)]
theorem agOut_len : ∀ {as : List Ag} {outs δ : List Sl}, (agOut δ as outs).length = δ.length
  | [], outs, δ => by cases outs <;> rfl
  | a :: r, [], δ => by cases a <;> rfl
  | a :: r, s :: l, δ => by
    cases a with
    | ln i => show (agOut _ r l).length = _; rw [agOut_len, List.length_set]
    | pd t => exact agOut_len (as := r)
    | br o => exact agOut_len (as := r)
    | mv t => exact agOut_len (as := r)
theorem agOut_at : ∀ {as : List Ag} {outs δ : List Sl} {j : Nat} {sl : Sl}, (lnsOf as).Nodup → outs.length = as.length → (agOut δ as outs)[j]? = some sl →
    (δ[j]? = some sl ∧ ((∃ o, sl = .ow o) → ∀ k : Nat, as[k]? ≠ some (Ag.ln j))) ∨ sl = .un ∨ ∃ (k : Nat) (o o' : Ot) (p : Addr), as[k]? = some (Ag.ln j) ∧ outs[k]? = some (Sl.ow o') ∧ sl = .ow o' ∧ δ[j]? = some (.ow o) ∧ o'.root = some p ∧ o.root = some p
  | [], outs, δ, j, sl, _, _, h => by
    have h' : δ[j]? = some sl := by cases outs <;> exact h
    exact .inl ⟨h', fun _ k q => by simp at q⟩
  | a :: r, [], δ, j, sl, _, l, h => by simp at l
  | a :: r, s :: l, δ, j, sl, n, hl, h => by
    have n' : (lnsOf r).Nodup := by
      cases a with
      | ln j => exact (List.nodup_cons.mp n).2
      | _ => exact n
    have hl' : l.length = r.length := by simpa using hl
    have other : (∀ i, a ≠ .ln i) → agOut δ (a :: r) (s :: l) = agOut δ r l := fun na => by
      cases a with
      | ln i => exact absurd rfl (na i)
      | _ => rfl
    by_cases hn : ∃ i, a = .ln i
    · obtain ⟨i, rfl⟩ := hn
      have n0 := (List.nodup_cons.mp n).1
      have h' : (agOut (δ.set i (keepO δ[i]? s)) r l)[j]? = some sl := h
      rcases agOut_at n' hl' h' with ⟨q1, q2⟩ | q | ⟨k, o, o', p, q1, q2, q3, q4, q5, q6⟩
      · by_cases hj : i = j
        · subst hj
          have hi : i < δ.length := by
            have := (List.getElem?_eq_some_iff.mp q1).1
            rwa [List.length_set] at this
          rw [List.getElem?_set_self hi] at q1
          have e0 : keepO δ[i]? s = sl := Option.some.inj q1
          cases ed : δ[i]? with
          | none => rw [ed] at e0; exact .inr (.inl e0.symm)
          | some y =>
            rw [ed] at e0
            cases y with
            | sh d =>
              refine .inl ⟨by rw [← e0]; rfl, fun ⟨o, ho⟩ => ?_⟩
              rw [ho] at e0; cases e0
            | ow o =>
              cases s with
              | ow o' =>
                have e1 : (match o.root, o'.root with | some p, some q => if p = q then Sl.ow o' else .un | _, _ => .un) = sl := e0
                cases r1 : o.root with
                | none => rw [r1] at e1; exact .inr (.inl e1.symm)
                | some p =>
                  rw [r1] at e1
                  cases r2 : o'.root with
                  | none => rw [r2] at e1; exact .inr (.inl e1.symm)
                  | some q =>
                    simp only [r2] at e1
                    by_cases z : p = q
                    · rw [if_pos z] at e1
                      subst z
                      exact .inr (.inr ⟨0, o, o', p, rfl, rfl, e1.symm, rfl, r2, r1⟩)
                    · rw [if_neg z] at e1
                      exact .inr (.inl e1.symm)
              | _ => exact .inr (.inl e0.symm)
            | _ => exact .inr (.inl e0.symm)
        · rw [List.getElem?_set_ne hj] at q1
          refine .inl ⟨q1, fun ho k q => ?_⟩
          cases k with
          | zero => simp at q; exact hj q
          | succ k => exact q2 ho k (by simpa using q)
      · exact .inr (.inl q)
      · by_cases hj : i = j
        · subst hj
          exact absurd (lns_mem q1) n0
        · rw [List.getElem?_set_ne hj] at q4
          exact .inr (.inr ⟨k + 1, o, o', p, by simpa using q1, by simpa using q2, q3, q4, q5, q6⟩)
    · rw [other (fun i z => hn ⟨i, z⟩)] at h
      rcases agOut_at n' hl' h with ⟨q1, q2⟩ | q | ⟨k, o, o', p, q1, q2, q3, q4, q5, q6⟩
      · refine .inl ⟨q1, fun ho k q => ?_⟩
        cases k with
        | zero => simp at q; exact hn ⟨j, q⟩
        | succ k => exact q2 ho k (by simpa using q)
      · exact .inr (.inl q)
      · exact .inr (.inr ⟨k + 1, o, o', p, by simpa using q1, by simpa using q2, q3, q4, q5, q6⟩)
theorem agBor_at : ∀ {as : List Ag} {l : List Sl} {k : Nat} {o : Opr} {s : Sl}, agBor δ as l = false → as[k]? = some (.br o) → l[k]? = some s → ∃ d, o.sl s δ = some (.sh d)
  | [], l, k, o, s, _, h, _ => by simp at h
  | _ :: _, [], k, o, s, _, _, h => by simp at h
  | a :: r, s0 :: l, 0, o, s, h, q1, q2 => by
    simp at q1 q2
    subst q1 q2
    have h' : (match o.sl s0 δ with | some (.sh _) => agBor δ r l | _ => true) = false := h
    split at h'
    · rename_i d e
      exact ⟨d, e⟩
    · cases h'
  | a :: r, s0 :: l, k + 1, o, s, h, q1, q2 => by
    have h' : agBor δ r l = false := by
      cases a with
      | br o2 =>
        have h' : (match o2.sl s0 δ with | some (.sh _) => agBor δ r l | _ => true) = false := h
        split at h'
        · exact h'
        · cases h'
      | _ => exact h
    exact agBor_at h' (by simpa using q1) (by simpa using q2)
theorem cells_at : ∀ {vs : List V} {l : List Sl} {k : Nat} {c : Cell}, (cells vs l)[k]? = some c → ∃ v s, c = (some v, s) ∧ vs[k]? = some v ∧ l[k]? = some s := fun {vs l k c} h => by
  obtain ⟨h1, h2⟩ := List.getElem?_zip_eq_some.mp h
  rw [List.getElem?_map] at h1
  obtain ⟨v, h3, h4⟩ := Option.map_eq_some_iff.mp h1
  obtain ⟨c1, c2⟩ := c
  have h4' : some v = c1 := h4
  exact ⟨v, c2, by rw [← h4'], h3, h2⟩
theorem cells_mk {vs : List V} {l : List Sl} {k : Nat} {v : V} {s : Sl} (h1 : vs[k]? = some v) (h2 : l[k]? = some s) : (cells vs l)[k]? = some (some v, s) :=
  List.getElem?_zip_eq_some.mpr ⟨by rw [List.getElem?_map, h1]; rfl, h2⟩
/-- the state at a call, for the callee, and back -/
theorem SS.called {as : List Ag} {vs : List V} {l ins : List Sl} (s : SS K W H σ δ (π ++ cells vs l)) (lv : vs.length = as.length) (hi : ∀ (k : Nat) (a : Ag) (v : V), as[k]? = some a → vs[k]? = some v → a.is σ v) (nd : (lnsOf as).Nodup) (hin : agIn δ (lnsOf as) as l = some ins) :
    ∃ A F0 : Addr → Prop, StF K ⟨H, F0, A⟩ H (cells vs ins) (fun b => A b ∨ F0 b) ∧
      ∀ (H' : Hp) (ws : List (Option V)) (outs : List Sl) (ρ : List Cell), ws.length = as.length → outs.length = as.length → (agBor δ as l = true → lnAtm as outs = true ∧ ∀ c ∈ ρ, c.2.atm = true) →
        ML.St K ⟨H, F0, A⟩ H' (ws.zip outs ++ ρ) → SS K W H' σ (agOut δ as outs) (π ++ ρ) := by
  obtain ⟨S, x⟩ := s.st
  obtain ⟨li, hat⟩ := agIn_at hin
  have slot : ∀ {j : Nat} {sl : Sl}, δ[j]? = some sl → ∃ w, σ[j]? = some w ∧ (σ.zip δ ++ (π ++ cells vs l))[j]? = some (w, sl) := fun {j sl} q => zipcell s.len q
  have arg : ∀ {k : Nat} {v : V} {sl : Sl}, vs[k]? = some v → l[k]? = some sl → (σ.zip δ ++ (π ++ cells vs l))[(σ.zip δ ++ π).length + k]? = some (some v, sl) := fun {k v sl} h1 h2 => by
    rw [← List.append_assoc, List.getElem?_append_right (by omega), Nat.add_sub_cancel_left]
    exact cells_mk h1 h2
  have hsrc : ∃ src : Nat → Nat → Ot → Prop, src = fun k i o => (as[k]? = some (Ag.ln i) ∧ δ[i]? = some (Sl.ow o)) ∨ (∃ t, as[k]? = some (Ag.mv t) ∧ l[k]? = some (Sl.ow o) ∧ i = (σ.zip δ ++ π).length + k) := ⟨_, rfl⟩
  obtain ⟨src, esrc⟩ := hsrc
  have src0 : ∀ k i o, src k i o ↔ (as[k]? = some (Ag.ln i) ∧ δ[i]? = some (Sl.ow o)) ∨ (∃ t, as[k]? = some (Ag.mv t) ∧ l[k]? = some (Sl.ow o) ∧ i = (σ.zip δ ++ π).length + k) := fun k i o => by rw [esrc]
  have hdl : δ.length ≤ (σ.zip δ ++ π).length := by rw [List.length_append, zip_length s.len]; omega
  have scell : ∀ {k i : Nat} {o : Ot}, src k i o → ∃ w, (σ.zip δ ++ (π ++ cells vs l))[i]? = some (w, .ow o) := fun {k i o} h => by
    rcases (src0 k i o).mp h with ⟨_, h2⟩ | ⟨t, h1, h2, rfl⟩
    · obtain ⟨w, _, h3⟩ := slot h2
      exact ⟨w, h3⟩
    · have hk : k < vs.length := by rw [lv]; exact (List.getElem?_eq_some_iff.mp h1).1
      exact ⟨_, arg (List.getElem?_eq_getElem hk) h2⟩
  have sone : ∀ {k j i : Nat} {o o' : Ot}, src k i o → src j i o' → k = j := fun {k j i o o'} h1 h2 => by
    rcases (src0 k i o).mp h1 with ⟨a1, a2⟩ | ⟨t, a1, a2, a3⟩ <;> rcases (src0 j i o').mp h2 with ⟨b1, b2⟩ | ⟨t', b1, b2, b3⟩
    · exact lns_one nd a1 b1
    · have := (List.getElem?_eq_some_iff.mp a2).1
      omega
    · have := (List.getElem?_eq_some_iff.mp b2).1
      omega
    · omega
  have hF : ∃ F0 : Addr → Prop, F0 = fun b => ∃ (k i : Nat) (o : Ot), src k i o ∧ b ∈ o.adr := ⟨_, rfl⟩
  obtain ⟨F0, eF⟩ := hF
  have hA : ∃ A : Addr → Prop, A = fun b => S b ∧ ¬ F0 b ∧ (agBor δ as l = true → ¬ ∃ (i : Nat) (v : Option V) (o : Ot), (σ.zip δ ++ (π ++ cells vs l))[i]? = some (v, .ow o) ∧ b ∈ o.adr) := ⟨_, rfl⟩
  obtain ⟨A, eA⟩ := hA
  have f0 : ∀ b, F0 b ↔ ∃ (k i : Nat) (o : Ot), src k i o ∧ b ∈ o.adr := fun b => by rw [eF]
  have a0 : ∀ b, A b ↔ S b ∧ ¬ F0 b ∧ (agBor δ as l = true → ¬ ∃ (i : Nat) (v : Option V) (o : Ot), (σ.zip δ ++ (π ++ cells vs l))[i]? = some (v, .ow o) ∧ b ∈ o.adr) := fun b => by rw [eA]
  have fS : ∀ b, F0 b → S b ∧ (W.F0 b ∨ W.H0 b = none) := fun b hb => by
    obtain ⟨k, i, o, q, hb2⟩ := (f0 b).mp hb
    obtain ⟨w, q2⟩ := scell q
    exact x.fp i w o b q2 hb2
  have sub : ∀ b, (A b ∨ F0 b) → S b := fun b hb => hb.elim (fun z => ((a0 b).mp z).1) fun z => (fS b z).1
  have ev : Ev S H (fun b => A b ∨ F0 b) H := ⟨fun _ _ q _ => q, fun b hb => .inl (sub b hb)⟩
  -- what comes in
  have inn : ∀ (k : Nat) (c : Cell), (cells vs ins)[k]? = some c → (∃ v d, c = (some v, .sh d) ∧ Rp K (fun b => A b ∨ F0 b) H v d) ∨ (∃ v o i, c = (some v, .ow o) ∧ src k i o ∧ (σ.zip δ ++ (π ++ cells vs l))[i]? = some (some v, .ow o)) := by
    intro k c q
    obtain ⟨v, y, rfl, q1, q2⟩ := cells_at q
    obtain ⟨a, sl, h1, h2, h3⟩ := hat k y q2
    have ia := hi k a v h1 q1
    cases a with
    | pd t =>
      unfold agIn1 at h3
      cases sl with
      | sh d =>
        cases h3
        obtain ⟨u, eu, r⟩ := x.sh _ _ _ (arg q1 h2)
        cases eu
        exact .inl ⟨v, d, rfl, Rp.ev ev d v r⟩
      | _ => cases h3
    | ln i =>
      have h3' : (match δ[i]? with | some (.ow o) => some (Sl.ow o) | some (.sh d) => some (.sh d) | _ => none) = some y := h3
      have ia' : σ[i]? = some (some v) := ia
      split at h3'
      · rename_i o eo
        cases h3'
        obtain ⟨w, w1, w2⟩ := slot eo
        rw [ia'] at w1
        cases w1
        exact .inr ⟨v, o, i, rfl, (src0 _ _ _).mpr (.inl ⟨h1, eo⟩), w2⟩
      · rename_i d ed
        cases h3'
        obtain ⟨w, w1, w2⟩ := slot ed
        rw [ia'] at w1
        cases w1
        obtain ⟨u, eu, r⟩ := x.sh _ _ _ w2
        cases eu
        exact .inl ⟨v, d, rfl, Rp.ev ev d v r⟩
      · cases h3'
    | mv t =>
      unfold agIn1 at h3
      cases sl with
      | sh d =>
        cases h3
        obtain ⟨u, eu, r⟩ := x.sh _ _ _ (arg q1 h2)
        cases eu
        exact .inl ⟨v, d, rfl, Rp.ev ev d v r⟩
      | ow o =>
        cases h3
        exact .inr ⟨v, o, _, rfl, (src0 _ _ _).mpr (.inr ⟨t, h1, h2, rfl⟩), arg q1 h2⟩
      | _ => cases h3
    | br o =>
      -- a tree that is looked at stays away from what is lent, and from A
      have tree : ∀ (j : Nat) (w : Option V) (ot o1 : Ot), (σ.zip δ ++ (π ++ cells vs l))[j]? = some (w, .ow ot) → (j < δ.length → j ∉ lnsOf as) → (∀ k2 t2, as[k2]? = some (Ag.mv t2) → j ≠ (σ.zip δ ++ π).length + k2) → agBor δ as l = true → (∀ b ∈ o1.adr, b ∈ ot.adr) → Ow K S H v o1 → Rp K (fun b => A b ∨ F0 b) H v o1.get := by
        intro j w ot o1 hj nj nm hb sb ow
        refine Ow.rp o1 v (fun b hb1 z => ?_) sub ow
        rcases z with z | z
        · exact ((a0 b).mp z).2.2 hb ⟨j, w, ot, hj, sb b hb1⟩
        · obtain ⟨k2, i2, o2, g0, g3⟩ := (f0 b).mp z
          obtain ⟨w2, g4⟩ := scell g0
          have ne : j ≠ i2 := fun e => by
            subst e
            rcases (src0 _ _ _).mp g0 with ⟨g1, g2⟩ | ⟨t2, g1, g2, e3⟩
            · exact nj (List.getElem?_eq_some_iff.mp g2).1 (lns_mem g1)
            · exact nm k2 t2 g1 e3
          exact x.dj j i2 _ _ _ _ b ne hj g4 (sb b hb1) g3
      have bor : ∀ s1, o.sl sl δ = some s1 → (∀ d, s1 ≠ .sh d) → agBor δ as l = true := fun s1 e1 ns => by
        cases hb : agBor δ as l with
        | true => rfl
        | false =>
          obtain ⟨d, ed⟩ := agBor_at hb h1 h2
          rw [e1] at ed
          cases ed
          exact absurd rfl (ns d)
      -- what the operand holds
      have res : ∃ (idx : Nat) (s1 : Sl) (d : D), o.sl sl δ = some s1 ∧ s1.ra δ = some d ∧ y = .sh d ∧ (σ.zip δ ++ (π ++ cells vs l))[idx]? = some (some v, s1) ∧ (∀ j, o.base δ sl = some j → j ∉ lnsOf as) ∧ (idx < δ.length → (∃ ot, s1 = .ow ot) → o.base δ sl = some idx) ∧ (∀ j ρ p, s1 = .rf j ρ p → o.base δ sl = some j) ∧ (∀ k2 t2, as[k2]? = some (Ag.mv t2) → idx ≠ (σ.zip δ ++ π).length + k2) := by
        have h3' : (match o.base δ sl with | none => (o.fin true sl δ).map Sl.sh | some j => if j ∈ lnsOf as then none else (o.fin true sl δ).map .sh) = some y := h3
        have fin : (o.fin true sl δ).map Sl.sh = some y ∧ ∀ j, o.base δ sl = some j → j ∉ lnsOf as := by
          cases eb : o.base δ sl with
          | none => rw [eb] at h3'; exact ⟨h3', fun j z => nomatch z⟩
          | some j =>
            rw [eb] at h3'
            by_cases hm : j ∈ lnsOf as
            · simp only [if_pos hm] at h3'; cases h3'
            · simp only [if_neg hm] at h3'; exact ⟨h3', fun j' z => by cases z; exact hm⟩
        obtain ⟨d, e1, e2⟩ := Option.map_eq_some_iff.mp fin.1
        cases o with
        | pd t =>
          refine ⟨_, sl, d, rfl, e1, e2.symm, arg q1 h2, fin.2, fun hlt ⟨ot, e⟩ => ?_, fun j ρ p e => by subst e; rfl, fun k2 t2 e e2 => ?_⟩
          · exfalso
            omega
          · have : k = k2 := by omega
            subst this
            rw [h1] at e
            cases e
        | pk i =>
          have e1' : (δ[i]?).bind (Sl.read true δ) = some d := e1
          obtain ⟨s1, g1, g2⟩ := Option.bind_eq_some_iff.mp e1'
          obtain ⟨w, w1, w2⟩ := slot g1
          have ia' : σ[i]? = some (some v) := ia
          rw [ia'] at w1
          cases w1
          refine ⟨i, s1, d, g1, g2, e2.symm, w2, fin.2, fun _ ⟨ot, e⟩ => ?_, fun j ρ p e => ?_, fun k2 t2 e e2 => ?_⟩
          · show (match δ[i]? with | some (.ow _) => some i | some (.rf j _ _) => some j | _ => none) = some i
            rw [g1, e]
          · show (match δ[i]? with | some (.ow _) => some i | some (.rf j _ _) => some j | _ => none) = some j
            rw [g1, e]
          · have := (List.getElem?_eq_some_iff.mp g1).1
            omega
      obtain ⟨idx, s1, d, r1, r2, rfl, r3, r4, r5, r6, r7⟩ := res
      refine .inl ⟨v, d, rfl, ?_⟩
      cases s1 with
      | un => cases r2
      | sh d' =>
        cases r2
        obtain ⟨u, eu, r⟩ := x.sh _ _ _ r3
        cases eu
        exact Rp.ev ev d v r
      | ow ot =>
        cases r2
        obtain ⟨u, eu, w⟩ := x.ow _ _ _ r3
        cases eu
        exact tree idx _ ot ot r3 (fun hlt => r4 idx (r5 hlt ⟨ot, rfl⟩)) r7 (bor _ r1 (fun _ z => nomatch z)) (fun b hb => hb) w
      | rf j ρ p =>
        obtain ⟨o1, g1, g2⟩ := Option.map_eq_some_iff.mp (show (ML.plc δ j ρ p).map Ot.get = some d from r2)
        have ow := StF.plc s.len x g1
        have ev := x.rf _ _ _ _ _ r3
        cases ev
        obtain ⟨ot, k1, k2, k3⟩ := plc_some g1
        obtain ⟨w, w1, w2⟩ := slot k1
        rw [← g2]
        exact tree j _ ot o1 w2 (fun _ => r4 j (r6 j ρ p rfl)) (fun k2 t2 _ e => by have := (List.getElem?_eq_some_iff.mp k1).1; omega) (bor _ r1 (fun _ z => nomatch z)) (Ot.adr_at k2) ow
  refine ⟨A, F0, ⟨fun b hb => ⟨x.trk b ((a0 b).mp hb).1, ((a0 b).mp hb).2.1⟩, fun b hb => x.trk b (sub b hb), fun b hb => .inl hb, fun b o q _ => q, fun b q => q, fun k v d q => ?_, fun k v o q => ?_, fun k v j ρ p q => ?_, fun k v o b q hb => ?_, fun k j v o w p b ne q1 q2 hb => ?_, fun k v o q => ?_⟩, ?_⟩
  · rcases inn k _ q with ⟨v, d, e, r⟩ | ⟨v, o, i, e, _⟩
    · cases e; exact ⟨v, rfl, r⟩
    · cases e
  · rcases inn k _ q with ⟨v, d, e, r⟩ | ⟨v, o, i, e, _, q3⟩
    · cases e
    · cases e
      obtain ⟨u, eu, w⟩ := x.ow _ _ _ q3
      cases eu
      exact ⟨v, rfl, Ow.ev ev o v (fun _ _ _ z => z) w⟩
  · rcases inn k _ q with ⟨v, d, e, r⟩ | ⟨v, o, i, e, _⟩ <;> cases e
  · rcases inn k _ q with ⟨v, d, e, r⟩ | ⟨v, o, i, e, h1, q3⟩
    · cases e
    · cases e
      have : F0 b := (f0 b).mpr ⟨k, i, o, h1, hb⟩
      exact ⟨.inr this, .inl this⟩
  · rcases inn k _ q1 with ⟨_, d, e, r⟩ | ⟨v1, o1, i1, e, h1, q3⟩
    · cases e
    · cases e
      rcases inn j _ q2 with ⟨_, d, e, r⟩ | ⟨v2, o2, i2, e, h3, q4⟩
      · cases e
      · cases e
        have ni : i1 ≠ i2 := fun e => by
          subst e
          exact ne (sone h1 h3)
        exact x.dj i1 i2 _ _ _ _ b ni q3 q4 hb
  · rcases inn k _ q with ⟨v, d, e, r⟩ | ⟨v, o, i, e, _, q3⟩
    · cases e
    · cases e
      exact x.nd _ _ _ q3
  · intro H' ws outs ρ lw lo hb ⟨S', y⟩
    have hlen := agOut_len (as := as) (outs := outs) (δ := δ)
    refine ⟨by rw [hlen]; exact s.len, ?_⟩
    have lz : (σ.zip (agOut δ as outs)).length = δ.length := by rw [zip_length (by rw [hlen]; exact s.len), hlen]
    have lz0 := zip_length s.len
    open Classical in
    refine StF.merge x y (fun b hb => fS b hb) (cs' := σ.zip (agOut δ as outs) ++ (π ++ ρ))
      (fun j => if j < δ.length then (if h : ∃ k : Nat, as[k]? = some (Ag.ln j) ∧ ∃ o, δ[j]? = some (Sl.ow o) then .inr h.choose else .inl j) else if j < (δ.length + π.length) then .inl j else .inr ((ws.zip outs).length + (j - (δ.length + π.length)))) (fun j c q => ?_) (fun i j ne eq v o w p q1 q2 => ?_)
    · by_cases hj : j < δ.length
      · simp only [if_pos hj]
        rw [List.getElem?_append_left (by rw [lz]; exact hj)] at q
        obtain ⟨q1, q2⟩ := List.getElem?_zip_eq_some.mp q
        obtain ⟨c1, c2⟩ := c
        rcases agOut_at nd lo q2 with ⟨g1, g2⟩ | g | ⟨k, o, o', p, g1, g2, g3, g4, g5, g6⟩
        · obtain ⟨w, w1, w2⟩ := slot g1
          rw [q1] at w1
          cases w1
          by_cases hk : ∃ k : Nat, as[k]? = some (Ag.ln j) ∧ ∃ o, δ[j]? = some (Sl.ow o)
          · obtain ⟨k, k1, o, k2⟩ := hk
            exfalso
            rw [g1] at k2
            cases k2
            exact g2 ⟨o, rfl⟩ k k1
          · refine .inr (.inl ⟨j, by rw [dif_neg hk], w2, fun o ho b hb1 z => ?_⟩)
            obtain ⟨k, i, o2, z1, z3⟩ := (f0 b).mp z
            obtain ⟨w', z4⟩ := scell z1
            have ho' : c2 = .ow o := ho
            subst ho'
            have ni : j ≠ i := fun e => by
              subst e
              rcases (src0 _ _ _).mp z1 with ⟨z1, _⟩ | ⟨t2, _, _, e3⟩
              · exact g2 ⟨o, rfl⟩ k z1
              · omega
            exact x.dj j i _ _ _ _ b ni w2 z4 hb1 z3
        · exact .inl g
        · have hk : ∃ k : Nat, as[k]? = some (Ag.ln j) ∧ ∃ o, δ[j]? = some (Sl.ow o) := ⟨k, g1, o, g4⟩
          refine .inr (.inr ⟨hk.choose, by rw [dif_pos hk], ?_, ?_⟩)
          · have ek : hk.choose = k := lns_one nd hk.choose_spec.1 g1
            rw [ek]
            have hkl : k < ws.length := by rw [lw]; exact (List.getElem?_eq_some_iff.mp g1).1
            have e1 : (ws.zip outs ++ ρ)[k]? = some (ws[k], .ow o') := by
              rw [List.getElem?_append_left (by rw [List.length_zip, lw, lo, Nat.min_self, ← lw]; exact hkl)]
              exact List.getElem?_zip_eq_some.mpr ⟨List.getElem?_eq_getElem hkl, g2⟩
            obtain ⟨u, eu, wu⟩ := y.ow _ _ _ e1
            have eu2 := wu.root g5
            obtain ⟨w, w1, w2⟩ := slot g4
            obtain ⟨u3, eu3, wu3⟩ := x.ow _ _ _ w2
            have eu4 := wu3.root g6
            rw [q1] at w1
            cases w1
            have g3' : c2 = .ow o' := g3
            have eu3' : c1 = some u3 := eu3
            rw [e1, eu, g3', eu3', eu2, eu4]
          · cases hbr : agBor δ as l with
            | false => exact .inl fun b h1 h2 => (a0 b).mpr ⟨h1, h2, fun z => by rw [hbr] at z; cases z⟩
            | true =>
              refine .inr (Sl.atoms_of ?_)
              have g3' : c2 = .ow o' := g3
              show Sl.atm c2 = true
              rw [g3']
              exact lnAtm_at (hb hbr).1 g1 g2
      · simp only [if_neg hj]
        rw [List.getElem?_append_right (by rw [lz]; omega), lz] at q
        by_cases hp : j < δ.length + π.length
        · simp only [if_pos hp]
          rw [List.getElem?_append_left (by omega)] at q
          have w2 : (σ.zip δ ++ (π ++ cells vs l))[j]? = some c := by
            rw [List.getElem?_append_right (by rw [lz0]; omega), lz0, List.getElem?_append_left (by omega)]
            exact q
          refine .inr (.inl ⟨j, rfl, w2, fun o ho b hb1 z => ?_⟩)
          obtain ⟨k, i, o2, z1, z3⟩ := (f0 b).mp z
          obtain ⟨w', z4⟩ := scell z1
          obtain ⟨c1, c2⟩ := c
          have ho' : c2 = .ow o := ho
          subst ho'
          have ni : j ≠ i := by
            rcases (src0 _ _ _).mp z1 with ⟨_, z2⟩ | ⟨t2, _, _, e3⟩
            · have hi2 := (List.getElem?_eq_some_iff.mp z2).1
              omega
            · rw [List.length_append, lz0] at e3
              omega
          exact x.dj j i _ _ _ _ b ni w2 z4 hb1 z3
        · simp only [if_neg hp]
          rw [List.getElem?_append_right (by omega)] at q
          refine .inr (.inr ⟨_, rfl, ?_, ?_⟩)
          · rw [List.getElem?_append_right (by omega), Nat.add_sub_cancel_left, ← q]
            congr 1
            omega
          · cases hbr : agBor δ as l with
            | false => exact .inl fun b h1 h2 => (a0 b).mpr ⟨h1, h2, fun z => by rw [hbr] at z; cases z⟩
            | true => exact .inr (Sl.atoms_of ((hb hbr).2 c (List.mem_of_getElem? q)))
    · -- different places come from different cells
      have lzz : (ws.zip outs).length = as.length := by rw [List.length_zip, lw, lo, Nat.min_self]
      by_cases hi' : i < δ.length
      · simp only [if_pos hi'] at eq
        by_cases hki : ∃ k : Nat, as[k]? = some (Ag.ln i) ∧ ∃ o, δ[i]? = some (Sl.ow o)
        · rw [dif_pos hki] at eq
          have ksi := hki.choose_spec.1
          have kl := (List.getElem?_eq_some_iff.mp ksi).1
          by_cases hj' : j < δ.length
          · simp only [if_pos hj'] at eq
            by_cases hkj : ∃ k : Nat, as[k]? = some (Ag.ln j) ∧ ∃ o, δ[j]? = some (Sl.ow o)
            · rw [dif_pos hkj] at eq
              have ksj := hkj.choose_spec.1
              injection eq with eq
              rw [eq, ksj] at ksi
              injection ksi with ksi
              injection ksi with ksi
              exact ne ksi.symm
            · rw [dif_neg hkj] at eq
              cases eq
          · simp only [if_neg hj'] at eq
            by_cases hp : j < δ.length + π.length
            · simp only [if_pos hp] at eq; cases eq
            · simp only [if_neg hp] at eq
              injection eq with eq
              omega
        · rw [dif_neg hki] at eq
          by_cases hj' : j < δ.length
          · simp only [if_pos hj'] at eq
            by_cases hkj : ∃ k : Nat, as[k]? = some (Ag.ln j) ∧ ∃ o, δ[j]? = some (Sl.ow o)
            · rw [dif_pos hkj] at eq; cases eq
            · rw [dif_neg hkj] at eq
              injection eq with eq
              exact ne eq
          · simp only [if_neg hj'] at eq
            by_cases hp : j < δ.length + π.length
            · simp only [if_pos hp] at eq
              injection eq with eq
              exact ne eq
            · simp only [if_neg hp] at eq; cases eq
      · simp only [if_neg hi'] at eq
        by_cases hpi : i < δ.length + π.length
        · simp only [if_pos hpi] at eq
          by_cases hj' : j < δ.length
          · simp only [if_pos hj'] at eq
            by_cases hkj : ∃ k : Nat, as[k]? = some (Ag.ln j) ∧ ∃ o, δ[j]? = some (Sl.ow o)
            · rw [dif_pos hkj] at eq; cases eq
            · rw [dif_neg hkj] at eq
              injection eq with eq
              exact ne eq
          · simp only [if_neg hj'] at eq
            by_cases hp : j < δ.length + π.length
            · simp only [if_pos hp] at eq
              injection eq with eq
              exact ne eq
            · simp only [if_neg hp] at eq; cases eq
        · simp only [if_neg hpi] at eq
          by_cases hj' : j < δ.length
          · simp only [if_pos hj'] at eq
            by_cases hkj : ∃ k : Nat, as[k]? = some (Ag.ln j) ∧ ∃ o, δ[j]? = some (Sl.ow o)
            · rw [dif_pos hkj] at eq
              have ksj := hkj.choose_spec.1
              have kl := (List.getElem?_eq_some_iff.mp ksj).1
              injection eq with eq
              omega
            · rw [dif_neg hkj] at eq; cases eq
          · simp only [if_neg hj'] at eq
            by_cases hp : j < δ.length + π.length
            · simp only [if_pos hp] at eq; cases eq
            · simp only [if_neg hp] at eq
              injection eq with eq
              omega
end
end ML

/-! ## M7 -/
set_option Elab.async false
set_option linter.all false
set_option autoImplicit false
set_option maxRecDepth 100000
set_option maxHeartbeats 4000000
namespace ML
open PySem PySem.Spec PyProof.Rows L2

/-- a def's call -/
def vCal (sem : SemG) (as : List Ag) : VT := fun δ Q Xc => agEv as δ (fun l δ1 => ∃ ins, agIn δ1 (lnsOf as) as l = some ins ∧
  sem ins (fun rv outs => (agBor δ1 as l = true → lnAtm as outs = true ∧ rv.atm = true) ∧ Q rv (agOut δ1 as outs)) (fun x outs => (agBor δ1 as l = true → lnAtm as outs = true ∧ x.vals.all atom = true) ∧ Xc x (agOut δ1 as outs))) Xc
section
variable {X : Cx} {W : Wd} {wx : WX} {K : PySem.W.Frag} {H H' : Hp} {σ : L2.St} {δ δ' : List Sl} {π : List Cell} {e a b c : Expr} {es : List Expr} {t u : VT} {ts : VTs} {pos : Pos} {S S' : Addr → Prop} {cs cs' : List Cell}
theorem shs_atm {us : List V} {ds : List D} (h : ds.all atom = true) : ∀ c ∈ shs us ds, c.2.atm = true := fun c hc => by
  obtain ⟨i, hi⟩ := List.getElem?_of_mem hc
  obtain ⟨v, d, rfl, _, hd⟩ := shs_get hi
  rw [List.all_eq_true] at h
  exact h d (List.mem_of_getElem? hd)
theorem call_run {k n : Nat} {sem : SemG} {as : List Ag} {Q : VK} {f : Addr} (hlen : as.length = n) (nd : (lnsOf as).Nodup) (h : lE K W wx (vCal sem as) σ H Q) : lAg K W wx as σ H fun vs H1 => spG K n sem vs H1 Q (WE wx σ) := by
  obtain ⟨δ, π, Qd, Xd, s, h, kk, xr⟩ := h
  refine ⟨δ, π, _, Xd, s, h, fun l δ' q vs H1 l1 l2 i s' => ?_, xr⟩
  obtain ⟨ins, hin, q⟩ := q
  obtain ⟨A, F0, x, back⟩ := s'.called l1 i nd hin
  have li := (agIn_at hin).1
  refine ⟨A, F0, ins, _, _, by rw [l1, hlen], by rw [li, hlen], x, q, fun rv outs z v H2 ws lw lo y => ?_, fun x outs z d H2 us ws lw lo y lu ds => ?_⟩
  · refine kk _ _ z.2 _ _ (back H2 ws outs [(some v, rv)] (by rw [lw, hlen]) (by rw [lo, hlen]) (fun hb => ⟨(z.1 hb).1, fun c hc => ?_⟩) y)
    rw [List.mem_singleton] at hc
    rw [hc]
    exact (z.1 hb).2
  · exact xr x _ z.2 d H2 us (back H2 ws outs (shs us x.vals) (by rw [lw, hlen]) (by rw [lo, hlen]) (fun hb => ⟨(z.1 hb).1, shs_atm (z.1 hb).2⟩) y) lu ds
theorem ve_cal {x : Str} {k n : Nat} {sem : SemG} {as : List Ag} {p : Pos} (G : FnG X.prog X.w X.K X.mg X.base k x n sem) (hr : Room k X.A) (tk : Takes X wx) (ha : VAg X W wx (e :: es) as) (hn : (e :: es).length = n) (nd : (lnsOf as).Nodup) (hg : Gl X x := by rfl)
    (hdb : (x == ("__debug__" : Str)) = false := by decide) (he : starEach (e :: es) X.env = (false, eval e X.env) :: starEach es X.env := by rfl) (hpl : (backTo pos (starEach es X.env)).any (·.1) = false := by rfl) : VE X W wx (.Call (.Name x p) (e :: es) [] pos) (vCal sem as) := by
  obtain ⟨f, fd, ps, F, hm, hk, hb⟩ := G.ex
  exact ⟨PE.imp (pe_callS (E := WE wx) F hr hg hm hk hb (fun σ => passAt tk σ) ha.pa hdb he hpl) fun σ H Q h => call_run (k := k) (f := f) (by rw [← ha.len, hn]) nd h⟩
/-- .. without arguments -/
theorem ve_cal0 {x : Str} {k : Nat} {sem : SemG} {p : Pos} (G : FnG X.prog X.w X.K X.mg X.base k x 0 sem) (hr : Room k X.A) (tk : Takes X wx) (hg : Gl X x := by rfl) (hdb : (x == ("__debug__" : Str)) = false := by decide) : VE X W wx (.Call (.Name x p) [] [] pos) (vCal sem []) := by
  obtain ⟨f, fd, ps, F, hm, hk, hb⟩ := G.ex
  refine ⟨⟨fun pins sh σ H Q I h => ?_⟩⟩
  refine wpAny_Call_Name_kw (ld_glob I hg hm ?_ hdb)
  obtain ⟨δ, π, Qd, Xd, s, h, kk, xr⟩ := call_run (k := k) (f := f) (n := 0) (as := []) rfl List.nodup_nil h
  have h' := kk _ _ h [] H rfl rfl (fun k a v q => by simp at q) (by rw [show cells [] [] = [] from rfl, List.append_nil]; exact s)
  exact PySem.W.callWith_K0 I.kIn hk (run_fnS (E := WE wx) (us := []) F hr hb (passAt tk σ) I .nil h')

/-! ### a def's body -/
def ini (m : Nat) (ins : List Sl) : List Sl := ins ++ List.replicate (m - ins.length) Sl.un
/-- the first n places -/
def fst (n : Nat) (δ : List Sl) : List Sl := (δ ++ List.replicate n Sl.un).take n
def enG (n : Nat) (Qd : Sl → List Sl → Prop) (Xd : Exn → List Sl → Prop) : En := ⟨fun δ => Qd (.sh .none) (fst n δ), fun rv δ => Qd rv (fst n δ), fun _ => False, fun _ => False, fun x δ => Xd x (fst n δ)⟩
theorem zip_iniG {N : List Str} {vs : List V} {ins : List Sl} {n : Nat} (h1 : vs.length = n) (h2 : ins.length = n) : (L2.start N vs).zip (ini N.length ins) = cells vs ins ++ List.replicate (N.length - n) (none, Sl.un) := by
  unfold L2.start ini
  rw [List.zip_append (by rw [List.length_map, h1, h2]), h1, h2, List.zip_replicate, Nat.min_self]
theorem st_iniG {N : List Str} {vs : List V} {ins : List Sl} {n : Nat} {W : Wd} {S : Addr → Prop} (h1 : vs.length = n) (h2 : ins.length = n) (x : StF K W H (cells vs ins) S) : SS K W H (L2.start N vs) (ini N.length ins) [] := by
  refine ⟨by unfold L2.start ini; rw [List.length_append, List.length_append, List.length_map, List.length_replicate, List.length_replicate, h1, h2], S, ?_⟩
  rw [List.append_nil, zip_iniG h1 h2]
  have more : ∀ m (cs : List Cell), StF K W H cs S → StF K W H (cs ++ List.replicate m (none, Sl.un)) S := by
    intro m
    induction m with
    | zero => intro cs z; rw [List.replicate_zero, List.append_nil]; exact z
    | succ m ih =>
      intro cs z
      rw [List.replicate_succ, List.append_cons]
      exact ih _ z.blank
  exact more _ _ x
/-- what is left of the parameters, and what comes back -/
theorem SS.outs (n : Nat) {ρ : List Cell} (s : SS K W H σ δ ρ) : ∃ ws : List (Option V), ws.length = n ∧ (fst n δ).length = n ∧ ML.St K W H (ws.zip (fst n δ) ++ ρ) := by
  refine ⟨(σ ++ List.replicate n none).take n, by rw [List.length_take, List.length_append, List.length_replicate]; omega, by unfold fst; rw [List.length_take, List.length_append, List.length_replicate]; omega, ?_⟩
  obtain ⟨S, x⟩ := s.st
  have e : ((σ ++ List.replicate n none).take n).zip (fst n δ) = ((σ.zip δ) ++ List.replicate n (none, Sl.un)).take n := by
    unfold fst
    have tz : ∀ (n : Nat) (a : List (Option V)) (b : List Sl), (a.take n).zip (b.take n) = (a.zip b).take n := by
      intro n
      induction n with
      | zero => intro a b; simp
      | succ n ih =>
        intro a b
        cases a with
        | nil => simp
        | cons x a =>
          cases b with
          | nil => simp
          | cons y b => simp [ih]
    rw [tz, List.zip_append s.len, List.zip_replicate, Nat.min_self]
  rw [e]
  have lt : (((σ.zip δ) ++ List.replicate n (none, Sl.un)).take n).length = n := by rw [List.length_take, List.length_append, List.length_replicate]; omega
  refine ⟨S, x.re (cs' := ((σ.zip δ) ++ List.replicate n (none, Sl.un)).take n ++ ρ) (fun i => if i < n then i else i - n + (σ.zip δ).length) (fun i c q => ?_) (fun i j ne q v o w p q1 q2 => ?_)⟩
  · by_cases hi : i < n
    · rw [if_pos hi]
      rw [List.getElem?_append_left (by rw [lt]; exact hi), List.getElem?_take_of_lt hi] at q
      by_cases hz : i < (σ.zip δ).length
      · rw [List.getElem?_append_left hz] at q
        rw [List.getElem?_append_left hz]
        exact .inr q
      · rw [List.getElem?_append_right (by omega)] at q
        have := List.mem_of_getElem? q
        rw [List.mem_replicate] at this
        rw [this.2]
        exact .inl rfl
    · rw [if_neg hi]
      rw [List.getElem?_append_right (by rw [lt]; omega), lt] at q
      rw [List.getElem?_append_right (by omega), Nat.add_sub_cancel]
      exact .inr q
  · have own : ∀ {i : Nat} {v : Option V} {o : Ot}, i < n → (((σ.zip δ) ++ List.replicate n (none, Sl.un)).take n ++ ρ)[i]? = some (v, .ow o) → i < (σ.zip δ).length := fun {i v o} hi q => by
      rw [List.getElem?_append_left (by rw [lt]; exact hi), List.getElem?_take_of_lt hi] at q
      by_cases hz : i < (σ.zip δ).length
      · exact hz
      · rw [List.getElem?_append_right (by omega)] at q
        have := List.mem_of_getElem? q
        rw [List.mem_replicate] at this
        cases this.2
    by_cases h1 : i < n
    · by_cases h2 : j < n
      · rw [if_pos h1, if_pos h2] at q; exact ne q
      · rw [if_pos h1, if_neg h2] at q
        have := own h1 q1
        omega
    · by_cases h2 : j < n
      · rw [if_neg h1, if_pos h2] at q
        have := own h2 q2
        omega
      · rw [if_neg h1, if_neg h2] at q; omega
end
section
variable {P : Program} {w : World} {K : PySem.W.Frag} {mg : Str → Option Value} {base : Heap}
theorem okC {x qual : Str} {st : Stmt} {f : Addr} {fd : FuncData} {N ps : List Str} {k : Nat} {sp : Sp} (F : Fun K x qual st f fd) (S : FnScope N ps (defScope st)) (len : ∀ vs H Q E, sp vs H Q E → vs.length = ps.length)
    (body : ∀ (cdv : Value), PySem.W.codeIn K cdv qual = true → ∀ (A : Around) (outer : List Env) (s : Shared) (H : Hp) (vs : List V) (Q : VK) (E : XK), Room k (A.deeper (envOfC qual (defScope st) s.heap.objs.size f cdv)) → sp vs H Q E →
      ∃ t, PSs (cxOf (L2.CX P w) P w K mg base N qual (defScope st) f cdv A outer s H E) (defBody st) t ∧ t { nx := fun _ H' => Q .non H', rt := Q } (start N vs) H) : FnOk P w K mg base (L2.CX P w) (k + 1) f fd ps sp := by
  obtain ⟨_, _, _, _, _, _, cdv, _, _, rfl, lk, hcd⟩ := F.ex
  exact fn_of lk hcd S len fun A outer s H vs Q E hr hsp => body cdv hcd A outer s H vs Q E hr hsp
theorem kds_of {cd : Value} {q : Str} (h : PySem.W.codeIn K cd q = true) : PySem.W.kdsCode K cd = true := by
  unfold PySem.W.codeIn at h
  unfold PySem.W.kdsCode
  split at h
  · split at h
    · rename_i e
      simp only [e]
    · cases h
  · cases h
theorem fn_g {x qual : Str} {st : Stmt} {f : Addr} {fd : FuncData} {N ps : List Str} {k n : Nat} {sem : SemG} {t : VSt} (F : Fun K x qual st f fd) (S : FnScope N ps (defScope st)) (hn : ps.length = n)
    (der : ∀ (cdv : Value), PySem.W.codeIn K cdv qual = true → ∀ (A : Around) (outer : List Env) (s : Shared) (H : Hp) (E : XK) (W : Wd) (wx : WX), Room k (A.deeper (envOfC qual (defScope st) s.heap.objs.size f cdv)) →
      Takes (cxOf (L2.CX P w) P w K mg base N qual (defScope st) f cdv A outer s H E) wx → PassesOwn (model P w) (A.deeper (envOfC qual (defScope st) s.heap.objs.size f cdv)) (envOfC qual (defScope st) s.heap.objs.size f cdv) (cxOf (L2.CX P w) P w K mg base N qual (defScope st) f cdv A outer s H E).xe →
      VSs (cxOf (L2.CX P w) P w K mg base N qual (defScope st) f cdv A outer s H E) W wx (defBody st) t)
    (hsem : ∀ ins Qd Xd, ins.length = n → sem ins Qd Xd → t (enG n Qd Xd) (ini N.length ins)) : FnOk P w K mg base (L2.CX P w) (k + 1) f fd ps (spG K n sem) := by
  have hpl : n ≤ N.length := by
    have := congrArg List.length S.pre
    rw [List.length_take, hn] at this
    omega
  refine okC F S (fun vs H Q E h => ?_) (fun cdv hcd A outer s H vs Q E hr h => ?_)
  · obtain ⟨A, F0, ins, Qd, Xd, h1, _⟩ := h
    rw [h1, hn]
  · obtain ⟨Av, F0, ins, Qd, Xd, h1, h2, h3, h4, h5, h6⟩ := h
    refine ⟨_, (der cdv hcd A outer s H E ⟨H, F0, Av⟩ (fun cls d _ H => E cls d H) hr (takes_of rfl rfl rfl rfl) (passes_of rfl)).ps, ?_⟩
    refine ⟨_, [], _, st_iniG h1 h2 h3, hsem ins Qd Xd h2 h4, ⟨fun δ' q σ' H' s' => ?_, fun rv δ' q v σ' H' s' => ?_, fun _ q => q.elim, fun _ q => q.elim, fun σ x δ' q d H' us s' l ds' => ?_⟩⟩
    · obtain ⟨ws, l1, l2, y⟩ := (s'.push (v := .non) (d := .none) fun _ => .non).outs n
      exact h5 _ _ q .non H' _ l1 l2 y
    · obtain ⟨ws, l1, l2, y⟩ := s'.outs n
      exact h5 rv _ q v H' _ l1 l2 y
    · obtain ⟨ws, l1, l2, y⟩ := s'.outs n
      exact h6 x _ q d H' us _ l1 l2 y l ds'
end
end ML

/-! ## M8 -/
set_option Elab.async false
set_option linter.all false
set_option autoImplicit false
set_option maxRecDepth 100000
set_option maxHeartbeats 4000000
namespace ML
open PySem PySem.Spec PyProof.Rows L2

/-- how an iterator goes over the data its, while the cells ν wait -/
structure ItOk (K : PySem.W.Frag) (W : Wd) (J : It) (its : List D) (ν : List Cell) : Prop where
  stop : ∀ σ δ H π ρ (i : Nat), SS K W H σ δ (π ++ ν ++ ρ) → its.length ≤ i → J.stop i H
  go : ∀ σ δ H π ρ (i : Nat) d, SS K W H σ δ (π ++ ν ++ ρ) → its[i]? = some d → J.go i H ∧ ∀ x H', J.yld i H x H' → SS K W H' σ δ (π ++ ν ++ ρ ++ [(some x, .sh d)])
def lI (K : PySem.W.Frag) (W : Wd) (wx : WX) (t : VTs) : TI := fun σ H R => ∃ δ π Qd Xd, SS K W H σ δ π ∧ t δ Qd Xd ∧
  (∀ its δ', Qd its δ' → ∀ J ν H', SS K W H' σ δ' (π ++ ν) → ItOk K W J its ν → R J H') ∧ XR K W wx σ π Xd
structure VI (X : Cx) (W : Wd) (wx : WX) (tg iter : Expr) (t : VTs) : Prop where
  pi : PI X tg iter (lI X.K W wx t)

section
variable {X : Cx} {W : Wd} {wx : WX} {K : PySem.W.Frag} {H H' : Hp} {σ : L2.St} {δ δ' : List Sl} {π ν ρ : List Cell} {e a b c tg iter : Expr} {es : List Expr} {t u : VT} {ts : VTs} {pos p : Pos}
theorem PI.imp {t t' : TI} (h : PI X tg iter t) (i : ∀ σ H Q, t' σ H Q → t σ H Q) : PI X tg iter t' := ⟨fun pins s σ H Q I q => h.run pins s σ H Q I (i σ H Q q)⟩
/-- a cell that waits in the middle -/
theorem SS.at {v : V} {d : D} (s : SS K W H σ δ (π ++ (some v, .sh d) :: ν ++ ρ)) : ∃ S, StF K W H (σ.zip δ ++ (π ++ (some v, .sh d) :: ν ++ ρ)) S ∧ Rp K S H v d := by
  obtain ⟨S, x⟩ := s.st
  have e : (σ.zip δ ++ (π ++ (some v, Sl.sh d) :: ν ++ ρ))[(σ.zip δ).length + π.length]? = some (some v, Sl.sh d) := by
    rw [List.getElem?_append_right (by omega), Nat.add_sub_cancel_left, List.append_assoc, List.getElem?_append_right (Nat.le_refl _), Nat.sub_self]
    rfl
  obtain ⟨u, eu, r⟩ := x.sh _ _ _ e
  cases eu
  exact ⟨S, x, r⟩
def iL (t : VT) : VTs := fun δ Q Xc => vS t δ (fun rv δ' => ∃ ds, rv = .sh (.list ds) ∧ Q ds δ') Xc
def iT (t : VT) : VTs := fun δ Q Xc => vS t δ (fun rv δ' => ∃ ds, rv = .sh (.tuple ds) ∧ Q ds δ') Xc
theorem SS.list {ds : List D} {v : V} (s : SS K W H σ δ (π ++ [(some v, .sh (.list ds))])) : ∃ a xs, v = .ref a ∧ SqL K H a xs := by
  obtain ⟨S, x, r⟩ := SS.at (ν := []) (ρ := []) (by rw [List.append_nil]; exact s)
  cases r with
  | lst h1 h2 => exact ⟨_, _, rfl, h1.sq⟩
theorem SS.tuple {ds : List D} {v : V} (s : SS K W H σ δ (π ++ [(some v, .sh (.tuple ds))])) : ∃ a xs, v = .ref a ∧ SqT K H a xs := by
  obtain ⟨S, x, r⟩ := SS.at (ν := []) (ρ := []) (by rw [List.append_nil]; exact s)
  cases r with
  | tup h1 h2 => exact ⟨_, _, rfl, h1.sq⟩
theorem itok_list {a : Addr} {ds : List D} : ItOk K W (Itl K a) ds [(some (.ref a), .sh (.list ds))] where
  stop := fun σ δ H π ρ i s hi => by
    obtain ⟨S, x, r⟩ := s.at
    cases r with
    | lst h1 h2 => exact ⟨_, h1.sq, by rw [h2.length]; exact hi⟩
  go := fun σ δ H π ρ i d s hd => by
    obtain ⟨S, x, r⟩ := s.at
    cases r with
    | lst h1 h2 =>
      obtain ⟨v, hv, rv⟩ := h2.get hd
      refine ⟨⟨_, v, h1.sq, hv⟩, fun y H' hy => ?_⟩
      obtain ⟨rfl, hy⟩ := hy
      rw [hy _ h1.sq] at hv
      cases hv
      exact s.pushF x rv
theorem itok_tup {a : Addr} {ds : List D} : ItOk K W (Itt K a) ds [(some (.ref a), .sh (.tuple ds))] where
  stop := fun σ δ H π ρ i s hi => by
    obtain ⟨S, x, r⟩ := s.at
    cases r with
    | tup h1 h2 => exact ⟨_, h1.sq, by rw [h2.length]; exact hi⟩
  go := fun σ δ H π ρ i d s hd => by
    obtain ⟨S, x, r⟩ := s.at
    cases r with
    | tup h1 h2 =>
      obtain ⟨v, hv, rv⟩ := h2.get hd
      refine ⟨⟨_, v, h1.sq, hv⟩, fun y H' hy => ?_⟩
      obtain ⟨rfl, hy⟩ := hy
      rw [hy _ h1.sq] at hv
      cases hv
      exact s.pushF x rv
theorem vi_list (he : VE X W wx e t) : VI X W wx tg e (iL t) :=
  ⟨PI.imp (pi_list he.pe) fun σ H R ⟨δ, π, Qd, Xd, s, h, k, xr⟩ => ⟨δ, π, _, Xd, s, h, fun rv δ' q v H' s' => by
    obtain ⟨q1, ds, q2, q⟩ := q
    have s2 := s'.shr q1
    rw [q2] at s2
    obtain ⟨a, xs, rfl, hl⟩ := s2.list
    exact ⟨a, rfl, ⟨xs, hl⟩, k _ _ q _ _ _ s2 itok_list⟩, xr⟩⟩
theorem vi_tup (he : VE X W wx e t) : VI X W wx tg e (iT t) :=
  ⟨PI.imp (pi_tup he.pe) fun σ H R ⟨δ, π, Qd, Xd, s, h, k, xr⟩ => ⟨δ, π, _, Xd, s, h, fun rv δ' q v H' s' => by
    obtain ⟨q1, ds, q2, q⟩ := q
    have s2 := s'.shr q1
    rw [q2] at s2
    obtain ⟨a, xs, rfl, hl⟩ := s2.tuple
    exact ⟨a, rfl, ⟨xs, hl⟩, k _ _ q _ _ _ s2 itok_tup⟩, xr⟩⟩
/-- a locked list is walked -/
def iK (t : VT) : VTs := fun δ Q Xc => vS t δ (fun rv δ' => ∃ ds, rv = .sh (lkD ds) ∧ Q ds δ') Xc
theorem itok_lck {a : Addr} {ds : List D} : ItOk K W (Itl K a) ds [(some (.ref a), .sh (lkD ds))] where
  stop := fun σ δ H π ρ i s hi => by
    obtain ⟨S, x, r⟩ := s.at
    obtain ⟨p, xs, e, h1, h2⟩ := Rq.lck (.inl r)
    cases e
    exact ⟨_, h1, by rw [Rps.length h2]; exact hi⟩
  go := fun σ δ H π ρ i d s hd => by
    obtain ⟨S, x, r⟩ := s.at
    obtain ⟨p, xs, e, h1, h2⟩ := Rq.lck (.inl r)
    cases e
    obtain ⟨v, hv, rv⟩ := h2.get hd
    refine ⟨⟨_, v, h1, hv⟩, fun y H' hy => ?_⟩
    obtain ⟨rfl, hy⟩ := hy
    rw [hy _ h1] at hv
    cases hv
    exact s.pushF x rv
theorem vi_lck (he : VE X W wx e t) : VI X W wx tg e (iK t) :=
  ⟨PI.imp (pi_list he.pe) fun σ H R ⟨δ, π, Qd, Xd, s, h, k, xr⟩ => ⟨δ, π, _, Xd, s, h, fun rv δ' q v H' s' => by
    obtain ⟨q1, ds, q2, q⟩ := q
    have s2 := s'.shr q1
    rw [q2] at s2
    obtain ⟨S, x, r⟩ := SS.at (ν := []) (ρ := []) (by rw [List.append_nil]; exact s2)
    obtain ⟨a, xs, rfl, h1, h2⟩ := Rq.lck (.inl r)
    exact ⟨a, rfl, ⟨xs, h1⟩, k _ _ q _ _ _ s2 itok_lck⟩, xr⟩⟩
/-- lo, lo + 1, .. -/
def rngD (lo : Int) (n : Nat) : List D := (List.range n).map fun i => .int (lo + (i : Nat))
theorem rngD_get {lo : Int} {n i : Nat} {d : D} (h : (rngD lo n)[i]? = some d) : i < n ∧ d = .int (lo + (i : Nat)) := by
  unfold rngD at h
  rw [List.getElem?_map] at h
  obtain ⟨j, h1, h2⟩ := Option.map_eq_some_iff.mp h
  obtain ⟨h3, h4⟩ := List.getElem?_eq_some_iff.mp h1
  rw [List.length_range] at h3
  rw [List.getElem_range] at h4
  subst h4
  exact ⟨h3, h2.symm⟩
theorem rngD_length {lo : Int} {n : Nat} : (rngD lo n).length = n := by unfold rngD; rw [List.length_map, List.length_range]
theorem itok_rng {lo : Int} {n : Nat} : ItOk K W (Itr lo n) (rngD lo n) [] where
  stop := fun σ δ H π ρ i s hi => by rw [rngD_length] at hi; exact hi
  go := fun σ δ H π ρ i d s hd => by
    obtain ⟨h1, rfl⟩ := rngD_get hd
    refine ⟨h1, fun x H' hy => ?_⟩
    obtain ⟨rfl, rfl⟩ := hy
    exact s.push fun _ => .int _
theorem SS.int {ρ : List Cell} {d : Int} {v : V} (s : SS K W H σ δ (π ++ (some v, .sh (.int d)) :: ρ)) : v = .int d := by
  obtain ⟨S, x, r⟩ := SS.at (ν := ρ) (ρ := []) (by rw [List.append_nil]; exact s)
  cases r
  rfl
def iR1 (t : VT) : VTs := fun δ Q Xc => vCons t vNil δ (fun ds δ' => ∃ j : Int, ds = [.int j] ∧ -(2 ^ 62) ≤ j ∧ j < 2 ^ 62 ∧ Q (rngD 0 j.toNat) δ') Xc
def iR2 (t u : VT) : VTs := fun δ Q Xc => vCons t (vCons u vNil) δ (fun ds δ' => ∃ i j : Int, ds = [.int i, .int j] ∧ (-(2 ^ 62) ≤ i ∧ i < 2 ^ 62 ∧ -(2 ^ 62) ≤ j ∧ j < 2 ^ 62) ∧ Q (rngD i (j - i).toNat) δ') Xc
theorem len1 {α : Type} {l : List α} (h : l.length = 1) : ∃ x, l = [x] := by
  cases l with
  | nil => simp at h
  | cons x r =>
    cases r with
    | nil => exact ⟨x, rfl⟩
    | cons y s => simp at h
theorem len2 {α : Type} {l : List α} (h : l.length = 2) : ∃ x y, l = [x, y] := by
  cases l with
  | nil => simp at h
  | cons x r =>
    obtain ⟨y, e⟩ := len1 (l := r) (by simpa using h)
    subst e
    exact ⟨x, y, rfl⟩
theorem vi_r1 (hm : X.mg "range" = none) (he : VE X W wx a t) (hg : Gl X "range" := by rfl) (hs : starEach [a] X.env = [(false, eval a X.env)] := by rfl) : VI X W wx tg (.Call (.Name "range" p) [a] [] pos) (iR1 t) :=
  ⟨PI.imp (pi_range1 hg hm (va_cons he va_nil hs).pa hs) fun σ H R ⟨δ, π, Qd, Xd, s, h, k, xr⟩ => ⟨δ, π, _, Xd, s, h, fun ds δ' q vs H' l n s' => by
    obtain ⟨j, rfl, q1, q2, q⟩ := q
    obtain ⟨v, rfl⟩ := len1 l
    rw [shs_cons] at s'
    obtain rfl := s'.int
    exact ⟨j, rfl, q1, q2, k _ _ q _ [] _ (by rw [List.append_nil]; exact s'.drop) itok_rng⟩, xr⟩⟩
theorem vi_r2 (hm : X.mg "range" = none) (he : VE X W wx a t) (hf : VE X W wx b u) (hg : Gl X "range" := by rfl) (hs : starEach [a, b] X.env = [(false, eval a X.env), (false, eval b X.env)] := by rfl) (hs2 : starEach [b] X.env = [(false, eval b X.env)] := by rfl) :
    VI X W wx tg (.Call (.Name "range" p) [a, b] [] pos) (iR2 t u) :=
  ⟨PI.imp (pi_range2 hg hm (va_cons he (va_cons hf va_nil hs2) (by rw [hs, hs2])).pa hs hs2) fun σ H R ⟨δ, π, Qd, Xd, s, h, k, xr⟩ => ⟨δ, π, _, Xd, s, h, fun ds δ' q vs H' l n s' => by
    obtain ⟨i, j, rfl, q1, q⟩ := q
    obtain ⟨v, v2, rfl⟩ := len2 l
    rw [shs_cons, shs_cons] at s'
    obtain rfl := s'.int
    have s2 : SS X.K W H' σ δ' ((π ++ [(some (V.int i), Sl.sh (.int i))]) ++ (some v2, Sl.sh (.int j)) :: shs [] []) := by rw [← List.append_cons]; exact s'
    obtain rfl := s2.int
    exact ⟨i, j, rfl, q1, k _ _ q _ [] _ (by rw [List.append_nil]; exact s'.drop) itok_rng⟩, xr⟩⟩
/-- the signs of a text -/
def signD (x : Str) : List D := x.cps.toList.map fun c => .str ⟨#[c]⟩
def iSt (t : VT) : VTs := fun δ Q Xc => vS t δ (fun rv δ' => ∃ x, rv = .sh (.str x) ∧ Q (signD x) δ') Xc
theorem okS_sign {x : Str} {c : Nat} (h : okS x = true) (hc : c ∈ x.cps.toList) : okS ⟨#[c]⟩ = true := by
  unfold okS PyData.strOk at *
  rw [Bool.and_eq_true] at *
  refine ⟨?_, decide_eq_true (by show 1 ≤ sizeLine; rw [sizeLine_eq]; omega)⟩
  have h1 := h.1
  simp only [Array.all_eq_true_iff_forall_mem] at h1 ⊢
  intro y hy
  simp at hy
  subst hy
  exact h1 y (by simpa using hc)
theorem itok_str {x : Str} (ok : okS x = true) : ItOk K W (Its x) (signD x) [] where
  stop := fun σ δ H π ρ i s hi => by
    unfold signD at hi
    rw [List.length_map, Array.length_toList] at hi
    exact hi
  go := fun σ δ H π ρ i d s hd => by
    unfold signD at hd
    rw [List.getElem?_map] at hd
    obtain ⟨c, h1, rfl⟩ := Option.map_eq_some_iff.mp hd
    have h2 : x.cps[i]? = some c := by rw [← Array.getElem?_toList]; exact h1
    refine ⟨(Array.getElem?_eq_some_iff.mp h2).1, fun y H' hy => ?_⟩
    obtain ⟨rfl, c', e, rfl⟩ := hy
    rw [h2] at e
    cases e
    exact s.push fun _ => .str _ (okS_sign ok (List.mem_of_getElem? h1))
theorem SS.str {ρ : List Cell} {d : Str} {v : V} (s : SS K W H σ δ (π ++ (some v, .sh (.str d)) :: ρ)) : v = .str d ∧ okS d = true := by
  obtain ⟨S, x, r⟩ := SS.at (ν := ρ) (ρ := []) (by rw [List.append_nil]; exact s)
  cases r with
  | str _ h => exact ⟨rfl, h⟩
theorem vi_str (he : VE X W wx e t) : VI X W wx tg e (iSt t) :=
  ⟨PI.imp (pi_str he.pe) fun σ H R ⟨δ, π, Qd, Xd, s, h, k, xr⟩ => ⟨δ, π, _, Xd, s, h, fun rv δ' q v H' s' => by
    obtain ⟨q1, x, q2, q⟩ := q
    have s2 := s'.shr q1
    rw [q2] at s2
    obtain ⟨rfl, hok⟩ := s2.str
    exact ⟨x, rfl, k _ _ q _ [] _ (by rw [List.append_nil]; exact s2.drop) (itok_str hok)⟩, xr⟩⟩
/-- (0, x), (1, y), .. -/
def enumD (ds : List D) : List D := ds.zipIdx.map fun p => .tuple [.int (p.2 : Nat), p.1]
theorem enumD_get {ds : List D} {i : Nat} {d : D} (h : (enumD ds)[i]? = some d) : ∃ x, ds[i]? = some x ∧ d = .tuple [.int (i : Nat), x] := by
  unfold enumD at h
  rw [List.getElem?_map] at h
  obtain ⟨p, h1, h2⟩ := Option.map_eq_some_iff.mp h
  rw [List.getElem?_zipIdx] at h1
  obtain ⟨x, h3, h4⟩ := Option.map_eq_some_iff.mp h1
  subst h4
  refine ⟨x, h3, ?_⟩
  rw [← h2]
  simp
theorem enumD_length {ds : List D} : (enumD ds).length = ds.length := by unfold enumD; rw [List.length_map, List.length_zipIdx]
theorem itok_enum {a : Addr} {ds : List D} : ItOk K W (Ite K a) (enumD ds) [(some (.ref a), .sh (.list ds))] where
  stop := fun σ δ H π ρ i s hi => by
    obtain ⟨S, x, r⟩ := s.at
    rw [enumD_length] at hi
    cases r with
    | lst h1 h2 => exact ⟨_, h1.sq, by rw [h2.length]; exact hi⟩
  go := fun σ δ H π ρ i d s hd => by
    obtain ⟨S, x, r⟩ := s.at
    obtain ⟨y, hy, rfl⟩ := enumD_get hd
    cases r with
    | lst h1 h2 =>
      obtain ⟨v, hv, rv⟩ := h2.get hy
      refine ⟨⟨_, v, h1.sq, hv⟩, fun z H' hz => ?_⟩
      obtain ⟨T, v', rfl, hT, rfl, hz⟩ := hz
      rw [hz _ h1.sq] at hv
      cases hv
      obtain ⟨_, z⟩ := s.new x (.tup hT (.cons (.int _) (.cons rv .nil)))
      exact z
def iEn (t : VT) : VTs := fun δ Q Xc => vCons t vNil δ (fun ds δ' => ∃ es, ds = [.list es] ∧ Q (enumD es) δ') Xc
theorem vi_enum {elts : List Expr} {kk : Nat} {tpos : Pos} (hm : X.mg "enumerate" = none) (he : VE X W wx a t) (hg : Gl X "enumerate" := by rfl) (hs : starEach [a] X.env = [(false, eval a X.env)] := by rfl) :
    VI X W wx (.Tuple elts kk tpos) (.Call (.Name "enumerate" p) [a] [] pos) (iEn t) :=
  ⟨PI.imp (pi_enum hg hm (va_cons he va_nil hs).pa hs) fun σ H R ⟨δ, π, Qd, Xd, s, h, k, xr⟩ => ⟨δ, π, _, Xd, s, h, fun ds δ' q vs H' l n s' => by
    obtain ⟨es, rfl, q⟩ := q
    obtain ⟨v, rfl⟩ := len1 l
    rw [shs_cons, shs_nil] at s'
    obtain ⟨a', xs, rfl, hl⟩ := s'.list
    exact ⟨a', xs, rfl, hl, k _ _ q _ _ _ s' itok_enum⟩, xr⟩⟩
/-- (x, y), .. -/
def zipD (ds es : List D) : List D := (ds.zip es).map fun p => .tuple [p.1, p.2]
theorem zipD_get {ds es : List D} {i : Nat} {d : D} (h : (zipD ds es)[i]? = some d) : ∃ x y, ds[i]? = some x ∧ es[i]? = some y ∧ d = .tuple [x, y] := by
  unfold zipD at h
  rw [List.getElem?_map] at h
  obtain ⟨p, h1, h2⟩ := Option.map_eq_some_iff.mp h
  obtain ⟨h3, h4⟩ := List.getElem?_zip_eq_some.mp h1
  exact ⟨p.1, p.2, h3, h4, h2.symm⟩
theorem zipD_length {ds es : List D} : (zipD ds es).length = min ds.length es.length := by unfold zipD; rw [List.length_map, List.length_zip]
theorem itok_zip {a b : Addr} {ds es : List D} : ItOk K W (Itz K a b) (zipD ds es) [(some (.ref a), .sh (.list ds)), (some (.ref b), .sh (.list es))] where
  stop := fun σ δ H π ρ i s hi => by
    obtain ⟨S, x, r⟩ := s.at
    have s2 : SS K W H σ δ ((π ++ [(some (.ref a), Sl.sh (.list ds))]) ++ (some (.ref b), Sl.sh (.list es)) :: [] ++ ρ) := by
      rw [List.append_assoc π]
      exact s
    obtain ⟨S2, x2, r2⟩ := s2.at
    rw [zipD_length] at hi
    cases r with
    | lst h1 h2 =>
      cases r2 with
      | lst h3 h4 =>
        refine ⟨_, _, h1.sq, h3.sq, ?_⟩
        rw [h2.length, h4.length]
        omega
  go := fun σ δ H π ρ i d s hd => by
    obtain ⟨S, x, r⟩ := s.at
    have e2 : (σ.zip δ ++ (π ++ [(some (V.ref a), Sl.sh (.list ds)), (some (V.ref b), Sl.sh (.list es))] ++ ρ))[(σ.zip δ).length + (π.length + 1)]? = some (some (V.ref b), Sl.sh (.list es)) := by
      rw [List.getElem?_append_right (by omega), Nat.add_sub_cancel_left, List.append_assoc, List.getElem?_append_right (by omega), Nat.add_sub_cancel_left]
      rfl
    obtain ⟨u, eu, r2⟩ := x.sh _ _ _ e2
    cases eu
    obtain ⟨y, z, hy, hz, rfl⟩ := zipD_get hd
    cases r with
    | lst h1 h2 =>
      cases r2 with
      | lst h3 h4 =>
        obtain ⟨v, hv, rv⟩ := h2.get hy
        obtain ⟨v2, hv2, rv2⟩ := h4.get hz
        refine ⟨⟨_, _, v, v2, h1.sq, h3.sq, hv, hv2⟩, fun z H' hq => ?_⟩
        obtain ⟨T, w1, w2, rfl, hT, rfl, hz1, hz2⟩ := hq
        rw [hz1 _ h1.sq] at hv
        rw [hz2 _ h3.sq] at hv2
        cases hv
        cases hv2
        obtain ⟨_, z⟩ := s.new x (.tup hT (.cons rv (.cons rv2 .nil)))
        exact z
def iZp (t u : VT) : VTs := fun δ Q Xc => vCons t (vCons u vNil) δ (fun ds δ' => ∃ es fs, ds = [.list es, .list fs] ∧ Q (zipD es fs) δ') Xc
end
end ML

/-! ## M9 -/
set_option Elab.async false
set_option linter.all false
set_option autoImplicit false
set_option maxRecDepth 100000
set_option maxHeartbeats 4000000
namespace ML
open PySem PySem.Spec PyProof.Rows L2

/-! ### what is changed in place -/
def adrC : List Cell → List Addr
  | [] => []
  | (_, .ow o) :: r => o.adr ++ adrC r
  | _ :: r => adrC r
/-- a node of a slot's own tree -/
structure Nde where
  j : Nat
  t : Ot
  π : List Step
  s : Sh
  os : List Ot
def locAt (δ : List Sl) (j : Nat) (π : List Step) (p : Option Addr) : Option Nde := match δ[j]? with
  | some (.ow t) => match t.at π with
    | some (.nod s os) => if p = none ∨ p = some s.root then some ⟨j, t, π, s, os⟩ else none
    | _ => none
  | _ => none
def Opr.loc (o : Opr) (rv : Sl) (δ : List Sl) : Option Nde := match o with
  | .pk i => match δ[i]? with
    | some (.ow _) => locAt δ i [] none
    | some (.rf j π p) => locAt δ j π (some p)
    | _ => none
  | .pd _ => match rv with
    | .rf j π p => locAt δ j π (some p)
    | _ => none
/-- the slots with another node there -/
def Nde.set (L : Nde) (δ : List Sl) (s' : Sh) (os' : List Ot) : List Sl := δ.set L.j (.ow (Ot.put (.nod s' os') L.t L.π))
section
variable {X : Cx} {W : Wd} {wx : WX} {K : PySem.W.Frag} {H H' : Hp} {σ : L2.St} {δ δ' : List Sl} {π ρ : List Cell} {e a b c : Expr} {es : List Expr} {t u : VT} {ts : VTs} {pos p apos cpos : Pos} {S S' : Addr → Prop} {cs cs' : List Cell}
theorem adrC_mem {b : Addr} : ∀ {ρ : List Cell}, b ∈ adrC ρ → ∃ (i : Nat) (v : Option V) (o : Ot), ρ[i]? = some (v, .ow o) ∧ b ∈ o.adr
  | [], h => by cases h
  | (w, sl) :: r, h => by
    have step : b ∈ adrC r → ∃ (i : Nat) (v : Option V) (o : Ot), ((w, sl) :: r)[i]? = some (v, .ow o) ∧ b ∈ o.adr := fun z => by
      obtain ⟨i, v, o, h1, h2⟩ := adrC_mem z
      exact ⟨i + 1, v, o, by simpa using h1, h2⟩
    cases sl with
    | ow o =>
      rcases List.mem_append.mp (show b ∈ o.adr ++ adrC r from h) with z | z
      · exact ⟨0, w, o, rfl, z⟩
      · exact step z
    | _ => exact step h
theorem adrC_nodup (x : StF K W H cs S) : ∀ {A ρ : List Cell}, cs = A ++ ρ → (adrC ρ).Nodup
  | A, [], _ => List.nodup_nil
  | A, (w, sl) :: r, e => by
    have ih := adrC_nodup x (A := A ++ [(w, sl)]) (ρ := r) (by rw [e, List.append_assoc]; rfl)
    cases sl with
    | ow o =>
      have e0 : cs[A.length]? = some (w, .ow o) := by
        rw [e, List.getElem?_append_right (Nat.le_refl _), Nat.sub_self]
        rfl
      refine List.nodup_append.mpr ⟨x.nd _ _ _ e0, ih, fun b hb c hc q => ?_⟩
      subst q
      obtain ⟨i, v, o2, h1, h2⟩ := adrC_mem hc
      have e1 : cs[A.length + (i + 1)]? = some (v, .ow o2) := by
        rw [e, List.getElem?_append_right (by omega), Nat.add_sub_cancel_left]
        simpa using h1
      exact x.dj _ _ _ _ _ _ b (by omega) e0 e1 hb h2
    | _ => exact ih
theorem locAt_ok {j : Nat} {τ : List Step} {q : Option Addr} {L : Nde} (h : locAt δ j τ q = some L) : δ[L.j]? = some (.ow L.t) ∧ L.t.at L.π = some (.nod L.s L.os) ∧ (q = none ∨ q = some L.s.root) ∧ L.j = j ∧ L.π = τ := by
  unfold locAt at h
  split at h
  · rename_i t e
    split at h
    · rename_i s os e2
      by_cases z : q = none ∨ q = some s.root
      · rw [if_pos z] at h
        cases h
        exact ⟨e, e2, z, rfl, rfl⟩
      · rw [if_neg z] at h; cases h
    · cases h
  · cases h
theorem Opr.loc_ok {o : Opr} {rv : Sl} {v : V} {L : Nde} (len : σ.length = δ.length) (x : StF K W H (σ.zip δ ++ (π ++ ((some v, rv) :: ρ))) S) (hi : o.is σ v) (h : o.loc rv δ = some L) :
    δ[L.j]? = some (.ow L.t) ∧ L.t.at L.π = some (.nod L.s L.os) ∧ v = .ref L.s.root := by
  cases o with
  | pk i =>
    have hi' : σ[i]? = some (some v) := hi
    have h' : (match δ[i]? with | some (.ow _) => locAt δ i [] none | some (.rf j π p) => locAt δ j π (some p) | _ => none) = some L := h
    split at h'
    · rename_i o e
      obtain ⟨h1, h2, _, h4, h5⟩ := locAt_ok h'
      refine ⟨h1, h2, ?_⟩
      obtain ⟨w, w1, w2⟩ := zipcell (ρ := π ++ ((some v, rv) :: ρ)) len h1
      rw [h4, hi'] at w1
      cases w1
      obtain ⟨u, eu, wo⟩ := x.ow _ _ _ w2
      cases eu
      rw [h5, Ot.at] at h2
      rw [Option.some.inj h2] at wo
      exact wo.root rfl
    · rename_i j τ p e
      obtain ⟨h1, h2, h3, _, _⟩ := locAt_ok h'
      refine ⟨h1, h2, ?_⟩
      obtain ⟨w, w1, w2⟩ := zipcell (ρ := π ++ ((some v, rv) :: ρ)) len e
      rw [hi'] at w1
      cases w1
      have := x.rf _ _ _ _ _ w2
      rcases h3 with h3 | h3
      · cases h3
      · cases h3
        cases this
        rfl
    · cases h'
  | pd t =>
    cases rv with
    | rf j τ q =>
      have h' : locAt δ j τ (some q) = some L := h
      obtain ⟨h1, h2, h3, _, _⟩ := locAt_ok h'
      refine ⟨h1, h2, ?_⟩
      have e : (σ.zip δ ++ (π ++ ((some v, Sl.rf j τ q) :: ρ)))[(σ.zip δ ++ π).length]? = some (some v, Sl.rf j τ q) := by
        rw [← List.append_assoc, List.getElem?_append_right (Nat.le_refl _), Nat.sub_self]
        rfl
      have := x.rf _ _ _ _ _ e
      rcases h3 with h3 | h3
      · cases h3
      · cases h3
        cases this
        rfl
    | _ => cases h
/-- a node of a slot's tree is changed, by its own kids and what waits in ρ -/
theorem StF.mutL {L : Nde} (len : σ.length = δ.length) (x : StF K W H (σ.zip δ ++ (π ++ ρ)) S) (hj : δ[L.j]? = some (.ow L.t)) (ht : L.t.at L.π = some (.nod L.s L.os)) :
    ∃ xs, L.s.holds H xs ∧ Ows K S H xs L.os ∧ ∀ (s' : Sh) (xs' : List V) (os' : List Ot) (H' : Hp) (rest : List Addr), s'.root = L.s.root → s'.own = L.s.own → (∀ b, b ∉ L.s.own → H' b = H b) → s'.holds H' xs' → Ows K S H xs' os' →
      (Ot.adrs os' ++ rest).Perm (Ot.adrs L.os ++ adrC ρ) → StF K W H' (σ.zip (L.set δ s' os') ++ π) S ∧ Ev S H S H' := by
  obtain ⟨w, w1, w2⟩ := zipcell (ρ := π ++ ρ) len hj
  obtain ⟨xs, h1, h2, h3, h4, h5, h6⟩ := x.mutAt w2 ht
  refine ⟨xs, h1, h2, fun s' xs' os' H' rest r1 r2 kp hh ho pm => ?_⟩
  have jl : L.j < δ.length := (List.getElem?_eq_some_iff.mp hj).1
  have lz := zip_length len
  have pend : ∀ {b : Addr}, b ∈ adrC ρ → ∃ (k : Nat) (v : Option V) (o : Ot), (σ.zip δ ++ π).length ≤ k ∧ (σ.zip δ ++ (π ++ ρ))[k]? = some (v, .ow o) ∧ b ∈ o.adr := fun {b} hb => by
    obtain ⟨i, v, o, q1, q2⟩ := adrC_mem hb
    exact ⟨(σ.zip δ ++ π).length + i, v, o, by omega, by rw [← List.append_assoc, List.getElem?_append_right (by omega), Nat.add_sub_cancel_left]; exact q1, q2⟩
  have tmem : ∀ b ∈ Ot.adrs L.os, b ∈ L.t.adr := fun b hb => Ot.adr_at ht b (by rw [Ot.adr]; exact List.mem_append_right _ hb)
  have smem : ∀ b ∈ L.s.own, b ∈ L.t.adr := fun b hb => Ot.adr_at ht b (by rw [Ot.adr]; exact List.mem_append_left _ hb)
  have pj : ∀ {b : Addr}, b ∈ adrC ρ → b ∉ L.t.adr := fun {b} hb z => by
    obtain ⟨k, v, o, q1, q2, q3⟩ := pend hb
    exact x.dj L.j k _ _ _ _ b (by rw [List.length_append, lz] at q1; omega) w2 q2 z q3
  have nd0 : (Ot.adrs L.os ++ adrC ρ).Nodup := by
    have n1 := nodup_at ht (x.nd _ _ _ w2)
    rw [Ot.adr] at n1
    refine List.nodup_append.mpr ⟨(List.nodup_append.mp n1).2.1, adrC_nodup x (A := σ.zip δ ++ π) (by rw [List.append_assoc]), fun b hb c hc q => ?_⟩
    subst q
    exact pj hc (tmem b hb)
  have nd1 := pm.symm.nodup nd0
  have mem : ∀ b ∈ Ot.adrs os', b ∈ Ot.adrs L.os ∨ b ∈ adrC ρ := fun b hb => List.mem_append.mp (pm.mem_iff.mp (List.mem_append_left _ hb))
  have ev := h5 H' kp
  have ho' : Ows K S H' xs' os' := Ows.ev ev os' xs' (fun b hb u q => by
    rw [kp b (fun z => ?_)]
    · exact q
    · rcases mem b hb with y | y
      · exact h4 b z y
      · exact pj y (smem b z)) ho
  refine ⟨h6 s' xs' os' H' (fun k => (σ.zip δ ++ π).length ≤ k) _ r1 r2 kp hh ho' (List.nodup_append.mp nd1).1 (fun b hb => ?_) ?_ (fun k c nk q => ?_), ev⟩
  · rcases mem b hb with y | y
    · exact .inl y
    · obtain ⟨k, v, o, q1, q2, q3⟩ := pend y
      exact .inr ⟨k, v, o, by rw [List.length_append, lz] at q1; omega, q1, q2, q3⟩
  · show (σ.zip (δ.set L.j _) ++ π)[L.j]? = _
    rw [← zip_set w1, List.getElem?_append_left (by rw [List.length_set, lz]; exact jl), List.getElem?_set_self (by rw [lz]; exact jl)]
  · have q' : (σ.zip (δ.set L.j (.ow (Ot.put (.nod s' os') L.t L.π))) ++ π)[k]? = some c := q
    rw [← zip_set w1] at q'
    have kl := (List.getElem?_eq_some_iff.mp q').1
    rw [List.length_append, List.length_set, ← List.length_append] at kl
    refine .inr ⟨?_, by omega⟩
    by_cases hz : k < (σ.zip δ).length
    · rw [List.getElem?_append_left (by rw [List.length_set]; exact hz), List.getElem?_set_ne (fun z => nk z.symm)] at q'
      rw [List.getElem?_append_left hz]
      exact q'
    · rw [List.getElem?_append_right (by rw [List.length_set]; omega), List.length_set] at q'
      rw [List.getElem?_append_right (by omega), List.getElem?_append_left (by rw [List.length_append] at kl; omega)]
      exact q'
theorem Nde.set_len {L : Nde} {s' : Sh} {os' : List Ot} : (L.set δ s' os').length = δ.length := List.length_set

/-! ### arguments that go into what is changed -/
def mvEv : List VT → VAs
  | [] => fun δ Q _ => Q [] δ
  | t :: r => fun δ Q Xc => t δ (fun rv δ1 => rv.isIn = true ∧ mvEv r δ1 (fun l δ2 => Q (rv :: l) δ2) Xc) Xc
def lMv (K : PySem.W.Frag) (W : Wd) (wx : WX) (as : List VT) : TA := fun σ H Q => ∃ δ π Qd Xd, SS K W H σ δ π ∧ mvEv as δ Qd Xd ∧
  (∀ l δ', Qd l δ' → ∀ vs H', vs.length = as.length → l.length = as.length → SS K W H' σ δ' (π ++ cells vs l) → Q vs H') ∧ XR K W wx σ π Xd
structure VMv (X : Cx) (W : Wd) (wx : WX) (es : List Expr) (as : List VT) : Prop where
  pa : PA X es (lMv X.K W wx as)
theorem vm0 : VMv X W wx [] [] := ⟨PA.imp pa_nil fun σ H Q ⟨δ, π, Qd, Xd, s, h, k, xr⟩ => k _ _ h [] H rfl rfl (by rw [show cells [] [] = [] from rfl, List.append_nil]; exact s)⟩
theorem vm1 {as : List VT} (he : VE X W wx e t) (hr : VMv X W wx es as) (hs : starEach (e :: es) X.env = (false, eval e X.env) :: starEach es X.env := by rfl) : VMv X W wx (e :: es) (t :: as) := by
  refine ⟨PA.imp (pa_cons he.pe hr.pa hs) fun σ H Q ⟨δ, π, Qd, Xd, s, h, k, xr⟩ => ?_⟩
  refine ⟨δ, π, _, Xd, s, h, fun rv δ1 q v H1 s1 => ?_, xr⟩
  refine ⟨δ1, π ++ [(some v, rv)], _, Xd, s1, q.2, fun l δ2 q2 vs H2 l2 n2 s2 => ?_, xr.more⟩
  refine k _ _ q2 (v :: vs) H2 (by rw [List.length_cons, List.length_cons, l2]) (by rw [List.length_cons, List.length_cons, n2]) ?_
  rw [cells_cons, List.append_cons]
  exact s2
/-- what waits, by what it is -/
inductive Arg (K : PySem.W.Frag) (S : Addr → Prop) (H : Hp) : V → Sl → Prop
  | sh {v : V} {d : D} : Rp K S H v d → Arg K S H v (.sh d)
  | ow {v : V} {o : Ot} : Ow K S H v o → Arg K S H v (.ow o)
  | no {v : V} : Arg K S H v .un
inductive Args (K : PySem.W.Frag) (S : Addr → Prop) (H : Hp) : List V → List Sl → Prop
  | nil : Args K S H [] []
  | cons {v : V} {s : Sl} {vs : List V} {l : List Sl} : Arg K S H v s → Args K S H vs l → Args K S H (v :: vs) (s :: l)
def Sl.fit : Sl → Prop
  | .rf _ _ _ => False
  | _ => True
theorem StF.arg {i : Nat} {v : V} {s : Sl} (x : StF K W H cs S) (h : cs[i]? = some (some v, s)) (hf : s.fit) : Arg K S H v s := by
  cases s with
  | un => exact .no
  | sh d =>
    obtain ⟨u, eu, r⟩ := x.sh _ _ _ h
    cases eu
    exact .sh r
  | ow o =>
    obtain ⟨u, eu, r⟩ := x.ow _ _ _ h
    cases eu
    exact .ow r
  | _ => exact hf.elim
theorem StF.args : ∀ {vs : List V} {l : List Sl} {A : List Cell}, StF K W H (A ++ cells vs l) S → vs.length = l.length → (∀ s ∈ l, s.fit) → Args K S H vs l
  | [], [], _, _, _, _ => .nil
  | [], _ :: _, _, _, h, _ => by simp at h
  | _ :: _, [], _, _, h, _ => by simp at h
  | v :: vs, s :: l, A, x, h, hf => by
    rw [cells_cons] at x
    have e : (A ++ (some v, s) :: cells vs l)[A.length]? = some (some v, s) := by
      rw [List.getElem?_append_right (Nat.le_refl _), Nat.sub_self]
      rfl
    rw [List.append_cons] at x
    exact .cons (StF.arg (i := A.length) (by rw [← List.append_cons] at x; exact x) e (hf s List.mem_cons_self)) (StF.args (A := A ++ [(some v, s)]) x (by simpa using h) fun s hs => hf s (List.mem_cons_of_mem _ hs))
def adrL : List Sl → List Addr
  | [] => []
  | .ow o :: r => o.adr ++ adrL r
  | _ :: r => adrL r
theorem adrC_cells : ∀ {vs : List V} {l : List Sl}, vs.length = l.length → adrC (cells vs l) = adrL l
  | [], [], _ => rfl
  | [], _ :: _, h => by simp at h
  | _ :: _, [], h => by simp at h
  | v :: vs, s :: l, h => by
    have ih := adrC_cells (vs := vs) (l := l) (by simpa using h)
    rw [cells_cons]
    cases s with
    | ow o => show o.adr ++ adrC _ = o.adr ++ adrL l; rw [ih]
    | _ => exact ih
/-- a method that changes a list: f gives the new items and what comes back -/
def SndM (K : PySem.W.Frag) (r : V → List V → Hp → VK → Prop) (f : List Ot → List Sl → Option (List Ot × D)) : Prop :=
  ∀ S H p xs os vs l os' res (Q : VK), H p = some (.lst xs) → Ows K S H xs os → Args K S H vs l → f os l = some (os', res) →
    (∃ rest, (Ot.adrs os' ++ rest).Perm (Ot.adrs os ++ adrL l)) ∧ ((∀ v xs', Ows K S H xs' os' → Rp K S H v res → Q v (upd H p (.lst xs'))) → r (.ref p) vs H Q)
/-- o.method(args) -/
def vMet (o : Opr) (f : List Ot → List Sl → Option (List Ot × D)) (as : List VT) : VT := fun δ Q Xc => o.ev δ (fun rv δ1 => (∃ (L : Nde) (q : Addr), o.loc rv δ1 = some L ∧ L.s = .lst q) ∧
  mvEv as δ1 (fun l δ2 => ∃ (L : Nde) (q : Addr) (os' : List Ot) (r : D), o.loc rv δ2 = some L ∧ L.s = .lst q ∧ f L.os l = some (os', r) ∧ Q (.sh r) (L.set δ2 (.lst q) os')) Xc) Xc
theorem isIn_fit {s : Sl} (h : s.isIn = true) : s.fit := by
  cases s with
  | rf _ _ _ => cases h
  | _ => exact trivial
theorem mvEv_fit : ∀ {as : List VT} {δ : List Sl} {Q : List Sl → List Sl → Prop} {Xc : Exn → List Sl → Prop}, (∀ t ∈ as, ∀ δ Q Xc, t δ Q Xc → True) → True := fun _ => trivial
theorem met_run {o : Opr} {as : List VT} {te : TE} {ta : TA} {f : List Ot → List Sl → Option (List Ot × D)} {r : V → List V → Hp → VK → Prop} {Q : VK} (A : VOt X W wx e o te) (snd : SndM X.K r f) (hf : ∀ os l os' d, f os l = some (os', d) → ∀ s ∈ l, s.fit)
    (ha : ∀ σ H Q, lMv X.K W wx as σ H Q → ta σ H Q) (h : lE X.K W wx (vMet o f as) σ H Q) : tBM X.K "list" r te ta σ H Q := by
  obtain ⟨δ, π, Qd, Xd, s, h, k, xr⟩ := h
  refine A.run σ H δ π _ Xd _ s h xr fun rv δ1 q v H1 s1 i1 => ?_
  obtain ⟨⟨L0, q0, hL0, e0⟩, q⟩ := q
  refine ⟨?_, ha _ _ _ ⟨δ1, _, _, Xd, s1, q, fun l δ2 q vs H2 l1 l2 s2 => ?_, xr.more⟩⟩
  · obtain ⟨S, x⟩ := s1.st
    obtain ⟨h1, h2, h3⟩ := Opr.loc_ok (ρ := []) s1.len x i1 hL0
    obtain ⟨w, w1, w2⟩ := zipcell (ρ := π ++ [(some v, rv)]) s1.len h1
    obtain ⟨xs, g1, _⟩ := x.mutAt w2 h2
    rw [h3]
    rw [e0] at g1 ⊢
    exact .inl ⟨rfl, xs, SqL.of g1⟩
  · obtain ⟨L, q1, os', d, hL, e1, e2, z⟩ := q
    obtain ⟨S, x⟩ := s2.st
    rw [List.append_assoc] at x
    have lv : vs.length = l.length := by rw [l1, l2]
    obtain ⟨h1, h2, h3⟩ := Opr.loc_ok (ρ := cells vs l) s2.len x i1 hL
    obtain ⟨xs, g1, g2, g3⟩ := x.mutL s2.len h1 h2
    rw [e1] at g1
    have ga : Args X.K S H2 vs l := StF.args (A := σ.zip δ2 ++ (π ++ [(some v, rv)])) (by rw [List.append_assoc, List.append_assoc]; exact x) lv (hf _ _ _ _ e2)
    obtain ⟨⟨rest, pm⟩, fin⟩ := snd S H2 q1 xs L.os vs l os' d Q g1 g2 ga e2
    rw [h3, e1]
    refine fin fun v' xs' o' rv' => ?_
    obtain ⟨y, ev⟩ := g3 (.lst q1) xs' os' (upd H2 q1 (.lst xs')) (rest ++ adrC [(some v, rv)]) (by rw [e1]) (by rw [e1]) (fun b hb => by rw [e1] at hb; exact upd_ne (fun z => hb (by rw [z]; exact List.mem_cons_self))) upd_same o' (by
      have ec : adrC ((some v, rv) :: cells vs l) = adrC [(some v, rv)] ++ adrC (cells vs l) := by
        cases rv <;> simp [adrC]
      have ec' : adrC ([(some v, rv)] ++ cells vs l) = adrC [(some v, rv)] ++ adrC (cells vs l) := ec
      rw [ec', adrC_cells lv, ← List.append_assoc]
      refine (pm.append_right _).trans ?_
      rw [List.append_assoc]
      exact List.Perm.append_left _ List.perm_append_comm)
    have s3 : SS X.K W (upd H2 q1 (.lst xs')) σ (L.set δ2 (.lst q1) os') π := ⟨by rw [Nde.set_len]; exact s2.len, S, y⟩
    exact k _ _ z _ _ (s3.pushF y (Rp.ev ev d v' rv'))
abbrev Few (X : Cx) (cpos : Pos) (es : List Expr) : Prop := ((backTo cpos (starEach es X.env)).all (fun x => !x.1) && (backToKw cpos (keywordEach [] X.env)).all (fun x => x.1.isSome) && decide (es.length + ([] : List Keyword).length + (if ([] : List Keyword).isEmpty then 0 else 1) < 30)) = true
theorem ve_met {o : Opr} {name : Str} {id : String} {as : List VT} {ov : Expr} {f : List Ot → List Sl → Option (List Ot × D)} {r : V → List V → Hp → VK → Prop} (slot : Slot "list" name id) (hty : typeOf (.builtin id) = pure (.type "method_descriptor")) (hm : MtR X id r) (snd : SndM X.K r f)
    (hf : ∀ os l os' d, f os l = some (os', d) → ∀ s ∈ l, s.fit) (ho : VO X W wx ov o) (ha : VMv X W wx (e :: es) as)
    (hbase : attributeBase ov name X.env (eval ov X.env) = eval ov X.env := by rfl)
    (hfew : Few X cpos (e :: es) := by rfl) (hplain : (backTo cpos (starEach es X.env)).any (·.1) = false := by rfl)
    (hline : (apos.endLine == cpos.line) = true := by rfl) (hs : starEach (e :: es) X.env = (false, eval e X.env) :: starEach es X.env := by rfl) :
    VE X W wx (.Call (.Attribute ov name apos) (e :: es) [] cpos) (vMet o f as) := by
  obtain ⟨te, A⟩ := ho
  exact ⟨PE.imp (pe_bm PySem.F.plainAttrs_list slot hty hm A.pe ha.pa hbase hfew hline hs hplain) fun σ H Q h => met_run A snd hf (fun _ _ _ z => z) h⟩
theorem ve_met0 {o : Opr} {name : Str} {id : String} {ov : Expr} {f : List Ot → List Sl → Option (List Ot × D)} {r : V → List V → Hp → VK → Prop} (slot : Slot "list" name id) (hty : typeOf (.builtin id) = pure (.type "method_descriptor")) (hm : MtR X id r) (snd : SndM X.K r f)
    (hf : ∀ os l os' d, f os l = some (os', d) → ∀ s ∈ l, s.fit) (ho : VO X W wx ov o)
    (hbase : attributeBase ov name X.env (eval ov X.env) = eval ov X.env := by rfl) (hline : (apos.endLine == cpos.line) = true := by rfl) :
    VE X W wx (.Call (.Attribute ov name apos) [] [] cpos) (vMet o f []) := by
  obtain ⟨te, A⟩ := ho
  refine ⟨PE.imp (pe_bm0 PySem.F.plainAttrs_list slot hty hm A.pe hbase hline) fun σ H Q h => ?_⟩
  have z : tBM X.K "list" r te tNil σ H Q := met_run A snd hf (fun σ H Q z => by
    obtain ⟨δ, π, Qd, Xd, s, h, k, xr⟩ := z
    exact k _ _ h [] H rfl rfl (by rw [show cells [] [] = [] from rfl, List.append_nil]; exact s)) h
  exact z

/-! ### the methods of lists -/
/-- what is put in as it is -/
def Sl.ot : Sl → Option Ot
  | .sh d => some (.leaf d)
  | .ow o => some o
  | _ => none
theorem Arg.ot {v : V} {s : Sl} {o : Ot} (h : Arg K S H v s) (e : s.ot = some o) : Ow K S H v o := by
  cases h with
  | sh r => cases e; exact .leaf r
  | ow r => cases e; exact r
  | no => cases e
theorem adr_ot {s : Sl} {o : Ot} (e : s.ot = some o) : adrL [s] = o.adr := by
  cases s with
  | sh d => cases e; simp [adrL, Ot.adr]
  | ow o => cases e; simp [adrL]
  | _ => cases e
theorem ot_fit {s : Sl} {o : Ot} (e : s.ot = some o) : s.fit := by
  cases s with
  | rf _ _ _ => cases e
  | _ => exact trivial
def mAppend (os : List Ot) (l : List Sl) : Option (List Ot × D) := match l with
  | [s] => if os.length < 1000000 then s.ot.map fun o => (os ++ [o], .none) else none
  | _ => none
theorem sndm_append : SndM K rAppend mAppend := by
  intro S H p xs os vs l os' res Q hp hx hv hf
  cases hv with
  | nil => cases hf
  | @cons v s vs l h1 h2 =>
    cases h2 with
    | cons _ _ => cases hf
    | nil =>
      have hf' : (if os.length < 1000000 then s.ot.map fun o => (os ++ [o], PyData.none) else none) = some (os', res) := hf
      by_cases h : os.length < 1000000
      · rw [if_pos h] at hf'
        obtain ⟨o, e1, e2⟩ := Option.map_eq_some_iff.mp hf'
        cases e2
        refine ⟨⟨[], by rw [Ot.adrs_app, List.append_nil, adr_ot e1, Ot.adrs, Ot.adrs, List.append_nil]⟩, fun hq => ⟨p, xs, v, rfl, rfl, hp, by rw [hx.length]; exact Nat.lt_of_lt_of_le h (by decide), hq .non _ (hx.append (.cons (h1.ot e1) .nil)) .non⟩⟩
      · rw [if_neg h] at hf'; cases hf'
theorem fit_append : ∀ os l os' d, mAppend os l = some (os', d) → ∀ s ∈ l, s.fit := fun os l os' d h s hs => by
  match l, h with
  | [s'], h =>
    have h' : (if os.length < 1000000 then s'.ot.map fun o => (os ++ [o], PyData.none) else none) = some (os', d) := h
    rw [List.mem_singleton.mp hs]
    by_cases z : os.length < 1000000
    · rw [if_pos z] at h'
      obtain ⟨o, e1, _⟩ := Option.map_eq_some_iff.mp h'
      exact ot_fit e1
    · rw [if_neg z] at h'; cases h'
def mPop (os : List Ot) (l : List Sl) : Option (List Ot × D) := match l with
  | [] => match os.getLast? with
    | some (.leaf d) => some (os.dropLast, d)
    | _ => none
  | _ => none
theorem Ows.dropLast {vs : List V} {ds : List Ot} (r : Ows K S H vs ds) : Ows K S H vs.dropLast ds.dropLast := by
  rw [List.dropLast_eq_take, List.dropLast_eq_take, r.length]
  exact r.take _
theorem sndm_pop : SndM K rPop mPop := by
  intro S H p xs os vs l os' res Q hp hx hv hf
  cases hv with
  | cons _ _ => cases hf
  | nil =>
    have hf' : (match os.getLast? with | some (.leaf d) => some (os.dropLast, d) | _ => none) = some (os', res) := hf
    split at hf'
    · rename_i d e
      cases hf'
      have hne : os ≠ [] := fun z => by rw [z] at e; cases e
      refine ⟨⟨[], ?_⟩, fun hq => ?_⟩
      · have e2 : os = os.dropLast ++ [.leaf res] := by
          rw [List.getLast?_eq_some_getLast hne] at e
          have := List.dropLast_concat_getLast hne
          rw [Option.some.inj e] at this
          exact this.symm
        have e3 : Ot.adrs os = Ot.adrs os.dropLast := by
          conv => lhs; rw [e2]
          rw [Ot.adrs_app]; simp [Ot.adrs, Ot.adr]
        rw [e3]
        simp [adrL]
      · rw [List.getLast?_eq_getElem?] at e
        obtain ⟨v, h3, h4⟩ := hx.get e
        cases h4 with
        | leaf r => exact ⟨p, xs, v, rfl, rfl, hp, by rw [hx.length]; exact h3, hq v _ hx.dropLast r⟩
    · cases hf'
theorem fit_pop : ∀ os l os' d, mPop os l = some (os', d) → ∀ s ∈ l, s.fit := fun os l os' d h s hs => by
  match l, h with
  | [], h => cases hs
def mReverse (os : List Ot) (l : List Sl) : Option (List Ot × D) := match l with
  | [] => some (os.reverse, .none)
  | _ => none
theorem adrs_reverse : ∀ os : List Ot, (Ot.adrs os.reverse).Perm (Ot.adrs os)
  | [] => .nil
  | o :: os => by
    rw [List.reverse_cons, Ot.adrs_app, Ot.adrs, Ot.adrs, Ot.adrs, List.append_nil]
    exact (List.perm_append_comm).trans ((adrs_reverse os).append_left _)
theorem sndm_reverse : SndM K rReverse mReverse := by
  intro S H p xs os vs l os' res Q hp hx hv hf
  cases hv with
  | cons _ _ => cases hf
  | nil =>
    cases hf
    exact ⟨⟨[], by simpa [adrL] using adrs_reverse os⟩, fun hq => ⟨p, xs, rfl, rfl, hp, hq .non _ hx.reverse .non⟩⟩
theorem fit_reverse : ∀ os l os' d, mReverse os l = some (os', d) → ∀ s ∈ l, s.fit := fun os l os' d h s hs => by
  match l, h with
  | [], h => cases hs
def rInsert : V → List V → Hp → VK → Prop := fun x vs H Q => ∃ (l : Addr) (xs : List V) (i : Int) (y : V), x = .ref l ∧ vs = [.int i, y] ∧ H l = some (.lst xs) ∧ xs.length < sizeLine ∧ 0 ≤ i ∧ i < 2 ^ 63 ∧ Q .non (upd H l (.lst (xs.take i.toNat ++ [y] ++ xs.drop i.toNat)))
def mInsert (os : List Ot) (l : List Sl) : Option (List Ot × D) := match l with
  | [.sh (.int i), s] => if os.length < 1000000 ∧ 0 ≤ i ∧ i < 1000000 then s.ot.map fun o => (os.take i.toNat ++ [o] ++ os.drop i.toNat, .none) else none
  | _ => none
theorem sndm_insert : SndM K rInsert mInsert := by
  intro S H p xs os vs l os' res Q hp hx hv hf
  match l, hv, hf with
  | [.sh (.int i), s], .cons (v := v1) h1 (.cons (v := v2) h2 .nil), hf =>
    have hf' : (if os.length < 1000000 ∧ 0 ≤ i ∧ i < 1000000 then s.ot.map fun o => (os.take i.toNat ++ [o] ++ os.drop i.toNat, PyData.none) else none) = some (os', res) := hf
    by_cases h : os.length < 1000000 ∧ 0 ≤ i ∧ i < 1000000
    · rw [if_pos h] at hf'
      obtain ⟨o, e1, e2⟩ := Option.map_eq_some_iff.mp hf'
      cases e2
      cases h1 with
      | sh r =>
        cases r
        refine ⟨⟨[], ?_⟩, fun hq => ⟨p, xs, i, v2, rfl, rfl, hp, by rw [hx.length]; exact Nat.lt_of_lt_of_le h.1 (by decide), h.2.1, Int.lt_trans h.2.2 (by decide), hq .non _ (((hx.take _).append (.cons (h2.ot e1) .nil)).append (hx.drop _)) .non⟩⟩
        have ea : adrL [Sl.sh (.int i), s] = o.adr := adr_ot e1
        have eo : Ot.adrs os = Ot.adrs (os.take i.toNat) ++ Ot.adrs (os.drop i.toNat) := by rw [← Ot.adrs_app, List.take_append_drop]
        rw [List.append_nil, ea, eo, Ot.adrs_app, Ot.adrs_app, Ot.adrs, Ot.adrs, List.append_nil, List.append_assoc, List.append_assoc]
        exact List.Perm.append_left _ List.perm_append_comm
    · rw [if_neg h] at hf'; cases hf'
theorem fit_insert : ∀ os l os' d, mInsert os l = some (os', d) → ∀ s ∈ l, s.fit := fun os l os' d h s hs => by
  match l, h with
  | [.sh (.int i), s'], h =>
    have h' : (if os.length < 1000000 ∧ 0 ≤ i ∧ i < 1000000 then s'.ot.map fun o => (os.take i.toNat ++ [o] ++ os.drop i.toNat, PyData.none) else none) = some (os', d) := h
    by_cases z : os.length < 1000000 ∧ 0 ≤ i ∧ i < 1000000
    · rw [if_pos z] at h'
      obtain ⟨o, e1, _⟩ := Option.map_eq_some_iff.mp h'
      rcases List.mem_cons.mp hs with rfl | hs
      · exact trivial
      · rw [List.mem_singleton.mp hs]
        exact ot_fit e1
    · rw [if_neg z] at h'; cases h'
/-- extend by a list: its items, or, if it is one's own, its trees -/
def mExtend (os : List Ot) (l : List Sl) : Option (List Ot × D) := match l with
  | [.ow (.nod (.lst _) ps)] => if os.length + ps.length ≤ 1000000 then some (os ++ ps, .none) else none
  | [.sh (.list ds)] => if os.length + ds.length ≤ 1000000 then some (os ++ ds.map .leaf, .none) else none
  | _ => none
theorem sndm_extend : SndM K rExtend mExtend := by
  intro S H p xs os vs l os' res Q hp hx hv hf
  unfold mExtend at hf
  split at hf
  · rename_i q ps
    cases hv with
    | @cons v1 _ vs1 _ h1 h0 =>
    cases h0
    have hf' : (if os.length + ps.length ≤ 1000000 then some (os ++ ps, PyData.none) else none) = some (os', res) := hf
    by_cases h : os.length + ps.length ≤ 1000000
    · rw [if_pos h] at hf'
      cases hf'
      cases h1 with
      | ow w =>
        cases w with
        | @nod _ zs _ g1 g2 =>
          refine ⟨⟨[q], ?_⟩, fun hq => ⟨p, q, xs, zs, rfl, rfl, hp, g1, by rw [hx.length, g2.length]; exact Nat.le_trans h (by decide), hq .non _ (hx.append g2) .non⟩⟩
          have ea : adrL [Sl.ow (.nod (.lst q) ps)] = q :: Ot.adrs ps := by simp [adrL, Ot.adr, Sh.own]
          rw [ea, Ot.adrs_app, List.append_assoc]
          exact List.Perm.append_left _ (List.perm_append_comm)
    · rw [if_neg h] at hf'; cases hf'
  · rename_i ds
    cases hv with
    | @cons v1 _ vs1 _ h1 h0 =>
    cases h0
    have hf' : (if os.length + ds.length ≤ 1000000 then some (os ++ ds.map Ot.leaf, PyData.none) else none) = some (os', res) := hf
    by_cases h : os.length + ds.length ≤ 1000000
    · rw [if_pos h] at hf'
      cases hf'
      cases h1 with
      | sh r =>
        cases r with
        | @lst q zs _ g1 g2 =>
          refine ⟨⟨[], ?_⟩, fun hq => ⟨p, q, xs, zs, rfl, rfl, hp, g1.1, by rw [hx.length, g2.length]; exact Nat.le_trans h (by decide), hq .non _ (hx.append (Ows.leaves g2)) .non⟩⟩
          rw [Ot.adrs_app, Ot.adrs_leaf]
          simp [adrL]
    · rw [if_neg h] at hf'; cases hf'
  · cases hf
theorem fit_extend : ∀ os l os' d, mExtend os l = some (os', d) → ∀ s ∈ l, s.fit := fun os l os' d h s hs => by
  unfold mExtend at h
  split at h
  · rw [List.mem_singleton.mp hs]; exact trivial
  · rw [List.mem_singleton.mp hs]; exact trivial
  · cases h
end
end ML

/-! ## M10 -/
set_option Elab.async false
set_option linter.all false
set_option autoImplicit false
set_option maxRecDepth 100000
set_option maxHeartbeats 4000000
namespace ML
open PySem PySem.Spec PyProof.Rows L2
section
variable {X : Cx} {W : Wd} {wx : WX} {K : PySem.W.Frag} {H H' : Hp} {σ : L2.St} {δ δ' : List Sl} {π ν ρ : List Cell} {e a b c tg iter ie : Expr} {es : List Expr} {t u ti : VT} {ts : VTs} {pos p apos cpos : Pos} {body : List Stmt} {pb : VSt} {S S' : Addr → Prop}

theorem vi_zip {elts : List Expr} {kk : Nat} {tpos : Pos} (hm : X.mg "zip" = none) (he : VE X W wx a t) (hf : VE X W wx b u) (hg : Gl X "zip" := by rfl) (hs : starEach [a, b] X.env = (false, eval a X.env) :: starEach [b] X.env := by rfl)
    (hs2 : starEach [b] X.env = (false, eval b X.env) :: starEach [] X.env := by rfl) (hpl : (backTo pos (starEach [b] X.env)).any (·.1) = false := by rfl) : VI X W wx (.Tuple elts kk tpos) (.Call (.Name "zip" p) [a, b] [] pos) (iZp t u) :=
  ⟨PI.imp (pi_zip hg hm (va_cons he (va_cons hf va_nil hs2) hs).pa hs hpl) fun σ H R ⟨δ, π, Qd, Xd, s, h, k, xr⟩ => ⟨δ, π, _, Xd, s, h, fun ds δ' q vs H' l n s' => by
    obtain ⟨es, fs, rfl, q⟩ := q
    obtain ⟨v, v2, rfl⟩ := len2 l
    rw [shs_cons, shs_cons, shs_nil] at s'
    have s1 : SS X.K W H' σ δ' (π ++ [(some v, Sl.sh (.list es))]) := by
      rw [List.append_cons] at s'
      exact s'.drop
    have s2 : SS X.K W H' σ δ' ((π ++ [(some v, Sl.sh (.list es))]) ++ [(some v2, Sl.sh (.list fs))]) := by rw [← List.append_cons]; exact s'
    obtain ⟨a', xs, rfl, hl⟩ := s1.list
    obtain ⟨b', ys, rfl, hl2⟩ := s2.list
    exact ⟨a', b', xs, ys, rfl, hl, hl2, k _ _ q _ _ _ s' itok_zip⟩, xr⟩⟩

/-! ### for -/
def vFor (it : VTs) (g : D → List Sl → Option (List Sl)) (pb : VSt) : VSt := fun E δ => it δ (fun its δ1 => ∃ I : Nat → List Sl → Prop, I 0 δ1 ∧
  (∀ k d δ2, its[k]? = some d → I k δ2 → ∃ δ3, g d δ2 = some δ3 ∧ pb ⟨I (k + 1), E.rt, E.nx, I (k + 1), E.ex⟩ δ3) ∧ ∀ δ2, I its.length δ2 → E.nx δ2) E.ex
theorem vs_for {it : VTs} {ws : List Nat} {g : D → List Sl → Option (List Sl)} (hp : PassesOwn (model X.prog X.w) X.A X.env X.xe) (hc : X.calm = true) (hi : VI X W wx tg iter it) (hg : VG X W tg ws g) (hb : VSs X W wx body pb)
    (hs : ∀ x, foldedSetIterable iter X.env x = pure x := by intro _; rfl) : VS X W wx (.For tg iter body [] pos) (vFor it g pb) := by
  refine ⟨PS.imp (ps_for hp hc hi.pi hg.pg hb.ps hs) fun Dd σ H ⟨δ, π, E, s, h, k⟩ => ⟨δ, π, _, _, s, h, fun its δ1 q J ν H1 s1 ok => ?_, k.ex σ⟩⟩
  obtain ⟨I, i0, step, last⟩ := q
  refine ⟨fun i m σ' H' => m = its.length - i ∧ i ≤ its.length ∧ ∃ δ2, I i δ2 ∧ SS X.K W H' σ' δ2 (π ++ ν), ⟨_, rfl, Nat.zero_le _, δ1, i0, s1⟩, ?_⟩
  rintro i m σ2 H2 ⟨rfl, hi2, δ2, iv, s2⟩
  have s2' : SS X.K W H2 σ2 δ2 (π ++ ν ++ []) := by rw [List.append_nil]; exact s2
  by_cases hlt : i < its.length
  · have hd : its[i]? = some its[i] := List.getElem?_eq_getElem hlt
    obtain ⟨go, yld⟩ := ok.go σ2 δ2 H2 π [] i _ s2' hd
    obtain ⟨δ3, g3, b3⟩ := step i _ δ2 hd iv
    refine .inr ⟨go, fun σ' H' => ∃ δ2, I (i + 1) δ2 ∧ SS X.K W H' σ' δ2 (π ++ ν), fun σ' H' ⟨δ4, iv4, s4⟩ => ⟨_, by omega, rfl, hlt, δ4, iv4, s4⟩, fun x H' hy => ?_⟩
    have s3 := yld x H' hy
    rw [List.append_nil] at s3
    refine ⟨δ2, _, _, (π ++ ν).length, δ3, snoc_last, s3, g3, fun σ' w s4 => ?_⟩
    refine ⟨δ3, π ++ ν, _, s4.drop, b3, ⟨fun δ' z σ' H' s' => ⟨δ', z, s'⟩, k.more.rt, k.more.nx, fun δ' z σ' H' s' => ⟨δ', z, s'⟩, k.more.ex⟩⟩
  · obtain rfl : i = its.length := by omega
    exact .inl ⟨ok.stop σ2 δ2 H2 π [] _ s2' (Nat.le_refl _), k.nx _ (last _ iv) _ _ s2.drop⟩

/-! ### while -/
def vWh (c : VTt) (pb : VSt) : VSt := fun E δ => ∃ (I : List Sl → Prop) (μ : List Sl → Nat), I δ ∧
  ∀ δ1, I δ1 → c δ1 (fun b δ2 => if b = true then pb ⟨fun δ' => I δ' ∧ μ δ' < μ δ1, E.rt, E.nx, fun δ' => I δ' ∧ μ δ' < μ δ1, E.ex⟩ δ2 else E.nx δ2) E.ex
theorem vs_while {tc : VTt} (hp : PassesOwn (model X.prog X.w) X.A X.env X.xe) (hc : VC X W wx c tc) (hb : VSs X W wx body pb) : VS X W wx (.While c body [] pos) (vWh tc pb) := by
  refine ⟨PS.imp (ps_while hp hc.pt hb.ps) fun Dd σ H ⟨δ, π, E, s, ⟨I, μ, i0, step⟩, k⟩ => ?_⟩
  refine ⟨fun m σ' H' => ∃ δ1, m = μ δ1 ∧ I δ1 ∧ SS X.K W H' σ' δ1 π, ⟨_, δ, rfl, i0, s⟩, ?_⟩
  rintro m σ1 H1 ⟨δ1, rfl, i1, s1⟩
  refine ⟨δ1, π, _, _, s1, step δ1 i1, fun b δ2 q H2 s2 => ?_, k.ex σ1⟩
  cases b with
  | true =>
    rw [if_pos rfl]
    rw [if_pos rfl] at q
    exact ⟨fun σ' H' => ∃ δ', (I δ' ∧ μ δ' < μ δ1) ∧ SS X.K W H' σ' δ' π, fun σ' H' ⟨δ', ⟨i', l'⟩, s'⟩ => ⟨_, l', δ', rfl, i', s'⟩,
      δ2, π, _, s2, q, ⟨fun δ' z σ' H' s' => ⟨δ', z, s'⟩, k.rt, k.nx, fun δ' z σ' H' s' => ⟨δ', z, s'⟩, k.ex⟩⟩
  | false =>
    rw [if_neg (by decide)]
    rw [if_neg (by decide)] at q
    exact k.nx _ q _ _ s2

/-! ### x op= e -/
def vAug (i : Nat) (f : D → D → Option Rs) (o : Opr) : VSt := fun E δ => inAt δ i ∧ o.ev δ (fun ra δ1 => ∃ x y r, (δ1[i]?).bind (Sl.read false δ1) = some x ∧ o.fin false ra δ1 = some y ∧ f x y = some r ∧ ∀ p, E.nx (δ1.set i (r.to p))) E.ex
theorem vs_aug {i : Nat} {x : Str} {op : Operator} {r : TIp} {f : D → D → Option Rs} {o : Opr} {pos' : Pos} (hN : X.N.Nodup) (hi : X.N[i]? = some x) (hx : Loc X.env.scope x) (he : VO X W wx e o) (ho : PIp X op r) (snd : Snd2 X.K r f)
    (hf : X.fn x = true ∨ X.env.scope.names.lookup x = some .local := by first | exact .inl rfl | exact .inr rfl | assumption) : VS X W wx (.AugAssign (.Name x pos') op e pos) (vAug i f o) := by
  obtain ⟨te, A⟩ := he
  refine ⟨PS.imp (ps_aug hN hi hx A.pe ho hf) fun Dd σ H ⟨δ, π, E, s, ⟨h1, h2⟩, k⟩ => ?_⟩
  obtain ⟨v, hv⟩ := s.inAt h1
  refine ⟨v, hv, A.run σ H δ π _ _ _ s h2 (k.ex σ) fun ra δ1 q u H1 s1 i1 => ?_⟩
  obtain ⟨dx, dy, res, e1, e2, e3, q⟩ := q
  obtain ⟨S, y⟩ := s1.st
  refine snd S H1 v u dx dy res _ ?_ (Opr.read (m := false) (ρ := []) s1.len y i1 e2) e3 fun w H2 nv => ?_
  · exact Opr.read (m := false) (o := .pk i) (ρ := []) (rv := .un) (π := π ++ [(some u, ra)]) (v := v) s1.len (by rw [← List.append_assoc]; exact y.blank) hv e1
  · have hl : i < δ1.length := by
      obtain ⟨sl, q1, _⟩ := Option.bind_eq_some_iff.mp e1
      exact (List.getElem?_eq_some_iff.mp q1).1
    obtain ⟨p, s2⟩ := s1.drop.new (SS.restrict y) nv
    exact k.nx _ (q p) _ _ (s2.put hl)

/-! ### stores to items -/
/-- x[i] = e, of a list of one's own -/
def putIx (os : List Ot) (k : Int) (o : Ot) : Option (List Ot) := match ixN os.length k with
  | some j => match os[j]? with
    | some (.leaf _) => some (os.set j o)
    | _ => none
  | none => none
def kidx (d : D) : Option Key := match d with
  | .int i => some (.inl i)
  | .str x => some (.inr x)
  | _ => none
/-- d[k] = e -/
def putKey (ks : List Key) (os : List Ot) (k : Key) (o : Ot) : Option (List Key × List Ot) := if ks.length < 1000000 then (match kpos ks k with
  | none => some (ks ++ [k], os ++ [o])
  | some j => match os[j]? with
    | some (.leaf _) => some (ks, os.set j o)
    | _ => none) else none
def storeL (s : Sh) (os : List Ot) (dk : D) (o : Ot) : Option (Sh × List Ot) := match s with
  | .lst p => match dk with
    | .int k => (putIx os k o).map fun os' => (.lst p, os')
    | _ => none
  | .dct p ks => (kidx dk).bind fun k => (putKey ks os k o).map fun r => (.dct p r.1, r.2)
  | .obj _ _ _ _ => none
  | .lkd _ _ _ _ => none
  | .tup _ => none
/-- c[i] = e: the value first; then c, and the place in it -/
def vPut (t : VT) (c : Opr) (ti : VT) : VSt := fun E δ => t δ (fun rv δ1 => rv.isIn = true ∧ c.ev δ1 (fun rc δ2 => ti δ2 (fun rk δ3 => ∃ (o : Ot) (dk : D) (L : Nde) (s' : Sh) (os' : List Ot), rv.ot = some o ∧ rk = .sh dk ∧ c.loc rc δ3 = some L ∧ storeL L.s L.os dk o = some (s', os') ∧ E.nx (L.set δ3 s' os')) E.ex) E.ex) E.ex

theorem PSet.or {t t' : TSet} (h : PSet X t) (h' : PSet X t') : PSet X (fun o i v H Q => t o i v H Q ∨ t' o i v H Q) :=
  fun pins s σ H o i v ou iu vu Q I ro ri rv q => q.elim (h pins s σ H o i v ou iu vu Q I ro ri rv) (h' pins s σ H o i v ou iu vu Q I ro ri rv)
theorem kpos_some {α : Type} [DecidableEq α] : ∀ {l : List α} {x : α} {j : Nat}, kpos l x = some j → l[j]? = some x
  | [], _, _, h => by cases h
  | y :: l, x, j, h => by
    unfold kpos at h
    by_cases e : y = x
    · rw [if_pos e] at h
      cases h
      simp [e]
    · rw [if_neg e] at h
      obtain ⟨i, h1, h2⟩ := Option.map_eq_some_iff.mp h
      subst h2
      simpa using kpos_some h1
theorem kpos_none {α : Type} [DecidableEq α] : ∀ {l : List α} {x : α}, kpos l x = none → x ∉ l
  | [], _, _ => by simp
  | y :: l, x, h => by
    unfold kpos at h
    by_cases e : y = x
    · rw [if_pos e] at h
      cases h
    · rw [if_neg e] at h
      have h2 : kpos l x = none := by simpa using h
      intro z
      rcases List.mem_cons.mp z with z | z
      · exact e z.symm
      · exact kpos_none h2 z
theorem putK_no {ks : List Key} {xs : List V} {k : Key} {v : V} (h : k ∉ ks) (l : ks.length = xs.length) : putK (ks.zip xs) k v = (ks ++ [k]).zip (xs ++ [v]) := by
  have e : ((ks.zip xs).any fun kv => decide (kv.1 = k)) = false := by
    rw [List.any_eq_false]
    intro p hp hq
    have := of_decide_eq_true hq
    exact h (this ▸ (List.of_mem_zip hp).1)
  unfold putK
  rw [e, if_neg (by decide), List.zip_append l]
  rfl
theorem putK_at : ∀ {ks : List Key} {xs : List V} {k : Key} {v : V} {j : Nat}, kpos ks k = some j → ks.Nodup → ks.length = xs.length → putK (ks.zip xs) k v = ks.zip (xs.set j v)
  | ks, xs, k, v, j, h, nd, l => by
    have hm := kpos_some h
    have hj : j < ks.length := (List.getElem?_eq_some_iff.mp hm).1
    have e : ((ks.zip xs).any fun kv => decide (kv.1 = k)) = true := by
      rw [List.any_eq_true]
      have hx : j < xs.length := by omega
      refine ⟨(k, xs[j]), ?_, by simp⟩
      have : (ks.zip xs)[j]? = some (k, xs[j]) := List.getElem?_zip_eq_some.mpr ⟨hm, List.getElem?_eq_getElem hx⟩
      exact List.mem_of_getElem? this
    unfold putK
    rw [e, if_pos rfl]
    apply List.ext_getElem?
    intro i
    rw [List.getElem?_map]
    by_cases hi : i < ks.length
    · have hx : i < xs.length := by omega
      have e1 : (ks.zip xs)[i]? = some (ks[i], xs[i]) := List.getElem?_zip_eq_some.mpr ⟨List.getElem?_eq_getElem hi, List.getElem?_eq_getElem hx⟩
      rw [e1, Option.map_some]
      by_cases ij : i = j
      · subst ij
        have ek : ks[i] = k := by
          rw [List.getElem?_eq_getElem hi] at hm
          exact Option.some.inj hm
        have e2 : (ks.zip (xs.set i v))[i]? = some (k, v) := List.getElem?_zip_eq_some.mpr ⟨hm, by rw [List.getElem?_set_self hx]⟩
        rw [e2]
        simp [ek]
      · have nk : ks[i] ≠ k := fun z => by
          rw [List.getElem?_eq_getElem hj] at hm
          have q := Option.some.inj hm
          have pw := List.pairwise_iff_getElem.mp nd
          rcases Nat.lt_or_gt_of_ne ij with l1 | l1
          · exact pw i j hi hj l1 (z.trans q.symm)
          · exact pw j i hj hi l1 (q.trans z.symm)
        have e2 : (ks.zip (xs.set j v))[i]? = some (ks[i], xs[i]) := List.getElem?_zip_eq_some.mpr ⟨List.getElem?_eq_getElem hi, by rw [List.getElem?_set_ne (fun z => ij z.symm)]; exact List.getElem?_eq_getElem hx⟩
        rw [e2]
        simp [nk]
    · rw [List.getElem?_eq_none (by rw [List.length_zip]; omega), List.getElem?_eq_none (by rw [List.length_zip]; omega)]
      rfl
theorem adrs_put_leaf {os : List Ot} {j : Nat} {d : D} {o : Ot} (h : os[j]? = some (.leaf d)) : (Ot.adrs (os.set j o)).Perm (Ot.adrs os ++ o.adr) := by
  obtain ⟨e1, e2⟩ := adrs_split h
  have e0 : (Ot.leaf d).adr = [] := by rw [Ot.adr]
  rw [e0, List.nil_append] at e1
  rw [e1, e2, List.append_assoc]
  exact List.Perm.append_left _ List.perm_append_comm
theorem kidx_v {dk : D} {k : Key} {kv : V} (h : kidx dk = some k) (r : Rp K S H kv dk) : kv = kV k ∧ okK k = true := by
  cases dk with
  | int i => cases h; cases r; exact ⟨rfl, rfl⟩
  | str x =>
    cases h
    cases r with
    | str _ q => exact ⟨rfl, q⟩
  | _ => cases h
/-- a store, by what it makes of a node -/
theorem store_ok {s s' : Sh} {os os' : List Ot} {dk : D} {o : Ot} {xs : List V} {v kv : V} (h : storeL s os dk o = some (s', os')) (hh : s.holds H xs) (ho : Ows K S H xs os) (wo : Ow K S H v o) (rk : Rp K S H kv dk) :
    s'.root = s.root ∧ s'.own = s.own ∧ (Ot.adrs os').Perm (Ot.adrs os ++ o.adr) ∧ ∃ xs' H', (∀ b, b ∉ s.own → H' b = H b) ∧ s'.holds H' xs' ∧ Ows K S H xs' os' ∧ ∀ Q : Hp → Prop, Q H' → (rSetL (.ref s.root) kv v H Q ∨ rSetD (.ref s.root) kv v H Q) := by
  cases s with
  | lst p =>
    cases dk with
    | int k =>
      obtain ⟨os1, e1, e2⟩ := Option.map_eq_some_iff.mp (show (putIx os k o).map (fun os' => (Sh.lst p, os')) = some (s', os') from h)
      cases e2
      unfold putIx at e1
      split at e1
      · rename_i j ej
        split at e1
        · rename_i d ed
          cases e1
          refine ⟨rfl, rfl, adrs_put_leaf ed, xs.set j v, upd H p (.lst (xs.set j v)), fun b hb => upd_ne (fun z => hb (by rw [z]; exact List.mem_cons_self)), upd_same, ho.set wo, fun Q q => .inl ?_⟩
          cases rk
          exact ⟨p, xs, k, j, rfl, rfl, hh, by rw [ho.length]; exact ej, q⟩
        · cases e1
      · cases e1
    | _ => cases h
  | dct p ks =>
    obtain ⟨k, e0, h⟩ := Option.bind_eq_some_iff.mp (show (kidx dk).bind (fun k => (putKey ks os k o).map fun r => (Sh.dct p r.1, r.2)) = some (s', os') from h)
    obtain ⟨r, e1, e2⟩ := Option.map_eq_some_iff.mp h
    cases e2
    obtain ⟨h1, h2, h3, h4⟩ := hh
    obtain ⟨rfl, ok⟩ := kidx_v e0 rk
    unfold putKey at e1
    by_cases hl : ks.length < 1000000
    · rw [if_pos hl] at e1
      have hz : (ks.zip xs).length < sizeLine := by rw [List.length_zip]; exact Nat.lt_of_le_of_lt (Nat.min_le_left _ _) (Nat.lt_of_lt_of_le hl (by decide))
      split at e1
      · rename_i en
        cases e1
        have nk := kpos_none en
        refine ⟨rfl, rfl, by rw [Ot.adrs_app, Ot.adrs, Ot.adrs, List.append_nil], xs ++ [v], upd H p (.dK (putK (ks.zip xs) k v)), fun b hb => upd_ne (fun z => hb (by rw [z]; exact List.mem_cons_self)), ⟨?_, ?_, ?_, ?_⟩, ho.append (.cons wo .nil), fun Q q => .inr ⟨p, _, rfl, DPut.k h1 hz, q⟩⟩
        · rw [upd_same, putK_no nk h2]
        · rw [List.length_append, List.length_append, h2]; rfl
        · exact nd_snoc h3 nk
        · intro x hx
          rcases List.mem_append.mp hx with hx | hx
          · exact h4 x hx
          · rw [List.mem_singleton.mp hx]; exact ok
      · rename_i j ej
        split at e1
        · rename_i d ed
          cases e1
          refine ⟨rfl, rfl, adrs_put_leaf ed, xs.set j v, upd H p (.dK (putK (ks.zip xs) k v)), fun b hb => upd_ne (fun z => hb (by rw [z]; exact List.mem_cons_self)), ⟨?_, by rw [List.length_set]; exact h2, h3, h4⟩, ho.set wo, fun Q q => .inr ⟨p, _, rfl, DPut.k h1 hz, q⟩⟩
          rw [upd_same, putK_at ej h3 h2]
        · cases e1
    · rw [if_neg hl] at e1; cases e1
  | obj p dx C ks => cases h
  | lkd p ks us o => cases h
  | tup p => cases h

theorem vs_put {o : Opr} {ov ie : Expr} {ps : Pos} (hu : X.A.units + 1 < cLine) (he : VE X W wx e t) (ho : VO X W wx ov o) (hi : VE X W wx ie ti)
    (ha : ∀ v, assign (.Subscript ov ie ps) X.env v = (do
      let ov' ← holding [v] (eval ov X.env)
      let iv ← holding [v, ov'] (eval ie X.env)
      standAt ps
      holding [v, ov', iv] (setItem ov' iv v)
      release [v, ov', iv] []) := by intro _; rfl)
    (hs : swapsWithSole [.Subscript ov ie ps] e pos.line X.env = pure false := by rfl) (hw : swappedStores [.Subscript ov ie ps] e X.env = pure none := by rfl) (h1 : (assignEach [.Subscript ov ie ps] X.env).map (·.2) = [assign (.Subscript ov ie ps) X.env] := by rfl) :
    VS X W wx (.Assign [.Subscript ov ie ps] e pos) (vPut t o ti) := by
  obtain ⟨te, A⟩ := ho
  refine ⟨PS.imp (ps_asg he.pe (pg_sub A.pe hi.pe (PSet.or set_list (set_dict hu)) ha) hs hw h1) fun Dd σ H ⟨δ, π, E, s, h, k⟩ => ?_⟩
  refine ⟨δ, π, _, _, s, h, fun rv δ1 z v H1 s1 => ?_, k.ex σ⟩
  obtain ⟨z1, z2⟩ := z
  refine A.run σ H1 δ1 _ _ _ _ s1 z2 (k.ex σ).more fun rc δ2 z3 cv H2 s2 i2 => ?_
  refine ⟨δ2, _, _, _, s2, z3, fun rk δ3 z4 kv H3 s3 => ?_, (k.ex σ).more.more⟩
  obtain ⟨ot, dk, L, s', os', q1, q2, q3, q4, q5⟩ := z4
  subst q2
  obtain ⟨S, x⟩ := s3.st
  have x1 : StF X.K W H3 (σ.zip δ3 ++ ((π ++ [(some v, rv)]) ++ ((some cv, rc) :: [(some kv, Sl.sh dk)]))) S := by
    rw [List.append_assoc (π ++ [(some v, rv)])] at x
    exact x
  obtain ⟨h1, h2, h3⟩ := Opr.loc_ok s3.len x1 i2 q3
  have x2 : StF X.K W H3 (σ.zip δ3 ++ (π ++ ([(some v, rv), (some cv, rc), (some kv, Sl.sh dk)]))) S := by
    rw [List.append_assoc π] at x1
    exact x1
  obtain ⟨xs, g1, g2, g3⟩ := x2.mutL s3.len h1 h2
  have ev : (σ.zip δ3 ++ (π ++ ([(some v, rv), (some cv, rc), (some kv, Sl.sh dk)])))[(σ.zip δ3 ++ π).length]? = some (some v, rv) := by
    rw [← List.append_assoc, List.getElem?_append_right (Nat.le_refl _), Nat.sub_self]
    rfl
  have ek : (σ.zip δ3 ++ (π ++ ([(some v, rv), (some cv, rc), (some kv, Sl.sh dk)])))[(σ.zip δ3 ++ π).length + 2]? = some (some kv, Sl.sh dk) := by
    rw [← List.append_assoc, List.getElem?_append_right (by omega), Nat.add_sub_cancel_left]
    rfl
  have wo : Ow X.K S H3 v ot := (x2.arg ev (ot_fit q1)).ot q1
  obtain ⟨u, eu, rk⟩ := x2.sh _ _ _ ek
  cases eu
  obtain ⟨r1, r2, pm, xs', H', kp, hh, ho', fin⟩ := store_ok q4 g1 g2 wo rk
  rw [h3]
  refine fin _ ?_
  obtain ⟨y, _⟩ := g3 s' xs' os' H' (adrC [(some cv, rc), (some kv, Sl.sh dk)]) r1 r2 kp hh ho' (by
    have e0 : adrC [(some v, rv), (some cv, rc), (some kv, Sl.sh dk)] = ot.adr ++ adrC [(some cv, rc), (some kv, Sl.sh dk)] := by
      cases rv with
      | sh d => cases q1; simp [adrC, Ot.adr]
      | ow o => cases q1; simp [adrC]
      | _ => cases q1
    rw [e0, ← List.append_assoc]
    exact pm.append_right _)
  exact k.nx _ q5 _ _ ⟨by rw [Nde.set_len]; exact s3.len, S, y⟩
end
end ML

/-! ## M11 -/
set_option Elab.async false
set_option linter.all false
set_option autoImplicit false
set_option maxRecDepth 100000
set_option maxHeartbeats 4000000
namespace ML
open PySem PySem.Spec PyProof.Rows L2

def wipeD (δ : List Sl) : List Nat → List Sl
  | [] => δ
  | v :: vs => (wipeD δ vs).set v .un
theorem wipeD_length (δ : List Sl) : ∀ vs : List Nat, (wipeD δ vs).length = δ.length
  | [] => rfl
  | v :: vs => by unfold wipeD; rw [List.length_set, wipeD_length δ vs]
theorem wipe_at {σ : L2.St} {i : Nat} : ∀ {vs : List Nat}, (wipe σ vs)[i]? = if i ∈ vs ∧ i < σ.length then some none else σ[i]?
  | [] => by simp [wipe]
  | v :: vs => by
    unfold wipe
    by_cases h : v = i
    · subst h
      by_cases hl : v < σ.length
      · rw [List.getElem?_set_self (by rw [wipe_length]; exact hl), if_pos ⟨List.mem_cons_self, hl⟩]
      · rw [List.getElem?_eq_none (by rw [List.length_set, wipe_length]; omega), if_neg (fun q => hl q.2), List.getElem?_eq_none (by omega)]
    · rw [List.getElem?_set_ne h, wipe_at]
      by_cases q : i ∈ vs ∧ i < σ.length
      · rw [if_pos q, if_pos ⟨List.mem_cons_of_mem _ q.1, q.2⟩]
      · rw [if_neg q, if_neg fun z => q ⟨(List.mem_cons.mp z.1).resolve_left (fun e => h e.symm), z.2⟩]
theorem wipeD_at {δ : List Sl} {i : Nat} : ∀ {vs : List Nat}, (wipeD δ vs)[i]? = if i ∈ vs ∧ i < δ.length then some .un else δ[i]?
  | [] => by simp [wipeD]
  | v :: vs => by
    unfold wipeD
    by_cases h : v = i
    · subst h
      by_cases hl : v < δ.length
      · rw [List.getElem?_set_self (by rw [wipeD_length]; exact hl), if_pos ⟨List.mem_cons_self, hl⟩]
      · rw [List.getElem?_eq_none (by rw [List.length_set, wipeD_length]; omega), if_neg (fun q => hl q.2), List.getElem?_eq_none (by omega)]
    · rw [List.getElem?_set_ne h, wipeD_at]
      by_cases q : i ∈ vs ∧ i < δ.length
      · rw [if_pos q, if_pos ⟨List.mem_cons_of_mem _ q.1, q.2⟩]
      · rw [if_neg q, if_neg fun z => q ⟨(List.mem_cons.mp z.1).resolve_left (fun e => h e.symm), z.2⟩]
theorem wipe_sub {a b : L2.St} {ws vs : List Nat} (h : wipe a ws = wipe b ws) (hs : ∀ i ∈ ws, i ∈ vs) : wipe a vs = wipe b vs := by
  have hl : a.length = b.length := by
    have := congrArg List.length h
    rwa [wipe_length, wipe_length] at this
  apply List.ext_getElem?
  intro i
  rw [wipe_at, wipe_at, hl]
  by_cases q : i ∈ vs ∧ i < b.length
  · rw [if_pos q, if_pos q]
  · rw [if_neg q, if_neg q]
    have z : (wipe a ws)[i]? = (wipe b ws)[i]? := by rw [h]
    rw [wipe_at, wipe_at, hl] at z
    by_cases q2 : i ∈ ws ∧ i < b.length
    · exact absurd ⟨hs i q2.1, q2.2⟩ q
    · rw [if_neg q2, if_neg q2] at z
      exact z
theorem wipe_wipe {a : L2.St} {vs : List Nat} : wipe (wipe a vs) vs = wipe a vs := by
  apply List.ext_getElem?
  intro i
  rw [wipe_at, wipe_length]
  by_cases q : i ∈ vs ∧ i < a.length
  · rw [if_pos q, wipe_at, if_pos q]
  · rw [if_neg q]

section
variable {X : Cx} {W : Wd} {wx : WX} {K : PySem.W.Frag} {H H' : Hp} {σ : L2.St} {δ δ' : List Sl} {π ν ρ : List Cell} {e a b c tg iter elt : Expr} {es ifs : List Expr} {t u te : VT} {ts : VTs} {pos p apos cpos : Pos} {S S' : Addr → Prop} {cs cs' : List Cell}
theorem zip_at {σ : L2.St} {δ : List Sl} {i : Nat} {c : Cell} : (σ.zip δ)[i]? = some c ↔ σ[i]? = some c.1 ∧ δ[i]? = some c.2 := List.getElem?_zip_eq_some
/-- some slots are forgotten -/
theorem SS.wipe (s : SS K W H σ δ π) {vs : List Nat} : SS K W H (L2.wipe σ vs) (wipeD δ vs) π := by
  obtain ⟨S, x⟩ := s.st
  refine ⟨by rw [wipe_length, wipeD_length]; exact s.len, S, x.re (cs' := (L2.wipe σ vs).zip (wipeD δ vs) ++ π) (fun i => i) (fun i c q => ?_) (fun i j n q => absurd q n)⟩
  have l1 : ((L2.wipe σ vs).zip (wipeD δ vs)).length = (σ.zip δ).length := by rw [zip_length (by rw [wipe_length, wipeD_length]; exact s.len), wipeD_length, zip_length s.len]
  by_cases hi : i < (σ.zip δ).length
  · rw [List.getElem?_append_left (by rw [l1]; exact hi)] at q
    obtain ⟨q1, q2⟩ := zip_at.mp q
    have hiδ : i < δ.length := by rw [zip_length s.len] at hi; exact hi
    rw [wipeD_at] at q2
    by_cases hv : i ∈ vs ∧ i < δ.length
    · rw [if_pos hv] at q2
      exact .inl (Option.some.inj q2).symm
    · rw [if_neg hv] at q2
      rw [wipe_at, if_neg (fun z => hv ⟨z.1, hiδ⟩)] at q1
      rw [List.getElem?_append_left hi]
      exact .inr (zip_at.mpr ⟨q1, q2⟩)
  · rw [List.getElem?_append_right (by omega), l1] at q
    rw [List.getElem?_append_right (by omega)]
    exact .inr q
/-- what was forgotten is nowhere asked -/
theorem SS.unwipe {vs : List Nat} (s : SS K W H (L2.wipe σ vs) δ π) : SS K W H σ δ π := by
  obtain ⟨S, x⟩ := s.st
  have hl : σ.length = δ.length := by have := s.len; rwa [wipe_length] at this
  refine ⟨hl, S, x.re (cs' := σ.zip δ ++ π) (fun i => i) (fun i c q => ?_) (fun i j n q => absurd q n)⟩
  have l1 : ((L2.wipe σ vs).zip δ).length = (σ.zip δ).length := by rw [zip_length s.len, zip_length hl]
  by_cases hi : i < (σ.zip δ).length
  · rw [List.getElem?_append_left hi] at q
    obtain ⟨q1, q2⟩ := zip_at.mp q
    by_cases hv : i ∈ vs ∧ i < σ.length
    · have e : ((L2.wipe σ vs).zip δ ++ π)[i]? = some (none, c.2) := by
        rw [List.getElem?_append_left (by rw [l1]; exact hi)]
        exact zip_at.mpr ⟨by rw [wipe_at, if_pos hv], q2⟩
      obtain ⟨c1, c2⟩ := c
      cases c2 with
      | un => exact .inl rfl
      | sh d =>
        obtain ⟨u, eu, _⟩ := x.sh i _ _ e
        cases eu
      | ow o =>
        obtain ⟨u, eu, _⟩ := x.ow i _ _ e
        cases eu
      | rf j τ p => cases x.rf i _ j τ p e
    · refine .inr ?_
      rw [List.getElem?_append_left (by rw [l1]; exact hi)]
      exact zip_at.mpr ⟨by rw [wipe_at, if_neg hv]; exact q1, q2⟩
  · rw [List.getElem?_append_right (by omega)] at q
    rw [List.getElem?_append_right (by omega), l1]
    exact .inr q

def noX : Exn → List Sl → Prop := fun _ _ => False
/-- a comprehension; its items as they are (a tree of one's own goes into the new list) -/
def vLcO (it : VTs) (g : D → List Sl → Option (List Sl)) (cond : VTt) (te : VT) (vs : List Nat) : VT := fun δ Q Xc => it δ (fun its δ1 => its.length ≤ 1000000 ∧ ∃ I : Nat → List Ot → List Sl → Prop, I 0 [] (wipeD δ1 vs) ∧
  (∀ k d acc δ2, its[k]? = some d → acc.length ≤ k → I k acc δ2 → ∃ δ3, g d δ2 = some δ3 ∧ cond δ3 (fun b δ4 => if b = true then te δ4 (fun rv δ5 => ∃ o, rv.ot = some o ∧ I (k + 1) (acc ++ [o]) (wipeD δ5 vs)) noX else I (k + 1) acc (wipeD δ4 vs)) noX) ∧
  ∀ acc δ2, I its.length acc δ2 → ∀ p, Q (.ow (.lst p acc)) δ2) Xc
/-- .. its items shared -/
def vLc (it : VTs) (g : D → List Sl → Option (List Sl)) (cond : VTt) (te : VT) (vs : List Nat) : VT := fun δ Q Xc => it δ (fun its δ1 => its.length ≤ 1000000 ∧ ∃ I : Nat → List D → List Sl → Prop, I 0 [] (wipeD δ1 vs) ∧
  (∀ k d acc δ2, its[k]? = some d → acc.length ≤ k → I k acc δ2 → ∃ δ3, g d δ2 = some δ3 ∧ cond δ3 (fun b δ4 => if b = true then te δ4 (fun rv δ5 => rv.isIn = true ∧ I (k + 1) (acc ++ [rv.get]) (wipeD δ5 vs)) noX else I (k + 1) acc (wipeD δ4 vs)) noX) ∧
  ∀ acc δ2, I its.length acc δ2 → ∀ p, Q (.ow (Ot.flat p acc)) δ2) Xc
def vYes : VTt := fun δ Q _ => Q true δ
def wx0 : WX := fun _ _ _ _ => False
structure VCs (X : Cx) (W : Wd) (wx : WX) (es : List Expr) (t : VTt) : Prop where
  pt : PTs X es (lT X.K W wx t)
theorem PTs.imp {e : List Expr} {t t' : TT} (h : PTs X e t) (i : ∀ σ H Q, t' σ H Q → t σ H Q) : PTs X e t' := ⟨fun pins s σ H Q I q => h.run pins s σ H Q I (i σ H Q q)⟩
theorem vcs_nil : VCs X W wx [] vYes := ⟨PTs.imp pts_nil fun σ H Q ⟨δ, π, Qd, Xd, s, h, k, xr⟩ => k _ _ h _ s⟩
theorem vcs_one {tc : VTt} (h : VC X W wx c tc) : VCs X W wx [c] tc := ⟨pts_one h.pt⟩
theorem xr0 {Xd : Exn → List Sl → Prop} : XR K W wx0 σ π noX := fun _ _ q => q.elim
/-- something of its own, taken from the right end, goes into the last list but one -/
theorem SS.into {A B : List Cell} {Da : Addr} {acc : List Ot} {y : V} {rv : Sl} {o : Ot} (s : SS K W H σ δ (A ++ [(some (.ref Da), .ow (.lst Da acc))] ++ B ++ [(some y, rv)])) (e : rv.ot = some o) :
    ∃ xs, H Da = some (.lst xs) ∧ xs.length = acc.length ∧ SS K W (upd H Da (.lst (xs ++ [y]))) σ δ (A ++ [(some (.ref Da), .ow (.lst Da (acc ++ [o])))]) := by
  obtain ⟨S, x⟩ := s.st
  have lz := zip_length s.len
  have eD : (σ.zip δ ++ (A ++ [(some (V.ref Da), Sl.ow (.lst Da acc))] ++ B ++ [(some y, rv)]))[(σ.zip δ ++ A).length]? = some (some (V.ref Da), Sl.ow (.lst Da acc)) := by
    rw [List.append_assoc A, List.append_assoc A, ← List.append_assoc (σ.zip δ), List.getElem?_append_right (Nat.le_refl _), Nat.sub_self]
    rfl
  have eY : (σ.zip δ ++ (A ++ [(some (V.ref Da), Sl.ow (.lst Da acc))] ++ B ++ [(some y, rv)]))[(σ.zip δ ++ (A ++ [(some (V.ref Da), Sl.ow (.lst Da acc))] ++ B)).length]? = some (some y, rv) := by
    rw [← List.append_assoc, List.getElem?_append_right (Nat.le_refl _), Nat.sub_self]
    rfl
  obtain ⟨xs, h1, h2, h3, h4, h5, h6⟩ := x.mutAt (π := []) (s := .lst Da) (os := acc) eD rfl
  have wy : Ow K S H y o := (x.arg eY (ot_fit e)).ot e
  have ne : (σ.zip δ ++ (A ++ [(some (V.ref Da), Sl.ow (.lst Da acc))] ++ B)).length ≠ (σ.zip δ ++ A).length := by
    simp
  have adr_in : ∀ b ∈ o.adr, rv = .ow o := fun b hb => by
    cases rv with
    | sh d => cases e; rw [Ot.adr] at hb; cases hb
    | ow o' => cases e; rfl
    | _ => cases e
  have ydj : ∀ b ∈ o.adr, b ∉ (Ot.lst Da acc).adr := fun b hb z => by
    have er := adr_in b hb
    subst er
    exact x.dj _ _ _ _ _ _ b ne eY eD hb z
  have ynd : o.adr.Nodup := by
    cases rv with
    | sh d => cases e; rw [Ot.adr]; exact List.nodup_nil
    | ow o' => cases e; exact x.nd _ _ _ eY
    | _ => cases e
  have nd0 := x.nd _ _ _ eD
  rw [Ot.adr] at nd0 ydj
  have kp : ∀ b, b ∉ (Sh.lst Da).own → upd H Da (.lst (xs ++ [y])) b = H b := fun b hb => upd_ne (fun z => hb (by rw [z]; exact List.mem_cons_self))
  have ev := h5 _ kp
  have ho : Ows K S H (xs ++ [y]) (acc ++ [o]) := h2.append (.cons wy .nil)
  have ho' : Ows K S (upd H Da (.lst (xs ++ [y]))) (xs ++ [y]) (acc ++ [o]) := Ows.ev ev _ _ (fun b hb u q => by
    rw [kp b (fun z => ?_)]
    · exact q
    · rw [Ot.adrs_app, Ot.adrs, Ot.adrs, List.append_nil] at hb
      rcases List.mem_append.mp hb with w | w
      · exact h4 b z w
      · exact ydj b w (List.mem_append_left _ z)) ho
  refine ⟨xs, h1, h2.length, s.len, S, ?_⟩
  refine h6 (.lst Da) (xs ++ [y]) (acc ++ [o]) _ (fun j => j = (σ.zip δ ++ (A ++ [(some (V.ref Da), Sl.ow (.lst Da acc))] ++ B)).length) _ rfl rfl kp upd_same ho' ?_ (fun b hb => ?_) ?_ (fun j c nj q => ?_)
  · rw [Ot.adrs_app, Ot.adrs, Ot.adrs, List.append_nil]
    refine List.nodup_append.mpr ⟨(List.nodup_append.mp nd0).2.1, ynd, fun b hb c hc q => ?_⟩
    subst q
    exact ydj b hc (List.mem_append_right _ hb)
  · rw [Ot.adrs_app, Ot.adrs, Ot.adrs, List.append_nil] at hb
    rcases List.mem_append.mp hb with w | w
    · exact .inl w
    · have er := adr_in b w
      subst er
      exact .inr ⟨_, _, _, ne, rfl, eY, w⟩
  · rw [← List.append_assoc (σ.zip δ), List.getElem?_append_right (Nat.le_refl _), Nat.sub_self]
    rfl
  · have jl := (List.getElem?_eq_some_iff.mp q).1
    have jl' : j < (σ.zip δ ++ A).length + 1 := by
      rw [← List.append_assoc, List.length_append (bs := [_])] at jl
      exact jl
    refine .inr ⟨?_, ?_⟩
    · rw [← List.append_assoc (σ.zip δ), List.getElem?_append_left (by omega)] at q
      rw [List.append_assoc A, List.append_assoc A, ← List.append_assoc (σ.zip δ), List.getElem?_append_left (by omega)]
      exact q
    · intro z
      rw [z, ← List.append_assoc, ← List.append_assoc, List.length_append (bs := B), List.length_append (bs := [_])] at jl'
      simp at jl'
      have := nj
      rw [z] at this
      simp at this
      omega
theorem lcO_run {it : VTs} {ws vs : List Nat} {g : D → List Sl → Option (List Sl)} {tc : VTt} {te : VT} {Q : VK} (hw : ∀ i ∈ ws, i ∈ vs) (h : lE X.K W wx (vLcO it g tc te vs) σ H Q) :
    tLc (lI X.K W wx it) (lG X.K W ws g) (lT X.K W wx0 tc) (lE X.K W wx0 te) vs σ H Q := by
  obtain ⟨δ, π, Qd, Xd, s, h, k, xr⟩ := h
  refine ⟨δ, π, _, Xd, s, h, fun its δ1 q J ν H1 s1 iok => ?_, xr⟩
  obtain ⟨hlen, I, i0, step, last⟩ := q
  intro Da hD
  have s1w : SS X.K W H1 (L2.wipe σ vs) (wipeD δ1 vs) (π ++ ν) := s1.wipe
  obtain ⟨S1, x1⟩ := s1w.st
  have s2 : SS X.K W (upd H1 Da (.lst [])) (L2.wipe σ vs) (wipeD δ1 vs) (π ++ ν ++ [(some (.ref Da), .ow (.lst Da []))]) := ⟨s1w.len, _, by rw [← List.append_assoc]; exact x1.newL (ds := []) hD .nil⟩
  refine ⟨fun i m H' => m = its.length - i ∧ i ≤ its.length ∧ ∃ acc δ2, acc.length ≤ i ∧ I i acc δ2 ∧ SS X.K W H' (L2.wipe σ vs) δ2 (π ++ ν ++ [(some (.ref Da), .ow (.lst Da acc))]), ⟨_, rfl, Nat.zero_le _, [], _, Nat.le_refl _, i0, s2⟩, ?_⟩
  rintro i m H2 ⟨rfl, hi2, acc, δ2, hacc, iv, s2⟩
  by_cases hlt : i < its.length
  · have hd : its[i]? = some its[i] := List.getElem?_eq_getElem hlt
    obtain ⟨go, yld⟩ := iok.go (L2.wipe σ vs) δ2 H2 π [(some (.ref Da), .ow (.lst Da acc))] i _ s2 hd
    obtain ⟨δ3, g3, b3⟩ := step i _ acc δ2 hd hacc iv
    refine .inr ⟨go, fun H' => ∃ acc δ2, acc.length ≤ i + 1 ∧ I (i + 1) acc δ2 ∧ SS X.K W H' (L2.wipe σ vs) δ2 (π ++ ν ++ [(some (.ref Da), .ow (.lst Da acc))]), fun H' ⟨acc', δ4, l4, iv4, s4⟩ => ⟨_, by omega, rfl, hlt, acc', δ4, l4, iv4, s4⟩, fun x H' hy => ?_⟩
    have s3 := yld x H' hy
    refine ⟨δ2, _, _, (π ++ ν ++ [(some (V.ref Da), Sl.ow (.lst Da acc))]).length, δ3, snoc_last, s3, g3, fun σ2 w s4 => ?_⟩
    have ew : L2.wipe σ2 vs = L2.wipe σ vs := by rw [wipe_sub w hw, wipe_wipe]
    refine ⟨ew, δ3, _, _, _, s4, b3, fun bb δ4 q H3 s5 => ?_, fun _ _ q => q.elim⟩
    have back : ∀ {H' : Hp} {δ5 : List Sl} {ρ : List Cell}, SS X.K W H' σ2 δ5 ρ → SS X.K W H' (L2.wipe σ vs) (wipeD δ5 vs) ρ := fun {H' δ5 ρ} z => by
      have := z.wipe (vs := vs)
      rw [ew] at this
      exact this
    cases bb with
    | false =>
      have q1 : I (i + 1) acc (wipeD δ4 vs) := q
      exact iteF ⟨acc, _, by omega, q1, back s5.drop⟩
    | true =>
      have q1 : te δ4 (fun rv δ5 => ∃ o, rv.ot = some o ∧ I (i + 1) (acc ++ [o]) (wipeD δ5 vs)) noX := q
      refine iteT ?_
      refine ⟨δ4, _, _, _, s5, q1, fun rv δ5 q2 y H4 s6 => ?_, fun _ _ q => q.elim⟩
      obtain ⟨o, eo, q3⟩ := q2
      obtain ⟨xs, hl, lx, s7⟩ := s6.into eo
      refine ⟨xs, hl, ?_, acc ++ [o], _, by rw [List.length_append, List.length_cons, List.length_nil]; omega, q3, back s7⟩
      rw [lx]
      exact Nat.lt_of_le_of_lt (show acc.length ≤ 1000000 by omega) (by decide)
  · obtain rfl : i = its.length := by omega
    refine .inl ⟨iok.stop (L2.wipe σ vs) δ2 H2 π _ _ s2 (Nat.le_refl _), k _ _ (last _ _ iv Da) _ _ ?_⟩
    exact (s2.mid).unwipe
theorem ve_lcO {scope : Scope} {own : List (Str × Nat)} {it : VTs} {ws : List Nat} {g : D → List Sl → Option (List Sl)} {tc : VTt} (hc : X.calm = true) (hN : X.N.Nodup) (hi : VI X W wx tg iter it) (ok : BlkOk X.N X.env.scope scope own)
    (hg : ∀ (s : Shared) (H : Hp) (C : Addr) (cl : List (Str × Addr)) (fp : List Addr), VG (X.blk s H scope (compEnvC scope cl C X.env) fp) W tg ws g)
    (ht : ∀ (s : Shared) (H : Hp) (C : Addr) (cl : List (Str × Addr)) (fp : List Addr), VCs (X.blk s H scope (compEnvC scope cl C X.env) fp) W wx0 ifs tc)
    (he : ∀ (s : Shared) (H : Hp) (C : Addr) (cl : List (Str × Addr)) (fp : List Addr), VE (X.blk s H scope (compEnvC scope cl C X.env) fp) W wx0 elt te)
    (hw : ∀ i ∈ ws, i ∈ own.map (·.2)) (hs : ∀ x, foldedSetIterable iter X.env x = pure x := by intro _; rfl) :
    VE X W wx (.ListComp elt [⟨tg, iter, ifs, 0⟩] scope pos) (vLcO it g tc te (own.map (·.2))) :=
  ⟨PE.imp (pe_lc (g := lG X.K W ws g) (tt := lT X.K W wx0 tc) (te := lE X.K W wx0 te) hc hN hi.pi ok (fun s H C cl fp => (hg s H C cl fp).pg) (fun s H C cl fp => (ht s H C cl fp).pt) (fun s H C cl fp => (he s H C cl fp).pe) hs) fun σ H Q h => lcO_run hw h⟩
theorem lc_run {it : VTs} {ws vs : List Nat} {g : D → List Sl → Option (List Sl)} {tc : VTt} {te : VT} {Q : VK} (hw : ∀ i ∈ ws, i ∈ vs) (h : lE X.K W wx (vLc it g tc te vs) σ H Q) :
    tLc (lI X.K W wx it) (lG X.K W ws g) (lT X.K W wx0 tc) (lE X.K W wx0 te) vs σ H Q := by
  obtain ⟨δ, π, Qd, Xd, s, h, k, xr⟩ := h
  refine ⟨δ, π, _, Xd, s, h, fun its δ1 q J ν H1 s1 iok => ?_, xr⟩
  obtain ⟨hlen, I, i0, step, last⟩ := q
  intro Da hD
  have s1w : SS X.K W H1 (L2.wipe σ vs) (wipeD δ1 vs) (π ++ ν) := s1.wipe
  obtain ⟨S1, x1⟩ := s1w.st
  have s2 : SS X.K W (upd H1 Da (.lst [])) (L2.wipe σ vs) (wipeD δ1 vs) (π ++ ν ++ [(some (.ref Da), .ow (Ot.flat Da []))]) := ⟨s1w.len, _, by rw [← List.append_assoc]; exact x1.newL (ds := []) hD .nil⟩
  refine ⟨fun i m H' => m = its.length - i ∧ i ≤ its.length ∧ ∃ acc δ2, acc.length ≤ i ∧ I i acc δ2 ∧ SS X.K W H' (L2.wipe σ vs) δ2 (π ++ ν ++ [(some (.ref Da), .ow (Ot.flat Da acc))]), ⟨_, rfl, Nat.zero_le _, [], _, Nat.le_refl _, i0, s2⟩, ?_⟩
  rintro i m H2 ⟨rfl, hi2, acc, δ2, hacc, iv, s2⟩
  by_cases hlt : i < its.length
  · have hd : its[i]? = some its[i] := List.getElem?_eq_getElem hlt
    obtain ⟨go, yld⟩ := iok.go (L2.wipe σ vs) δ2 H2 π [(some (.ref Da), .ow (Ot.flat Da acc))] i _ s2 hd
    obtain ⟨δ3, g3, b3⟩ := step i _ acc δ2 hd hacc iv
    refine .inr ⟨go, fun H' => ∃ acc δ2, acc.length ≤ i + 1 ∧ I (i + 1) acc δ2 ∧ SS X.K W H' (L2.wipe σ vs) δ2 (π ++ ν ++ [(some (.ref Da), .ow (Ot.flat Da acc))]), fun H' ⟨acc', δ4, l4, iv4, s4⟩ => ⟨_, by omega, rfl, hlt, acc', δ4, l4, iv4, s4⟩, fun x H' hy => ?_⟩
    have s3 := yld x H' hy
    refine ⟨δ2, _, _, (π ++ ν ++ [(some (V.ref Da), Sl.ow (Ot.flat Da acc))]).length, δ3, snoc_last, s3, g3, fun σ2 w s4 => ?_⟩
    have ew : L2.wipe σ2 vs = L2.wipe σ vs := by rw [wipe_sub w hw, wipe_wipe]
    refine ⟨ew, δ3, _, _, _, s4, b3, fun bb δ4 q H3 s5 => ?_, fun _ _ q => q.elim⟩
    have back : ∀ {H' : Hp} {δ5 : List Sl} {ρ : List Cell}, SS X.K W H' σ2 δ5 ρ → SS X.K W H' (L2.wipe σ vs) (wipeD δ5 vs) ρ := fun {H' δ5 ρ} z => by
      have := z.wipe (vs := vs)
      rw [ew] at this
      exact this
    cases bb with
    | false =>
      have q1 : I (i + 1) acc (wipeD δ4 vs) := q
      exact iteF ⟨acc, _, by omega, q1, back s5.drop⟩
    | true =>
      have q1 : te δ4 (fun rv δ5 => rv.isIn = true ∧ I (i + 1) (acc ++ [rv.get]) (wipeD δ5 vs)) noX := q
      refine iteT ?_
      refine ⟨δ4, _, _, _, s5, q1, fun rv δ5 q2 y H4 s6 => ?_, fun _ _ q => q.elim⟩
      obtain ⟨q3, q4⟩ := q2
      obtain ⟨xs, hl, lx, s7⟩ := (s6.shr q3).into (o := .leaf rv.get) rfl
      refine ⟨xs, hl, ?_, acc ++ [rv.get], _, by rw [List.length_append, List.length_cons, List.length_nil]; omega, q4, back (by rw [show Ot.flat Da (acc ++ [rv.get]) = .lst Da (acc.map .leaf ++ [.leaf rv.get]) by simp [Ot.flat]]; exact s7)⟩
      rw [lx, List.length_map]
      exact Nat.lt_of_le_of_lt (show acc.length ≤ 1000000 by omega) (by decide)
  · obtain rfl : i = its.length := by omega
    refine .inl ⟨iok.stop (L2.wipe σ vs) δ2 H2 π _ _ s2 (Nat.le_refl _), k _ _ (last _ _ iv Da) _ _ ?_⟩
    exact (s2.mid).unwipe
theorem ve_lc {scope : Scope} {own : List (Str × Nat)} {it : VTs} {ws : List Nat} {g : D → List Sl → Option (List Sl)} {tc : VTt} (hc : X.calm = true) (hN : X.N.Nodup) (hi : VI X W wx tg iter it) (ok : BlkOk X.N X.env.scope scope own)
    (hg : ∀ (s : Shared) (H : Hp) (C : Addr) (cl : List (Str × Addr)) (fp : List Addr), VG (X.blk s H scope (compEnvC scope cl C X.env) fp) W tg ws g)
    (ht : ∀ (s : Shared) (H : Hp) (C : Addr) (cl : List (Str × Addr)) (fp : List Addr), VCs (X.blk s H scope (compEnvC scope cl C X.env) fp) W wx0 ifs tc)
    (he : ∀ (s : Shared) (H : Hp) (C : Addr) (cl : List (Str × Addr)) (fp : List Addr), VE (X.blk s H scope (compEnvC scope cl C X.env) fp) W wx0 elt te)
    (hw : ∀ i ∈ ws, i ∈ own.map (·.2)) (hs : ∀ x, foldedSetIterable iter X.env x = pure x := by intro _; rfl) :
    VE X W wx (.ListComp elt [⟨tg, iter, ifs, 0⟩] scope pos) (vLc it g tc te (own.map (·.2))) :=
  ⟨PE.imp (pe_lc (g := lG X.K W ws g) (tt := lT X.K W wx0 tc) (te := lE X.K W wx0 te) hc hN hi.pi ok (fun s H C cl fp => (hg s H C cl fp).pg) (fun s H C cl fp => (ht s H C cl fp).pt) (fun s H C cl fp => (he s H C cl fp).pe) hs) fun σ H Q h => lc_run hw h⟩
end
end ML

/-! ## M12 -/
set_option Elab.async false
set_option linter.all false
set_option autoImplicit false
set_option maxRecDepth 100000
set_option maxHeartbeats 4000000
namespace ML
open PySem PySem.Spec PyProof.Rows L2

section
variable {X : Cx} {W : Wd} {wx : WX} {K : PySem.W.Frag} {H H' : Hp} {σ : L2.St} {δ δ' : List Sl} {S : Addr → Prop}
theorem OpR.or {f : Value → Value → Sem Value} {r r' : R2} (h : OpR X f r) (h' : OpR X f r') : OpR X f (fun x y H Q => r x y H Q ∨ r' x y H Q) :=
  fun pins s σ H x y v u Q I rx ry q => q.elim (h pins s σ H x y v u Q I rx ry) (h' pins s σ H x y v u Q I rx ry)
theorem CallR.or {f : Value} {r r' : List V → Hp → VK → Prop} (h : CallR X f r) (h' : CallR X f r') : CallR X f (fun x H Q => r x H Q ∨ r' x H Q) :=
  fun pins s σ H x v Q I rx q => q.elim (h pins s σ H x v Q I rx) (h' pins s σ H x v Q I rx)

/-! ### numbers -/
def fAdd : D → D → Option Rs
  | .int i, .int j => some (.sh (.int (i + j)))
  | .str a, .str b => if a.length + b.length ≤ 1000000 then some (.sh (.str (a ++ b))) else none
  | .tuple a, .tuple b => if a.length + b.length ≤ 1000000 then some (.sh (.tuple (a ++ b))) else none
  | .list a, .list b => if a.length + b.length ≤ 1000000 then some (.nw (a ++ b)) else none
  | _, _ => none
theorem le_line {n : Nat} (h : n ≤ 1000000) : n ≤ sizeLine := Nat.le_trans h (by decide)
theorem okS_app {a b : Str} (ha : okS a = true) (hb : okS b = true) (h : a.length + b.length ≤ 1000000) : okS (a ++ b) = true := by
  unfold okS PyData.strOk at *
  rw [Bool.and_eq_true] at *
  refine ⟨?_, decide_eq_true ?_⟩
  · show (a.cps ++ b.cps).all _ = true
    rw [Array.all_append, ha.1, hb.1]
    rfl
  · show (a.cps ++ b.cps).size ≤ sizeLine
    rw [Array.size_append]
    exact le_line h
def rAddV (K : PySem.W.Frag) : R2 := fun x y H Q => (∃ i j, x = .int i ∧ y = .int j ∧ Q (.int (i + j)) H) ∨ ((∃ i j, x = .str i ∧ y = .str j ∧ i.length + j.length ≤ sizeLine ∧ Q (.str (i ++ j)) H) ∨ (rCatA K x y H Q ∨ rCat x y H Q))
theorem op_addV : OpR X (binaryOp .Add) (rAddV X.K) := op_add.or (op_add_str.or (op_catA.or op_cat))
theorem snd_add : Snd2 K (rAddV K) fAdd := by
  intro S H x y d e res Q hx hy hf hq
  cases d with
  | int i =>
    cases e with
    | int j =>
      cases hf
      exact .inl ⟨i, j, hx.int, hy.int, hq _ _ (.old (.int _))⟩
    | _ => cases hf
  | str a =>
    cases e with
    | str b =>
      have hf' : (if a.length + b.length ≤ 1000000 then some (Rs.sh (.str (a ++ b))) else none) = some res := hf
      by_cases h : a.length + b.length ≤ 1000000
      · rw [if_pos h] at hf'
        cases hf'
        exact .inr (.inl ⟨a, b, hx.str, hy.str, le_line h, hq _ _ (.old (.str _ (okS_app hx.okS hy.okS h)))⟩)
      · rw [if_neg h] at hf'; cases hf'
    | _ => cases hf
  | tuple a =>
    cases e with
    | tuple b =>
      have hf' : (if a.length + b.length ≤ 1000000 then some (Rs.sh (.tuple (a ++ b))) else none) = some res := hf
      by_cases h : a.length + b.length ≤ 1000000
      · rw [if_pos h] at hf'
        cases hf'
        obtain ⟨p, xs, rfl, h1, h2⟩ := hx.tup
        obtain ⟨q, ys, rfl, h3, h4⟩ := hy.tup
        refine .inr (.inr (.inl ⟨p, q, xs, ys, rfl, rfl, h1, h3, by rw [h2.length, h4.length]; exact le_line h, fun e1 => ?_, fun _ e2 => ?_, fun _ _ r hr => hq _ _ (.tup hr (h2.append h4))⟩))
        · subst e1
          cases a with
          | nil =>
            exact hq _ _ (.old (Rq.rp hy))
          | cons _ _ => cases h2
        · subst e2
          cases b with
          | nil =>
            rw [List.append_nil] at *
            exact hq _ _ (.old (Rq.rp hx))
          | cons _ _ => cases h4
      · rw [if_neg h] at hf'; cases hf'
    | _ => cases hf
  | list a =>
    cases e with
    | list b =>
      have hf' : (if a.length + b.length ≤ 1000000 then some (Rs.nw (a ++ b)) else none) = some res := hf
      by_cases h : a.length + b.length ≤ 1000000
      · rw [if_pos h] at hf'
        cases hf'
        obtain ⟨p, xs, rfl, h1, h2⟩ := Rq.lst hx
        obtain ⟨q, ys, rfl, h3, h4⟩ := Rq.lst hy
        exact .inr (.inr (.inr ⟨p, q, xs, ys, rfl, rfl, h1, h3, by rw [Rps.length h2, Rps.length h4]; exact le_line h, fun r hr => hq _ _ (.lst hr (Rps.append h2 h4))⟩))
      · rw [if_neg h] at hf'; cases hf'
    | _ => cases hf
  | _ => cases e <;> cases hf
/-- an operation on two ints, asked under a condition -/
def fI (c : Int → Int → Bool) (g : Int → Int → D) : D → D → Option Rs
  | .int i, .int j => if c i j = true then some (.sh (g i j)) else none
  | _, _ => none
theorem snd_I {C : Int → Int → Prop} {c : Int → Int → Bool} {g : Int → Int → V} {gd : Int → Int → D} (hc : ∀ i j, c i j = true → C i j) (hg : ∀ i j S H, Rp K S H (g i j) (gd i j)) : Snd2 K (rI C g) (fI c gd) := by
  intro S H x y d e res Q hx hy hf hq
  cases d with
  | int i =>
    cases e with
    | int j =>
      have hf' : (if c i j = true then some (Rs.sh (gd i j)) else none) = some res := hf
      by_cases h : c i j = true
      · rw [if_pos h] at hf'
        cases hf'
        exact ⟨i, j, hx.int, hy.int, hc i j h, hq _ _ (.old (hg i j S H))⟩
      · rw [if_neg h] at hf'; cases hf'
    | _ => cases hf
  | _ => cases e <;> cases hf
theorem snd_I0 {g : Int → Int → V} {gd : Int → Int → D} (hg : ∀ i j S H, Rp K S H (g i j) (gd i j)) : Snd2 K (rI0 g) (fI (fun _ _ => true) gd) := by
  intro S H x y d e res Q hx hy hf hq
  obtain ⟨i, j, e1, e2, _, q⟩ := snd_I (K := K) (C := fun _ _ => True) (c := fun _ _ => true) (g := g) (gd := gd) (fun _ _ _ => trivial) hg S H x y d e res Q hx hy hf hq
  exact ⟨i, j, e1, e2, q⟩
abbrev fSub := fI (fun _ _ => true) (fun i j => .int (i - j))
def cMul (i j : Int) : Bool := decide ((-(2 ^ 64) < i ∧ i < 2 ^ 64) ∨ (-(2 ^ 64) < j ∧ j < 2 ^ 64))
abbrev fMul := fI cMul (fun i j => .int (i * j))
abbrev fMod := fI (fun _ j => decide (0 < j)) (fun i j => .int (i % j))
def cDivD (_ j : Int) : Bool := decide (0 < j ∧ j.natAbs.log2 < 9000)
abbrev fFdv := fI cDivD (fun i j => .int (i / j))
abbrev fLt := fI (fun _ _ => true) (fun i j => .bool (decide (i < j)))
abbrev fLe := fI (fun _ _ => true) (fun i j => .bool (decide (i ≤ j)))
abbrev fGt := fI (fun _ _ => true) (fun i j => .bool (decide (j < i)))
abbrev fGe := fI (fun _ _ => true) (fun i j => .bool (decide (j ≤ i)))
theorem snd_sub : Snd2 K (rI0 fun i j => .int (i - j)) fSub := snd_I0 fun _ _ _ _ => .int _
theorem snd_mul : Snd2 K (rI CMul fun i j => .int (i * j)) fMul := snd_I (fun i j h => (of_decide_eq_true h : (-(2 ^ 64) < i ∧ i < 2 ^ 64) ∨ (-(2 ^ 64) < j ∧ j < 2 ^ 64))) fun _ _ _ _ => .int _
def fMulV : D → D → Option Rs
  | .int i, .int j => if cMul i j = true then some (.sh (.int (i * j))) else none
  | .list a, .int k => if a.length * k.toNat ≤ 1000000 ∧ -4611686018427387904 < k ∧ k < 4611686018427387904 then some (.nw (List.replicate k.toNat a).flatten) else none
  | _, _ => none
def rMulV : R2 := fun x y H Q => rI CMul (fun i j => .int (i * j)) x y H Q ∨ rRep x y H Q
theorem op_mulV : OpR X (binaryOp .Mult) rMulV := op_mul.or op_rep
theorem Rps.rep {vs : List V} {ds : List D} (r : Rps K S H vs ds) : ∀ n : Nat, Rps K S H (List.replicate n vs).flatten (List.replicate n ds).flatten
  | 0 => by simp; exact .nil
  | n + 1 => by
    rw [List.replicate_succ, List.replicate_succ, List.flatten_cons, List.flatten_cons]
    exact Rps.append r (Rps.rep r n)
theorem snd_mulV : Snd2 K rMulV fMulV := by
  intro S H x y d e res Q hx hy hf hq
  cases d with
  | int i =>
    cases e with
    | int j =>
      have hf' : (if cMul i j = true then some (Rs.sh (.int (i * j))) else none) = some res := hf
      by_cases h : cMul i j = true
      · rw [if_pos h] at hf'
        cases hf'
        exact .inl ⟨i, j, Rq.int hx, Rq.int hy, (of_decide_eq_true h : (-(2 ^ 64) < i ∧ i < 2 ^ 64) ∨ (-(2 ^ 64) < j ∧ j < 2 ^ 64)), hq _ _ (.old (.int _))⟩
      · rw [if_neg h] at hf'; cases hf'
    | _ => cases hf
  | list a =>
    cases e with
    | int k =>
      have hf' : (if a.length * k.toNat ≤ 1000000 ∧ -4611686018427387904 < k ∧ k < 4611686018427387904 then some (Rs.nw (List.replicate k.toNat a).flatten) else none) = some res := hf
      by_cases h : a.length * k.toNat ≤ 1000000 ∧ -4611686018427387904 < k ∧ k < 4611686018427387904
      · rw [if_pos h] at hf'
        cases hf'
        obtain ⟨p, xs, rfl, h1, h2⟩ := Rq.lst hx
        refine .inr ⟨p, k, xs, rfl, Rq.int hy, h1, by omega, by omega, by rw [Rps.length h2]; exact le_line h.1, fun q hq' => hq _ _ (.lst hq' (Rps.rep h2 _))⟩
      · rw [if_neg h] at hf'; cases hf'
    | _ => cases hf
  | _ => cases e <;> cases hf
def cPow (i j : Int) : Bool := decide (0 ≤ j ∧ j ≤ 1000000 ∧ i.natAbs < 18446744073709551616)
abbrev fPow := fI cPow (fun i j => .int (i ^ j.toNat))
theorem snd_pow : Snd2 K (rI CPow fun i j => .int (i ^ j.toNat)) fPow := snd_I (fun i j h => (of_decide_eq_true h : 0 ≤ j ∧ j ≤ 1000000 ∧ i.natAbs < 18446744073709551616)) fun _ _ _ _ => .int _
theorem snd_mod : Snd2 K (rI (fun _ j => 0 < j) fun i j => .int (i % j)) fMod := snd_I (fun i j h => of_decide_eq_true h) fun _ _ _ _ => .int _
theorem snd_fdv : Snd2 K (rI CDivW fun i j => .int (i / j)) fFdv := snd_I (fun i j h => (of_decide_eq_true h : 0 < j ∧ j.natAbs.log2 < 9000)) fun _ _ _ _ => .int _
theorem snd_lt : Snd2 K (rI0 fun i j => .bl (decide (i < j))) fLt := snd_I0 fun _ _ _ _ => .bl _
theorem snd_le : Snd2 K (rI0 fun i j => .bl (decide (i ≤ j))) fLe := snd_I0 fun _ _ _ _ => .bl _
theorem snd_gt : Snd2 K (rI0 fun i j => .bl (decide (j < i))) fGt := snd_I0 fun _ _ _ _ => .bl _
theorem snd_ge : Snd2 K (rI0 fun i j => .bl (decide (j ≤ i))) fGe := snd_I0 fun _ _ _ _ => .bl _
def fNeg : D → Option Rs
  | .int i => some (.sh (.int (-i)))
  | _ => none
theorem snd_neg : Snd1 K (rU fun i => .int (-i)) fNeg := by
  intro S H x d res Q hx hf hq
  cases d with
  | int i => cases hf; exact ⟨i, hx.int, hq _ _ (.old (.int _))⟩
  | _ => cases hf
def fAbs : D → Option Rs
  | .int i => some (.sh (.int (if i < 0 then -i else i)))
  | _ => none
theorem snd_abs : Snd1 K (fun v H Q => ∃ i, [v] = [V.int i] ∧ Q (.int (if i < 0 then -i else i)) H) fAbs := by
  intro S H x d res Q hx hf hq
  cases d with
  | int i => cases hf; exact ⟨i, by rw [hx.int], hq _ _ (.old (.int _))⟩
  | _ => cases hf
def fInt : D → Option Rs
  | .int i => some (.sh (.int i))
  | .bool b => some (.sh (.int (if b then 1 else 0)))
  | _ => none
theorem snd_int : Snd1 K (fun v H Q => (∃ i, [v] = [V.int i] ∧ Q (.int i) H) ∨ ∃ k, [v] = [V.bl k] ∧ Q (.int (if k then 1 else 0)) H) fInt := by
  intro S H x d res Q hx hf hq
  cases d with
  | int i => cases hf; exact .inl ⟨i, by rw [hx.int], hq _ _ (.old (.int _))⟩
  | bool b => cases hf; exact .inr ⟨b, by rw [hx.bool], hq _ _ (.old (.int _))⟩
  | _ => cases hf
def fMin2 : D → D → Option Rs := fI (fun _ _ => true) (fun i j => .int (if j < i then j else i))
def fMax2 : D → D → Option Rs := fI (fun _ _ => true) (fun i j => .int (if j > i then j else i))
theorem snd_min2 : Snd2 K (fun v u H Q => ∃ i j, [v, u] = [V.int i, V.int j] ∧ Q (.int (if j < i then j else i)) H) fMin2 := by
  intro S H x y d e res Q hx hy hf hq
  obtain ⟨i, j, rfl, rfl, q⟩ := snd_I0 (K := K) (g := fun i j => .int (if j < i then j else i)) (gd := fun i j => .int (if j < i then j else i)) (fun _ _ _ _ => .int _) S H x y d e res Q hx hy hf hq
  exact ⟨i, j, rfl, q⟩
theorem snd_max2 : Snd2 K (fun v u H Q => ∃ i j, [v, u] = [V.int i, V.int j] ∧ Q (.int (if j > i then j else i)) H) fMax2 := by
  intro S H x y d e res Q hx hy hf hq
  obtain ⟨i, j, rfl, rfl, q⟩ := snd_I0 (K := K) (g := fun i j => .int (if j > i then j else i)) (gd := fun i j => .int (if j > i then j else i)) (fun _ _ _ _ => .int _) S H x y d e res Q hx hy hf hq
  exact ⟨i, j, rfl, q⟩

/-! ### == and != of data -/
mutual
theorem Rp.lay : ∀ (d : D) (v : V), noD d = true → Rp K S H v d → d.canLay0 = true
  | .none, _, _, _ => by simp only [PyData.canLay0]
  | .bool _, _, _, _ => by simp only [PyData.canLay0]
  | .int _, _, _, _ => by simp only [PyData.canLay0]
  | .str x, _, _, h => by
    cases h with
    | str _ h =>
      unfold okS at h
      rw [Bool.and_eq_true] at h
      simp only [PyData.canLay0]
      exact h.1
  | .list ds, _, n, h => by
    cases h with
    | lst h1 h2 => simp only [PyData.canLay0]; exact Rps.lay ds _ (by simpa [noD] using n) h2
  | .tuple ds, _, n, h => by
    cases h with
    | tup h1 h2 => simp only [PyData.canLay0]; exact Rps.lay ds _ (by simpa [noD] using n) h2
  | .dict _, _, n, h => by simp [noD] at n
theorem Rps.lay : ∀ (ds : List D) (vs : List V), noDs ds = true → Rps K S H vs ds → PyData.canLayAll0 ds = true
  | [], _, _, _ => by simp only [PyData.canLayAll0]
  | d :: ds, _, n, h => by
    have n' : noD d = true ∧ noDs ds = true := by simpa [noDs] using n
    cases h with
    | cons h1 h2 => simp only [PyData.canLayAll0]; rw [Rp.lay d _ n'.1 h1, Rps.lay ds _ n'.2 h2]; rfl
end
mutual
theorem Ow.lay : ∀ (o : Ot) (v : V), noD o.get = true → Ow K S H v o → o.get.canLay0 = true
  | .leaf d, _, n, h => by
    cases h with
    | leaf r => rw [Ot.get] at n ⊢; exact Rp.lay d _ n r
  | .nod s os, _, n, h => by
    cases h with
    | nod h1 h2 =>
      rw [Ot.get] at n ⊢
      cases s with
      | lst p => simp only [Sh.data, PyData.canLay0]; exact Ows.lay os _ (by simpa [Sh.data, noD] using n) h2
      | dct p ks => simp [Sh.data, dctD, noD] at n
      | tup p => simp only [Sh.data, PyData.canLay0]; exact Ows.lay os _ (by simpa [Sh.data, noD] using n) h2
      | lkd p ks us o => simp [Sh.data, dctD, noD] at n
      | obj p dx C ks => simp [Sh.data, objD, noD] at n
theorem Ows.lay : ∀ (os : List Ot) (vs : List V), noDs (Ot.gets os) = true → Ows K S H vs os → PyData.canLayAll0 (Ot.gets os) = true
  | [], _, _, _ => by simp only [Ot.gets, PyData.canLayAll0]
  | o :: os, _, n, h => by
    cases h with
    | cons h1 h2 =>
      rw [Ot.gets] at n ⊢
      have n' : noD o.get = true ∧ noDs (Ot.gets os) = true := by simpa [noDs] using n
      simp only [PyData.canLayAll0]; rw [Ow.lay o _ n'.1 h1, Ows.lay os _ n'.2 h2]; rfl
end
theorem RqA.lay {v : V} {d : D} (n : noD d = true) (h : RqA K S H v d) : d.canLay0 = true := by
  rcases h with h | ⟨o, rfl, h⟩
  · exact Rp.lay d v n h
  · exact Ow.lay o v n h
def dep (d : D) : Bool := decide (d.depth ≤ 64) && noD d
theorem dep_n {d : D} (q : dep d = true) : noD d = true := by unfold dep at q; rw [Bool.and_eq_true] at q; exact q.2
theorem RqA.shaped {v : V} {d : D} (h : RqA K S H v d) (q : dep d = true) : SeqAt.shaped d = true := by
  show (d.canLay0 && decide (d.depth ≤ 64)) = true
  rw [h.lay (dep_n q)]
  unfold dep at q
  rw [Bool.and_eq_true] at q
  exact q.1
def fEq (d e : D) : Option Rs := if (dep d && dep e) = true then some (.sh (.bool (PyData.eqv d e))) else none
def fNe (d e : D) : Option Rs := if (dep d && dep e) = true then some (.sh (.bool (!PyData.eqv d e))) else none
theorem snd_eq : SndN2 true K (rEqD K) fEq := by
  intro S H x y d e res Q hx hy hf hq
  have hf' : (if (dep d && dep e) = true then some (Rs.sh (.bool (PyData.eqv d e))) else none) = some res := hf
  by_cases h : (dep d && dep e) = true
  · rw [if_pos h] at hf'
    cases hf'
    rw [Bool.and_eq_true] at h
    exact ⟨d, e, RqA.dp (dep_n h.1) hx, RqA.dp (dep_n h.2) hy, RqA.shaped hx h.1, RqA.shaped hy h.2, hq _ _ (.old (.bl _))⟩
  · rw [if_neg h] at hf'; cases hf'
theorem snd_ne : SndN2 true K (rNeD K) fNe := by
  intro S H x y d e res Q hx hy hf hq
  have hf' : (if (dep d && dep e) = true then some (Rs.sh (.bool (!PyData.eqv d e))) else none) = some res := hf
  by_cases h : (dep d && dep e) = true
  · rw [if_pos h] at hf'
    cases hf'
    rw [Bool.and_eq_true] at h
    exact ⟨d, e, RqA.dp (dep_n h.1) hx, RqA.dp (dep_n h.2) hy, RqA.shaped hx h.1, RqA.shaped hy h.2, hq _ _ (.old (.bl _))⟩
  · rw [if_neg h] at hf'; cases hf'
/-- is None -/
def isNon : D → Bool
  | .none => true
  | _ => false
def fIsN (d e : D) : Option Rs := if isNon e = true then some (.sh (.bool (isNon d))) else none
def fNotN (d e : D) : Option Rs := if isNon e = true then some (.sh (.bool (!isNon d))) else none
theorem RqA.isN {v : V} {d : D} (h : RqA K S H v d) : decide (v = .non) = isNon d := by
  have key : ∀ t, RpX K S H t → ∀ v d, t = .one v d → decide (v = .non) = isNon d := by
    intro t ht v d e
    cases ht <;> first | (cases e; rfl) | cases e
  rcases h with h | ⟨o, rfl, h⟩
  · exact key _ h _ _ rfl
  · cases h with
    | leaf r => rw [Ot.get]; exact key _ r _ _ rfl
    | @nod s xs os h1 h2 => rw [Ot.get]; cases s <;> rfl
theorem snd_isN : SndN2 true K rIsN fIsN := by
  intro S H x y d e res Q hx hy hf hq
  have hf' : (if isNon e = true then some (Rs.sh (.bool (isNon d))) else none) = some res := hf
  by_cases h : isNon e = true
  · rw [if_pos h] at hf'
    cases hf'
    have hn := RqA.isN hy
    rw [h] at hn
    refine ⟨of_decide_eq_true hn, ?_⟩
    rw [RqA.isN hx]
    exact hq _ _ (.old (.bl _))
  · rw [if_neg h] at hf'; cases hf'
theorem snd_notN : SndN2 true K rNotN fNotN := by
  intro S H x y d e res Q hx hy hf hq
  have hf' : (if isNon e = true then some (Rs.sh (.bool (!isNon d))) else none) = some res := hf
  by_cases h : isNon e = true
  · rw [if_pos h] at hf'
    cases hf'
    have hn := RqA.isN hy
    rw [h] at hn
    refine ⟨of_decide_eq_true hn, ?_⟩
    rw [RqA.isN hx]
    exact hq _ _ (.old (.bl _))
  · rw [if_neg h] at hf'; cases hf'
end
end ML

/-! ## M13 -/
set_option Elab.async false
set_option linter.all false
set_option autoImplicit false
set_option maxRecDepth 100000
set_option maxHeartbeats 4000000
namespace ML
open PySem PySem.Spec PyProof.Rows L2

section
variable {X : Cx} {W : Wd} {wx : WX} {K : PySem.W.Frag} {H H' : Hp} {σ : L2.St} {δ δ' : List Sl} {π : List Cell} {S : Addr → Prop} {e a b c : Expr} {es : List Expr} {t u : VT} {ts : VTs} {pos p apos cpos : Pos}
/-! ### len, items -/
def fLen : D → Option Rs
  | .str x => some (.sh (.int x.length))
  | .list ds => some (.sh (.int ds.length))
  | .tuple ds => some (.sh (.int ds.length))
  | .dict [(.bool true, .list ds)] => some (.sh (.int ds.length))
  | .dict kvs => if isDct kvs = true then some (.sh (.int kvs.length)) else none
  | _ => none
theorem okS_len {x : Str} (h : okS x = true) : x.length ≤ sizeLine := okS_line h
def rLenV (K : PySem.W.Frag) : List V → Hp → VK → Prop := fun xs H Q => (∃ x n, xs = [x] ∧ LenV K x H n ∧ Q (.int n) H) ∨ ∃ a kvs, xs = [V.ref a] ∧ Rd H a (.dK kvs) ∧ Q (.int kvs.length) H
theorem call_lenDL : CallR X (.builtin "len") (fun xs H Q => ∃ a kvs, xs = [V.ref a] ∧ Rd H a (.dK kvs) ∧ Q (.int kvs.length) H) := by
  intro pins s σ H xs us Q I r h
  obtain ⟨a, kvs, rfl, ha, q⟩ := h
  obtain ⟨u, rfl, ru⟩ := vals1 r
  cases ru
  exact d_len I ha fun t s' I' => ⟨.int kvs.length, H, I', ⟨t, rfl⟩, q⟩
theorem call_lenV : CallR X (.builtin "len") (rLenV X.K) := call_len.or call_lenDL
theorem lk_or (kvs : List (D × D)) : (∃ ds, kvs = [(.bool true, .list ds)]) ∨ ∀ ds, kvs ≠ [(.bool true, .list ds)] := by
  by_cases h : ∃ ds, kvs = [(.bool true, .list ds)]
  · exact .inl h
  · exact .inr fun ds e => h ⟨ds, e⟩
theorem RqA.lck {v : V} {ds : List D} (h : RqA K S H v (lkD ds)) : ∃ p xs, v = .ref p ∧ SqL K H p xs ∧ Rps K S H xs ds := by
  rcases h with h | ⟨o, e, h⟩
  · exact Rq.lck (.inl h)
  · cases h with
    | leaf r =>
      rw [Ot.get] at e
      subst e
      exact Rq.lck (.inl r)
    | @nod s xs os h1 h2 =>
      exfalso
      rw [Ot.get] at e
      cases s with
      | lst p => cases e
      | dct p ks =>
        have e' : lkD ds = dctD ks (Ot.gets os) := e
        unfold lkD dctD at e'
        injection e' with e'
        have := isDct_of (ks := ks) (ds := Ot.gets os)
        rw [← e'] at this
        cases this
      | tup p => cases e
      | lkd p ks us o =>
        have e' : lkD ds = dctD ks (Ot.gets os) := e
        unfold lkD dctD at e'
        injection e' with e'
        have := isDct_of (ks := ks) (ds := Ot.gets os)
        rw [← e'] at this
        cases this
      | obj p dx C ks =>
        have e' : lkD ds = objD C ks (Ot.gets os) := e
        unfold lkD objD at e'
        injection e' with e'
        injection e' with e' _
        cases e'
theorem fLen_dct {kvs : List (D × D)} (h : ∀ ds, kvs ≠ [(.bool true, .list ds)]) : fLen (.dict kvs) = if isDct kvs = true then some (.sh (.int kvs.length)) else none := by
  unfold fLen
  split
  · rename_i e; cases e
  · rename_i e; cases e
  · rename_i e; cases e
  · rename_i ds e
    injection e with e
    exact absurd e (h ds)
  · rename_i e
    injection e with e
    subst e
    rfl
  · rename_i q; exact absurd rfl (q kvs)
theorem snd_len : SndN1 true K (fun v H Q => rLenV K [v] H Q) fLen := by
  intro S H x d res Q hx hf hq
  cases d with
  | str z =>
    cases hf
    refine .inl ⟨x, z.length, rfl, ?_, hq _ _ (.old (.int _))⟩
    rw [Rr.str hx]
    exact ⟨okS_len (Rr.okS hx), rfl⟩
  | list ds =>
    cases hf
    obtain ⟨p, xs, rfl, h1, h2⟩ := RqA.list hx
    exact .inl ⟨_, ds.length, rfl, .inl ⟨xs, h1, h2.symm⟩, hq _ _ (.old (.int _))⟩
  | tuple ds =>
    cases hf
    obtain ⟨p, xs, rfl, h1, h2⟩ := RqA.tup hx
    exact .inl ⟨_, ds.length, rfl, .inr ⟨xs, h1, h2.1.symm⟩, hq _ _ (.old (.int _))⟩
  | dict kvs =>
    rcases lk_or kvs with ⟨ds, rfl⟩ | hk
    · cases hf
      obtain ⟨p, xs, rfl, h1, h2⟩ := RqA.lck hx
      exact .inl ⟨_, ds.length, rfl, .inl ⟨xs, h1, (Rps.length h2).symm⟩, hq _ _ (.old (.int _))⟩
    have hf' : (if isDct kvs = true then some (Rs.sh (.int kvs.length)) else none) = some res := by rw [← fLen_dct hk]; exact hf
    by_cases hd : isDct kvs = true
    · rw [if_pos hd] at hf'
      cases hf'
      obtain ⟨p, ks, xs, ds, rfl, rfl, h1, h2, h3, _, _⟩ := RqA.dictI hx hd
      have el : ((ks.map kD).zip ds).length = (ks.zip xs).length := by simp; omega
      rw [el] at hq
      exact .inr ⟨p, _, rfl, h1, hq _ _ (.old (.int _))⟩
    · rw [if_neg hd] at hf'; cases hf'
  | _ => cases hf
/-- what a dict holds at a key -/
def dlook : List (D × D) → Key → Option D
  | [], _ => none
  | (d, x) :: r, k => if kidx d = some k then some x else dlook r k
theorem kidx_kD (k : Key) : kidx (kD k) = some k := by cases k <;> rfl
theorem dlook_at : ∀ {ks : List Key} {xs : List V} {ds : List D} {k : Key}, ks.length = xs.length → xs.length = ds.length → (∀ d, dlook ((ks.map kD).zip ds) k = some d → ∃ (j : Nat) (v : V), valV (ks.zip xs) k = some v ∧ xs[j]? = some v ∧ ds[j]? = some d) ∧ (dlook ((ks.map kD).zip ds) k = none → valV (ks.zip xs) k = none)
  | [], [], [], k, _, _ => ⟨fun d h => (nomatch h), fun _ => rfl⟩
  | [], [], _ :: _, k, _, h => by simp at h
  | [], _ :: _, _, k, h, _ => by simp at h
  | _ :: _, [], _, k, h, _ => by simp at h
  | _ :: _, _ :: _, [], k, _, h => by simp at h
  | k0 :: ks, v :: xs, d :: ds, k, h1, h2 => by
    have ih := dlook_at (ks := ks) (xs := xs) (ds := ds) (k := k) (by simpa using h1) (by simpa using h2)
    have e : dlook (((k0 :: ks).map kD).zip (d :: ds)) k = if kidx (kD k0) = some k then some d else dlook ((ks.map kD).zip ds) k := rfl
    have e2 : (k0 :: ks).zip (v :: xs) = (k0, v) :: ks.zip xs := rfl
    rw [e, e2, kidx_kD]
    by_cases q : k0 = k
    · subst q
      rw [if_pos rfl]
      refine ⟨fun d' z => ?_, fun z => by cases z⟩
      cases z
      exact ⟨0, v, valV_pos rfl, rfl, rfl⟩
    · rw [if_neg (fun z => q (Option.some.inj z))]
      refine ⟨fun d' z => ?_, fun z => ?_⟩
      · obtain ⟨j, w, q1, q2, q3⟩ := ih.1 d' z
        exact ⟨j + 1, w, by rw [valV_neg q]; exact q1, by simpa using q2, by simpa using q3⟩
      · rw [valV_neg q]
        exact ih.2 z
theorem Rps.at {vs : List V} {ds : List D} {j : Nat} {v : V} {d : D} (r : Rps K S H vs ds) (h1 : vs[j]? = some v) (h2 : ds[j]? = some d) : Rp K S H v d := by
  obtain ⟨d', e, q⟩ := r.get' h1
  rw [h2] at e
  cases e
  exact q
/-- xs[i], also from the end -/
def fIx : D → D → Option Rs
  | .list ds, .int i => (L2.atI ds i).map Rs.sh
  | .tuple ds, .int i => (L2.atI ds i).map Rs.sh
  | .str x, .int i => (L2.atI x.cps.toList i).map fun c => .sh (.str ⟨#[c]⟩)
  | .dict [(.bool true, .list ds)], .int i => (L2.atI ds i).map Rs.sh
  | .dict kvs, y => if isDct kvs = true then (kidx y).bind fun k => (dlook kvs k).map Rs.sh else none
  | _, _ => none
theorem Rps.atI {vs : List V} {ds : List D} {i : Int} {d : D} (r : Rps K S H vs ds) (h : L2.atI ds i = some d) : ∃ v, L2.atI vs i = some v ∧ Rp K S H v d := by
  unfold L2.atI at *
  rw [r.length]
  obtain ⟨j, h1, h2⟩ := Option.bind_eq_some_iff.mp h
  obtain ⟨v, h3, h4⟩ := r.get h2
  exact ⟨v, by rw [h1]; exact h3, h4⟩
theorem atI_mem {α : Type} {l : List α} {i : Int} {x : α} (h : L2.atI l i = some x) : x ∈ l := by
  unfold L2.atI at h
  obtain ⟨j, h1, h2⟩ := Option.bind_eq_some_iff.mp h
  exact List.mem_of_getElem? h2
def rIxV (K : PySem.W.Frag) : R2 := fun x y H Q => (rIxL K x y H Q ∨ (rIxT K x y H Q ∨ rIxS x y H Q)) ∨ ∃ a v, x = .ref a ∧ DGet H a y (some v) ∧ Q v H
theorem IxR.or {r r' : R2} (h : IxR X r) (h' : IxR X r') : IxR X (fun x y H Q => r x y H Q ∨ r' x y H Q) :=
  fun value slice pins s σ H x y v u Q I rx ry q e => q.elim (fun z => h value slice pins s σ H x y v u Q I rx ry z e) (fun z => h' value slice pins s σ H x y v u Q I rx ry z e)
theorem ix_dict (hu : X.A.units + 1 < cLine) : IxR X (fun x y H Q => ∃ a v, x = .ref a ∧ DGet H a y (some v) ∧ Q v H) := by
  intro value slice pins s σ H x y v u Q I rx ry h e
  obtain ⟨a, w, rfl, g, q⟩ := h
  obtain rfl : v = Value.ref a := rx
  exact tail_any (dict_typeIs I g) PySem.F.slot_dict_getitem.lookup (d_getItem hu I g ry fun w' s3 I3 rw' => ⟨w, H, I3, rw', q⟩) e
theorem ix_V (hu : X.A.units + 1 < cLine) : IxR X (rIxV X.K) := IxR.or ix_seq (ix_dict hu)
theorem Rp.key_of {y : V} {e : D} {k : Key} (h : kidx e = some k) (r : Rp K S H y e) : y = kV k := (kidx_v h r).1
theorem kidx_atom {e : D} {k : Key} (h : kidx e = some k) : atom e = true := by cases e <;> first | rfl | cases h
theorem fIx_dct {kvs : List (D × D)} {e : D} (h : ∀ ds, kvs ≠ [(.bool true, .list ds)]) : fIx (.dict kvs) e = if isDct kvs = true then (kidx e).bind fun k => (dlook kvs k).map Rs.sh else none := by
  unfold fIx
  split
  · rename_i q; cases q
  · rename_i q; cases q
  · rename_i q; cases q
  · rename_i q
    injection q with q
    exact absurd q (h _)
  · rename_i q _
    injection q with q
    subst q
    rfl
  · exact (((by assumption) : ∀ (k : List (D × D)), PyData.dict kvs = .dict k → False) kvs rfl).elim
theorem snd_ix : Snd2 K (rIxV K) fIx := by
  intro S H x y d e res Q hx hy hf hq
  cases d with
  | list ds =>
    cases e with
    | int i =>
      have ey := Rq.int hy
      subst ey
      have hf' : (L2.atI ds i).map Rs.sh = some res := hf
      obtain ⟨z, h1, rfl⟩ := Option.map_eq_some_iff.mp hf'
      obtain ⟨p, xs, rfl, h2, h3⟩ := Rq.list hx
      obtain ⟨v, h4, h5⟩ := Rps.atI h3 h1
      exact .inl (.inl ⟨p, xs, i, v, rfl, rfl, h2, h4, hq _ _ (.old h5)⟩)
    | _ => cases hf
  | tuple ds =>
    cases e with
    | int i =>
      have ey := Rq.int hy
      subst ey
      have hf' : (L2.atI ds i).map Rs.sh = some res := hf
      obtain ⟨z, h1, rfl⟩ := Option.map_eq_some_iff.mp hf'
      obtain ⟨p, xs, rfl, h2, h3⟩ := Rq.tup hx
      obtain ⟨v, h4, h5⟩ := Rps.atI h3 h1
      exact .inl (.inr (.inl ⟨p, xs, i, v, rfl, rfl, h2, h4, hq _ _ (.old h5)⟩))
    | _ => cases hf
  | str x0 =>
    cases e with
    | int i =>
      have ey := Rq.int hy
      subst ey
      have hf' : ((L2.atI x0.cps.toList i).map fun c => Rs.sh (.str ⟨#[c]⟩)) = some res := hf
      obtain ⟨z, h1, rfl⟩ := Option.map_eq_some_iff.mp hf'
      exact .inl (.inr (.inr ⟨x0, i, z, Rq.str hx, rfl, okS_len (Rq.okS hx), h1, hq _ _ (.old (.str _ (okS_sign (Rq.okS hx) (atI_mem h1))))⟩))
    | _ => cases hf
  | dict kvs =>
    rcases lk_or kvs with ⟨ds, rfl⟩ | hk
    · cases e with
      | int i =>
        have ey := Rq.int hy
        subst ey
        have hf' : (L2.atI ds i).map Rs.sh = some res := hf
        obtain ⟨z, h1, rfl⟩ := Option.map_eq_some_iff.mp hf'
        obtain ⟨p, xs, rfl, h2, h3⟩ := Rq.lck hx
        obtain ⟨v, h4, h5⟩ := Rps.atI h3 h1
        exact .inl (.inl ⟨p, xs, i, v, rfl, rfl, h2, h4, hq _ _ (.old h5)⟩)
      | _ => cases hf
    have hf' : (if isDct kvs = true then (kidx e).bind fun k => (dlook kvs k).map Rs.sh else none) = some res := by
      rw [← fIx_dct hk]; exact hf
    by_cases hd : isDct kvs = true
    · rw [if_pos hd] at hf'
      obtain ⟨k, e1, e2⟩ := Option.bind_eq_some_iff.mp hf'
      obtain ⟨z, e3, rfl⟩ := Option.map_eq_some_iff.mp e2
      obtain ⟨a, ks, xs, ds, rfl, rfl, h1, h2, h3, h4, h5⟩ := Rq.dictI hx hd
      obtain ⟨j, v, q1, q2, q3⟩ := (dlook_at h2 (Rps.length h5)).1 z e3
      have ey := Rp.key_of e1 (Rr.rp (m := false) (kidx_atom e1) hy)
      subst ey
      exact .inr ⟨a, v, rfl, by rw [← q1]; exact Or.inl ⟨_, _, h1, rfl, rfl⟩, hq _ _ (.old (Rps.at h5 q2 q3))⟩
    · rw [if_neg hd] at hf'; cases hf'
  | _ => cases hf

/-! ### slices -/
def cutD (ds : List D) (lo hi : Option Int) : List D := (ds.drop (HT.sIx ds.length 0 lo)).take (HT.sIx ds.length ds.length hi - HT.sIx ds.length 0 lo)
def cutT (x : Str) (lo hi : Option Int) : Str := cutS x lo hi
def slD (d : D) (l h : Option Int) : Option Rs := match d with
  | .list ds => some (.nw (cutD ds l h))
  | .tuple ds => some (.sh (.tuple (cutD ds l h)))
  | .str x => some (.sh (.str (cutT x l h)))
  | .dict [(.bool true, .list ds)] => some (.nw (cutD ds l h))
  | _ => none
def fSlB (d lo hi : D) : Option Rs := match lo, hi with
  | .int l, .int h => slD d (some l) (some h)
  | _, _ => none
def fSlL (d lo : D) : Option Rs := match lo with
  | .int l => slD d (some l) none
  | _ => none
def fSlU (d hi : D) : Option Rs := match hi with
  | .int h => slD d none (some h)
  | _ => none
def fSl0 (d : D) : Option Rs := slD d none none
def rSlV (K : PySem.W.Frag) : V → Option Int → Option Int → Hp → VK → Prop := fun x lo hi H Q => rSlL K x lo hi H Q ∨ (rSlA K x lo hi H Q ∨ rSlS x lo hi H Q)
theorem sl_V : SlR X (rSlV X.K) := sl_list.or (sl_tupA.or sl_str)
theorem Rps.cut {vs : List V} {ds : List D} (r : Rps K S H vs ds) (lo hi : Option Int) : Rps K S H (cutV vs lo hi) (cutD ds lo hi) := by
  unfold cutV cutD
  rw [r.length]
  exact (r.drop _).take _
theorem okS_cut {x : Str} {lo hi : Option Int} (h : okS x = true) : okS (cutT x lo hi) = true := by
  unfold okS PyData.strOk at *
  rw [Bool.and_eq_true] at *
  obtain ⟨h1, h2⟩ := h
  have h2 := of_decide_eq_true h2
  unfold cutT cutS
  refine ⟨?_, decide_eq_true ?_⟩
  · simp only [Array.all_eq_true_iff_forall_mem] at h1 ⊢
    intro y hy
    simp only [List.mem_toArray] at hy
    exact h1 y (by simpa using List.mem_of_mem_drop (List.mem_of_mem_take hy))
  · show (List.toArray _).size ≤ _
    rw [List.size_toArray, List.length_take, List.length_drop, Array.length_toList]
    have : x.cps.size ≤ sizeLine := h2
    omega
theorem snd_sl {x : V} {d : D} {l h : Option Int} {res : Rs} {Q : VK} (hx : Rq K S H x d) (hf : slD d l h = some res) (hq : ∀ v H', NewV K S H v H' res → Q v H') : rSlV K x l h H Q := by
  cases d with
  | list ds =>
    cases hf
    obtain ⟨p, xs, rfl, h1, h2⟩ := hx.list
    exact .inl ⟨p, xs, rfl, h1, fun q hq' => hq _ _ (.lst hq' (h2.cut l h))⟩
  | tuple ds =>
    cases hf
    obtain ⟨p, xs, rfl, h1, h2⟩ := hx.tup
    refine .inr (.inl ⟨p, xs, rfl, h1, fun hw => ?_, fun _ q hq' => hq _ _ (.tup hq' (h2.cut l h))⟩)
    have e : cutD ds l h = ds := by
      unfold cutD
      rw [← h2.length, hw.1, hw.2, List.drop_zero, Nat.sub_zero, h2.length]
      exact List.take_of_length_le (Nat.le_refl _)
    rw [e] at hq
    exact hq _ _ (.old (Rq.rp hx))
  | str z =>
    cases hf
    exact .inr (.inr ⟨z, hx.str, okS_len hx.okS, hq _ _ (.old (.str _ (okS_cut hx.okS)))⟩)
  | dict kvs =>
    rcases lk_or kvs with ⟨ds, rfl⟩ | hk
    · cases hf
      obtain ⟨p, xs, rfl, h1, h2⟩ := Rq.lck hx
      exact .inl ⟨p, xs, rfl, h1, fun q hq' => hq _ _ (.lst hq' (h2.cut l h))⟩
    · exfalso
      unfold slD at hf
      split at hf
      · rename_i q; cases q
      · rename_i q; cases q
      · rename_i q; cases q
      · rename_i ds q
        injection q with q
        exact hk ds q
      · cases hf
  | _ => cases hf
def vSlB (a b c : Opr) : VT := fun δ Q Xc => a.ev δ (fun ra δ1 => b.ev δ1 (fun rb δ2 => ∃ i, b.fin false rb δ2 = some (.int i) ∧ c.ev δ2 (fun rc δ3 => ∃ x j r, a.fin false ra δ3 = some x ∧ c.fin false rc δ3 = some (.int j) ∧ slD x (some i) (some j) = some r ∧ ∀ p, Q (r.to p) δ3) Xc) Xc) Xc
theorem ve_slB {lo hi : Expr} {oa ob oc : Opr} {p2 : Pos} (ha : VO X W wx a oa) (hb : VO X W wx lo ob) (hc : VO X W wx hi oc) : VE X W wx (.Subscript a (.Slice (some lo) (some hi) none p2) pos) (vSlB oa ob oc) := by
  obtain ⟨ta, A⟩ := ha
  obtain ⟨tb, B⟩ := hb
  obtain ⟨tc, C⟩ := hc
  refine ⟨PE.imp (pe_slice sl_V A.pe (po_some B.pe) (po_some C.pe)) fun σ H Q ⟨δ, π, Qd, Xd, s, h, k, xr⟩ => ?_⟩
  refine A.run σ H δ π _ Xd _ s h xr fun ra δ1 q v H1 s1 i1 => ?_
  refine B.run σ H1 δ1 _ _ Xd _ s1 q xr.more fun rb δ2 q u H2 s2 i2 => ?_
  obtain ⟨i, eb, q⟩ := q
  have eu : u = .int i := by
    obtain ⟨S, y⟩ := s2.st
    exact Rq.int (Opr.read (m := false) (ρ := []) s2.len y i2 eb)
  refine ⟨i, eu, ?_⟩
  refine C.run σ H2 δ2 _ _ Xd _ s2 q xr.more.more fun rc δ3 q w H3 s3 i3 => ?_
  obtain ⟨x, j, r, e1, e2, e3, q⟩ := q
  obtain ⟨S, zz⟩ := s3.st
  refine ⟨j, Rq.int (Opr.read (m := false) (ρ := []) s3.len zz i3 e2), ?_⟩
  have z2 : StF X.K W H3 (σ.zip δ3 ++ ((π ++ [(some v, ra)]) ++ ((some u, rb) :: [(some w, rc)]))) S := by
    rw [List.append_assoc (π ++ [(some v, ra)])] at zz
    exact zz
  have z1 : StF X.K W H3 (σ.zip δ3 ++ (π ++ ((some v, ra) :: [(some u, rb), (some w, rc)]))) S := by
    rw [List.append_assoc π] at z2
    exact z2
  exact snd_sl (Opr.read (m := false) s3.len z1 i1 e1) e3 fun v' H' nv => by
    obtain ⟨p, s4⟩ := s3.drop.drop.drop.new (SS.restrict (SS.restrict (SS.restrict zz))) nv
    exact k _ _ (q p) _ _ s4
theorem ve_slL {lo : Expr} {oa ob : Opr} {p2 : Pos} (ha : VO X W wx a oa) (hb : VO X W wx lo ob) : VE X W wx (.Subscript a (.Slice (some lo) none none p2) pos) (v2 fSlL oa ob) := by
  obtain ⟨ta, A⟩ := ha
  obtain ⟨tb, B⟩ := hb
  refine ⟨PE.imp (pe_slice sl_V A.pe (po_some B.pe) po_none) fun σ H Q h => ?_⟩
  refine run2 (r := fun x y H Q => ∃ i, y = .int i ∧ rSlV X.K x (some i) none H Q) A B ?_ h
  intro S H x y d e res Q hx hy hf hq
  cases e with
  | int i => exact ⟨i, Rq.int hy, snd_sl hx hf hq⟩
  | _ => cases hf
theorem ve_slU {hi : Expr} {oa ob : Opr} {p2 : Pos} (ha : VO X W wx a oa) (hb : VO X W wx hi ob) : VE X W wx (.Subscript a (.Slice none (some hi) none p2) pos) (v2 fSlU oa ob) := by
  obtain ⟨ta, A⟩ := ha
  obtain ⟨tb, B⟩ := hb
  refine ⟨PE.imp (pe_slice sl_V A.pe po_none (po_some B.pe)) fun σ H Q h => ?_⟩
  refine run2 (r := fun x y H Q => ∃ i, y = .int i ∧ rSlV X.K x none (some i) H Q) A B ?_ h
  intro S H x y d e res Q hx hy hf hq
  cases e with
  | int i => exact ⟨i, Rq.int hy, snd_sl hx hf hq⟩
  | _ => cases hf
theorem ve_sl0 {oa : Opr} {p2 : Pos} (ha : VO X W wx a oa) : VE X W wx (.Subscript a (.Slice none none none p2) pos) (v1 fSl0 oa) := by
  obtain ⟨ta, A⟩ := ha
  refine ⟨PE.imp (pe_slice sl_V A.pe po_none po_none) fun σ H Q h => ?_⟩
  refine run1 (r := fun x H Q => rSlV X.K x none none H Q) A ?_ h
  intro S H x d res Q hx hf hq
  exact snd_sl hx hf hq

/-! ### in -/
def oneS (x : Str) : Option Nat := match x.cps.toList with
  | [c] => some c
  | _ => none
theorem oneS_of {x : Str} {c : Nat} (h : oneS x = some c) : x = ⟨#[c]⟩ := by
  unfold oneS at h
  obtain ⟨⟨l⟩⟩ := x
  simp only at h
  split at h
  · cases h
    rfl
  · cases h
/-- x in y: a sign in a text; data in a list; a key in a dict -/
def inD (d e : D) : Option Bool := match e with
  | .str y => (match d with
    | .str x => (oneS x).map fun c => decide (c ∈ y.cps.toList)
    | _ => none)
  | .list es => if (dep d && dep (.list es)) = true then some (es.any fun z => PyData.eqv z d) else none
  | .dict kvs => if isDct kvs = true then (kidx d).map fun k => (dlook kvs k).isSome else none
  | _ => none
def fIn (d e : D) : Option Rs := (inD d e).map fun b => .sh (.bool b)
def fNotIn (d e : D) : Option Rs := (inD d e).map fun b => .sh (.bool (!b))
def rInV (K : PySem.W.Frag) : R2 := fun x y H Q => (rInS x y H Q ∨ rInD K x y H Q) ∨ ∃ a o, y = .ref a ∧ DGet H a x o ∧ Q (.bl o.isSome) H
def rNotInV (K : PySem.W.Frag) : R2 := fun x y H Q => (rNotInS x y H Q ∨ rNotInD K x y H Q) ∨ ∃ a o, y = .ref a ∧ DGet H a x o ∧ Q (.bl (!o.isSome)) H
theorem op_in_dict (hu : X.A.units + 1 < cLine) : OpR X (compareOp .In) (fun x y H Q => ∃ a o, y = .ref a ∧ DGet H a x o ∧ Q (.bl o.isSome) H) := by
  intro pins s σ H x y v u Q I rx ry h
  obtain ⟨a, o, rfl, g, q⟩ := h
  obtain rfl : u = Value.ref a := ry
  exact d_in hu I g rx fun s3 I3 => ⟨.bl o.isSome, H, I3, rfl, q⟩
theorem op_notIn_dict (hu : X.A.units + 1 < cLine) : OpR X (compareOp .NotIn) (fun x y H Q => ∃ a o, y = .ref a ∧ DGet H a x o ∧ Q (.bl (!o.isSome)) H) := by
  intro pins s σ H x y v u Q I rx ry h
  obtain ⟨a, o, rfl, g, q⟩ := h
  obtain rfl : u = Value.ref a := ry
  exact d_notIn hu I g rx fun s3 I3 => ⟨.bl (!o.isSome), H, I3, rfl, q⟩
theorem op_inV (hu : X.A.units + 65 < cLine) : OpR X (compareOp .In) (rInV X.K) := (op_inS.or (op_inD hu)).or (op_in_dict (by omega))
theorem op_notInV (hu : X.A.units + 65 < cLine) : OpR X (compareOp .NotIn) (rNotInV X.K) := (op_notInS.or (op_notInD hu)).or (op_notIn_dict (by omega))
theorem in_dict {x y : V} {d : D} {kvs : List (D × D)} {b : Bool} (hx : RqA K S H x d) (hy : RqA K S H y (.dict kvs)) (h : (if isDct kvs = true then (kidx d).map fun k => (dlook kvs k).isSome else none) = some b) : ∃ a o, y = .ref a ∧ DGet H a x o ∧ o.isSome = b := by
  by_cases hd : isDct kvs = true
  · rw [if_pos hd] at h
    obtain ⟨k, e1, e2⟩ := Option.map_eq_some_iff.mp h
    obtain ⟨a, ks, xs, ds, rfl, rfl, h1, h2, h3, h4, h5⟩ := RqA.dictI hy hd
    have ex := Rp.key_of e1 (Rr.rp (m := true) (kidx_atom e1) hx)
    subst ex
    refine ⟨a, _, rfl, Or.inl ⟨_, _, h1, rfl, rfl⟩, ?_⟩
    rw [← e2]
    have q := dlook_at (k := k) h2 h3
    cases el : dlook ((ks.map kD).zip ds) k with
    | none => rw [q.2 el]; rfl
    | some z =>
      obtain ⟨j, v, q1, _⟩ := q.1 z el
      rw [q1]; rfl
  · rw [if_neg hd] at h; cases h
theorem snd_in : SndN2 true K (rInV K) fIn := by
  intro S H x y d e res Q hx hy hf hq
  obtain ⟨b, hb, rfl⟩ := Option.map_eq_some_iff.mp hf
  cases e with
  | str z =>
    cases d with
    | str w =>
      obtain ⟨c, h1, rfl⟩ := Option.map_eq_some_iff.mp (show (oneS w).map (fun c => decide (c ∈ z.cps.toList)) = some b from hb)
      exact .inl (.inl ⟨c, z, by rw [Rr.str hx, oneS_of h1], Rr.str hy, hq _ _ (.old (.bl _))⟩)
    | _ => cases hb
  | list es =>
    have hf' : (if (dep d && dep (.list es)) = true then some (es.any fun z => PyData.eqv z d) else none) = some b := hb
    by_cases h : (dep d && dep (.list es)) = true
    · rw [if_pos h] at hf'
      cases hf'
      rw [Bool.and_eq_true] at h
      exact .inl (.inr ⟨d, es, RqA.dp (dep_n h.1) hx, RqA.dp (dep_n h.2) hy, RqA.shaped hx h.1, RqA.shaped hy h.2, hq _ _ (.old (.bl _))⟩)
    · rw [if_neg h] at hf'; cases hf'
  | dict kvs =>
    obtain ⟨a, o, rfl, g, eo⟩ := in_dict hx hy hb
    subst eo
    exact .inr ⟨a, o, rfl, g, hq _ _ (.old (.bl _))⟩
  | _ => cases d <;> cases hb
theorem snd_notIn : SndN2 true K (rNotInV K) fNotIn := by
  intro S H x y d e res Q hx hy hf hq
  obtain ⟨b, hb, rfl⟩ := Option.map_eq_some_iff.mp hf
  cases e with
  | str z =>
    cases d with
    | str w =>
      obtain ⟨c, h1, rfl⟩ := Option.map_eq_some_iff.mp (show (oneS w).map (fun c => decide (c ∈ z.cps.toList)) = some b from hb)
      exact .inl (.inl ⟨c, z, by rw [Rr.str hx, oneS_of h1], Rr.str hy, hq _ _ (.old (.bl _))⟩)
    | _ => cases hb
  | list es =>
    have hf' : (if (dep d && dep (.list es)) = true then some (es.any fun z => PyData.eqv z d) else none) = some b := hb
    by_cases h : (dep d && dep (.list es)) = true
    · rw [if_pos h] at hf'
      cases hf'
      rw [Bool.and_eq_true] at h
      exact .inl (.inr ⟨d, es, RqA.dp (dep_n h.1) hx, RqA.dp (dep_n h.2) hy, RqA.shaped hx h.1, RqA.shaped hy h.2, hq _ _ (.old (.bl _))⟩)
    · rw [if_neg h] at hf'; cases hf'
  | dict kvs =>
    obtain ⟨a, o, rfl, g, eo⟩ := in_dict hx hy hb
    subst eo
    exact .inr ⟨a, o, rfl, g, hq _ _ (.old (.bl _))⟩
  | _ => cases d <;> cases hb

/-! ### list(x), tuple(x), join -/
def fList : D → Option Rs
  | .list ds => some (.nw ds)
  | .tuple ds => some (.nw ds)
  | _ => none
theorem snd_list : Snd1 K (fun v H Q => ∃ p ys, [v] = [V.ref p] ∧ (SqL K H p ys ∨ SqT K H p ys) ∧ ∀ l, H l = none → Q (.ref l) (upd H l (.lst ys))) fList := by
  intro S H x d res Q hx hf hq
  cases d with
  | list ds =>
    cases hf
    obtain ⟨p, xs, rfl, h1, h2⟩ := hx.list
    exact ⟨p, xs, rfl, .inl h1, fun l hl => hq _ _ (.lst hl h2)⟩
  | tuple ds =>
    cases hf
    obtain ⟨p, xs, rfl, h1, h2⟩ := hx.tup
    exact ⟨p, xs, rfl, .inr h1, fun l hl => hq _ _ (.lst hl h2)⟩
  | _ => cases hf
def fTuple : D → Option Rs
  | .list ds => some (.sh (.tuple ds))
  | .tuple ds => some (.sh (.tuple ds))
  | _ => none
theorem snd_tuple : Snd1 K (fun v H Q => ∃ p ys, [v] = [V.ref p] ∧ ((SqL K H p ys ∧ ∀ l, H l = none → Q (.ref l) (upd H l (.tup ys))) ∨ (SqT K H p ys ∧ Q (.ref p) H))) fTuple := by
  intro S H x d res Q hx hf hq
  cases d with
  | list ds =>
    cases hf
    obtain ⟨p, xs, rfl, h1, h2⟩ := hx.list
    exact ⟨p, xs, rfl, .inl ⟨h1, fun l hl => hq _ _ (.tup hl h2)⟩⟩
  | tuple ds =>
    cases hf
    obtain ⟨p, xs, rfl, h1, h2⟩ := hx.tup
    refine ⟨p, xs, rfl, .inr ⟨h1, ?_⟩⟩
    exact hq _ _ (.old (Rq.rp hx))
  | _ => cases hf
end
end ML

/-! ## M14 -/
set_option Elab.async false
set_option linter.all false
set_option autoImplicit false
set_option maxRecDepth 100000
set_option maxHeartbeats 4000000
namespace ML
open PySem PySem.Spec PyProof.Rows L2

section
variable {X : Cx} {W : Wd} {wx : WX} {K : PySem.W.Frag} {H H' : Hp} {σ : L2.St} {δ δ' : List Sl} {π : List Cell} {S : Addr → Prop} {e a b c : Expr} {es : List Expr} {t u : VT} {ts : VTs} {pos p apos cpos : Pos}
/-! ### join -/
def strs? : List D → Option (List Str)
  | [] => some []
  | .str x :: r => (strs? r).map (x :: ·)
  | _ :: _ => none
theorem strs?_of : ∀ {ds : List D} {ys : List Str}, strs? ds = some ys → ds = ys.map PyData.str
  | [], ys, h => by cases h; rfl
  | .str x :: r, ys, h => by
    obtain ⟨zs, h1, h2⟩ := Option.map_eq_some_iff.mp (show (strs? r).map (x :: ·) = some ys from h)
    subst h2
    rw [strs?_of h1]
    rfl
  | .none :: _, _, h => by cases h
  | .bool _ :: _, _, h => by cases h
  | .int _ :: _, _, h => by cases h
  | .list _ :: _, _, h => by cases h
  | .tuple _ :: _, _, h => by cases h
  | .dict _ :: _, _, h => by cases h
theorem strs?_map : ∀ ys : List Str, strs? (ys.map PyData.str) = some ys
  | [] => rfl
  | y :: ys => by rw [List.map_cons, strs?, strs?_map ys]; rfl
def joinS (a : Str) (ys : List Str) : Str := Txt.join a ys
def fJoin (a : Str) (d : D) : Option Rs := match d with
  | .list ds => (strs? ds).bind fun ys => if (ys.map (·.length)).sum + ys.length * a.length ≤ 1000000 then some (.sh (.str (joinS a ys))) else none
  | .tuple ds => (strs? ds).bind fun ys => if (ys.map (·.length)).sum + ys.length * a.length ≤ 1000000 then some (.sh (.str (joinS a ys))) else none
  | _ => none
theorem mem_joinL {S : List Nat} {c : Nat} : ∀ {ps : List (List Nat)}, c ∈ TL.joinL S ps → c ∈ S ∨ ∃ p ∈ ps, c ∈ p
  | [], h => by cases h
  | [p], h => .inr ⟨p, List.mem_singleton.mpr rfl, h⟩
  | p :: q :: r, h => by
    have h' : c ∈ p ++ (S ++ TL.joinL S (q :: r)) := h
    rcases List.mem_append.mp h' with h1 | h1
    · exact .inr ⟨p, List.mem_cons_self, h1⟩
    · rcases List.mem_append.mp h1 with h1 | h1
      · exact .inl h1
      · rcases mem_joinL h1 with h2 | ⟨x, hx, h2⟩
        · exact .inl h2
        · exact .inr ⟨x, List.mem_cons_of_mem _ hx, h2⟩
theorem len_joinL {S : List Nat} : ∀ {ps : List (List Nat)}, (TL.joinL S ps).length ≤ (ps.map (·.length)).sum + ps.length * S.length
  | [] => by simp [TL.joinL]
  | [p] => by simp [TL.joinL]
  | p :: q :: r => by
    have ih := len_joinL (S := S) (ps := q :: r)
    show (p ++ (S ++ TL.joinL S (q :: r))).length ≤ _
    rw [List.length_append, List.length_append]
    simp only [List.map_cons, List.sum_cons, List.length_cons, Nat.add_mul, Nat.one_mul] at ih ⊢
    omega
theorem joinS_codes (a : Str) (ys : List Str) : (joinS a ys).cps.toList = TL.joinL a.cps.toList (ys.map fun y => y.cps.toList) := by
  unfold joinS
  rw [TL.join_eq]
  exact TL.tl_join a ys
theorem okS_iff {x : Str} : okS x = true ↔ (∀ c ∈ x.cps.toList, c < 0x110000) ∧ x.cps.toList.length ≤ sizeLine := by
  unfold okS PyData.strOk
  rw [Bool.and_eq_true, decide_eq_true_eq, Array.all_eq_true_iff_forall_mem]
  constructor
  · rintro ⟨h1, h2⟩
    refine ⟨fun c hc => of_decide_eq_true (h1 c (by simpa using hc)), ?_⟩
    rw [Array.length_toList]
    exact h2
  · rintro ⟨h1, h2⟩
    rw [Array.length_toList] at h2
    exact ⟨fun c hc => decide_eq_true (h1 c (by simpa using hc)), h2⟩
theorem okS_join {a : Str} {ys : List Str} (ha : okS a = true) (hy : ∀ y ∈ ys, okS y = true) (h : (ys.map (·.length)).sum + ys.length * a.length ≤ 1000000) : okS (joinS a ys) = true := by
  rw [okS_iff, joinS_codes]
  refine ⟨fun c hc => ?_, ?_⟩
  · rcases mem_joinL hc with h1 | ⟨p, hp, h1⟩
    · exact (okS_iff.mp ha).1 c h1
    · obtain ⟨y, hy', rfl⟩ := List.mem_map.mp hp
      exact (okS_iff.mp (hy y hy')).1 c h1
  · refine Nat.le_trans len_joinL (le_line ?_)
    rw [List.map_map, List.length_map]
    have e : (List.map ((fun (x : List Nat) => x.length) ∘ fun (y : Str) => y.cps.toList) ys) = ys.map (·.length) := by
      apply List.map_congr_left
      intro y _
      show y.cps.toList.length = y.cps.size
      rw [Array.length_toList]
    rw [e, Array.length_toList]
    exact h
theorem ve_join {sep : Str} {oa : Opr} {j : Nat} {ps : Pos} (ha : VO X W wx e oa) (hsep : okS sep = true := by decide +kernel) (hs : starEach [e] X.env = [(false, eval e X.env)] := by rfl)
    (hbase : attributeBase (.Constant (.str sep) j ps) "join" X.env (eval (.Constant (.str sep) j ps) X.env) = eval (.Constant (.str sep) j ps) X.env := by rfl) (hline : (apos.endLine == pos.line) = true := by rfl) :
    VE X W wx (.Call (.Attribute (.Constant (.str sep) j ps) "join" apos) [e] [] pos) (v1 (fJoin sep) oa) := by
  obtain ⟨ta, A⟩ := ha
  refine ⟨PE.imp (pe_join pe_str A.pe hs hbase hline) fun σ H Q h => ⟨⟨sep, rfl⟩, ?_⟩⟩
  refine run1 (r := fun x H Q => ∃ a p, ∃ ys : List Str, V.str sep = .str a ∧ [x] = [V.ref p] ∧ (SqL X.K H p (ys.map V.str) ∨ SqT X.K H p (ys.map V.str)) ∧ (ys.map (·.length)).sum + ys.length * a.length ≤ 16777216 ∧ Q (.str (Txt.join a ys)) H) A ?_ h
  intro S H x d res Q hx hf hq
  have fin : ∀ (ds : List D) (xs : List V), Rps X.K S H xs ds → ((strs? ds).bind fun ys => if (ys.map (·.length)).sum + ys.length * sep.length ≤ 1000000 then some (Rs.sh (.str (joinS sep ys))) else none) = some res →
      ∃ ys : List Str, xs = ys.map V.str ∧ (ys.map (·.length)).sum + ys.length * sep.length ≤ 16777216 ∧ Q (.str (Txt.join sep ys)) H := fun ds xs r hh => by
    obtain ⟨ys, h1, h2⟩ := Option.bind_eq_some_iff.mp hh
    have e1 := strs?_of h1
    subst e1
    by_cases hl : (ys.map (·.length)).sum + ys.length * sep.length ≤ 1000000
    · rw [if_pos hl] at h2
      cases h2
      exact ⟨ys, r.strs_v, by omega, hq _ _ (.old (.str _ (okS_join hsep (fun y hy => r.strs_ok y hy) hl)))⟩
    · rw [if_neg hl] at h2; cases h2
  cases d with
  | list ds =>
    obtain ⟨p, xs, rfl, h1, h2⟩ := hx.list
    obtain ⟨ys, rfl, h3, h4⟩ := fin ds xs h2 hf
    exact ⟨sep, p, ys, rfl, rfl, .inl h1, h3, h4⟩
  | tuple ds =>
    obtain ⟨p, xs, rfl, h1, h2⟩ := hx.tup
    obtain ⟨ys, rfl, h3, h4⟩ := fin ds xs h2 hf
    exact ⟨sep, p, ys, rfl, rfl, .inr h1, h3, h4⟩
  | _ => cases hf

end
end ML

/-! ## M15 -/
set_option Elab.async false
set_option linter.all false
set_option autoImplicit false
set_option maxRecDepth 100000
set_option maxHeartbeats 4000000
namespace ML
open PySem PySem.Spec PyProof.Rows L2

section
variable {X : Cx} {W : Wd} {wx : WX} {K : PySem.W.Frag} {H H' : Hp} {σ : L2.St} {δ δ' : List Sl} {π : List Cell} {S : Addr → Prop} {e a b c : Expr} {es : List Expr} {t u : VT} {ts : VTs} {pos pos' p apos cpos np : Pos} {body suite : List Stmt} {pb : VSt}
/-! ### raise of an own class without fields -/
def vRaise (C : Addr) : VSt := fun E δ => E.ex ⟨C, [], []⟩ δ
theorem vs_raise {x m : Str} {C : Addr} {j : Nat} {p2 p3 : Pos} {bmB : List Value} {B newId initId : String} (F : ExcBaseFacts B newId initId bmB) (q : PySem.W.excIn X.K C bmB newId = true) (gC : X.mg x = some (.ref C)) (kC : PySem.W.keepIn X.K (.ref C) = true)
    (r : Raises X (.ref C)) (tk : Takes X wx) (hc : X.calm = true) (hg : Gl X x := by rfl) (hdb : (x == ("__debug__" : Str)) = false := by decide) : VS X W wx (.Raise (some (.Call (.Name x p) [.Constant (.str m) j p2] [] p3)) none pos) (vRaise C) :=
  ⟨PS.imp (ps_raise hc tk (pmk_own F q gC kC r hg hdb)) fun Dd σ H ⟨δ, π, E, s, h, k⟩ => k.ex σ _ _ h none H [] (by rw [shs_nil, List.append_nil]; exact s) rfl ⟨rfl, .inl ⟨rfl, rfl⟩⟩⟩

/-! ### try .. except C as e -/
def lX (K : PySem.W.Frag) (W : Wd) (i : Nat) (a : Addr) (cls : Value) (d : Option Addr) (ps : Exn → VSt) : TS := fun Dd σ H => ∃ (δ : List Sl) (π : List Cell) (E : En) (x : Exn) (vs : List V),
  SS K W H σ δ (π ++ shs vs x.vals) ∧ vs.length = x.vals.length ∧ σ[i]? = some (some (.ref a)) ∧ cls = .ref x.cls ∧ DS H d x.names vs ∧ ps x E δ ∧ EnOk K W wx0 π E Dd
structure VX (X : Cx) (W : Wd) (i : Nat) (st : List Stmt) (ps : Exn → VSt) : Prop where
  run : ∀ (a : Addr) (oe : Obj) (cls : Value) (d : Option Addr) (pn : List (Addr × Obj)), Zc cls d oe → (∃ vs, oe.data = .fields vs) → PSs (X.suite a ((a, oe) :: pn)) st (lX X.K W i a cls d ps)
def enX (E : En) (i : Nat) : En := ⟨fun δ => E.nx (δ.set i .un), E.rt, fun δ => E.bk (δ.set i .un), fun δ => E.ct (δ.set i .un), noX⟩
/-- sb: which of the classes that come are taken -/
def vTry (i : Nat) (sb : Addr → Bool → Prop) (pb : VSt) (ps : Exn → VSt) : VSt := fun E δ =>
  pb ⟨E.nx, E.rt, E.bk, E.ct, fun x δ' => i < δ'.length ∧ ∃ b, sb x.cls b ∧ (b = true → ps x (enX E i) (δ'.set i .un)) ∧ (b = false → E.ex x δ')⟩ δ
theorem SS.unput (s : SS K W H σ δ π) {i : Nat} : SS K W H (σ.set i none) (δ.set i .un) π := by
  have := s.wipe (vs := [i])
  exact this
theorem vs_try {i : Nat} {x n : Str} {cv : Value} {b0 : Stmt} {sb : Addr → Bool → Prop} {ps : Exn → VSt} (hs : X.stack = X.env :: X.outer) (hf : X.env.frame = some X.env.locals) (hN : X.N.Nodup) (hi : X.N[i]? = some n) (hln : X.env.kindOf n = some .local) (hc : Names X x cv) (tk : Takes X wx)
    (hsb : ∀ C b, sb C b → PySem.W.exmOne X.K (.ref C) cv = some b)
    (hb : ∀ (w2 : WX) (pn : List (Addr × Obj)) (xe : Value → Shared → Prop), Takes (X.tr pn xe) w2 → PassesOwn (model X.prog X.w) X.A X.env xe → VSs (X.tr pn xe) W w2 body pb) (hsu : VX X W i (b0 :: suite) ps) :
    VS X W wx (.Try body [.ExceptHandler (some (.Name x np)) (some n) (b0 :: suite) pos'] [] [] pos) (vTry i sb pb ps) := by
  refine ⟨PS.imp (ps_try_as (tb := fun w2 => lS X.K W w2 pb) (ts := fun a cls d => lX X.K W i a cls d ps) hs hf hN hi hln hc tk (fun w2 pn xe t1 t2 => (hb w2 pn xe t1 t2).ps) (fun a oe cls d pn z1 z2 => hsu.run a oe cls d pn z1 z2)) fun Dd σ H ⟨δ, π, E, s, h, k⟩ => ?_⟩
  refine ⟨δ, π, _, s, h, ⟨k.nx, k.rt, k.bk, k.ct, fun σ1 x1 δ1 q d H1 vs s1 l1 ds1 => ?_⟩⟩
  obtain ⟨hil, bb, q1, q2, q3⟩ := q
  refine ⟨bb, hsb _ _ q1, fun eb a ha => ?_, fun eb => k.ex σ1 _ _ (q3 eb) d H1 vs s1 l1 ds1⟩
  have s2 := (s1.blank (v := some (.ref a))).put hil
  refine ⟨δ1.set i .un, π, enX E i, x1, vs, s2, l1, ?_, rfl, ds1, q2 eb, ⟨fun δ' z σ' H' s' => ?_, k.rt, fun δ' z σ' H' s' => ?_, fun δ' z σ' H' s' => ?_, fun _ _ _ z => z.elim⟩⟩
  · rw [List.getElem?_set_self]
    rw [s1.len]
    exact hil
  · exact k.nx _ z _ _ (s'.unput)
  · exact k.bk _ z _ _ (s'.unput)
  · exact k.ct _ z _ _ (s'.unput)

/-! ### expressions of a suite -/
def lXE (K : PySem.W.Frag) (W : Wd) (i : Nat) (a : Addr) (cls : Value) (d : Option Addr) (t : Exn → VT) : TE := fun σ H Q => ∃ (δ : List Sl) (π : List Cell) (Qd : Sl → List Sl → Prop) (x : Exn) (vs : List V) (ρ : List Cell),
  SS K W H σ δ (π ++ shs vs x.vals ++ ρ) ∧ vs.length = x.vals.length ∧ σ[i]? = some (some (.ref a)) ∧ cls = .ref x.cls ∧ DS H d x.names vs ∧ t x δ Qd noX ∧
  ∀ rv δ', Qd rv δ' → ∀ v H', SS K W H' σ δ' (π ++ shs vs x.vals ++ ρ ++ [(some v, rv)]) → DS H' d x.names vs → Q v H'
structure XE (X : Cx) (W : Wd) (i : Nat) (e : Expr) (t : Exn → VT) : Prop where
  run : ∀ (a : Addr) (oe : Obj) (cls : Value) (d : Option Addr) (pn : List (Addr × Obj)), Zc cls d oe → (∃ vs, oe.data = .fields vs) → PE (X.suite a ((a, oe) :: pn)) e (lXE X.K W i a cls d t)
theorem xe_bl {i : Nat} {v : Bool} {j : Nat} : XE X W i (.Constant (.bool v) j pos) (fun _ => vC (.bool v)) :=
  ⟨fun a oe cls d pn z1 z2 => PE.imp pe_bl fun σ H Q ⟨δ, π, Qd, x, vs, ρ, s, l, h1, h2, ds, q, k⟩ => k _ _ q _ _ (s.push fun _ => .bl _) ds⟩
theorem xe_int {i : Nat} {v : Int} {j : Nat} : XE X W i (.Constant (.int v) j pos) (fun _ => vC (.int v)) :=
  ⟨fun a oe cls d pn z1 z2 => PE.imp pe_int fun σ H Q ⟨δ, π, Qd, x, vs, ρ, s, l, h1, h2, ds, q, k⟩ => k _ _ q _ _ (s.push fun _ => .int _) ds⟩
theorem xe_non {i : Nat} {j : Nat} : XE X W i (.Constant .none j pos) (fun _ => vC .none) :=
  ⟨fun a oe cls d pn z1 z2 => PE.imp pe_non fun σ H Q ⟨δ, π, Qd, x, vs, ρ, s, l, h1, h2, ds, q, k⟩ => k _ _ q _ _ (s.push fun _ => .non) ds⟩
theorem xe_str {i : Nat} {v : Str} {j : Nat} (hv : okS v = true := by decide +kernel) : XE X W i (.Constant (.str v) j pos) (fun _ => vC (.str v)) :=
  ⟨fun a oe cls d pn z1 z2 => PE.imp pe_str fun σ H Q ⟨δ, π, Qd, x, vs, ρ, s, l, h1, h2, ds, q, k⟩ => k _ _ q _ _ (s.push fun _ => .str _ hv) ds⟩
/-- isinstance(e, T): the exception has no fields -/
def xIs (C : Addr) (b : Bool) : Exn → VT := fun x δ Q _ => x.cls = C ∧ x.names = [] ∧ Q (.sh (.bool b)) δ
theorem xe_is {i : Nat} {C : Addr} {n T : Str} {c : V} {cv : Value} {b : Bool} {pn' pT pI : Pos} (hx : ExcC X.K C) (hT : ∀ (a : Addr) (oe : Obj) (pn : List (Addr × Obj)), PE (X.suite a ((a, oe) :: pn)) (.Name T pT) (tC c)) (hu : ∀ u, RelV c u → u = cv) (hk : PySem.W.kitOne X.K (.ref C) cv = some b)
    (hm : X.mg "isinstance" = none) (hN : X.N[i]? = some n := by rfl) (hv : Vis X.env.scope n := by first | exact Or.inl rfl | exact Or.inr (Or.inl rfl) | exact Or.inr (Or.inr rfl)) (hd : (n == ("__debug__" : Str)) = false := by decide) (hcd : (n == ("__classdict__" : Str)) = false := by decide)
    (hg : Gl X "isinstance" := by rfl) (he : starEach [.Name n pn', .Name T pT] X.env = (false, eval (.Name n pn') X.env) :: starEach [.Name T pT] X.env := by rfl) (he2 : starEach [.Name T pT] X.env = (false, eval (.Name T pT) X.env) :: starEach [] X.env := by rfl)
    (hpl : (backTo pos (starEach [.Name T pT] X.env)).any (·.1) = false := by rfl) : XE X W i (.Call (.Name "isinstance" pI) [.Name n pn', .Name T pT] [] pos) (fun x => xIs C b x) := by
  refine ⟨fun a oe cls d pn z1 z2 => ?_⟩
  cases d with
  | some dd =>
    refine ⟨fun pins sh σ H Q I hh => ?_⟩
    obtain ⟨δ, π, Qd, x, vs, ρ, s, l, h1, h2, ds, q, k⟩ := hh
    obtain ⟨_, q2, _⟩ := q
    rcases ds.2 with ⟨_, z⟩ | ⟨_, _, z, _⟩
    · cases z
    · exact absurd q2 z
  | none =>
    refine ⟨fun pins sh σ H Q I hh => ?_⟩
    obtain ⟨δ, π, Qd, x, vs, ρ, s, l, h1, h2, ds, q, k⟩ := hh
    obtain ⟨q1, q2, q3⟩ := q
    have ec : cls = .ref C := by rw [h2, q1]
    subst ec
    have P : PE (X.suite a ((a, oe) :: pn)) (.Call (.Name "isinstance" pI) [.Name n pn', .Name T pT] [] pos) (tCB (rIsE X.K C a) (tCons (tVar i) (tCons (tC c) tNil))) :=
      pe_callB (call_isE hx z1 z2) hg hm (by decide +kernel) (pa_cons (pe_var hN hv hd hcd) (pa_cons (hT a oe pn) pa_nil he2) he) (by decide) (by decide) he hpl
    refine P.run pins sh σ H Q I ⟨.ref a, h1, c, cv, b, rfl, hu, hk, k _ _ q3 _ _ (s.push fun _ => .bl _) ds⟩
theorem vx_ret {i : Nat} {t : Exn → VT} (h : XE X W i e t) : VX X W i [.Return (some e) pos] (fun x E δ => t x δ E.rt noX) :=
  ⟨fun a oe cls d pn z1 z2 => PSs.imp (pss_one (ps_ret (h.run a oe cls d pn z1 z2))) fun Dd σ H ⟨δ, π, E, x, vs, s, l, h1, h2, ds, q, k⟩ =>
    ⟨δ, π, _, x, vs, [], by rw [List.append_nil]; exact s, l, h1, h2, ds, q, fun rv δ' z v H' s' _ => by
      rw [List.append_nil] at s'
      exact k.rt _ _ z _ _ _ s'.mid⟩⟩
end
end ML

/-! ## M16 -/
set_option Elab.async false
set_option linter.all false
set_option autoImplicit false
set_option maxRecDepth 100000
set_option maxHeartbeats 4000000
namespace ML
open PySem PySem.Spec PyProof.Rows L2
theorem hu64 {k : Nat} {A : Around} (hr : Room k A) : A.units + 64 < cLine := by
  have := hr.un
  omega
theorem hu65 {k : Nat} {A : Around} (hr : Room k A) : A.units + 65 < cLine := by
  have := hr.un
  omega
/-- what is known of an own class of exceptions without fields -/
structure ExF (K : PySem.W.Frag) (mg : Str → Option Value) (x : Str) (C : Addr) : Prop where
  q : PySem.W.excIn K C [.type "ValueError", .type "Exception", .type "BaseException", .type "object"] "ValueError.__new__" = true
  g : mg x = some (.ref C)
  k : PySem.W.keepIn K (.ref C) = true
  r1 : PySem.W.subIn K (.ref C) (.type "BaseException") = some true
  r2 : PySem.W.typeIn K (.ref C) = some (.type "type")
section
variable {X : Cx} {W : Wd} {wx : WX} {K : PySem.W.Frag} {H H' : Hp} {S : Addr → Prop} {a b : Expr} {pos : Pos}
/-! ### x += e, x -= e -/
def fAug : D → D → Option Rs
  | .int i, .int j => some (.sh (.int (i + j)))
  | .str a, .str b => if a.length + b.length ≤ 1000000 then some (.sh (.str (a ++ b))) else none
  | _, _ => none
abbrev fAuS := fI (fun _ _ => true) (fun i j => .int (i - j))
theorem ip_addV : PIp X .Add (fun x y H Q => (∃ i j, x = .int i ∧ y = .int j ∧ Q (.int (i + j)) H) ∨ rAddS x y H Q) :=
  fun pins s σ H x y v u Q I rx ry q => q.elim (ip_add pins s σ H x y v u Q I rx ry) (in_addS pins s σ H x y v u Q I rx ry)
theorem snd_aug : Snd2 K (fun x y H Q => (∃ i j, x = .int i ∧ y = .int j ∧ Q (.int (i + j)) H) ∨ rAddS x y H Q) fAug := by
  intro S H x y d e res Q hx hy hf hq
  cases d with
  | int i =>
    cases e with
    | int j =>
      cases hf
      exact .inl ⟨i, j, hx.int, hy.int, hq _ _ (.old (.int _))⟩
    | _ => cases hf
  | str a =>
    cases e with
    | str b =>
      have hf' : (if a.length + b.length ≤ 1000000 then some (Rs.sh (.str (a ++ b))) else none) = some res := hf
      by_cases h : a.length + b.length ≤ 1000000
      · rw [if_pos h] at hf'
        cases hf'
        exact .inr ⟨a, b, hx.str, hy.str, le_line h, hq _ _ (.old (.str _ (okS_app hx.okS hy.okS h)))⟩
      · rw [if_neg h] at hf'; cases hf'
    | _ => cases hf
  | _ => cases e <;> cases hf
theorem snd_auS : Snd2 K (fun x y H Q => ∃ i j, x = .int i ∧ y = .int j ∧ Q (.int (i - j)) H) fAuS := snd_sub
end
end ML

/-! ## M17 -/
set_option Elab.async false
set_option linter.all false
set_option autoImplicit false
set_option maxRecDepth 100000
set_option maxHeartbeats 4000000
namespace ML
open PySem PySem.Spec PyProof.Rows L2
/-! ### s[::-1] of a text -/
def revS (z : Str) : Str := ⟨z.cps.toList.reverse.toArray⟩
theorem rev_idx (n : Nat) : PySem.Builtin.Str.strSliceIndices none none (-1) n = (List.range n).reverse := by
  show PySem.sliceRange ((n : Int) - 1) (-1) (-1) = _
  unfold PySem.sliceRange
  have hc : (if (-1 : Int) > 0 then (if (n : Int) - 1 < -1 then (-1 - ((n : Int) - 1) + -1 - 1) / -1 else 0) else (if (n : Int) - 1 > -1 then ((n : Int) - 1 - -1 - -1 - 1) / - -1 else 0)) = (n : Int) := by
    rw [if_neg (by decide)]
    by_cases h : (n : Int) - 1 > -1
    · rw [if_pos h, show (- -1 : Int) = 1 from rfl, Int.ediv_one]; omega
    · rw [if_neg h]; omega
  show List.map (fun k : Nat => ((n : Int) - 1 + -1 * (k : Int)).toNat) (List.range (Int.toNat (if (-1 : Int) > 0 then (if (n : Int) - 1 < -1 then (-1 - ((n : Int) - 1) + -1 - 1) / -1 else 0) else (if (n : Int) - 1 > -1 then ((n : Int) - 1 - -1 - -1 - 1) / - -1 else 0)))) = _
  rw [hc]
  apply List.ext_getElem
  · simp
  · intro i h1 h2
    simp at h1
    simp
    omega
theorem pick_rev {α : Type} (a : Array α) : (List.range a.size).reverse.filterMap (fun i => a[i]?) = a.toList.reverse := by
  rw [List.filterMap_reverse]
  congr 1
  apply List.ext_getElem?
  intro i
  have : (List.range a.size).filterMap (fun i => a[i]?) = a.toList := by
    have h : ∀ l : List α, (List.range l.length).filterMap (fun i => l[i]?) = l := by
      intro l
      induction l with
      | nil => rfl
      | cons x l ih =>
        rw [List.length_cons, List.range_succ_eq_map, List.filterMap_cons, List.filterMap_map]
        simp only [List.getElem?_cons_zero]
        congr 1
    have := h a.toList
    simpa using this
  rw [this]
section
variable {X : Cx} {W : Wd} {wx : WX} {K : PySem.W.Frag} {H H' : Hp} {S : Addr → Prop} {e a b : Expr} {pos : Pos} {te : TE}
def tRevS (te : TE) : TE := fun σ H Q => te σ H fun x H1 => ∃ z, x = .str z ∧ (revS z).length ≤ sizeLine ∧ Q (.str (revS z)) H1
theorem pe_revS {k : Nat} {p1 p2 p3 : Pos} (he : PE X e te) : PE X (.Subscript e (.Slice none none (some (.UnaryOp .USub (.Constant (.int 1) k p1) p2)) p3) pos) (tRevS te) :=
  ⟨fun pins s σ H Q I h => Subscript_ (thn (he.run pins s σ H _ I h) fun v s1 ⟨x, H1, I1, r1, z, ex, hz, q⟩ => by
    subst ex
    obtain ⟨t, rfl⟩ := r1
    refine wpAny_Slice (thn (po_none.run pins s1 σ H1 (fun o H2 => o = none ∧ H2 = H1) I1 ⟨rfl, rfl⟩) fun vl s2 ⟨o, H2, I2, pl, eo, e2⟩ => ?_)
    subst eo e2
    refine thn (po_none.run pins s2 σ H2 (fun o H3 => o = none ∧ H3 = H2) I2 ⟨rfl, rfl⟩) fun vu s3 ⟨o, H3, I3, pu, eo, e3⟩ => ?_
    subst eo e3
    refine thn ((po_some (pe_un un_neg pe_int)).run pins s3 σ H3 (fun o H4 => o = some (-1) ∧ H4 = H3) I3 ⟨1, rfl, -1, rfl, rfl, rfl⟩) fun vs s4 ⟨o, H4, I4, ps, eo, e4⟩ => ?_
    subst eo e4
    have I5 : L2.Inv X pins σ H4 { heap := s4.heap.push { cls := Value.type "slice", data := Data.fields #[vl, vu, vs] }, gens := s4.gens, drawn := s4.drawn, toks := s4.toks, os := s4.os } := Inv.kept I4 fun b ob q => Heap.get?_push_of_some _ q
    cases pl
    cases pu
    cases ps with
    | int _ ts =>
    refine tail_any (ops := [.str z t, .ref s4.heap.objs.size]) (typeIs_str _ z t) (by rfl) ?_ (by rfl)
    refine wpAny_getItem_str_slice (l := none) (u := none) (st := some (-1, ts)) (Heap.IsSliceOf.new _ _ _ _) (by rfl) ?_
    have em : sliceMade z t none none (some (-1, ts)) = Made.str (revS z) := by
      unfold sliceMade
      rw [if_neg (by
        intro h
        rw [Bool.and_eq_true] at h
        exact absurd h.1 (show ¬ (((-1 : Int) == 1) = true) by decide))]
      congr 2
      show List.toArray (List.filterMap (fun i => z.cps[i]?) (PySem.Builtin.Str.strSliceIndices none none (-1) z.length)) = _
      rw [rev_idx]
      show List.toArray (List.filterMap (fun i => z.cps[i]?) (List.range z.cps.size).reverse) = _
      rw [pick_rev]
    rw [em]
    exact ⟨hz, .str (revS z), H4, Inv.tok I5 _, ⟨_, rfl⟩, q⟩)⟩
def fRev : D → Option Rs
  | .str x => some (.sh (.str (revS x)))
  | _ => none
theorem okS_rev {x : Str} (h : okS x = true) : okS (revS x) = true := by
  unfold okS PyData.strOk at *
  rw [Bool.and_eq_true] at *
  obtain ⟨h1, h2⟩ := h
  have h2 := of_decide_eq_true h2
  unfold revS
  refine ⟨?_, decide_eq_true ?_⟩
  · simp only [Array.all_eq_true_iff_forall_mem] at h1 ⊢
    intro y hy
    simp only [List.mem_toArray, List.mem_reverse] at hy
    exact h1 y (by simpa using hy)
  · show (List.toArray _).size ≤ _
    rw [List.size_toArray, List.length_reverse, Array.length_toList]
    exact h2
theorem ve_rev {oa : Opr} {k : Nat} {p1 p2 p3 : Pos} (ha : VO X W wx a oa) : VE X W wx (.Subscript a (.Slice none none (some (.UnaryOp .USub (.Constant (.int 1) k p1) p2)) p3) pos) (v1 fRev oa) := by
  obtain ⟨ta, A⟩ := ha
  refine ⟨PE.imp (pe_revS A.pe) fun σ H Q h => ?_⟩
  refine run1 (r := fun x H Q => ∃ z, x = .str z ∧ (revS z).length ≤ sizeLine ∧ Q (.str (revS z)) H) A ?_ h
  intro S H x d res Q hx hf hq
  cases d with
  | str z =>
    cases hf
    exact ⟨z, hx.str, by have := okS_rev hx.okS; unfold okS at this; rw [Bool.and_eq_true] at this; exact of_decide_eq_true this.2, hq _ _ (.old (.str _ (okS_rev hx.okS)))⟩
  | _ => cases hf
end
end ML

/-! ## M18 -/
set_option Elab.async false
set_option linter.all false
set_option autoImplicit false
set_option maxRecDepth 100000
set_option maxHeartbeats 4000000
namespace ML
open PySem PySem.Spec PyProof.Rows L2
/-! ### enumerate(text) -/
def ItEs (x : Str) : It where
  go := fun i _ => i < x.cps.size
  yld := fun i H v H' => ∃ (T : Addr) (c : Nat), v = .ref T ∧ H T = none ∧ H' = upd H T (.tup [.int i, .str ⟨#[c]⟩]) ∧ x.cps[i]? = some c
  stop := fun i _ => x.cps.size ≤ i
theorem turn_enumS {P : Program} {w : World} {K : PySem.W.Frag} {elts : List Expr} {kk : Nat} {tpos : Pos} (x : Str) (t : Tok) (e it : Addr) (ty : String) (hty : ty = "str_ascii_iterator" ∨ ty = "str_iterator") :
    Turn P w K (.Tuple elts kk tpos) (ItEs x) [e, it] e (fun i h => (∃ old, IsEnum h e it (i : Int) old) ∧ h.IsStrIter it ty x t i ∧ e ≠ it ∧ i ≤ x.cps.size) := by
  have dr : ∀ {A : Around}, A.handled = none → Draws P w A it [it] x.cps.size (fun i v => ∃ c u, x.cps[i]? = some c ∧ v = Value.str { cps := #[c] } u) (fun i h => h.IsStrIter it ty x t i) := fun {A} hA => by
    rcases hty with rfl | rfl
    · exact Draws.strAscii hA it x t
    · exact Draws.strWide hA it x t
  have me : e ∈ [e, it] := List.mem_cons_self
  have mi : it ∈ [e, it] := List.mem_cons_of_mem _ List.mem_cons_self
  have cs : ∀ {b : Addr}, b ∈ [e, it] → b = e ∨ b = it := fun {b} hb => by simpa using hb
  refine ⟨me, fun i h st b hb => ?_, fun i h h' st k => ?_, fun X hP hw hK hc i pins s σ H E I hf st hg => ?_, fun X hP hw hK hc i pins s σ H E I hf st hg => ?_, fun A i s Q E st h => ?_⟩
  · obtain ⟨⟨old, he⟩, ⟨o, ho, _, hd⟩, _⟩ := st
    rcases cs hb with rfl | rfl
    · exact ⟨_, he, fun v q => nomatch q⟩
    · exact ⟨o, ho, fun v q => by rw [hd] at q; cases q⟩
  · obtain ⟨⟨old, he⟩, ⟨o, ho, hc, hd⟩, hne, hle⟩ := st
    exact ⟨⟨old, k e me _ he⟩, ⟨o, k it mi _ ho, hc, hd⟩, hne, hle⟩
  · subst hP hw hK
    obtain ⟨⟨old, he⟩, hit, hne, hle⟩ := st
    have hel := Heap.lt_size he
    have hil : it < s.heap.objs.size := by
      obtain ⟨o, ho, _⟩ := hit
      exact Heap.lt_size ho
    refine wpAny_pyNext_enum_itemD (dr (A := X.A.in1) (I.ok.hd hc)) he hit hg hne (by simpa using hne) fun xv h' tk px ho hit' hT hsz hk => ?_
    obtain ⟨c, u, hcx, rfl⟩ := px
    refine ⟨_, rfl, wpAny_letOwnedTupleGo_enum ho fun h'' he' sb => ?_⟩
    have hT2 := (sb.2 s.heap.objs.size (Nat.ne_of_gt hel)).trans hT
    have new : ObjOk X.prog X.w (upd H s.heap.objs.size (.tup [.int i, .str ⟨#[c]⟩])) h'' s.heap.objs.size (.tup [.int i, .str ⟨#[c]⟩]) :=
      ⟨by show 2 ≤ sizeLine; decide, [Value.int (i : Int) tk, Value.str { cps := #[c] } u], .cons ⟨tk, rfl⟩ (.cons ⟨u, rfl⟩ .nil), _, hT2, rfl, 0, rfl⟩
    have I1 := Inv.turnedNew (t' := tk + 1) (ch := [e, it]) I (fun b ob hb q => (sb.2 b fun z => hb (z ▸ me)).trans (hk b ob (fun z => hb (z ▸ me)) (fun z => hb (z ▸ mi)) q)) hf (Nat.le_refl s.heap.objs.size) new
    refine ⟨.ref s.heap.objs.size, _, I1, rfl, ⟨s.heap.objs.size, c, rfl, HOk.fresh I.hok (Nat.le_refl _), rfl, hcx⟩, ⟨⟨_, by
      have e1 : ((i + 1 : Nat) : Int) = (i : Int) + 1 := by omega
      rw [e1]
      exact he'⟩, ?_, hne, hg⟩, fun b hb => ?_⟩
    · obtain ⟨o, ho2, q1, q2⟩ := hit'
      exact ⟨o, (sb.2 it (Ne.symm hne)).trans ho2, q1, q2⟩
    · have hb' : b < s.heap.objs.size := by
        rcases cs hb with rfl | rfl
        · exact hel
        · exact hil
      rw [upd_ne (Nat.ne_of_lt hb')]
      exact (hf b hb).1
  · subst hP hw hK
    obtain ⟨⟨old, he⟩, hit, hne, hle⟩ := st
    have hst : x.cps.size ≤ i := hg
    have hi : i = x.cps.size := Nat.le_antisymm hle hst
    subst hi
    obtain ⟨f0, f1, f2, f3, f4, f5⟩ := hf it mi
    exact wpAny_pyNext_enum_endD (dr (A := X.A.in1) (I.ok.hd hc)) he hit fun h' eb => ⟨rfl, Inv.turned I (fun b o hb q => eb b o hb q) f0 f1 f3 f4 f5⟩
  · obtain ⟨⟨old, he⟩, _⟩ := st
    exact wpAny_pyIter_enum he h
section
variable {X : Cx} {W : Wd} {wx : WX} {K : PySem.W.Frag} {H H' : Hp} {σ : L2.St} {δ δ' : List Sl} {π : List Cell} {S : Addr → Prop} {e a b c : Expr} {t u : VT} {ta : TA} {pos p : Pos}
def iEnumS (ta : TA) : TI := fun σ H R => ta σ H fun vs H1 => ∃ x, vs = [.str x] ∧ R (ItEs x) H1
theorem pi_enumS {elts : List Expr} {kk : Nat} {tpos : Pos} (hg : Gl X "enumerate") (hm : X.mg "enumerate" = none) (ha : PA X [e] ta) (hs : starEach [e] X.env = [(false, eval e X.env)] := by rfl) :
    PI X (.Tuple elts kk tpos) (.Call (.Name "enumerate" p) [e] [] pos) (iEnumS ta) :=
  ⟨fun pins s σ H R I h => Call_ (ld_blt I hg hm boot_enumerate (PyProof.Rows.callWith_type1 (thn (ha.run pos pins s σ H (fun vs H1 => ∃ x, vs = [.str x] ∧ R (ItEs x) H1) I h) fun us s1 ⟨vs, H1, I1, r1, x, ex, q⟩ => by
    subst ex
    cases r1 with
    | cons r rr =>
    cases rr
    obtain ⟨t, rfl⟩ := r
    refine call_enumerate_str fun h' he hit hsz hk => wpAny_pyIter_enum he ?_
    have I2 := Inv.kept (t' := s1.toks) I1 hk
    have hty : strIterType x = "str_ascii_iterator" ∨ strIterType x = "str_iterator" := by
      unfold strIterType
      split
      · exact .inl rfl
      · exact .inr rfl
    refine ⟨_, [s1.heap.objs.size + 1, s1.heap.objs.size], _, ItEs x, H1, rfl, I2, turn_enumS x t (s1.heap.objs.size + 1) s1.heap.objs.size (strIterType x) hty, ⟨⟨_, he⟩, hit, Nat.succ_ne_self _, Nat.zero_le _⟩, fun b hb => ?_, q⟩
    have hle : s1.heap.objs.size ≤ b := by
      rcases (show b = s1.heap.objs.size + 1 ∨ b = s1.heap.objs.size by simpa using hb) with z | z
      · rw [z]; exact Nat.le_succ _
      · rw [z]; exact Nat.le_refl _
    exact Inv.fpOk I1 hle (HOk.fresh I1.hok hle)) hs rfl) (by decide) (by decide)) rfl⟩
end
end ML

/-! ## M19 -/
set_option Elab.async false
set_option linter.all false
set_option autoImplicit false
set_option maxRecDepth 100000
set_option maxHeartbeats 4000000
namespace ML
open PySem PySem.Spec PyProof.Rows L2
section
variable {X : Cx} {W : Wd} {wx : WX} {K : PySem.W.Frag} {H H' : Hp} {σ : L2.St} {δ δ' : List Sl} {π : List Cell} {S : Addr → Prop} {a b c : Expr} {t u : VT} {pos p : Pos}
/-! ### for i, c in enumerate(text) -/
theorem itok_enumS {x : Str} (ok : okS x = true) : ItOk K W (ItEs x) (enumD (signD x)) [] where
  stop := fun σ δ H π ρ i s hi => by
    rw [enumD_length] at hi
    unfold signD at hi
    rw [List.length_map, Array.length_toList] at hi
    exact hi
  go := fun σ δ H π ρ i d s hd => by
    obtain ⟨S, x'⟩ := s.st
    obtain ⟨y, hy, rfl⟩ := enumD_get hd
    unfold signD at hy
    rw [List.getElem?_map] at hy
    obtain ⟨c, h1, rfl⟩ := Option.map_eq_some_iff.mp hy
    have h2 : x.cps[i]? = some c := by rw [← Array.getElem?_toList]; exact h1
    refine ⟨(Array.getElem?_eq_some_iff.mp h2).1, fun z H' hz => ?_⟩
    obtain ⟨T, c', rfl, hT, rfl, e⟩ := hz
    rw [h2] at e
    cases e
    obtain ⟨_, z⟩ := s.new x' (.tup hT (.cons (.int _) (.cons (.str _ (okS_sign ok (List.mem_of_getElem? h1))) .nil)))
    exact z
def iEnS (t : VT) : VTs := fun δ Q Xc => vCons t vNil δ (fun ds δ' => ∃ x, ds = [.str x] ∧ Q (enumD (signD x)) δ') Xc
theorem vi_enumS {elts : List Expr} {kk : Nat} {tpos : Pos} (hm : X.mg "enumerate" = none) (he : VE X W wx a t) (hg : Gl X "enumerate" := by rfl) (hs : starEach [a] X.env = [(false, eval a X.env)] := by rfl) :
    VI X W wx (.Tuple elts kk tpos) (.Call (.Name "enumerate" p) [a] [] pos) (iEnS t) :=
  ⟨PI.imp (pi_enumS hg hm (va_cons he va_nil hs).pa hs) fun σ H R ⟨δ, π, Qd, Xd, s, h, k, xr⟩ => ⟨δ, π, _, Xd, s, h, fun ds δ' q vs H' l n s' => by
    obtain ⟨x, rfl, q⟩ := q
    obtain ⟨v, rfl⟩ := len1 l
    rw [shs_cons, shs_nil] at s'
    obtain ⟨rfl, ok⟩ := s'.str
    exact ⟨x, rfl, k _ _ q _ [] _ (by rw [List.append_nil]; exact s'.drop) (itok_enumS ok)⟩, xr⟩⟩
/-! ### list(range(n)) -/
def vLRg (t : VT) : VT := fun δ Q Xc => vCons t vNil δ (fun ds δ' => ∃ j : Int, ds = [.int j] ∧ 0 ≤ j ∧ j ≤ 1000000 ∧ ∀ p, Q (.ow (Ot.flat p (rngD 0 j.toNat))) δ') Xc
theorem rgV_rngD (j : Int) : Rps K S H (rgV 0 j) (rngD 0 j.toNat) := by
  unfold rgV rngD
  rw [Int.sub_zero]
  have e : (List.range j.toNat).map (fun i : Nat => V.int (0 + (i : Int))) = ((List.range j.toNat).map fun i : Nat => (0 + (i : Int) : Int)).map V.int := by rw [List.map_map]; rfl
  have e2 : (List.range j.toNat).map (fun i : Nat => PyData.int (0 + (i : Int))) = ((List.range j.toNat).map fun i : Nat => (0 + (i : Int) : Int)).map PyData.int := by rw [List.map_map]; rfl
  rw [e, e2]
  exact Rps.ints _
theorem ve_lrg {p2 pos2 : Pos} (hc : X.calm = true) (hm : X.mg "list" = none) (hm2 : X.mg "range" = none) (he : VE X W wx a t) (hg : Gl X "list" := by rfl) (hg2 : Gl X "range" := by rfl) (hs : starEach [a] X.env = (false, eval a X.env) :: starEach [] X.env := by rfl)
    : VE X W wx (.Call (.Name "list" p) [.Call (.Name "range" p2) [a] [] pos2] [] pos) (vLRg t) := by
  refine ⟨PE.imp (pe_listRg hc hg hm (prg_1 hg2 hm2 he.pe hs)) fun σ H Q ⟨δ, π, Qd, Xd, s, h, k, xr⟩ => ?_⟩
  show lE X.K W wx t σ H _
  refine ⟨δ, π, _, Xd, s, h, fun rv δ1 q v H1 s1 => ?_, xr⟩
  obtain ⟨q0, j, ej, j0, j1, q⟩ := q
  have s2 := s1.shr q0
  have ej' : rv.get = .int j := (List.cons.inj ej).1
  rw [ej'] at s2
  obtain rfl := s2.int
  refine ⟨j, rfl, ⟨by omega, by omega, by omega, by omega, by omega⟩, fun p hp => ?_⟩
  obtain ⟨S, x⟩ := s2.st
  obtain ⟨p2, z⟩ := s2.drop.new (SS.restrict x) (.lst hp (rgV_rngD j))
  exact k _ _ (q p2) _ _ z
/-! ### min of three -/
def fMin3 : D → D → D → Option Rs
  | .int i, .int j, .int k => some (.sh (.int (min (min i j) k)))
  | _, _, _ => none
theorem snd_min3 : Snd3 K (fun x y z => rNuC3 nuMin3 [x, y, z]) fMin3 := by
  intro S H x y z d e g res Q hx hy hz hf hq
  cases d with
  | int i =>
    cases e with
    | int j =>
      cases g with
      | int k =>
        cases hf
        rw [Rq.int hx, Rq.int hy, Rq.int hz]
        have e1 : nuMin2 (.int i) (.int j) = some (.int (min i j)) := by
          show some (if decide (j < i) = true then V.int j else V.int i) = _
          by_cases h : j < i
          · rw [if_pos (decide_eq_true h), Int.min_eq_right (by omega)]
          · rw [if_neg (by simpa using h), Int.min_eq_left (by omega)]
        have e2 : ∀ m : Int, nuMin2 (.int m) (.int k) = some (.int (min m k)) := fun m => by
          show some (if decide (k < m) = true then V.int k else V.int m) = _
          by_cases h : k < m
          · rw [if_pos (decide_eq_true h), Int.min_eq_right (by omega)]
          · rw [if_neg (by simpa using h), Int.min_eq_left (by omega)]
        exact ⟨_, _, _, .int (min (min i j) k), rfl, by unfold nuMin3; rw [e1]; exact e2 _, hq _ _ (.old (.int _))⟩
      | _ => cases hf
    | _ => cases hf
  | _ => cases hf
theorem ve_b3 {id : String} {x : Str} {r : List V → Hp → VK → Prop} {f : D → D → D → Option Rs} {oa ob oc : Opr} (hc : CallR X (.builtin id) r) (snd : Snd3 X.K (fun x y z => r [x, y, z]) f) (hm : X.mg x = none) (hv : bootBuiltins x = some (.builtin id)) (ha : VO X W wx a oa) (hb : VO X W wx b ob) (hcc : VO X W wx c oc)
    (hg : Gl X x := by rfl) (hn : x ≠ "__name__" := by decide) (hdb : (x == ("__debug__" : Str)) = false := by decide) (he : starEach [a, b, c] X.env = (false, eval a X.env) :: starEach [b, c] X.env := by rfl) (he2 : starEach [b, c] X.env = (false, eval b X.env) :: starEach [c] X.env := by rfl)
    (he3 : starEach [c] X.env = (false, eval c X.env) :: starEach [] X.env := by rfl) (hpl : (backTo pos (starEach [b, c] X.env)).any (·.1) = false := by rfl) : VE X W wx (.Call (.Name x p) [a, b, c] [] pos) (v3 f oa ob oc) := by
  obtain ⟨ta, A⟩ := ha
  obtain ⟨tb, B⟩ := hb
  obtain ⟨tc, C⟩ := hcc
  exact ⟨PE.imp (pe_callB hc hg hm hv (pa_cons A.pe (pa_cons B.pe (pa_cons C.pe pa_nil he3) he2) he) hn hdb he hpl) fun σ H Q h => by
    show ta σ H fun x H1 => tb σ H1 fun y H2 => tc σ H2 fun z H3 => r [x, y, z] H3 Q
    exact run3 A B C snd h⟩
/-! ### a, b = x, y -/
def vPar (i j : Nat) (ts : VTs) : VSt := fun E δ => ts δ (fun ds δ' => ∃ d e, ds = [d, e] ∧ i < δ'.length ∧ j < δ'.length ∧ E.nx ((δ'.set i (.sh d)).set j (.sh e))) E.ex
theorem vs_par {i j : Nat} {x y : Str} {ts : VTs} {px py pt pt2 : Pos} {kt k2 : Nat} (hc : X.calm = true) (hN : X.N.Nodup) (hi : X.N[i]? = some x) (hj : X.N[j]? = some y) (hij : i ≠ j) (hx : X.env.scope.names.lookup x = some .local) (hy : X.env.scope.names.lookup y = some .local)
    (ha : VA X W wx [a, b] ts) (hw : swappedStores [.Tuple [.Name x px, .Name y py] kt pt] (.Tuple [a, b] k2 pt2) X.env = pure (some [x, y]))
    (hs : swapsWithSole [.Tuple [.Name x px, .Name y py] kt pt] (.Tuple [a, b] k2 pt2) pos.line X.env = pure false := by rfl) :
    VS X W wx (.Assign [.Tuple [.Name x px, .Name y py] kt pt] (.Tuple [a, b] k2 pt2) pos) (vPar i j ts) :=
  ⟨PS.imp (ps_par hc hN hi hj hij hx hy ha.pa hw hs) fun Dd σ H ⟨δ, π, E, s, h, k⟩ => ⟨δ, π, _, _, s, h, fun ds δ' q vs H' l n s' => by
    obtain ⟨d, e, rfl, q1, q2, q⟩ := q
    obtain ⟨v, w, rfl⟩ := len2 l
    rw [shs_cons, shs_cons, shs_nil] at s'
    refine ⟨v, w, rfl, k.nx _ q _ _ ?_⟩
    have s2 : SS X.K W H' σ δ' ((π ++ [(some v, Sl.sh d)]) ++ [(some w, Sl.sh e)]) := by rw [List.append_assoc]; exact s'
    have s3 : SS X.K W H' (σ.set j (some w)) (δ'.set j (.sh e)) (π ++ [(some v, Sl.sh d)]) := s2.put q2
    have s4 := s3.put (by rw [List.length_set]; exact q1)
    rw [List.set_comm _ _ hij, List.set_comm _ _ hij]
    exact s4, k.ex σ⟩⟩
/-! ### x[::-1] of a list -/
def fRevL : D → Option Rs
  | .list ds => some (.nw ds.reverse)
  | _ => none
theorem ve_revL {oa : Opr} {k : Nat} {p1 p2 p3 : Pos} (ha : VO X W wx a oa) : VE X W wx (.Subscript a (.Slice none none (some (.UnaryOp .USub (.Constant (.int 1) k p1) p2)) p3) pos) (v1 fRevL oa) := by
  obtain ⟨ta, A⟩ := ha
  refine ⟨PE.imp (pe_revL A.pe) fun σ H Q h => ?_⟩
  refine run1 (r := fun x H Q => ∃ a xs, x = .ref a ∧ SqL X.K H a xs ∧ ∀ p, H p = none → Q (.ref p) (upd H p (.lst xs.reverse))) A ?_ h
  intro S H x d res Q hx hf hq
  cases d with
  | list ds =>
    cases hf
    obtain ⟨p, xs, rfl, h1, h2⟩ := Rq.list hx
    exact ⟨p, xs, rfl, h1, fun q hq' => hq _ _ (.lst hq' h2.reverse)⟩
  | _ => cases hf
end
end ML

/-! ## M20 -/
set_option Elab.async false
set_option linter.all false
set_option autoImplicit false
set_option maxRecDepth 100000
set_option maxHeartbeats 4000000
namespace ML
open PySem PySem.Spec PyProof.Rows L2
section
variable {X : Cx} {W : Wd} {wx : WX} {K : PySem.W.Frag} {H H' : Hp} {σ : L2.St} {δ δ' : List Sl} {π : List Cell} {S : Addr → Prop} {a b c : Expr} {t u : VT} {pos p : Pos}
/-! ### isinstance -/
def tyD : D → Option String
  | .none => some "NoneType"
  | .bool _ => some "bool"
  | .int _ => some "int"
  | .str _ => some "str"
  | .list _ => some "list"
  | .tuple _ => some "tuple"
  | .dict _ => none
theorem RqA.ty {v : V} {d : D} {T : String} (h : RqA K S H v d) (e : tyD d = some T) : TyX K H v (.type T) := by
  have lst : ∀ {p : Addr} {xs : List V}, SqL K H p xs → TyX K H (.ref p) (.type "list") := fun {p xs} h1 => by
    rcases h1 with (h1 | ⟨o, h1⟩) | ⟨o, its, n, q1, q2, _⟩
    · exact .base (.lst h1)
    · exact .base (.frz h1)
    · exact .kList q1 q2
  have tup : ∀ {p : Addr} {xs : List V}, SqT K H p xs → TyX K H (.ref p) (.type "tuple") := fun {p xs} h1 => by
    rcases h1 with (h1 | ⟨o, h1⟩) | ⟨o, its, n, q1, q2, _⟩
    · exact .base (.tup h1)
    · exact .fTuple h1
    · exact .kTuple q1 q2
  cases d with
  | none => cases e; rw [Rr.none (m := true) h]; exact .base .non
  | bool b => cases e; rw [Rr.bool (m := true) h]; exact .base (.bl b)
  | int i => cases e; rw [Rr.int (m := true) h]; exact .base (.int i)
  | str x => cases e; rw [Rr.str (m := true) h]; exact .base (.str x)
  | list ds =>
    cases e
    obtain ⟨p, xs, rfl, h1, _⟩ := h.list
    exact lst h1
  | tuple ds =>
    cases e
    obtain ⟨p, xs, rfl, h1, _⟩ := h.tup
    exact tup h1
  | dict _ => cases e
def isB (T : String) (d : D) : Option Bool := (tyD d).bind fun a => kitB a T
def isT (T : String) (d : D) : Option Rs := (isB T d).map fun b => .sh (.bool b)
def isT2 (T U : String) (d : D) : Option Rs := (isB T d).bind fun b => (isB U d).map fun c => .sh (.bool (b || c))
theorem ve_isi {T : String} {x : Str} {oa : Opr} {px pT : Pos} (hm : X.mg "isinstance" = none) (hx : X.mg x = none) (hb : bootBuiltins x = some (.type T)) (ha : VO X W wx a oa) (hg : Gl X "isinstance" := by rfl) (hgx : Gl X x := by rfl) (hnx : x ≠ "__name__" := by decide) (hdx : (x == ("__debug__" : Str)) = false := by decide)
    (he : starEach [a, .Name x pT] X.env = (false, eval a X.env) :: starEach [.Name x pT] X.env := by rfl) (he2 : starEach [.Name x pT] X.env = (false, eval (.Name x pT) X.env) :: starEach [] X.env := by rfl) (hpl : (backTo pos (starEach [.Name x pT] X.env)).any (·.1) = false := by rfl) :
    VE X W wx (.Call (.Name "isinstance" px) [a, .Name x pT] [] pos) (w1 (isT T) oa) := by
  obtain ⟨ta, A⟩ := ha
  refine ⟨PE.imp (pe_callB call_isi hg hm (by decide +kernel) (pa_cons A.pe (pa_cons (pe_bltn (v := .ty T) hgx hx hb rfl hnx hdx) pa_nil he2) he) (by decide) (by decide) he hpl) fun σ H Q h => ?_⟩
  show ta σ H fun x H1 => rIsi X.K [x, .ty T] H1 Q
  refine run1 (r := fun v H Q => rIsi X.K [v, .ty T] H Q) A ?_ h
  intro S H x d res Q hx hf hq
  unfold isT isB at hf
  cases e : tyD d with
  | none => rw [e] at hf; cases hf
  | some a =>
    rw [e] at hf
    cases e2 : kitB a T with
    | none => rw [show (some a).bind (fun a => kitB a T) = kitB a T from rfl, e2] at hf; cases hf
    | some b =>
      rw [show (some a).bind (fun a => kitB a T) = kitB a T from rfl, e2] at hf
      cases hf
      exact ⟨x, .ty T, .type a, .type T, b, rfl, .ty T, RqA.ty hx e, kit_ty e2, hq _ _ (.old (.bl b))⟩
theorem kit2 {t u1 u2 : Value} {b c : Bool} (h1 : PySem.W.kitOne K t u1 = some b) (h2 : PySem.W.kitOne K t u2 = some c) : PySem.W.kitAny K t [u1, u2] = some (b || c) := by
  cases b <;> cases c <;> simp [PySem.W.kitAny, h1, h2]
theorem ve_isi2 {T U : String} {x y : Str} {oa : Opr} {px pT pU pt : Pos} {kk : Nat} (hm : X.mg "isinstance" = none) (hx : X.mg x = none) (hy : X.mg y = none) (hb : bootBuiltins x = some (.type T)) (hb2 : bootBuiltins y = some (.type U)) (ha : VO X W wx a oa)
    (hg : Gl X "isinstance" := by rfl) (hgx : Gl X x := by rfl) (hgy : Gl X y := by rfl) (hnx : x ≠ "__name__" := by decide) (hdx : (x == ("__debug__" : Str)) = false := by decide) (hny : y ≠ "__name__" := by decide) (hdy : (y == ("__debug__" : Str)) = false := by decide)
    (he : starEach [a, .Tuple [.Name x pT, .Name y pU] kk pt] X.env = (false, eval a X.env) :: starEach [.Tuple [.Name x pT, .Name y pU] kk pt] X.env := by rfl) (he2 : starEach [.Tuple [.Name x pT, .Name y pU] kk pt] X.env = (false, eval (.Tuple [.Name x pT, .Name y pU] kk pt) X.env) :: starEach [] X.env := by rfl)
    (he3 : starEach [.Name x pT, .Name y pU] X.env = (false, eval (.Name x pT) X.env) :: starEach [.Name y pU] X.env := by rfl) (he4 : starEach [.Name y pU] X.env = (false, eval (.Name y pU) X.env) :: starEach [] X.env := by rfl) (hpl : (backTo pos (starEach [.Tuple [.Name x pT, .Name y pU] kk pt] X.env)).any (·.1) = false := by rfl) :
    VE X W wx (.Call (.Name "isinstance" px) [a, .Tuple [.Name x pT, .Name y pU] kk pt] [] pos) (w1 (isT2 T U) oa) := by
  obtain ⟨ta, A⟩ := ha
  refine ⟨PE.imp (pe_callB call_isiT hg hm (by decide +kernel) (pa_cons A.pe (pa_cons (pe_tup (pa_cons (pe_bltn (v := .ty T) hgx hx hb rfl hnx hdx) (pa_cons (pe_bltn (v := .ty U) hgy hy hb2 rfl hny hdy) pa_nil he4) he3)) pa_nil he2) he) (by decide) (by decide) he hpl) fun σ H Q ⟨δ, π, Qd, Xd, s, h, k, xr⟩ => ?_⟩
  refine A.run σ H δ π _ Xd _ s h xr fun ra δ1 q v H1 s1 i1 => ?_
  obtain ⟨x, res, e1, e2, q⟩ := q
  obtain ⟨S, y⟩ := s1.st
  refine ⟨by show 2 ≤ sizeLine; decide, fun p hp => ?_⟩
  have z := y.more (o := .tup [.ty T, .ty U]) hp
  have rq : RqA X.K _ _ v x := Opr.read (m := true) (ρ := []) s1.len z i1 e1
  unfold isT2 isB at e2
  cases e : tyD x with
  | none => rw [e] at e2; cases e2
  | some a =>
    rw [e] at e2
    cases e3 : kitB a T with
    | none => rw [show (some a).bind (fun a => kitB a T) = kitB a T from rfl, e3] at e2; cases e2
    | some b =>
      rw [show (some a).bind (fun a => kitB a T) = kitB a T from rfl, show (some a).bind (fun a => kitB a U) = kitB a U from rfl, e3] at e2
      cases e4 : kitB a U with
      | none => rw [e4] at e2; cases e2
      | some c =>
        rw [e4] at e2
        cases e2
        have s2 : SS X.K W (upd H1 p (.tup [.ty T, .ty U])) σ δ1 (π ++ [(some v, ra)]) := ⟨s1.len, S, z⟩
        exact ⟨v, p, [.ty T, .ty U], .type a, [.type T, .type U], b || c, rfl, upd_same, .cons (.ty T) (.cons (.ty U) .nil), rq.ty e, kit2 (kit_ty e3) (kit_ty e4), k _ _ (q 0) _ _ (s2.drop.push fun _ => .bl _)⟩
/-! ### a < b < c -/
def vChain (f g : D → D → Option Rs) (a b c : Opr) : VT := fun δ Q Xc => a.ev δ (fun ra δ1 => b.ev δ1 (fun rb δ2 => ∃ x y k, a.fin false ra δ2 = some x ∧ b.fin false rb δ2 = some y ∧ f x y = some (.sh (.bool k)) ∧
  if k = true then c.ev δ2 (fun rc δ3 => ∃ y z r, b.fin false rb δ3 = some y ∧ c.fin false rc δ3 = some z ∧ g y z = some r ∧ ∀ p, Q (r.to p) δ3) Xc else Q (.sh (.bool false)) δ2) Xc) Xc
theorem chain_run {r r' : R2} {f g : D → D → Option Rs} {oa ob oc : Opr} {ta tb tc : TE} {Q : VK} (A : VOt X W wx a oa ta) (B : VOt X W wx b ob tb) (C : VOt X W wx c oc tc) (snd : Snd2 X.K r f) (snd' : Snd2 X.K r' g) (h : lE X.K W wx (vChain f g oa ob oc) σ H Q) : tChain r r' ta tb tc σ H Q := by
  obtain ⟨δ, π, Qd, Xd, s, h, k, xr⟩ := h
  refine A.run σ H δ π _ Xd _ s h xr fun ra δ1 q v H1 s1 i1 => ?_
  refine B.run σ H1 δ1 _ _ Xd _ s1 q xr.more fun rb δ2 q u H2 s2 i2 => ?_
  obtain ⟨x, y, kk, e1, e2, e3, q⟩ := q
  obtain ⟨S, z⟩ := s2.st
  have z1 : StF X.K W H2 (σ.zip δ2 ++ (π ++ ((some v, ra) :: [(some u, rb)]))) S := by
    rw [List.append_assoc] at z
    exact z
  refine snd S H2 v u x y _ _ (Opr.read (m := false) s2.len z1 i1 e1) (Opr.read (m := false) (ρ := []) s2.len z i2 e2) e3 fun v' H' nv => ?_
  cases nv with
  | old rr =>
  cases rr
  refine ⟨kk, rfl, ?_⟩
  cases kk with
  | false =>
    rw [if_neg (by decide)] at q
    rw [if_neg (by decide)]
    exact k _ _ q _ _ (s2.drop.drop.push fun _ => .bl _)
  | true =>
    rw [if_pos rfl] at q
    rw [if_pos rfl]
    refine C.run σ _ δ2 _ _ Xd _ s2 q xr.more.more fun rc δ3 q w H4 s3 i3 => ?_
    obtain ⟨y', z', r'', e4, e5, e6, q⟩ := q
    obtain ⟨S3, zz⟩ := s3.st
    have z2 : StF X.K W H4 (σ.zip δ3 ++ ((π ++ [(some v, ra)]) ++ ((some u, rb) :: [(some w, rc)]))) S3 := by
      rw [List.append_assoc (π ++ [(some v, ra)])] at zz
      exact zz
    exact snd' S3 H4 u w y' z' r'' Q (Opr.read (m := false) s3.len z2 i2 e4) (Opr.read (m := false) (ρ := []) s3.len zz i3 e5) e6 fun v' H' nv => by
      obtain ⟨p, s4⟩ := s3.drop.drop.drop.new (SS.restrict (SS.restrict (SS.restrict zz))) nv
      exact k _ _ (q p) _ _ s4
theorem ve_chain {op op' : CmpOp} {r r' : R2} {f g : D → D → Option Rs} {oa ob oc : Opr} (ho : OpR X (compareOp op) r) (snd : Snd2 X.K r f) (ho' : OpR X (compareOp op') r') (snd' : Snd2 X.K r' g) (ha : VO X W wx a oa) (hb : VO X W wx b ob) (hc : VO X W wx c oc) (hm : lastMarks [op, op'] [b, c] = false := by rfl) :
    VE X W wx (.Compare a [op, op'] [b, c] pos) (vChain f g oa ob oc) := by
  obtain ⟨ta, A⟩ := ha
  obtain ⟨tb, B⟩ := hb
  obtain ⟨tc, C⟩ := hc
  exact ⟨PE.imp (pe_chain ho ho' A.pe B.pe C.pe hm) fun σ H Q h => chain_run A B C snd snd' h⟩
theorem vc_chain {op op' : CmpOp} {r r' : R2} {f g : D → D → Option Rs} {oa ob oc : Opr} (ho : OpR X (compareOp op) r) (snd : Snd2 X.K r f) (ho' : OpR X (compareOp op') r') (snd' : Snd2 X.K r' g) (ha : VO X W wx a oa) (hb : VO X W wx b ob) (hc : VO X W wx c oc) (hm : lastMarks [op, op'] [b, c] = false := by rfl) :
    VC X W wx (.Compare a [op, op'] [b, c] pos) (vB (vChain f g oa ob oc)) := by
  obtain ⟨ta, A⟩ := ha
  obtain ⟨tb, B⟩ := hb
  obtain ⟨tc, C⟩ := hc
  refine ⟨PT.imp (pt_chain ho ho' A.pe B.pe C.pe hm) fun σ H Q ⟨δ, π, Qd, Xd, s, h, k, xr⟩ => ?_⟩
  show tChain r r' ta tb tc σ H _
  refine chain_run A B C snd snd' ⟨δ, π, _, Xd, s, h, fun rv δ' q v H' s' => ?_, xr⟩
  obtain ⟨b, rfl, q⟩ := q
  obtain rfl := s'.bool
  exact ⟨b, rfl, k _ _ q _ s'.drop⟩
end
end ML

/-! ## M21 -/
set_option Elab.async false
set_option linter.all false
set_option autoImplicit false
set_option maxRecDepth 100000
set_option maxHeartbeats 4000000
namespace ML
open PySem PySem.Spec PyProof.Rows L2
section
variable {X : Cx} {W : Wd} {wx : WX} {K : PySem.W.Frag} {H H' : Hp} {σ : L2.St} {δ δ' : List Sl} {π : List Cell} {S : Addr → Prop} {e a b c ie : Expr} {t u ti : VT} {pos p : Pos}
/-! ### all(list of bools), any(..) -/
def bools? : List D → Option (List Bool)
  | [] => some []
  | .bool b :: r => (bools? r).map (b :: ·)
  | _ :: _ => none
theorem bools?_of : ∀ {ds : List D} {bs : List Bool}, bools? ds = some bs → ds = bs.map PyData.bool
  | [], bs, h => by cases h; rfl
  | .bool x :: r, bs, h => by
    obtain ⟨zs, h1, h2⟩ := Option.map_eq_some_iff.mp (show (bools? r).map (x :: ·) = some bs from h)
    subst h2
    rw [bools?_of h1]
    rfl
  | .none :: _, _, h => by cases h
  | .str _ :: _, _, h => by cases h
  | .int _ :: _, _, h => by cases h
  | .list _ :: _, _, h => by cases h
  | .tuple _ :: _, _, h => by cases h
  | .dict _ :: _, _, h => by cases h
theorem bools?_map : ∀ bs : List Bool, bools? (bs.map PyData.bool) = some bs
  | [] => rfl
  | b :: bs => by rw [List.map_cons, bools?, bools?_map bs]; rfl
def fAll (d : D) : Option Rs := match d with
  | .list ds => (bools? ds).map fun bs => .sh (.bool (bs.all id))
  | _ => none
def fAny (d : D) : Option Rs := match d with
  | .list ds => (bools? ds).map fun bs => .sh (.bool (bs.any id))
  | _ => none
theorem snd_all : Snd1 K (fun v H Q => rAll K [v] H Q) fAll := by
  intro S H x d res Q hx hf hq
  cases d with
  | list ds =>
    have hf' : (bools? ds).map (fun bs => Rs.sh (.bool (bs.all id))) = some res := hf
    obtain ⟨bs, h1, rfl⟩ := Option.map_eq_some_iff.mp hf'
    have e := bools?_of h1
    subst e
    obtain ⟨p, xs, rfl, h2, h3⟩ := Rq.list hx
    rw [h3.bools_v] at h2
    exact ⟨p, bs, rfl, h2, hq _ _ (.old (.bl _))⟩
  | _ => cases hf
theorem snd_any : Snd1 K (fun v H Q => rAny K [v] H Q) fAny := by
  intro S H x d res Q hx hf hq
  cases d with
  | list ds =>
    have hf' : (bools? ds).map (fun bs => Rs.sh (.bool (bs.any id))) = some res := hf
    obtain ⟨bs, h1, rfl⟩ := Option.map_eq_some_iff.mp hf'
    have e := bools?_of h1
    subst e
    obtain ⟨p, xs, rfl, h2, h3⟩ := Rq.list hx
    rw [h3.bools_v] at h2
    exact ⟨p, bs, rfl, h2, hq _ _ (.old (.bl _))⟩
  | _ => cases hf
/-! ### str(int) -/
def fStr (d : D) : Option Rs := match d with
  | .int i => if (decide (i.natAbs.log2 < 1920) && okS (Str.ofString (toString i))) = true then some (.sh (.str (Str.ofString (toString i)))) else none
  | _ => none
theorem snd_str1 : Snd1 K (fun v H Q => ∃ i, [v] = [V.int i] ∧ i.natAbs.log2 < 1920 ∧ Q (.str (toString i)) H) fStr := by
  intro S H x d res Q hx hf hq
  cases d with
  | int i =>
    have hf' : (if (decide (i.natAbs.log2 < 1920) && okS (Str.ofString (toString i))) = true then some (Rs.sh (.str (Str.ofString (toString i)))) else none) = some res := hf
    by_cases h : (decide (i.natAbs.log2 < 1920) && okS (Str.ofString (toString i))) = true
    · rw [if_pos h] at hf'
      cases hf'
      rw [Bool.and_eq_true] at h
      exact ⟨i, by rw [Rq.int hx], of_decide_eq_true h.1, hq _ _ (.old (.str _ h.2))⟩
    · rw [if_neg h] at hf'; cases hf'
  | _ => cases hf
end
end ML

/-! ## M22 -/
set_option Elab.async false
set_option linter.all false
set_option autoImplicit false
set_option maxRecDepth 100000
set_option maxHeartbeats 4000000
namespace ML
open PySem PySem.Spec PyProof.Rows L2
section
variable {X : Cx} {W : Wd} {wx : WX} {K : PySem.W.Frag} {H H' : Hp} {σ : L2.St} {δ δ' : List Sl} {π : List Cell} {pos pos' p np : Pos} {body suite : List Stmt} {pb : VSt}
/-! ### try .. except C (no name): the suite knows nothing of the exception -/
def vTry0 (sb : Addr → Bool → Prop) (pb ps : VSt) : VSt := fun E δ =>
  pb ⟨E.nx, E.rt, E.bk, E.ct, fun x δ' => ∃ b, sb x.cls b ∧ (b = true → ps ⟨E.nx, E.rt, E.bk, E.ct, noX⟩ δ') ∧ (b = false → E.ex x δ')⟩ δ
theorem vs_try0 {x : Str} {cv : Value} {b0 : Stmt} {sb : Addr → Bool → Prop} {ps : VSt} (hs : X.stack = X.env :: X.outer) (hf : X.env.frame = some X.env.locals) (hc : Names X x cv) (tk : Takes X wx)
    (hsb : ∀ C b, sb C b → PySem.W.exmOne X.K (.ref C) cv = some b)
    (hb : ∀ (w2 : WX) (pn : List (Addr × Obj)) (xe : Value → Shared → Prop), Takes (X.tr pn xe) w2 → PassesOwn (model X.prog X.w) X.A X.env xe → VSs (X.tr pn xe) W w2 body pb)
    (hsu : ∀ (a : Addr) (oe : Obj) (pn : List (Addr × Obj)), VSs (X.suite a ((a, oe) :: pn)) W wx0 (b0 :: suite) ps) :
    VS X W wx (.Try body [.ExceptHandler (some (.Name x np)) none (b0 :: suite) pos'] [] [] pos) (vTry0 sb pb ps) := by
  refine ⟨PS.imp (ps_try_only (tb := fun w2 => lS X.K W w2 pb) (ts := fun a cls d => lS X.K W wx0 ps) hs hf hc tk (fun w2 pn xe t1 t2 => (hb w2 pn xe t1 t2).ps) (fun a oe cls d pn z1 z2 => (hsu a oe pn).ps)) fun Dd σ H ⟨δ, π, E, s, h, k⟩ => ?_⟩
  refine ⟨δ, π, _, s, h, ⟨k.nx, k.rt, k.bk, k.ct, fun σ1 x1 δ1 q d H1 vs s1 l1 ds1 => ?_⟩⟩
  obtain ⟨bb, q1, q2, q3⟩ := q
  refine ⟨bb, hsb _ _ q1, fun eb a ha => ?_, fun eb => k.ex σ1 _ _ (q3 eb) d H1 vs s1 l1 ds1⟩
  exact ⟨δ1, π, _, s1.drop, q2 eb, ⟨k.nx, k.rt, k.bk, k.ct, fun _ _ _ z => z.elim⟩⟩
end
end ML

/-! ## M23 -/
set_option Elab.async false
set_option linter.all false
set_option autoImplicit false
set_option maxRecDepth 100000
set_option maxHeartbeats 4000000
namespace ML
open PySem PySem.Spec PyProof.Rows L2
/-! ### the ends of a law -/
theorem cx_no {P : Program} {w : World} {o : List Env} {H : Hp} {s : Shared} {u : Value} {s' : Shared} (h : L2.CX P w o H s (fun _ _ _ => False) u s') : False := by
  obtain ⟨_, _, _, _, _, _, _, _, _, _, _, _, h⟩ := h
  exact h
theorem ints_in {K : PySem.W.Frag} {H : Hp} {a : Addr} {ns : List Int} {S : Addr → Prop} (nS : ∀ b, ¬ S b) (h : SqL K H a (ns.map V.int)) : Rp K S H (.ref a) (lkD (ns.map .int)) :=
  .lck (h.elim (fun h => .inl ⟨h, nS a⟩) fun h => .inr (.inr h)) (Rps.ints ns)
theorem law_in {K : PySem.W.Frag} {sem : SemG} {H : Hp} {a : Addr} {ns : List Int} (hS : SqL K H a (ns.map V.int)) (h : sem [.sh (lkD (ns.map .int))] (fun rv _ => rv = .sh (.bool true)) (fun _ _ => False)) :
    spG K 1 sem [V.ref a] H (fun v x => v = V.bl true) (fun _ _ _ => False) := by
  have nS : ∀ b : Addr, ¬ ((fun _ => False : Addr → Prop) b ∨ (fun _ => False : Addr → Prop) b) := fun b z => z.elim (fun z => z) (fun z => z)
  refine ⟨fun _ => False, fun _ => False, [.sh (lkD (ns.map .int))], _, _, rfl, rfl, ⟨fun _ z => z.elim, fun b z => (nS b z).elim, fun _ z => z.elim, fun b o q _ => q, fun b q => q, fun i v d q => ?_, fun i v o q => ?_, fun i v j π p q => ?_, fun i v o b q => ?_, fun i j v o w p b _ q => ?_, fun i v o q => ?_⟩, h, fun rv outs hrv v H' ws lw lo y => ?_, fun _ _ z => z.elim⟩
  · cases i with
    | zero =>
      simp at q
      obtain ⟨rfl, rfl⟩ := q
      exact ⟨_, rfl, ints_in nS hS⟩
    | succ i => simp at q
  · cases i <;> simp at q
  · cases i <;> simp at q
  · cases i <;> simp at q
  · cases i <;> simp at q
  · cases i <;> simp at q
  · subst hrv
    obtain ⟨S, y⟩ := y
    obtain ⟨u, eu, r⟩ := y.sh (ws.zip outs).length _ _ snoc_last
    cases eu
    cases r
    rfl
theorem exm_cls {K : PySem.W.Frag} {C T : Addr} (h1 : PySem.W.subIn K (.ref T) (.type "BaseException") = some true) (h2 : PySem.W.isClsIn K T = true) (h3 : PySem.W.typeIn K (.ref T) = some (.type "type")) (h4 : PySem.W.subIn K (.ref C) (.ref T) = some true) : PySem.W.exmOne K (.ref C) (.ref T) = some true := by
  have h2' : (PySem.W.clsIn K T).isSome = true := h2
  unfold PySem.W.exmOne PySem.W.kitCls
  rw [if_pos (by rw [h1]; rfl)]
  show (if ((PySem.W.clsIn K T).isSome && PySem.W.typeIn K (Value.ref T) == some (Value.type "type")) = true then PySem.W.subIn K (.ref C) (Value.ref T) else none) = _
  rw [if_pos (by rw [h2', h3]; rfl), h4]
theorem kit_cls {K : PySem.W.Frag} {C T : Addr} (h2 : PySem.W.isClsIn K T = true) (h3 : PySem.W.typeIn K (.ref T) = some (.type "type")) (h4 : PySem.W.subIn K (.ref C) (.ref T) = some true) : PySem.W.kitOne K (.ref C) (.ref T) = some true := by
  have h2' : (PySem.W.clsIn K T).isSome = true := h2
  unfold PySem.W.kitOne PySem.W.kitCls
  split
  · rfl
  · show (if ((PySem.W.clsIn K T).isSome && PySem.W.typeIn K (Value.ref T) == some (Value.type "type")) = true then PySem.W.subIn K (.ref C) (Value.ref T) else none) = _
    rw [if_pos (by rw [h2', h3]; rfl), h4]
/-! ### texts as lists of signs -/
abbrev Sx (l : List Nat) : Str := ⟨l.toArray⟩
def tx (l : List Nat) : D := .str (Sx l)
theorem Sx_len (l : List Nat) : (Sx l).length = l.length := List.size_toArray
theorem Sx_inj {l m : List Nat} (h : Sx l = Sx m) : l = m := by
  have := congrArg (fun s : Str => s.cps.toList) h
  simpa using this
theorem Sx_app (l m : List Nat) : Sx l ++ Sx m = Sx (l ++ m) := by
  show Str.mk (l.toArray ++ m.toArray) = _
  rw [List.append_toArray]
theorem tx_len (l : List Nat) : fLen (tx l) = some (.sh (.int l.length)) := by
  show some (Rs.sh (.int ((Sx l).length : Nat))) = _
  rw [Sx_len]
theorem tx_add (l m : List Nat) (h : l.length + m.length ≤ 1000000) : fAdd (tx l) (tx m) = some (.sh (tx (l ++ m))) := by
  show (if (Sx l).length + (Sx m).length ≤ 1000000 then some (Rs.sh (.str (Sx l ++ Sx m))) else none) = _
  rw [Sx_len, Sx_len, if_pos h, Sx_app]
  rfl
def cutL (l : List Nat) (lo hi : Option Int) : List Nat := (l.drop (HT.sIx l.length 0 lo)).take (HT.sIx l.length l.length hi - HT.sIx l.length 0 lo)
theorem tx_sl (l : List Nat) (lo hi : Option Int) : slD (tx l) lo hi = some (.sh (tx (cutL l lo hi))) := by
  show some (Rs.sh (.str (cutT (Sx l) lo hi))) = _
  unfold cutT cutS tx cutL
  rw [Sx_len]
theorem tx_slU (l : List Nat) (h : Int) : fSlU (tx l) (.int h) = some (.sh (tx (cutL l none (some h)))) := tx_sl l none (some h)
theorem tx_slL (l : List Nat) (h : Int) : fSlL (tx l) (.int h) = some (.sh (tx (cutL l (some h) none))) := tx_sl l (some h) none
theorem cutL_to (l : List Nat) (b : Int) (h : 0 ≤ b) : cutL l none (some b) = l.take b.toNat := by
  obtain ⟨n, rfl⟩ := Int.eq_ofNat_of_zero_le h
  unfold cutL
  rw [HT.sIx_none, HT.sIx_nat, List.drop_zero, Nat.sub_zero, Int.toNat_natCast]
  rw [← List.take_take, List.take_length]
theorem cutL_from (l : List Nat) (b : Int) (h : 0 ≤ b) : cutL l (some b) none = l.drop b.toNat := by
  obtain ⟨n, rfl⟩ := Int.eq_ofNat_of_zero_le h
  unfold cutL
  rw [HT.sIx_none, HT.sIx_nat, Int.toNat_natCast]
  by_cases h : n ≤ l.length
  · rw [Nat.min_eq_left h, List.take_of_length_le (by rw [List.length_drop]; exact Nat.le_refl _)]
  · rw [Nat.min_eq_right (by omega), List.drop_of_length_le (i := n) (by omega), List.drop_length, List.take_nil]
theorem cutL_both (l : List Nat) (a b : Int) (h : 0 ≤ a) (h2 : 0 ≤ b) : cutL l (some a) (some b) = (l.take b.toNat).drop a.toNat := by
  obtain ⟨n, rfl⟩ := Int.eq_ofNat_of_zero_le h
  obtain ⟨m, rfl⟩ := Int.eq_ofNat_of_zero_le h2
  unfold cutL
  rw [HT.sIx_nat, HT.sIx_nat, Int.toNat_natCast, Int.toNat_natCast, List.drop_take]
  by_cases h : n ≤ l.length
  · rw [Nat.min_eq_left h]
    by_cases h3 : m ≤ l.length
    · rw [Nat.min_eq_left h3]
    · rw [Nat.min_eq_right (by omega), List.take_of_length_le (by rw [List.length_drop]; exact Nat.le_refl _), List.take_of_length_le (by rw [List.length_drop]; omega)]
  · rw [Nat.min_eq_right (a := n) (by omega), List.drop_length, List.drop_of_length_le (i := n) (by omega), List.take_nil, List.take_nil]
theorem tx_ix (l : List Nat) (i : Int) : fIx (tx l) (.int i) = (L2.atI l i).map fun c => .sh (tx [c]) := by
  show (L2.atI (Sx l).cps.toList i).map (fun c => Rs.sh (.str ⟨#[c]⟩)) = _
  rfl
theorem atI_pos {α : Type} (l : List α) (i : Int) (h : 0 ≤ i) : L2.atI l i = l[i.toNat]? := by
  obtain ⟨n, rfl⟩ := Int.eq_ofNat_of_zero_le h
  rw [Int.toNat_natCast]
  cases e : l[n]? with
  | some x => exact atI_nat e
  | none =>
    have := List.getElem?_eq_none_iff.mp e
    unfold L2.atI ixN
    rw [if_pos h, if_neg (by omega)]
    rfl
theorem atI_negV {α : Type} (l : List α) (i : Int) (h : i < 0) (h2 : -(l.length : Int) ≤ i) : L2.atI l i = l[(i + l.length).toNat]? := by
  unfold L2.atI ixN
  rw [if_neg (by omega), if_pos h2]
  rfl
theorem tx_rev (l : List Nat) : fRev (tx l) = some (.sh (tx l.reverse)) := by
  show some (Rs.sh (.str (revS (Sx l)))) = _
  unfold revS
  rw [show (Sx l).cps.toList = l from rfl]
  rfl
/-! ### equality -/
theorem eqv_tx (l m : List Nat) : PyData.eqv (tx l) (tx m) = decide (l = m) := by
  show PyData.eqv (.str (Sx l)) (.str (Sx m)) = _
  rw [show PyData.eqv (.str (Sx l)) (.str (Sx m)) = decide (Sx l = Sx m) from by simp [PyData.eqv]; rw [Bool.eq_iff_iff]; simp]
  by_cases h : l = m
  · subst h; simp
  · rw [decide_eq_false h, decide_eq_false (fun z => h (Sx_inj z))]
theorem eqv_int (i j : Int) : PyData.eqv (.int i) (.int j) = decide (i = j) := by
  rw [Bool.eq_iff_iff]; simp [PyData.eqv]
theorem eqv_tup2 (a b c d : D) : PyData.eqv (.tuple [a, b]) (.tuple [c, d]) = (PyData.eqv a c && PyData.eqv b d) := by
  simp [PyData.eqv, PyData.eqvAll]
theorem eqv_tup3 (a b c d e f : D) : PyData.eqv (.tuple [a, b, e]) (.tuple [c, d, f]) = (PyData.eqv a c && (PyData.eqv b d && PyData.eqv e f)) := by
  simp [PyData.eqv, PyData.eqvAll]
theorem dep_tx (l : List Nat) : dep (tx l) = true := by simp [dep, noD, noDs, tx, PyData.depth]
theorem dep_int (i : Int) : dep (.int i) = true := by simp [dep, noD, noDs, PyData.depth]
theorem dep_iit (i j : Int) (l : List Nat) : dep (.tuple [.int i, .int j, tx l]) = true := by simp [dep, noD, noDs, tx, PyData.depth, PyData.depthAll]
theorem dep_ii (i j : Int) : dep (.tuple [.int i, .int j]) = true := by simp [dep, noD, noDs, PyData.depth, PyData.depthAll]
theorem fEq_tx (l m : List Nat) : fEq (tx l) (tx m) = some (.sh (.bool (decide (l = m)))) := by
  unfold fEq; rw [dep_tx, dep_tx, eqv_tx]; rfl
theorem fNe_tx (l m : List Nat) : fNe (tx l) (tx m) = some (.sh (.bool (!decide (l = m)))) := by
  unfold fNe; rw [dep_tx, dep_tx, eqv_tx]; rfl
theorem fEq_int (l m : Int) : fEq (.int l) (.int m) = some (.sh (.bool (decide (l = m)))) := by
  unfold fEq; rw [dep_int, dep_int, eqv_int]; rfl
theorem fNe_int (l m : Int) : fNe (.int l) (.int m) = some (.sh (.bool (!decide (l = m)))) := by
  unfold fNe; rw [dep_int, dep_int, eqv_int]; rfl
theorem fNe_ii (i j k l : Int) : fNe (.tuple [.int i, .int j]) (.tuple [.int k, .int l]) = some (.sh (.bool (!(decide (i = k) && decide (j = l))))) := by
  unfold fNe; rw [dep_ii, dep_ii, eqv_tup2, eqv_int, eqv_int]; rfl
theorem fNe_iit (i j k l : Int) (s t : List Nat) : fNe (.tuple [.int i, .int j, tx s]) (.tuple [.int k, .int l, tx t]) = some (.sh (.bool (!(decide (i = k) && (decide (j = l) && decide (s = t)))))) := by
  unfold fNe; rw [dep_iit, dep_iit, eqv_tup3, eqv_int, eqv_int, eqv_tx]; rfl
theorem tru_bool (b : Bool) : truD (.bool b) = some b := rfl
/-! ### join of signs -/
theorem joinE : ∀ ps : List (List Nat), TL.joinL [] ps = ps.flatten
  | [] => rfl
  | [p] => by simp [TL.joinL]
  | p :: q :: r => by
    show p ++ ([] ++ TL.joinL [] (q :: r)) = _
    rw [joinE (q :: r)]
    rfl
theorem strs_tx : ∀ ls : List (List Nat), strs? (ls.map tx) = some (ls.map Sx)
  | [] => rfl
  | l :: ls => by
    rw [List.map_cons, show strs? (tx l :: ls.map tx) = (strs? (ls.map tx)).map (Sx l :: ·) from rfl, strs_tx ls]
    rfl
theorem tx_join (ls : List (List Nat)) (h : (ls.map List.length).sum ≤ 1000000) : fJoin (Str.ofString "") (.list (ls.map tx)) = some (.sh (tx ls.flatten)) := by
  unfold fJoin
  show (strs? (ls.map tx)).bind _ = _
  rw [strs_tx]
  show (if ((ls.map Sx).map (·.length)).sum + (ls.map Sx).length * (Str.ofString "").length ≤ 1000000 then some (Rs.sh (.str (joinS (Str.ofString "") (ls.map Sx)))) else none) = _
  have e0 : (Str.ofString "").length = 0 := by decide +kernel
  have e1 : (ls.map Sx).map (·.length) = ls.map List.length := by
    rw [List.map_map]
    exact List.map_congr_left fun l _ => Sx_len l
  rw [e0, Nat.mul_zero, Nat.add_zero, e1, if_pos h]
  congr 2
  unfold tx
  congr 1
  have hc := joinS_codes (Str.ofString "") (ls.map Sx)
  have e2 : (Str.ofString "").cps.toList = [] := by decide +kernel
  rw [e2, joinE] at hc
  have e3 : (ls.map Sx).map (fun y => y.cps.toList) = ls := by
    rw [List.map_map]
    exact (List.map_congr_left fun l _ => rfl).trans (List.map_id ls)
  rw [e3] at hc
  have : joinS (Str.ofString "") (ls.map Sx) = Sx ((joinS (Str.ofString "") (ls.map Sx)).cps.toList) := rfl
  rw [this, hc]
theorem tx_ixn (l : List Nat) (k : Nat) : fIx (tx l) (.int (k : Int)) = (l[k]?).map fun c => .sh (tx [c]) := by
  rw [tx_ix, atI_pos _ _ (Int.natCast_nonneg k), Int.toNat_natCast]
def slotInt (δ : List Sl) (i : Nat) : Int := match δ[i]? with
  | some (.sh (.int k)) => k
  | _ => 0
def cp : List Nat → List Nat → Nat
  | x :: xs, y :: ys => if x = y then cp xs ys + 1 else 0
  | _, _ => 0
theorem cp_le : ∀ x y, cp x y ≤ x.length ∧ cp x y ≤ y.length
  | [], y => by simp [cp]
  | x :: xs, [] => by simp [cp]
  | x :: xs, y :: ys => by
    have := cp_le xs ys
    unfold cp
    split <;> simp <;> omega
theorem cp_at : ∀ x y k, k < cp x y → x[k]? = y[k]?
  | [], y, k, h => by simp [cp] at h
  | x :: xs, [], k, h => by simp [cp] at h
  | x :: xs, y :: ys, k, h => by
    unfold cp at h
    split at h
    · rename_i e
      subst e
      cases k with
      | zero => simp
      | succ k => simpa using cp_at xs ys k (by omega)
    · omega
theorem cp_end : ∀ x y, cp x y < x.length → cp x y < y.length → x[cp x y]? ≠ y[cp x y]?
  | [], y, h, _ => by simp at h
  | x :: xs, [], _, h => by simp at h
  | x :: xs, y :: ys, h1, h2 => by
    by_cases e : x = y
    · subst e
      have e2 : cp (x :: xs) (x :: ys) = cp xs ys + 1 := by rw [cp, if_pos rfl]
      rw [e2] at h1 h2 ⊢
      simp at h1 h2 ⊢
      exact cp_end xs ys h1 h2
    · have e2 : cp (x :: xs) (y :: ys) = 0 := by rw [cp, if_neg e]
      rw [e2]
      simpa using e
theorem cp_iff {x y : List Nat} {k : Nat} (hk : k ≤ cp x y) (h1 : k < x.length) (h2 : k < y.length) : x[k] = y[k] ↔ k < cp x y := by
  constructor
  · intro e
    by_cases h : k < cp x y
    · exact h
    · have ek : k = cp x y := by omega
      subst ek
      exact absurd (by rw [List.getElem?_eq_getElem h1, List.getElem?_eq_getElem h2, e]) (cp_end x y h1 h2)
  · intro h
    have := cp_at x y k h
    rw [List.getElem?_eq_getElem h1, List.getElem?_eq_getElem h2] at this
    exact Option.some.inj this
theorem vWh_by {c : VTt} {pb : VSt} {E : En} {δ : List Sl} (I : List Sl → Prop) (μ : List Sl → Nat) (h0 : I δ) (hs : ∀ δ1, I δ1 → c δ1 (fun b δ2 => if b = true then pb ⟨fun δ' => I δ' ∧ μ δ' < μ δ1, E.rt, E.nx, fun δ' => I δ' ∧ μ δ' < μ δ1, E.ex⟩ δ2 else E.nx δ2) E.ex) : vWh c pb E δ := ⟨I, μ, h0, hs⟩
theorem tup3_0 (a b c : D) : fIx (.tuple [a, b, c]) (.int 0) = some (.sh a) := rfl
theorem tup3_1 (a b c : D) : fIx (.tuple [a, b, c]) (.int 1) = some (.sh b) := rfl
theorem tup3_2 (a b c : D) : fIx (.tuple [a, b, c]) (.int 2) = some (.sh c) := rfl
theorem lst2_0 (a b : D) : fIx (.list [a, b]) (.int 0) = some (.sh a) := rfl
theorem lst2_1 (a b : D) : fIx (.list [a, b]) (.int 1) = some (.sh b) := rfl
def LC (g : D → List Sl → Option (List Sl)) (cond : VTt) (te : VT) (vs : List Nat) (its : List D) (δ1 : List Sl) (Q : Sl → List Sl → Prop) : Prop := its.length ≤ 1000000 ∧ ∃ I : Nat → List D → List Sl → Prop, I 0 [] (wipeD δ1 vs) ∧
  (∀ k d acc δ2, its[k]? = some d → acc.length ≤ k → I k acc δ2 → ∃ δ3, g d δ2 = some δ3 ∧ cond δ3 (fun b δ4 => if b = true then te δ4 (fun rv δ5 => rv.isIn = true ∧ I (k + 1) (acc ++ [rv.get]) (wipeD δ5 vs)) noX else I (k + 1) acc (wipeD δ4 vs)) noX) ∧
  ∀ acc δ2, I its.length acc δ2 → ∀ p, Q (.ow (Ot.flat p acc)) δ2
def FO (g : D → List Sl → Option (List Sl)) (pb : VSt) (E : En) (its : List D) (δ1 : List Sl) : Prop := ∃ I : Nat → List Sl → Prop, I 0 δ1 ∧
  (∀ k d δ2, its[k]? = some d → I k δ2 → ∃ δ3, g d δ2 = some δ3 ∧ pb ⟨I (k + 1), E.rt, E.nx, I (k + 1), E.ex⟩ δ3) ∧ ∀ δ2, I its.length δ2 → E.nx δ2
theorem vLc_eq (it : VTs) (g : D → List Sl → Option (List Sl)) (cond : VTt) (te : VT) (vs : List Nat) (δ : List Sl) (Q : Sl → List Sl → Prop) (Xc : Exn → List Sl → Prop) : vLc it g cond te vs δ Q Xc = it δ (fun its δ1 => LC g cond te vs its δ1 Q) Xc := rfl
theorem vFor_eq (it : VTs) (g : D → List Sl → Option (List Sl)) (pb : VSt) (E : En) (δ : List Sl) : vFor it g pb E δ = it δ (fun its δ1 => FO g pb E its δ1) E.ex := rfl
theorem LC_by {g : D → List Sl → Option (List Sl)} {cond : VTt} {te : VT} {vs : List Nat} {its : List D} {δ1 : List Sl} {Q : Sl → List Sl → Prop} (I : Nat → List D → List Sl → Prop) (hl : its.length ≤ 1000000) (h0 : I 0 [] (wipeD δ1 vs))
    (hs : ∀ k d acc δ2, its[k]? = some d → acc.length ≤ k → I k acc δ2 → ∃ δ3, g d δ2 = some δ3 ∧ cond δ3 (fun b δ4 => if b = true then te δ4 (fun rv δ5 => rv.isIn = true ∧ I (k + 1) (acc ++ [rv.get]) (wipeD δ5 vs)) noX else I (k + 1) acc (wipeD δ4 vs)) noX)
    (he : ∀ acc δ2, I its.length acc δ2 → ∀ p, Q (.ow (Ot.flat p acc)) δ2) : LC g cond te vs its δ1 Q := ⟨hl, I, h0, hs, he⟩
theorem FO_by {g : D → List Sl → Option (List Sl)} {pb : VSt} {E : En} {its : List D} {δ1 : List Sl} (I : Nat → List Sl → Prop) (h0 : I 0 δ1)
    (hs : ∀ k d δ2, its[k]? = some d → I k δ2 → ∃ δ3, g d δ2 = some δ3 ∧ pb ⟨I (k + 1), E.rt, E.nx, I (k + 1), E.ex⟩ δ3) (he : ∀ δ2, I its.length δ2 → E.nx δ2) : FO g pb E its δ1 := ⟨I, h0, hs, he⟩
theorem rngD_len (lo : Int) (n : Nat) : (rngD lo n).length = n := by unfold rngD; rw [List.length_map, List.length_range]
theorem leaves_tx (ls : List (List Nat)) : leaves? (ls.map (Ot.leaf ∘ tx)) = some (ls.map tx) := by
  rw [← List.map_map, leaves_map]
theorem tup3_to2 (a b c : D) : fSlU (.tuple [a, b, c]) (.int 2) = some (.sh (.tuple [a, b])) := rfl
theorem cutL_fromN (l : List Nat) (b : Nat) : cutL l (some (b : Int)) none = l.drop b := by
  rw [cutL_from _ _ (Int.natCast_nonneg b), Int.toNat_natCast]
theorem fAug_int (i j : Int) : fAug (.int i) (.int j) = some (.sh (.int (i + j))) := rfl
theorem fAdd_int (i j : Int) : fAdd (.int i) (.int j) = some (.sh (.int (i + j))) := rfl
theorem LO_by {it : VTs} {g : D → List Sl → Option (List Sl)} {cond : VTt} {te : VT} {vs : List Nat} {δ1 : List Sl} : True := trivial
def LO (g : D → List Sl → Option (List Sl)) (cond : VTt) (te : VT) (vs : List Nat) (its : List D) (δ1 : List Sl) (Q : Sl → List Sl → Prop) : Prop := its.length ≤ 1000000 ∧ ∃ I : Nat → List Ot → List Sl → Prop, I 0 [] (wipeD δ1 vs) ∧
  (∀ k d acc δ2, its[k]? = some d → acc.length ≤ k → I k acc δ2 → ∃ δ3, g d δ2 = some δ3 ∧ cond δ3 (fun b δ4 => if b = true then te δ4 (fun rv δ5 => ∃ o, rv.ot = some o ∧ I (k + 1) (acc ++ [o]) (wipeD δ5 vs)) noX else I (k + 1) acc (wipeD δ4 vs)) noX) ∧
  ∀ acc δ2, I its.length acc δ2 → ∀ p, Q (.ow (.lst p acc)) δ2
theorem vLcO_eq (it : VTs) (g : D → List Sl → Option (List Sl)) (cond : VTt) (te : VT) (vs : List Nat) (δ : List Sl) (Q : Sl → List Sl → Prop) (Xc : Exn → List Sl → Prop) : vLcO it g cond te vs δ Q Xc = it δ (fun its δ1 => LO g cond te vs its δ1 Q) Xc := rfl
/-! ### literal texts, numbers, other data, compared -/
theorem dep_str (a : Str) : dep (.str a) = true := by simp [dep, noD, PyData.depth]
theorem dep_non : dep .none = true := by simp [dep, noD, PyData.depth]
theorem dep_bool (b : Bool) : dep (.bool b) = true := by simp [dep, noD, PyData.depth]
theorem fEq_str (a b : Str) : fEq (.str a) (.str b) = some (.sh (.bool (decide (a = b)))) := by
  unfold fEq; rw [dep_str, dep_str]; simp [PyData.eqv]
  by_cases h : a = b <;> simp [h]
theorem fNe_str (a b : Str) : fNe (.str a) (.str b) = some (.sh (.bool (!decide (a = b)))) := by
  unfold fNe; rw [dep_str, dep_str]; simp [PyData.eqv]
  by_cases h : a = b <;> simp [h]
theorem fEq_bool (a b : Bool) : fEq (.bool a) (.bool b) = some (.sh (.bool (decide (a = b)))) := by
  unfold fEq; rw [dep_bool, dep_bool]; simp [PyData.eqv]
  cases a <;> cases b <;> rfl
theorem fEq_is (i : Int) (a : Str) : fEq (.int i) (.str a) = some (.sh (.bool false)) := by
  unfold fEq; rw [dep_int, dep_str]; rfl
theorem fEq_si (i : Int) (a : Str) : fEq (.str a) (.int i) = some (.sh (.bool false)) := by
  unfold fEq; rw [dep_int, dep_str]; rfl
theorem eqv_str (a b : Str) : PyData.eqv (.str a) (.str b) = decide (a = b) := by
  simp [PyData.eqv]
  by_cases h : a = b <;> simp [h]
end ML

/-! ## M24 -/
set_option Elab.async false
set_option linter.all false
set_option autoImplicit false
set_option maxRecDepth 100000
set_option maxHeartbeats 4000000
namespace ML
open PySem PySem.Spec PyProof.Rows L2
theorem hu2 {k : Nat} {A : Around} (hr : Room k A) : A.units + 1 < cLine := by
  have := hr.un
  omega
section
variable {X : Cx} {W : Wd} {wx : WX} {K : PySem.W.Frag} {H H' : Hp} {σ : L2.St} {δ δ' : List Sl} {π : List Cell} {a b : Expr} {pos : Pos} {S : Addr → Prop}
/-! ### in a tuple of texts, numbers .. -/
def inT (d e : D) : Option Bool := match e with
  | .tuple es => if (atom d && es.all atom) = true then some (es.any fun z => PyData.eqv z d) else none
  | _ => none
def fInT (d e : D) : Option Rs := (inT d e).map fun q => .sh (.bool q)
def fNotInT (d e : D) : Option Rs := (inT d e).map fun q => .sh (.bool (!q))
theorem atom_v {v : V} {d : D} (n : atom d = true) (h : Rp K S H v d) : flatV v = true := by
  cases d <;> first | (cases n; done) | (cases h; rfl)
theorem atoms_v : ∀ {vs : List V} {ds : List D}, ds.all atom = true → Rps K S H vs ds → vs.all flatV = true
  | _, [], _, h => by cases h; rfl
  | _, d :: ds, n, h => by
    cases h with
    | cons h1 h2 =>
      rw [List.all_cons, Bool.and_eq_true] at n
      rw [List.all_cons, atom_v n.1 h1, atoms_v n.2 h2]; rfl
theorem eqv_v {v u : V} {d e : D} (n : atom d = true) (m : atom e = true) (h : Rp K S H v d) (q : Rp K S H u e) : eqV v u = PyData.eqv d e := by
  cases d <;> first | (cases n; done) | skip
  all_goals cases e <;> first | (cases m; done) | skip
  all_goals cases h
  all_goals cases q
  all_goals first | rfl | (simp [eqV, PyData.eqv]; done) | (simp [eqV, PyData.eqv]; rw [Bool.eq_iff_iff]; simp; done)
theorem in_v {v : V} {d : D} (n : atom d = true) (h : Rp K S H v d) : ∀ {vs : List V} {ds : List D}, ds.all atom = true → Rps K S H vs ds → inV v vs = ds.any fun z => PyData.eqv z d
  | _, [], _, q => by cases q; rfl
  | _, e :: ds, m, q => by
    cases q with
    | cons h1 h2 =>
      rw [List.all_cons, Bool.and_eq_true] at m
      unfold inV
      rw [List.any_cons, List.any_cons, eqv_v m.1 n h1 h]
      rw [← in_v n h m.2 h2]; rfl
theorem snd_inT : SndN2 true K (rIn K false) fInT := by
  intro S H x y d e res Q hx hy hf hq
  obtain ⟨q, hb, rfl⟩ := Option.map_eq_some_iff.mp hf
  cases e with
  | tuple es =>
    have hb' : (if (atom d && es.all atom) = true then some (es.any fun z => PyData.eqv z d) else none) = some q := hb
    by_cases c : (atom d && es.all atom) = true
    · rw [if_pos c] at hb'
      cases hb'
      rw [Bool.and_eq_true] at c
      have rx := Rr.rp (m := true) c.1 hx
      obtain ⟨p, xs, rfl, h1, _, h2⟩ := RqA.tup hy
      have h2 := h2 c.2
      refine ⟨p, xs, rfl, .inr h1, atom_v c.1 rx, atoms_v c.2 h2, hq _ _ (.old ?_)⟩
      show Rp K S H (.bl (inV x xs)) _
      rw [in_v c.1 rx c.2 h2]
      exact .bl _
    · rw [if_neg c] at hb'; cases hb'
  | _ => cases hb
theorem snd_notInT : SndN2 true K (rIn K true) fNotInT := by
  intro S H x y d e res Q hx hy hf hq
  obtain ⟨q, hb, rfl⟩ := Option.map_eq_some_iff.mp hf
  cases e with
  | tuple es =>
    have hb' : (if (atom d && es.all atom) = true then some (es.any fun z => PyData.eqv z d) else none) = some q := hb
    by_cases c : (atom d && es.all atom) = true
    · rw [if_pos c] at hb'
      cases hb'
      rw [Bool.and_eq_true] at c
      have rx := Rr.rp (m := true) c.1 hx
      obtain ⟨p, xs, rfl, h1, _, h2⟩ := RqA.tup hy
      have h2 := h2 c.2
      refine ⟨p, xs, rfl, .inr h1, atom_v c.1 rx, atoms_v c.2 h2, hq _ _ (.old ?_)⟩
      show Rp K S H (.bl (!inV x xs)) _
      rw [in_v c.1 rx c.2 h2]
      exact .bl _
    · rw [if_neg c] at hb'; cases hb'
  | _ => cases hb
/-! ### sorted({x[i], x[j]}) -/
/-- an expression that leaves the heap -/
def calmE (R : L2.St → Hp → V → Prop) : TE := fun σ H Q => ∃ v, R σ H v ∧ Q v H
def ixR (K : PySem.W.Frag) (i : Nat) (k : Int) : L2.St → Hp → V → Prop := fun σ H v => ∃ p xs, σ[i]? = some (some (.ref p)) ∧ SqT K H p xs ∧ L2.atI xs k = some v
theorem pe_ixK (i : Nat) {k : Int} {kk : Nat} {x : Str} {p1 p2 : Pos} (hN : X.N[i]? = some x := by rfl) (hv : Vis X.env.scope x := by first | exact Or.inl rfl | exact Or.inr (Or.inl rfl) | exact Or.inr (Or.inr rfl))
    (hd : (x == ("__debug__" : Str)) = false := by decide) (hcd : (x == ("__classdict__" : Str)) = false := by decide) (hs : PlainIx (.Constant (.int k) kk p2) := by exact fun _ _ => rfl) :
    PE X (.Subscript (.Name x p1) (.Constant (.int k) kk p2) pos) (calmE (ixR X.K i k)) :=
  PE.imp (pe_ix ix_seq (pe_var hN hv hd hcd) pe_int hs) fun σ H Q h => by
    obtain ⟨v, ⟨p, xs, h1, h2, h3⟩, q⟩ := h
    exact ⟨.ref p, h1, .inr (.inl ⟨p, xs, k, v, rfl, rfl, h2, h3, q⟩)⟩
theorem set_put {A : Around} {E : Value → Shared → Prop} {s : Shared} {p : Addr} {T : Int → Bool} {n : Nat} {k : Int} {tk : Tok} {Q : Bool → Shared → Prop} (R : SetR X.w s.heap p T n) (room : n + 1 < scanBound)
    (q : ∀ h', Heap.SameBut p s.heap h' → SetR X.w h' p (fun j => T j || decide (j = k)) (if T k = true then n else n + 1) → Q (!T k) { s with heap := h', toks := s.toks + 1 }) :
    wpAny (model X.prog X.w) A (setAdd p (.int k tk)) Q E s := by
  unfold setAdd
  refine wpAny_holding (wpAny_bind ((intKind X.prog X.w).pyHash (intKind_is X.prog X.w k tk) ?_))
  exact setR_add_hashed (s := { s with toks := s.toks + 1 }) R room q
theorem set_fresh {A : Around} {E : Value → Shared → Prop} {s : Shared} {Q : Value → Shared → Prop} (q : ∀ h', (∀ b u, s.heap.get? b = some u → h'.get? b = some u) → SetR X.w h' s.heap.objs.size (fun _ => false) 0 → Q (.ref s.heap.objs.size) { s with heap := h' }) :
    wpAny (model X.prog X.w) A (newSet (.type "set")) Q E s := by
  unfold newSet setsByText
  refine wpAny_bind ?_
  refine wpAny_bind (wpAny_askSetting (wpAny_pure ?_))
  simp only [newObj]
  refine wpAny_bind (wpAny_alloc ?_)
  exact wpAny_pure (q _ (fun b u z => Heap.get?_push_of_some _ z) (setR_fresh X.w))
def two (i j : Int) : Nat := if j = i then 1 else 2
/-- {a, b} of two numbers -/
theorem pe_set2 {R1 R2 : L2.St → Hp → V → Prop} (ha : PE X a (calmE R1)) (hb : PE X b (calmE R2)) (hcd : PySem.W.kdsCode X.K X.env.code = true) (hp : [a, b].all PySem.W.kdsPlain = true) :
    PE X (.Set [a, b] 0 pos) (fun σ H Q => ∃ i j : Int, (∀ p u, H p = none → R1 σ (upd H p u) (.int i) ∧ R2 σ (upd H p u) (.int j)) ∧
      ∀ p T u, H p = none → (∀ k, T k = true ↔ k = i ∨ k = j) → Q (.ref p) (upd (upd H p u) p (SetO X.w p T (two i j)))) := by
  refine ⟨fun pins s σ H Q I h => ?_⟩
  obtain ⟨i, j, h1, h2⟩ := h
  rw [arm_eval_Set]
  refine wpAny_bind (wpAny_standAt ?_)
  refine wpAny_bind (PySem.W.kds_main I.kIn hcd fun c => ?_)
  rw [PySem.W.kds_star [a, b] hp, List.map_map]
  have eR : displayRoad 0 [a, b] = DisplayRoad.oneByOne := rfl
  rw [eR]
  have fi : (List.map ((fun x : Bool × Sem Value => (x.1, do let v ← x.2; standAt pos; pure v)) ∘ fun t => (false, t)) (evalEach [a, b] X.env)).findIdx? (·.1) = none := by
    refine List.findIdx?_eq_none_iff.mpr fun x hx => ?_
    obtain ⟨t, _, rfl⟩ := List.mem_map.mp hx
    rfl
  have ln : (List.map ((fun x : Bool × Sem Value => (x.1, do let v ← x.2; standAt pos; pure v)) ∘ fun t => (false, t)) (evalEach [a, b] X.env)).length = 2 := by
    rw [List.length_map, PySem.W.kds_len]; rfl
  unfold setDisplay
  rw [if_neg (by decide)]
  refine wpAny_bind (set_fresh fun h' kp R0 => ?_)
  dsimp only
  have I1 : Inv X pins σ (upd H s.heap.objs.size (SetO X.w s.heap.objs.size (fun _ => false) 0)) { s with heap := h' } := I.laid (t' := s.toks) kp (Nat.le_refl _) (setO_new R0)
  have hn : H s.heap.objs.size = none := I.hok.fresh (Nat.le_refl _)
  obtain ⟨r1, r2⟩ := h1 _ (SetO X.w s.heap.objs.size (fun _ => false) 0) hn
  rw [fi, ln, if_neg (by omega), Option.getD_none, List.take_of_length_le (by rw [ln]; exact Nat.le_refl _), List.drop_of_length_le (by rw [ln]; exact Nat.le_refl _), List.map_map]
  refine wpAny_bind (wpAny_holding ?_)
  refine wpAny_bind (thn (PySem.W.kds_all pos [a, b] _ (fun vs s' => ∃ t1 t2, vs = [.int i t1, .int j t2] ∧ Inv X pins σ (upd H s.heap.objs.size (SetO X.w s.heap.objs.size (fun _ => false) 0)) s') ?_) fun vs s2 hv => ?_)
  · show wpAny _ _ (eval a X.env) _ _ _
    refine thn (ha.run pins _ σ _ (fun v H2 => v = .int i ∧ H2 = upd H s.heap.objs.size (SetO X.w s.heap.objs.size (fun _ => false) 0)) I1 ⟨_, r1, rfl, rfl⟩) fun v s2 hv => ?_
    obtain ⟨x, H2, I2, rx, e1, e2⟩ := hv
    subst e1 e2
    obtain ⟨t1, rfl⟩ := rx
    show wpAny _ _ (eval b X.env) _ _ _
    refine thn (hb.run pins _ σ _ (fun v H2 => v = .int j ∧ H2 = upd H s.heap.objs.size (SetO X.w s.heap.objs.size (fun _ => false) 0)) I2 ⟨_, r2, rfl, rfl⟩) fun v s3 hv => ?_
    obtain ⟨x, H3, I3, rx, e1, e2⟩ := hv
    subst e1 e2
    obtain ⟨t2, rfl⟩ := rx
    exact ⟨t1, t2, rfl, I3⟩
  · obtain ⟨t1, t2, rfl, I2⟩ := hv
    refine wpAny_bind (wpAny_holding ?_)
    have fill : PySem.W.KdsFill (model X.prog X.w) X.A X.xe false s.heap.objs.size (EP X pins σ Q) [.int i t1, .int j t2] s2 := by
      refine PySem.W.kds_fill_cons (set_put (setO_get I2 (upd_same ..)) (by decide) fun hA sbA RA => ?_)
      have I3 : Inv X pins σ _ { s2 with heap := hA, toks := s2.toks + 1 } := I2.write (e := s.heap.objs.size) (t' := s2.toks + 1) (by rw [upd_same]; trivial) (.inl rfl) (fun b u z1 z2 => (sbA.2 b z1).trans z2) (by obtain ⟨o, _, _, _, ho, _⟩ := RA; exact ⟨o, ho⟩) (setO_new RA)
      refine PySem.W.kds_fill_cons (set_put (setO_get I3 (upd_same ..)) (by decide) fun hB sbB RB => ?_)
      have I4 : Inv X pins σ _ { s2 with heap := hB, toks := s2.toks + 1 + 1 } := I3.write (e := s.heap.objs.size) (t' := s2.toks + 1 + 1) (by rw [upd_same]; trivial) (.inl rfl) (fun b u z1 z2 => (sbB.2 b z1).trans z2) (by obtain ⟨o, _, _, _, ho, _⟩ := RB; exact ⟨o, ho⟩) (setO_new RB)
      refine PySem.W.kds_fill_nil rfl ⟨.ref s.heap.objs.size, _, I4, rfl, ?_⟩
      have q := h2 s.heap.objs.size (fun k => (false || decide (k = i)) || decide (k = j)) (SetO X.w s.heap.objs.size (fun _ => false) 0) hn (fun k => by simp)
      rw [L2.upd_upd] at q ⊢
      rw [L2.upd_upd]
      have e0 : (if (false || decide (j = i)) = true then (if false = true then 0 else 0 + 1) else (if false = true then 0 else 0 + 1) + 1) = two i j := by
        unfold two
        by_cases z : j = i <;> simp [z]
      rw [← e0] at q
      exact q
    refine wpAny_bind (thn (PySem.W.kds_for (fun x P s hx => ?_) _ s2 fill) fun _ s1 h1 => ?_)
    · refine wpAny_bind (thn hx fun _ s2 h2 => ?_)
      first | exact wpAny_pure ⟨rfl, h2⟩ | exact wpAny_bind (wpAny_pure (wpAny_pure ⟨rfl, h2⟩))
    · have h2 : EP X pins σ Q (.ref s.heap.objs.size) s1 := by simpa [PySem.W.KdsFill] using h1
      rw [if_neg (by decide)]
      refine wpAny_pure ?_
      rw [List.forIn_nil]
      exact wpAny_pure (wpAny_pure h2)
/-- sorted({a, b}) -/
def srt2 (i j : Int) : List Int := if j = i then [i] else if i < j then [i, j] else [j, i]
theorem srt2_of {i j : Int} {ns : List Int} (s : ns.Pairwise (· < ·)) (m : ∀ k, k ∈ ns ↔ (k = i ∨ k = j)) (l : ns.length = two i j) : ns = srt2 i j := by
  unfold two at l
  unfold srt2
  by_cases z : j = i
  · rw [if_pos z] at l ⊢
    subst z
    obtain ⟨x, rfl⟩ := List.length_eq_one_iff.mp l
    have := (m x).mp (by simp)
    rcases this with rfl | rfl <;> rfl
  · rw [if_neg z] at l ⊢
    obtain ⟨x, y, rfl⟩ := len2 l
    have hxy : x < y := by simpa using s
    have h1 := (m x).mp (by simp)
    have h2 := (m y).mp (by simp)
    have h3 := (m i).mpr (.inl rfl)
    have h4 := (m j).mpr (.inr rfl)
    simp at h3 h4
    by_cases c : i < j
    · rw [if_pos c]
      have e1 : x = i := by omega
      have e2 : y = j := by omega
      rw [e1, e2]
    · rw [if_neg c]
      have e1 : x = j := by omega
      have e2 : y = i := by omega
      rw [e1, e2]
theorem pe_srt2 {R1 R2 : L2.St → Hp → V → Prop} {pn ps : Pos} (hc : X.calm = true) (hcd : PySem.W.kdsCode X.K X.env.code = true) (hm : X.mg "sorted" = none) (ha : PE X a (calmE R1)) (hb : PE X b (calmE R2)) (hp : [a, b].all PySem.W.kdsPlain = true)
    (hg : Gl X "sorted" := by rfl) (he : starEach [.Set [a, b] 0 ps] X.env = (false, eval (.Set [a, b] 0 ps) X.env) :: starEach [] X.env := by rfl) :
    PE X (.Call (.Name "sorted" pn) [.Set [a, b] 0 ps] [] pos) (fun σ H Q => ∃ i j : Int, (∀ p u, H p = none → R1 σ (upd H p u) (.int i) ∧ R2 σ (upd H p u) (.int j)) ∧
      ∀ p (H2 : Hp), (∀ b o, H b = some o → H2 b = some o) → H2 p = none → Q (.ref p) (upd H2 p (.lst ((srt2 i j).map V.int)))) :=
  PE.imp (pe_callB (cr_sortedSet hc) hg hm (by decide +kernel) (pa_cons (pe_set2 ha hb hcd hp) pa_nil he)) fun σ H Q h => by
    obtain ⟨i, j, h1, h2⟩ := h
    refine ⟨i, j, h1, fun p T u hn hT => ?_⟩
    rw [L2.upd_upd]
    refine ⟨p, T, two i j, rfl, upd_same, by unfold two; split <;> omega, fun ns q hs hk hl hq => ?_⟩
    rw [srt2_of hs (fun k => (hk k).trans (hT k)) hl]
    exact h2 q _ (upd_grow hn) hq
/-- sorted({x[i], x[j]}) of a tuple x -/
def vSrt2 (s : Nat) (k l : Int) : VT := fun δ Q _ => ∃ ds i j, δ[s]? = some (.sh (.tuple ds)) ∧ L2.atI ds k = some (.int i) ∧ L2.atI ds l = some (.int j) ∧ ∀ p, Q (.ow (Ot.flat p ((srt2 i j).map .int))) δ
theorem ve_srt2 (s : Nat) {k l : Int} {k1 k2 : Nat} {x : Str} {p1 p2 p3 p4 p5 p6 pn ps : Pos} (hc : X.calm = true) (hcd : PySem.W.kdsCode X.K X.env.code = true) (hm : X.mg "sorted" = none) (hN : X.N[s]? = some x := by rfl)
    (hv : Vis X.env.scope x := by first | exact Or.inl rfl | exact Or.inr (Or.inl rfl) | exact Or.inr (Or.inr rfl)) (hd : (x == ("__debug__" : Str)) = false := by decide) (hcl : (x == ("__classdict__" : Str)) = false := by decide) (hg : Gl X "sorted" := by rfl) :
    VE X W wx (.Call (.Name "sorted" pn) [.Set [.Subscript (.Name x p1) (.Constant (.int k) k1 p2) p3, .Subscript (.Name x p4) (.Constant (.int l) k2 p5) p6] 0 ps] [] pos) (vSrt2 s k l) := by
  refine ⟨PE.imp (pe_srt2 hc hcd hm (pe_ixK s hN hv hd hcl) (pe_ixK s hN hv hd hcl) rfl hg rfl) fun σ H Q h => ?_⟩
  obtain ⟨δ, π, Qd, Xd, st, ⟨ds, i, j, h1, h2, h3, h4⟩, kk, _⟩ := h
  obtain ⟨w, e1, e2⟩ := st.cell h1
  obtain ⟨S, y⟩ := st.st
  obtain ⟨v, rfl, r⟩ := y.sh s w _ e2
  cases r with
  | @tup p xs _ r1 r2 =>
    obtain ⟨v1, g1, q1⟩ := Rps.atI r2 h2
    obtain ⟨v2, g2, q2⟩ := Rps.atI r2 h3
    cases q1
    cases q2
    refine ⟨i, j, fun p' u hn => ?_, fun p' H2 kp hq => ?_⟩
    · have ev : Ev S H S (upd H p' u) := ⟨fun b o q _ => upd_grow hn b o q, fun b hb => .inl hb⟩
      exact ⟨⟨p, xs, e1, (r1.ev ev).sq, g1⟩, ⟨p, xs, e1, (r1.ev ev).sq, g2⟩⟩
    · have z := (y.grow kp).newL hq (Rps.ints (srt2 i j))
      rw [List.append_assoc] at z
      exact kk _ _ (h4 p') _ _ ⟨st.len, _, z⟩
/-! ### name = [..] on one line -/
variable {tg iter elt : Expr} {ifs : List Expr} {te : VT}
theorem vs_setLc {i : Nat} {x : Str} {px spos : Pos} {scope : Scope} {own : List (Str × Nat)} {it : VTs} {ws : List Nat} {g : D → List Sl → Option (List Sl)} {tc : VTt} (hc : X.calm = true) (hN : X.N.Nodup) (hx : X.N[i]? = some x) (hxl : X.env.scope.names.lookup x = some .local)
    (hsw : swapsWith (.ListComp elt [⟨tg, iter, ifs, 0⟩] scope pos) (some (.Name x px)) spos.line X.env = pure true) (hi : VI X W wx tg iter it) (ok : BlkOk X.N X.env.scope scope own)
    (hg : ∀ (s : Shared) (H : Hp) (C : Addr) (cl : List (Str × Addr)) (fp : List Addr), VG (X.blk s H scope (compEnvC scope cl C X.env) fp) W tg ws g)
    (ht : ∀ (s : Shared) (H : Hp) (C : Addr) (cl : List (Str × Addr)) (fp : List Addr), VCs (X.blk s H scope (compEnvC scope cl C X.env) fp) W wx0 ifs tc)
    (he : ∀ (s : Shared) (H : Hp) (C : Addr) (cl : List (Str × Addr)) (fp : List Addr), VE (X.blk s H scope (compEnvC scope cl C X.env) fp) W wx0 elt te)
    (hw : ∀ i ∈ ws, i ∈ own.map (·.2)) (hs : ∀ x, foldedSetIterable iter X.env x = pure x := by intro _; rfl) :
    VS X W wx (.Assign [.Name x px] (.ListComp elt [⟨tg, iter, ifs, 0⟩] scope pos) spos) (vSet i (vLc it g tc te (own.map (·.2)))) :=
  ⟨PS.imp (ps_setLc (g := lG X.K W ws g) (tt := lT X.K W wx0 tc) (te := lE X.K W wx0 te) hc hN hx hxl hsw hi.pi ok (fun s H C cl fp => (hg s H C cl fp).pg) (fun s H C cl fp => (ht s H C cl fp).pt) (fun s H C cl fp => (he s H C cl fp).pe) hs)
    fun Dd σ H ⟨δ, π, E, s, h, k⟩ => lc_run hw ⟨δ, π, _, _, s, h, fun rv δ' z v H' s' => k.nx _ z.2 _ _ (s'.put z.1), k.ex σ⟩⟩
theorem vs_setLcO {i : Nat} {x : Str} {px spos : Pos} {scope : Scope} {own : List (Str × Nat)} {it : VTs} {ws : List Nat} {g : D → List Sl → Option (List Sl)} {tc : VTt} (hc : X.calm = true) (hN : X.N.Nodup) (hx : X.N[i]? = some x) (hxl : X.env.scope.names.lookup x = some .local)
    (hsw : swapsWith (.ListComp elt [⟨tg, iter, ifs, 0⟩] scope pos) (some (.Name x px)) spos.line X.env = pure true) (hi : VI X W wx tg iter it) (ok : BlkOk X.N X.env.scope scope own)
    (hg : ∀ (s : Shared) (H : Hp) (C : Addr) (cl : List (Str × Addr)) (fp : List Addr), VG (X.blk s H scope (compEnvC scope cl C X.env) fp) W tg ws g)
    (ht : ∀ (s : Shared) (H : Hp) (C : Addr) (cl : List (Str × Addr)) (fp : List Addr), VCs (X.blk s H scope (compEnvC scope cl C X.env) fp) W wx0 ifs tc)
    (he : ∀ (s : Shared) (H : Hp) (C : Addr) (cl : List (Str × Addr)) (fp : List Addr), VE (X.blk s H scope (compEnvC scope cl C X.env) fp) W wx0 elt te)
    (hw : ∀ i ∈ ws, i ∈ own.map (·.2)) (hs : ∀ x, foldedSetIterable iter X.env x = pure x := by intro _; rfl) :
    VS X W wx (.Assign [.Name x px] (.ListComp elt [⟨tg, iter, ifs, 0⟩] scope pos) spos) (vSet i (vLcO it g tc te (own.map (·.2)))) :=
  ⟨PS.imp (ps_setLc (g := lG X.K W ws g) (tt := lT X.K W wx0 tc) (te := lE X.K W wx0 te) hc hN hx hxl hsw hi.pi ok (fun s H C cl fp => (hg s H C cl fp).pg) (fun s H C cl fp => (ht s H C cl fp).pt) (fun s H C cl fp => (he s H C cl fp).pe) hs)
    fun Dd σ H ⟨δ, π, E, s, h, k⟩ => lcO_run hw ⟨δ, π, _, _, s, h, fun rv δ' z v H' s' => k.nx _ z.2 _ _ (s'.put z.1), k.ex σ⟩⟩
end
end ML

/-! ## M25 -/
set_option Elab.async false
set_option linter.all false
set_option autoImplicit false
set_option maxRecDepth 100000
set_option maxHeartbeats 4000000
namespace ML
open PySem PySem.Spec PyProof.Rows L2
theorem nd_l {as : List Ag} {l : List Nat} (e : lnsOf as = l) (h : l.Nodup) : (lnsOf as).Nodup := e ▸ h
/-! ### constants of the module -/
structure GlC (K : PySem.W.Frag) (mg : Str → Option Value) (x : Str) (d : D) : Prop where
  ex : ∃ (u : Value) (v : V), mg x = some u ∧ RelV v u ∧ ∀ S H, Rp K S H v d
section
variable {X : Cx} {W : Wd} {wx : WX} {K : PySem.W.Frag} {pos : Pos}
theorem ve_gl {x : Str} {d : D} (G : GlC X.K X.mg x d) (hg : Gl X x := by rfl) (hd : (x == ("__debug__" : Str)) = false := by decide) : VE X W wx (.Name x pos) (vC d) := by
  obtain ⟨u, v, h1, h2, h3⟩ := G.ex
  exact ve_glob h1 h2 h3 hg hd
/-- a written tuple of texts -/
def txAll : List Value → List Str → Bool
  | [], [] => true
  | .str x _ :: vs, w :: ws => (x == w) && (okS w && txAll vs ws)
  | _, _ => false
def wrTx (K : PySem.W.Frag) (a : Addr) (ws : List Str) : Bool := match K.lookup a with
  | some ⟨.type "tuple", _, .seq its _, _⟩ => decide (its.size ≤ 1000000) && txAll its.toList ws
  | _ => false
theorem txAll_of {S : Addr → Prop} {H : Hp} : ∀ {vs : List Value} {ws : List Str}, txAll vs ws = true → Vals (ws.map V.str) vs ∧ Rps K S H (ws.map V.str) (ws.map .str)
  | [], [], _ => ⟨.nil, .nil⟩
  | [], _ :: _, h => by cases h
  | v :: vs, [], h => by cases v <;> cases h
  | v :: vs, w :: ws, h => by
    cases v with
    | str x t =>
      have h' : ((x == w) && (okS w && txAll vs ws)) = true := h
      rw [Bool.and_eq_true, Bool.and_eq_true] at h'
      obtain ⟨r1, r2⟩ := txAll_of (S := S) (H := H) h'.2.2
      have e : x = w := by simpa using h'.1
      subst e
      exact ⟨.cons ⟨t, rfl⟩ r1, .cons (.str _ h'.2.1) r2⟩
    | _ => cases h
theorem glc_tx {mg : Str → Option Value} {x : Str} {a : Addr} {ws : List Str} (hm : mg x = some (.ref a)) (h : wrTx K a ws = true) : GlC K mg x (.tuple (ws.map .str)) := by
  unfold wrTx at h
  split at h
  · rename_i dd its n sl e
    rw [Bool.and_eq_true] at h
    have hl := of_decide_eq_true h.1
    refine ⟨.ref a, .ref a, hm, rfl, fun S H => ?_⟩
    obtain ⟨r1, r2⟩ := txAll_of (K := K) (S := S) (H := H) h.2
    exact .tup (.inr (.inr ⟨_, its, n, e, rfl, rfl, Nat.le_trans hl (by decide), r1⟩)) r2
  · cases h
end
section
variable {P : Program} {w : World} {K : PySem.W.Frag} {mg : Str → Option Value} {base : Heap}
abbrev semNo : SemG := fun _ _ _ => False
/-- nothing is promised -/
theorem fn_no {f : Addr} {fd : FuncData} {ps : List Str} {n : Nat} : FnOk P w K mg base (L2.CX P w) 0 f fd ps (spG K n semNo) :=
  ⟨fun vs H Q E h => by obtain ⟨_, _, _, _, _, _, _, _, h, _⟩ := h; exact h.elim, fun A outer s H args us vs Q E _ _ _ _ h => by obtain ⟨_, _, _, _, _, _, _, _, h, _⟩ := h; exact h.elim⟩
theorem FnG.mono {j k : Nat} {x : Str} {n : Nat} {sem : SemG} (G : FnG P w K mg base j x n sem) (h : j ≤ k) : FnG P w K mg base k x n sem := by
  obtain ⟨f, fd, ps, F, r⟩ := G.ex
  exact ⟨f, fd, ps, F.mono h, r⟩
theorem FnG.imp {k : Nat} {x : Str} {n : Nat} {sem sem' : SemG} (G : FnG P w K mg base k x n sem) (h : ∀ ins Qd Xd, sem' ins Qd Xd → sem ins Qd Xd) : FnG P w K mg base k x n sem' := by
  obtain ⟨f, fd, ps, F, r⟩ := G.ex
  exact ⟨f, fd, ps, F.imp fun vs H Q E q => by
    obtain ⟨A, F0, ins, Qd, Xd, h1, h2, h3, h4, h5⟩ := q
    exact ⟨A, F0, ins, Qd, Xd, h1, h2, h3, h _ _ _ h4, h5⟩, r⟩
end
end ML

/-! ## M26 -/
set_option Elab.async false
set_option linter.all false
set_option autoImplicit false
set_option maxRecDepth 100000
set_option maxHeartbeats 4000000
namespace ML
open PySem PySem.Spec PyProof.Rows L2
/-! ### flat lists, for simp -/
def lv (ds : List D) : List Ot := ds.map .leaf
theorem lv_in (ds : List D) : List.map Ot.leaf ds = lv ds := rfl
/-- a list of one's own, its items shared -/
abbrev fd (p : Addr) (ds : List D) : Sl := .ow (.nod (.lst p) (lv ds))
theorem gets_lv (ds : List D) : Ot.gets (lv ds) = ds := by
  unfold lv
  rw [Ot.gets_map, List.map_map]
  exact (List.map_congr_left fun d _ => by rw [Function.comp_apply, Ot.get]; rfl).trans (List.map_id ds)
theorem leaves_lv (ds : List D) : leaves? (lv ds) = some ds := leaves_map ds
theorem append_lv (ds : List D) (d : D) : mAppend (lv ds) [.sh d] = if ds.length < 1000000 then some (lv (ds ++ [d]), .none) else none := by
  unfold lv mAppend
  rw [List.length_map, List.map_append]
  rfl
theorem pop_lv (ds : List D) (d : D) : mPop (lv (ds ++ [d])) [] = some (lv ds, d) := by
  unfold lv mPop
  rw [List.map_append]
  simp
theorem reverse_lv (ds : List D) : mReverse (lv ds) [] = some (lv ds.reverse, .none) := by
  unfold lv mReverse
  rw [List.map_reverse]
theorem insert_lv (ds : List D) (i : Int) (d : D) : mInsert (lv ds) [.sh (.int i), .sh d] = if ds.length < 1000000 ∧ 0 ≤ i ∧ i < 1000000 then some (lv (ds.take i.toNat ++ [d] ++ ds.drop i.toNat), .none) else none := by
  unfold lv mInsert
  rw [List.length_map, List.map_append, List.map_append, List.map_take, List.map_drop]
  rfl
theorem fst_0 (δ : List Sl) : fst 0 δ = [] := by unfold fst; rfl
theorem fst_s (n : Nat) (a : Sl) (δ : List Sl) : fst (n + 1) (a :: δ) = a :: fst n δ := by
  unfold fst
  rw [List.cons_append, List.take_succ_cons]
  congr 1
  rw [List.replicate_succ', ← List.append_assoc, List.take_append_of_le_length (by rw [List.length_append, List.length_replicate]; omega)]
theorem ini_n (m : Nat) (ins : List Sl) (n : Nat) (h : m = ins.length + n) : ini m ins = ins ++ List.replicate n .un := by
  unfold ini
  rw [h, Nat.add_sub_cancel_left]
theorem keep_fd (p : Addr) (ds es : List D) : keepO (some (fd p ds)) (fd p es) = fd p es := by
  show (if p = p then fd p es else Sl.un) = _
  rw [if_pos rfl]
theorem keepO_sh (d : D) (s : Sl) : keepO (some (.sh d)) s = .sh d := by cases s <;> rfl
theorem lnAtm_no : ∀ {as : List Ag} (l : List Sl), lnsOf as = [] → lnAtm as l = true
  | [], l, _ => by cases l <;> rfl
  | a :: r, [], _ => by cases a <;> rfl
  | .ln i :: r, s :: l, h => by cases h
  | .pd t :: r, s :: l, h => lnAtm_no (as := r) l h
  | .br o :: r, s :: l, h => lnAtm_no (as := r) l h
  | .mv t :: r, s :: l, h => lnAtm_no (as := r) l h
theorem agOut_no (δ : List Sl) : ∀ {as : List Ag} (l : List Sl), lnsOf as = [] → agOut δ as l = δ
  | [], l, _ => by cases l <;> rfl
  | a :: r, [], _ => by cases a <;> rfl
  | .ln i :: r, s :: l, h => by cases h
  | .pd t :: r, s :: l, h => agOut_no δ (as := r) l h
  | .br o :: r, s :: l, h => agOut_no δ (as := r) l h
  | .mv t :: r, s :: l, h => agOut_no δ (as := r) l h
section
variable (t : VT) (o : Opr) (i : Nat) (r : List Ag) (δ l : List Sl) (s : Sl)
theorem lns_nil : lnsOf [] = [] := Eq.trans rfl rfl
theorem lns_pd : lnsOf (.pd t :: r) = lnsOf r := Eq.trans rfl rfl
theorem lns_br : lnsOf (.br o :: r) = lnsOf r := Eq.trans rfl rfl
theorem lns_ln : lnsOf (.ln i :: r) = i :: lnsOf r := Eq.trans rfl rfl
theorem atom_i (i : Int) : atom (.int i) = true := Eq.trans rfl rfl
theorem atom_s (i : Str) : atom (.str i) = true := Eq.trans rfl rfl
theorem atom_b (i : Bool) : atom (.bool i) = true := Eq.trans rfl rfl
theorem atom_n : atom .none = true := Eq.trans rfl rfl
theorem atom_k (k : Key) : atom (kD k) = true := by cases k <;> rfl
theorem bor_nil : agBor δ [] [] = false := rfl
theorem bor_pd : agBor δ (.pd t :: r) (s :: l) = agBor δ r l := rfl
theorem bor_ln : agBor δ (.ln i :: r) (s :: l) = agBor δ r l := rfl
theorem bor_br : agBor δ (.br o :: r) (s :: l) = (match o.sl s δ with | some (.sh _) => agBor δ r l | _ => true) := rfl
theorem out_nil : agOut δ [] [] = δ := rfl
theorem out_pd : agOut δ (.pd t :: r) (s :: l) = agOut δ r l := rfl
theorem out_br : agOut δ (.br o :: r) (s :: l) = agOut δ r l := rfl
theorem out_ln : agOut δ (.ln i :: r) (s :: l) = agOut (δ.set i (keepO δ[i]? s)) r l := rfl
theorem lat_nil : lnAtm [] [] = true := rfl
theorem lat_pd : lnAtm (.pd t :: r) (s :: l) = lnAtm r l := rfl
theorem lat_br : lnAtm (.br o :: r) (s :: l) = lnAtm r l := rfl
theorem lat_ln : lnAtm (.ln i :: r) (s :: l) = (s.atm && lnAtm r l) := rfl
end
theorem ex_pair {α β : Type} {u : α} {v : β} {P : α → β → Prop} : (∃ a b, (u = a ∧ v = b) ∧ P a b) ↔ P u v :=
  ⟨fun ⟨_, _, ⟨h1, h2⟩, h⟩ => h1 ▸ h2 ▸ h, fun h => ⟨_, _, ⟨rfl, rfl⟩, h⟩⟩
/-- numbers -/
def inz (ds : List D) : Prop := ∃ ns : List Int, ds = ns.map .int
theorem inz_nil : inz [] := ⟨[], rfl⟩
theorem inz_snoc {ds : List D} (h : inz ds) (i : Int) : inz (ds ++ [.int i]) := by
  obtain ⟨ns, rfl⟩ := h
  exact ⟨ns ++ [i], by rw [List.map_append]; rfl⟩
theorem inz_rev {ds : List D} (h : inz ds) : inz ds.reverse := by
  obtain ⟨ns, rfl⟩ := h
  exact ⟨ns.reverse, by rw [List.map_reverse]⟩
theorem inz_cut {ds : List D} (h : inz ds) (a b : Option Int) : inz (cutD ds a b) := by
  obtain ⟨ns, rfl⟩ := h
  unfold cutD
  exact ⟨_, by rw [← List.map_drop, ← List.map_take]⟩
theorem inz_last {ds : List D} (h : inz ds) : ds = [] ∨ ∃ es i, ds = es ++ [.int i] ∧ inz es := by
  obtain ⟨ns, rfl⟩ := h
  rcases List.eq_nil_or_concat ns with rfl | ⟨ms, i, rfl⟩
  · exact .inl rfl
  · exact .inr ⟨ms.map .int, i, by rw [List.concat_eq_append, List.map_append]; rfl, ms, rfl⟩
theorem inz_at {ds : List D} (h : inz ds) {i : Int} (h0 : 0 ≤ i) (h1 : i < ds.length) : ∃ z, L2.atI ds i = some (.int z) := by
  obtain ⟨ns, rfl⟩ := h
  obtain ⟨n, rfl⟩ := Int.eq_ofNat_of_zero_le h0
  rw [List.length_map] at h1
  have hn : n < ns.length := by omega
  exact ⟨ns[n], atI_nat (by rw [List.getElem?_map, List.getElem?_eq_getElem hn]; rfl)⟩
theorem cut_len {ds : List D} {n : Nat} : (cutD ds none (some (n : Int))).length ≤ n := by
  unfold cutD
  rw [HT.sIx_none, HT.sIx_nat, List.length_take]
  omega
theorem fLen_list (ds : List D) : fLen (.list ds) = some (.sh (.int ds.length)) := rfl
end ML

/-! ## M27 -/
set_option Elab.async false
set_option linter.all false
set_option autoImplicit false
set_option maxRecDepth 100000
set_option maxHeartbeats 4000000
namespace ML
open PySem PySem.Spec PyProof.Rows L2
section
variable {X : Cx} {W : Wd} {wx : WX} {K : PySem.W.Frag} {H H' : Hp} {σ : L2.St} {δ δ' : List Sl} {π : List Cell} {a b e : Expr} {pos : Pos} {S : Addr → Prop} {te : TE}
/-! ### * of ints, lists, tuples -/
def fMulT : D → D → Option Rs
  | .tuple a, .int k => if a.length ≤ 1000 ∧ a ≠ [] ∧ 2 ≤ k ∧ k ≤ 1000 then some (.sh (.tuple (List.replicate k.toNat a).flatten)) else none
  | x, y => fMulV x y
def rMulT (K : PySem.W.Frag) : R2 := fun x y H Q => rMulV x y H Q ∨ rRepT K x y H Q
theorem op_mulT : OpR X (binaryOp .Mult) (rMulT X.K) := op_mulV.or op_repT
theorem snd_mulT : Snd2 K (rMulT K) fMulT := by
  intro S H x y d e res Q hx hy hf hq
  cases d with
  | tuple a =>
    cases e with
    | int k =>
      have hf' : (if a.length ≤ 1000 ∧ a ≠ [] ∧ 2 ≤ k ∧ k ≤ 1000 then some (Rs.sh (.tuple (List.replicate k.toNat a).flatten)) else none) = some res := hf
      by_cases h : a.length ≤ 1000 ∧ a ≠ [] ∧ 2 ≤ k ∧ k ≤ 1000
      · rw [if_pos h] at hf'
        cases hf'
        obtain ⟨p, xs, rfl, h1, h2⟩ := Rq.tup hx
        have hl := Rps.length h2
        refine .inr ⟨p, k, xs, rfl, Rq.int hy, h1, fun z => h.2.1 ?_, h.2.2.1, h.2.2.2, by omega, fun q hq' => hq _ _ (.tup hq' (Rps.rep h2 _))⟩
        subst z
        exact List.length_eq_zero_iff.mp hl.symm
      · rw [if_neg h] at hf'; cases hf'
    | _ => cases hf
  | _ => exact .inl (snd_mulV S H x y _ e res Q hx hy (by cases e <;> exact hf) hq)
end
/-! ### x[::-1] of a tuple -/
section
variable {prog : Program} {w : World} {A : Around} {E : Value → Shared → Prop} {s : Shared}
theorem adjust_back (n : Nat) : Builtin.Slice.sliceAdjust none none (-1) (n : Int) = ((n : Int) - 1, -1) := by
  unfold Builtin.Slice.sliceAdjust
  simp
theorem places_back (n : Nat) : Builtin.Slice.slicePlaces ((n : Int) - 1) (-1) (-1) = n := by
  unfold Builtin.Slice.slicePlaces
  rw [if_neg (by decide)]
  split
  · simp
  · omega
theorem applied_back {sl : Addr} {vs : Value} {n : Nat} {Q : Int × Int × Nat → Shared → Prop} (hs : s.heap.IsSliceOf sl .none .none vs) (ps : IsPart vs (some (-1)))
    (h : Q ((n : Int) - 1, -1, n) s) : wpAny (model prog w) A (Builtin.Slice.sliceApplied (.ref sl) (pure (n : Int))) Q E s := by
  obtain ⟨os, hos, hcs, hds⟩ := id hs
  unfold Builtin.Slice.sliceApplied Builtin.Slice.sliceFields
  refine wpAny_bind (wpAny_bind (wpAny_field hos hds (x := .none) rfl ?_))
  refine wpAny_bind (wpAny_field hos hds (x := .none) rfl ?_)
  refine wpAny_bind (wpAny_field hos hds (x := vs) rfl (wpAny_pure ?_))
  refine wpAny_bind (HT.slicePart_ ps ?_)
  show wpAny _ _ (if ((-1 : Int) == 0) = true then _ else _) _ _ s
  rw [if_neg (by decide)]
  refine wpAny_bind (HT.slicePart_ .none ?_)
  refine wpAny_bind (HT.slicePart_ .none ?_)
  refine wpAny_bind (wpAny_pure ?_)
  show wpAny _ _ (match Builtin.Slice.sliceAdjust none none (-1) (n : Int) with | (lo, hi) => pure (lo, (-1 : Int), Builtin.Slice.slicePlaces lo hi (-1))) _ _ s
  rw [adjust_back]
  show wpAny _ _ (pure ((n : Int) - 1, (-1 : Int), Builtin.Slice.slicePlaces ((n : Int) - 1) (-1) (-1))) _ _ s
  rw [places_back]
  exact wpAny_pure h
theorem fm_congr {α β : Type} {f g : α → Option β} : ∀ (l : List α), (∀ x ∈ l, f x = g x) → l.filterMap f = l.filterMap g
  | [], _ => rfl
  | x :: l, h => by rw [List.filterMap_cons, List.filterMap_cons, h x List.mem_cons_self, fm_congr l fun y hy => h y (List.mem_cons_of_mem _ hy)]
theorem pick_back (xs : Array Value) : ((List.range xs.size).filterMap fun (m : Nat) => xs[((xs.size : Int) - 1 + (m : Int) * -1).toNat]?).toArray = xs.toList.reverse.toArray := by
  congr 1
  rw [← pick_rev]
  have e : (List.range xs.size).reverse = (List.range xs.size).map fun m => xs.size - 1 - m := by
    apply List.ext_getElem
    · simp
    · intro i h1 h2
      simp
  rw [e, List.filterMap_map]
  refine fm_congr _ fun m hm => ?_
  have hm' := List.mem_range.mp hm
  show xs[((xs.size : Int) - 1 + (m : Int) * -1).toNat]? = xs[xs.size - 1 - m]?
  congr 1
  omega
theorem getItem_back {t sl : Addr} {items : Array Value} {vs : Value} {Q : Value → Shared → Prop} (ht : IsTup s.heap t items) (hs : s.heap.IsSliceOf sl .none .none vs) (ps : IsPart vs (some (-1)))
    (h : Q (.ref s.heap.objs.size) { s with heap := s.heap.push { cls := .type "tuple", data := .seq items.toList.reverse.toArray } }) (hsz : items.size ≤ sizeLine) : wpAny (model prog w) A (getItem (.ref t) (.ref sl)) Q E s := by
  have hok : sizeOk (.seq items.toList.reverse.toArray) := by
    show items.toList.reverse.toArray.size ≤ sizeLine
    rw [List.size_toArray, List.length_reverse, Array.length_toList]
    exact hsz
  obtain ⟨os, hos, hcs, hds⟩ := id hs
  have hTs : s.TypeIs (.ref sl) "slice" := ⟨os, hos, hcs⟩
  unfold getItem
  try with_reducible refine wpAny_holding ?_
  first | refine wpAny_bind (wpAny_pure ?_) | skip
  refine wpAny_bind (wpAny_sequenceKey ht.typeIs (by decide) ?_)
  refine wpAny_bind (wpAny_callSpecial?_slot (name := Str.ofString "__getitem__") ht.typeIs PyProof.Rows.slot_tuple_getitem (wpAny_call_entry PyProof.Rows.slot_tuple_getitem ht.typeIs entry_tuple_getitem ?_ (args_tuple_getitem _ _)))
  show wpAny _ _ (Builtin.Tuple.tupleItemsOf (.ref t) >>= _) _ _ s
  refine wpAny_bind (tupleItemsOf_ ht ?_)
  refine wpAny_bind (wpAny_typeOf hTs ?_)
  rw [if_pos (by decide)]
  refine wpAny_bind (applied_back hs ps ?_)
  show wpAny _ _ (if (((items.size : Int) - 1) == 0 && (-1 : Int) == 1 && items.size == items.size) = true then _ else _) _ _ s
  rw [if_neg (by simp), pick_back]
  first
    | exact wpAny_bind (m := Builtin.Tuple.tupleExact _) (wpAny_newObj_type (wpAny_pure ⟨_, rfl, wpAny_pure h⟩) hok)
    | exact wpAny_bind (m := Builtin.Tuple.tupleExact _) (wpAny_newObj_type (wpAny_bind (wpAny_pure (wpAny_pure ⟨_, rfl, wpAny_pure h⟩))) hok)
    | exact wpAny_bind (wpAny_bind (m := Builtin.Tuple.tupleExact _) (wpAny_newObj_type (wpAny_pure (wpAny_pure ⟨_, rfl, wpAny_pure h⟩)) hok))
    | exact wpAny_bind (wpAny_bind (m := Builtin.Tuple.tupleExact _) (wpAny_newObj_type (wpAny_pure ⟨_, rfl, wpAny_pure h⟩) hok))
end
section
variable {X : Cx} {W : Wd} {wx : WX} {K : PySem.W.Frag} {H H' : Hp} {a e : Expr} {pos : Pos} {S : Addr → Prop} {te : TE}
def tRevT (K : PySem.W.Frag) (te : TE) : TE := fun σ H Q => te σ H fun x H1 => ∃ t xs, x = .ref t ∧ SqT K H1 t xs ∧ ∀ p, H1 p = none → Q (.ref p) (upd H1 p (.tup xs.reverse))
theorem pe_revT {k : Nat} {p1 p2 p3 : Pos} (he : PE X e te) : PE X (.Subscript e (.Slice none none (some (.UnaryOp .USub (.Constant (.int 1) k p1) p2)) p3) pos) (tRevT X.K te) :=
  ⟨fun pins s σ H Q I h => Subscript_ (thn (he.run pins s σ H _ I h) fun v s1 ⟨x, H1, I1, r1, t, xs, ex, hx, q⟩ => by
    subst ex
    cases r1
    refine wpAny_Slice (thn (po_none.run pins s1 σ H1 (fun o H2 => o = none ∧ H2 = H1) I1 ⟨rfl, rfl⟩) fun vl s2 ⟨o, H2, I2, pl, eo, e2⟩ => ?_)
    subst eo e2
    refine thn (po_none.run pins s2 σ H2 (fun o H3 => o = none ∧ H3 = H2) I2 ⟨rfl, rfl⟩) fun vu s3 ⟨o, H3, I3, pu, eo, e3⟩ => ?_
    subst eo e3
    refine thn ((po_some (pe_un un_neg pe_int)).run pins s3 σ H3 (fun o H4 => o = some (-1) ∧ H4 = H3) I3 ⟨1, rfl, -1, rfl, rfl, rfl⟩) fun vs s4 ⟨o, H4, I4, ps, eo, e4⟩ => ?_
    subst eo e4
    have I5 : L2.Inv X pins σ H4 { heap := s4.heap.push { cls := Value.type "slice", data := Data.fields #[vl, vu, vs] }, gens := s4.gens, drawn := s4.drawn, toks := s4.toks, os := s4.os } := Inv.kept I4 fun b ob q => Heap.get?_push_of_some _ q
    cases pl
    cases pu
    obtain ⟨its, r, ht, hz⟩ := I5.tuple hx
    have hlen := r.length
    refine tail_any (ops := [.ref t, .ref s4.heap.objs.size]) ht.typeIs PyProof.Rows.slot_tuple_getitem.lookup ?_ (by with_unfolding_all rfl)
    refine getItem_back ht (Heap.IsSliceOf.new _ _ _ _) ps ?_ (by rw [List.size_toArray]; omega)
    refine ⟨.ref _, _, I5.laid (t' := s4.toks) (o := .tup xs.reverse) (fun b ob q => Heap.get?_push_of_some _ q) (Nat.le_refl _) ?_, rfl, q _ (I5.hok.fresh (Nat.le_refl _))⟩
    exact ⟨by rw [List.length_reverse]; exact hz, _, r.reverse, IsTup.new _ _⟩)⟩
def fRevT : D → Option Rs
  | .tuple ds => some (.sh (.tuple ds.reverse))
  | _ => none
theorem ve_revT {oa : Opr} {k : Nat} {p1 p2 p3 : Pos} (ha : VO X W wx a oa) : VE X W wx (.Subscript a (.Slice none none (some (.UnaryOp .USub (.Constant (.int 1) k p1) p2)) p3) pos) (v1 fRevT oa) := by
  obtain ⟨ta, A⟩ := ha
  refine ⟨PE.imp (pe_revT A.pe) fun σ H Q h => ?_⟩
  refine run1 (r := fun x H Q => ∃ t xs, x = .ref t ∧ SqT X.K H t xs ∧ ∀ p, H p = none → Q (.ref p) (upd H p (.tup xs.reverse))) A ?_ h
  intro S H x d res Q hx hf hq
  cases d with
  | tuple ds =>
    cases hf
    obtain ⟨p, xs, rfl, h1, h2⟩ := Rq.tup hx
    exact ⟨p, xs, rfl, h1, fun q hq' => hq _ _ (.tup hq' h2.reverse)⟩
  | _ => cases hf
end
section
variable {X : Cx} {W : Wd} {wx : WX} {K : PySem.W.Frag} {H H' : Hp} {a : Expr} {pos : Pos} {S : Addr → Prop}
/-! ### not x, as a value -/
theorem tru_of {H1 : Hp} {v : V} {x : D} {b : Bool} (r : RqA K S H1 v x) (e2 : truD x = some b) : TruL K v H1 b := by
  cases x with
  | none => cases e2; rw [Rr.none (m := true) r]; exact .inl rfl
  | bool c => cases e2; rw [Rr.bool (m := true) r]; exact .inl rfl
  | int c => cases e2; rw [Rr.int (m := true) r]; exact .inl rfl
  | str c => cases e2; rw [Rr.str (m := true) r]; exact .inl ⟨okS_line (Rr.okS (m := true) r), rfl⟩
  | list ds =>
    cases e2
    obtain ⟨p, xs, rfl, h1, h2⟩ := r.list
    exact .inl <| .inl ⟨xs, h1, by rw [empty_len h2]⟩
  | tuple ds =>
    cases e2
    obtain ⟨p, xs, rfl, h1, h2⟩ := r.tup
    exact .inl <| .inr (.inl ⟨xs, h1, by rw [empty_len (h2.1)]⟩)
  | dict kvs =>
    have e3 : (if isDct kvs = true then some (!kvs.isEmpty) else none) = some b := e2
    by_cases hd : isDct kvs = true
    · rw [if_pos hd] at e3
      cases e3
      obtain ⟨p, ks, xs, ds, rfl, rfl, h1, h2, h3, _, _⟩ := r.dictI hd
      exact .inr (⟨_, _, rfl, h1, by rw [empty_len (l := (ks.map kD).zip ds) (m := ks.zip xs) (by simp; omega)]⟩)
    · rw [if_neg hd] at e3; cases e3
theorem pe_notTL {X : Cx} {ta : TE} (ha : PE X a ta) : PE X (.UnaryOp .Not a pos) (fun σ H Q => ta σ H fun x H1 => ∃ k, TruL X.K x H1 k ∧ Q (.bl (!k)) H1) := by
  refine ⟨fun pins s σ H Q I h => ?_⟩
  refine UnaryOp_ (thn (ha.run pins s σ H _ I h) fun v s1 ⟨x, H1, I1, r1, q1⟩ => ?_)
  obtain ⟨k, e, q1⟩ := q1
  exact not_of (thn (truL_ok pins s1 σ H1 x v (fun c H2 => Q (.bl (!c)) H2) I1 r1 ⟨k, e, q1⟩) fun c s2 ⟨H2, I2, q2⟩ => ⟨.bl (!c), H2, I2, rfl, q2⟩)
/-- as values -/
def vNotT (o : Opr) : VT := fun δ Q Xc => o.ev δ (fun ra δ1 => ∃ x b, o.fin true ra δ1 = some x ∧ truD x = some b ∧ Q (.sh (.bool (!b))) δ1) Xc
theorem ve_notT {o : Opr} (ha : VO X W wx a o) : VE X W wx (.UnaryOp .Not a pos) (vNotT o) := by
  obtain ⟨ta, A⟩ := ha
  refine ⟨PE.imp (pe_notTL A.pe) fun σ H Q ⟨δ, π, Qd, Xd, s, h, k, xr⟩ => ?_⟩
  refine A.run σ H δ π _ Xd _ s h xr fun ra δ1 q v H1 s1 i1 => ?_
  obtain ⟨x, b, e1, e2, q⟩ := q
  obtain ⟨S, y⟩ := s1.st
  have r : RqA X.K S H1 v x := Opr.read (m := true) (ρ := []) s1.len y i1 e1
  exact ⟨b, tru_of r e2, k _ _ q _ _ (s1.drop.push fun _ => .bl _)⟩
end
theorem flat_fd (p : Addr) (ds : List D) : Ot.flat p ds = .nod (.lst p) (lv ds) := rfl
theorem glc_int {K : PySem.W.Frag} {mg : Str → Option Value} {x : Str} {i : Int} {t : Tok} (h : mg x = some (.int i t)) : GlC K mg x (.int i) := ⟨_, .int i, h, ⟨t, rfl⟩, fun _ _ => .int i⟩
end ML

/-! ## M28 -/
set_option Elab.async false
set_option linter.all false
set_option autoImplicit false
set_option maxRecDepth 100000
set_option maxHeartbeats 4000000
namespace ML
open PySem PySem.Spec PyProof.Rows L2
section
variable {X : Cx} {W : Wd} {wx : WX} {K : PySem.W.Frag} {H H' : Hp} {σ : L2.St} {δ δ' : List Sl} {π : List Cell} {a b e : Expr} {pos : Pos} {S : Addr → Prop} {te : TE}
/-! ### x[i] of a tree of one's own: a shared item, or a way into it -/
def kidQ (L : Nde) (st : Step) (n : Nat) : Option Sl := match L.os[n]? with
  | some (.leaf d) => some (.sh d)
  | some (.nod s _) => some (.rf L.j (L.π ++ [st]) s.root)
  | none => none
def ixLoc (L : Nde) (k : D) : Option Sl := match L.s, k with
  | .lst _, .int k => (ixN L.os.length k).bind fun n => kidQ L (.ix n) n
  | .tup _, .int k => (ixN L.os.length k).bind fun n => kidQ L (.ix n) n
  | .dct _ ks, k => (kidx k).bind fun k => (kpos ks k).bind fun n => kidQ L (.key k) n
  | .lkd _ ks _ _, k => (kidx k).bind fun k => (kpos ks k).bind fun n => kidQ L (.key k) n
  | _, _ => none
theorem valV_at : ∀ {ks : List Key} {xs : List V} {k : Key} {n : Nat} {v : V}, kpos ks k = some n → xs[n]? = some v → valV (ks.zip xs) k = some v
  | [], _, _, _, _, h, _ => by cases h
  | k0 :: ks, [], _, n, _, _, q => by simp at q
  | k0 :: ks, x :: xs, k, n, v, h, q => by
    have e : valV ((k0, x) :: ks.zip xs) k = if k0 = k then some x else valV (ks.zip xs) k := by
      unfold valV
      rw [List.find?_cons]
      by_cases c : k0 = k
      · simp [c]
      · simp [c]
    rw [List.zip_cons_cons, e]
    unfold kpos at h
    by_cases c : k0 = k
    · rw [if_pos c] at h
      cases h
      rw [if_pos c]
      simpa using q
    · rw [if_neg c] at h
      obtain ⟨m, h1, rfl⟩ := Option.map_eq_some_iff.mp h
      rw [if_neg c]
      exact valV_at h1 (by simpa using q)
def vIxN (a b : Opr) : VT := fun δ Q Xc => a.ev δ (fun ra δ1 => b.ev δ1 (fun rb δ2 => ∃ L k r, a.loc ra δ2 = some L ∧ b.fin false rb δ2 = some k ∧ ixLoc L k = some r ∧ Q r δ2) Xc) Xc
theorem ve_ixN {oa ob : Opr} (hu : X.A.units + 1 < cLine) (ha : VO X W wx a oa) (hb : VO X W wx b ob) (hs : PlainIx b) : VE X W wx (.Subscript a b pos) (vIxN oa ob) := by
  obtain ⟨ta, A⟩ := ha
  obtain ⟨tb, B⟩ := hb
  refine ⟨PE.imp (pe_ix (ix_V hu) A.pe B.pe hs) fun σ H Q h => ?_⟩
  obtain ⟨δ, π, Qd, Xd, s, h, k, xr⟩ := h
  refine A.run σ H δ π _ Xd _ s h xr fun ra δ1 q v H1 s1 i1 => ?_
  refine B.run σ H1 δ1 _ _ Xd _ s1 q xr.more fun rb δ2 q u H2 s2 i2 => ?_
  obtain ⟨L, kk, r, e1, e2, e3, q⟩ := q
  obtain ⟨S, z⟩ := s2.st
  have z1 : StF X.K W H2 (σ.zip δ2 ++ (π ++ ((some v, ra) :: [(some u, rb)]))) S := by
    rw [List.append_assoc] at z
    exact z
  obtain ⟨h1, h2, h3⟩ := Opr.loc_ok s2.len z1 i1 e1
  have ru := Opr.read (m := false) (ρ := []) s2.len z i2 e2
  obtain ⟨w, w1, w2⟩ := zipcell (ρ := π ++ ((some v, ra) :: [(some u, rb)])) s2.len h1
  obtain ⟨xs, g1, g2, _⟩ := z1.mutAt w2 h2
  obtain ⟨j, t, τ, sh, os⟩ := L
  simp only at h1 h2 h3 g1 g2 w2
  have fin : ∀ (st : Step) (n : Nat) (y : V), kidQ ⟨j, t, τ, sh, os⟩ st n = some r → xs[n]? = some y → Q y H2 := by
    intro st n y e ey
    have e' : (match os[n]? with | some (.leaf d) => some (Sl.sh d) | some (.nod s _) => some (.rf j (τ ++ [st]) s.root) | none => none) = some r := e
    split at e'
    · rename_i d eo
      cases e'
      obtain ⟨y', q1, q2⟩ := Ows.get g2 eo
      rw [ey] at q1
      cases q1
      cases q2 with
      | leaf rp => exact k _ _ q _ _ (s2.drop.drop.pushF (SS.restrict (SS.restrict z)) rp)
    · rename_i s os2 eo
      cases e'
      obtain ⟨y', q1, q2⟩ := Ows.get g2 eo
      rw [ey] at q1
      cases q1
      cases q2 with
      | nod _ _ =>
        refine k _ _ q _ _ ⟨s2.len, S, ?_⟩
        have := (SS.restrict (SS.restrict z)).way (j := j) (π := τ ++ [st]) (p := s.root)
        rw [List.append_assoc] at this
        exact this
    · cases e'
  have l1 : xs.length = os.length := Ows.length g2
  rw [h3]
  cases sh with
  | lst p =>
    cases kk with
    | int i =>
      have eu := Rq.int ru
      subst eu
      obtain ⟨n, hn, hx⟩ := Option.bind_eq_some_iff.mp (show (ixN os.length i).bind (fun n => kidQ ⟨j, t, τ, .lst p, os⟩ (.ix n) n) = some r from e3)
      have hk : n < os.length := (ixN_seq hn).2.1
      have ex : xs[n]? = some xs[n] := List.getElem?_eq_getElem (by omega)
      refine .inl (.inl ⟨p, xs, i, xs[n], rfl, rfl, SqL.of g1, ?_, fin _ _ _ hx ex⟩)
      have : L2.atI xs i = (ixN os.length i).bind fun j => xs[j]? := by rw [← l1]; rfl
      rw [this, hn]
      exact ex
    | _ => cases e3
  | dct p ks =>
    obtain ⟨kx, hk1, hk2⟩ := Option.bind_eq_some_iff.mp (show ((kidx kk).bind fun k => (kpos ks k).bind fun n => kidQ ⟨j, t, τ, .dct p ks, os⟩ (.key k) n) = some r from by cases kk <;> exact e3)
    obtain ⟨n, hn, hx⟩ := Option.bind_eq_some_iff.mp hk2
    obtain ⟨g11, g12, g13, g14⟩ := g1
    have ey : u = kV kx := by
      exact Rp.key_of hk1 (Rr.rp (m := false) (S := S) (K := X.K) (H := H2) (kidx_atom hk1) ru)
    have ln : n < ks.length := (List.getElem?_eq_some_iff.mp (kpos_some hn)).1
    have ex : xs[n]? = some xs[n] := List.getElem?_eq_getElem (by omega)
    exact .inr ⟨p, xs[n], rfl, Or.inl ⟨_, kx, .inl g11, ey, (valV_at hn ex).symm⟩, fin _ _ _ hx ex⟩
  | obj p dx C ks => cases kk <;> cases e3
  | tup p =>
    cases kk with
    | int i =>
      have eu := Rq.int ru
      subst eu
      obtain ⟨n, hn, hx⟩ := Option.bind_eq_some_iff.mp (show (ixN os.length i).bind (fun n => kidQ ⟨j, t, τ, .tup p, os⟩ (.ix n) n) = some r from e3)
      have hk : n < os.length := (ixN_seq hn).2.1
      have ex : xs[n]? = some xs[n] := List.getElem?_eq_getElem (by omega)
      refine .inl (.inr (.inl ⟨p, xs, i, xs[n], rfl, rfl, TsR.sq (S := fun _ => False) (.inl ⟨.inl g1, fun z => z⟩), ?_, fin _ _ _ hx ex⟩))
      have : L2.atI xs i = (ixN os.length i).bind fun j => xs[j]? := by rw [← l1]; rfl
      rw [this, hn]
      exact ex
    | _ => cases e3
  | lkd p ks us o =>
    obtain ⟨kx, hk1, hk2⟩ := Option.bind_eq_some_iff.mp (show ((kidx kk).bind fun k => (kpos ks k).bind fun n => kidQ ⟨j, t, τ, .lkd p ks us o, os⟩ (.key k) n) = some r from by cases kk <;> exact e3)
    obtain ⟨n, hn, hx⟩ := Option.bind_eq_some_iff.mp hk2
    obtain ⟨g11, _, g12, g13, g14⟩ := g1
    have ey : u = kV kx := by
      exact Rp.key_of hk1 (Rr.rp (m := false) (S := S) (K := X.K) (H := H2) (kidx_atom hk1) ru)
    have ln : n < ks.length := (List.getElem?_eq_some_iff.mp (kpos_some hn)).1
    have ex : xs[n]? = some xs[n] := List.getElem?_eq_getElem (by omega)
    exact .inr ⟨p, xs[n], rfl, Or.inl ⟨_, kx, .inr ⟨o, g11⟩, ey, (valV_at hn ex).symm⟩, fin _ _ _ hx ex⟩
end
end ML

/-! ## M29 -/
set_option Elab.async false
set_option linter.all false
set_option autoImplicit false
set_option maxRecDepth 100000
set_option maxHeartbeats 4000000
namespace ML
open PySem PySem.Spec PyProof.Rows L2
section
variable {X : Cx} {W : Wd} {wx : WX} {K : PySem.W.Frag} {H H' : Hp} {σ : L2.St} {δ δ' : List Sl} {π : List Cell} {a b e : Expr} {es : List Expr} {pos : Pos} {S : Addr → Prop}
/-! ### and, of a suite -/
def xAnd (t u : Exn → VT) : Exn → VT := fun x δ Q Xc => t x δ (fun rv δ' => ∃ b, rv = .sh (.bool b) ∧ if b = true then u x δ' Q Xc else Q (.sh (.bool false)) δ') Xc
theorem xe_one {i : Nat} {op} {t : Exn → VT} (h : XE X W i a t) : XE X W i (.BoolOp op [a] pos) t := ⟨fun a' oe cls d pn z1 z2 => pe_one (h.run a' oe cls d pn z1 z2)⟩
theorem xe_and {i : Nat} {t u : Exn → VT} (ha : XE X W i a t) (hb : XE X W i (.BoolOp .And (b :: es) pos) u) : XE X W i (.BoolOp .And (a :: b :: es) pos) (xAnd t u) :=
  ⟨fun a' oe cls d pn z1 z2 => PE.imp (pe_and (ha.run a' oe cls d pn z1 z2) (hb.run a' oe cls d pn z1 z2)) fun σ H Q ⟨δ, π, Qd, x, vs, ρ, s, l, h1, h2, ds, q, k⟩ =>
    ⟨δ, π, _, x, vs, ρ, s, l, h1, h2, ds, q, fun rv δ' q v H' s' ds' => by
      obtain ⟨b, rfl, q⟩ := q
      refine ⟨b, SS.bool s', ?_⟩
      cases b with
      | true =>
        rw [if_pos rfl]
        rw [if_pos rfl] at q
        exact ⟨δ', π, Qd, x, vs, ρ, s'.drop, l, h1, h2, ds', q, k⟩
      | false =>
        rw [if_neg (by decide)]
        rw [if_neg (by decide)] at q
        exact k _ _ q _ _ (s'.drop.push fun _ => .bl _) ds'⟩⟩
def xNot (t : Exn → VT) : Exn → VT := fun x δ Q Xc => t x δ (fun rv δ' => ∃ b, rv = .sh (.bool b) ∧ Q (.sh (.bool (!b))) δ') Xc
theorem xe_not {i : Nat} {t : Exn → VT} (ha : XE X W i a t) : XE X W i (.UnaryOp .Not a pos) (xNot t) :=
  ⟨fun a' oe cls d pn z1 z2 => PE.imp (pe_not (ha.run a' oe cls d pn z1 z2)) fun σ H Q ⟨δ, π, Qd, x, vs, ρ, s, l, h1, h2, ds, q, k⟩ =>
    ⟨δ, π, _, x, vs, ρ, s, l, h1, h2, ds, q, fun rv δ' q v H' s' ds' => by
      obtain ⟨b, rfl, q⟩ := q
      exact ⟨b, SS.bool s', k _ _ q _ _ (s'.drop.push fun _ => .bl _) ds'⟩⟩⟩
end
theorem kit_type {K : PySem.W.Frag} {C : Addr} {T : String} (h : PySem.W.kitMeta T = true) (h4 : PySem.W.subIn K (.ref C) (.type T) = some true) : PySem.W.kitOne K (.ref C) (.type T) = some true := by
  unfold PySem.W.kitOne PySem.W.kitCls
  split
  · rfl
  · show (if PySem.W.kitMeta T = true then PySem.W.subIn K (.ref C) (.type T) else none) = _
    rw [if_pos h, h4]
theorem kit_clsF {K : PySem.W.Frag} {C T : Addr} (h0 : ¬ C = T) (h2 : PySem.W.isClsIn K T = true) (h3 : PySem.W.typeIn K (.ref T) = some (.type "type")) (h4 : PySem.W.subIn K (.ref C) (.ref T) = some false) : PySem.W.kitOne K (.ref C) (.ref T) = some false := by
  have h2' : (PySem.W.clsIn K T).isSome = true := h2
  unfold PySem.W.kitOne PySem.W.kitCls
  rw [if_neg (by intro h; exact h0 (by simpa using h))]
  show (if ((PySem.W.clsIn K T).isSome && PySem.W.typeIn K (Value.ref T) == some (Value.type "type")) = true then PySem.W.subIn K (.ref C) (Value.ref T) else none) = _
  rw [if_pos (by rw [h2', h3]; rfl), h4]
theorem exm_clsF {K : PySem.W.Frag} {C T : Addr} (h0 : ¬ C = T) (h1 : PySem.W.subIn K (.ref T) (.type "BaseException") = some true) (h2 : PySem.W.isClsIn K T = true) (h3 : PySem.W.typeIn K (.ref T) = some (.type "type")) (h4 : PySem.W.subIn K (.ref C) (.ref T) = some false) : PySem.W.exmOne K (.ref C) (.ref T) = some false := by
  have h2' : (PySem.W.clsIn K T).isSome = true := h2
  unfold PySem.W.exmOne PySem.W.kitCls
  rw [if_pos (by rw [h1]; rfl)]
  show (if ((PySem.W.clsIn K T).isSome && PySem.W.typeIn K (Value.ref T) == some (Value.type "type")) = true then PySem.W.subIn K (.ref C) (Value.ref T) else none) = _
  rw [if_pos (by rw [h2', h3]; rfl), h4]
end ML

/-! ## M30 -/
set_option Elab.async false
set_option linter.all false
set_option autoImplicit false
set_option maxRecDepth 100000
set_option maxHeartbeats 4000000
namespace ML
open PySem PySem.Spec PyProof.Rows L2
/-! ### words for simp: texts told apart, items of what is written out, kinds, numbers -/
theorem map_toNat_inj : ∀ {a b : List Char}, a.map Char.toNat = b.map Char.toNat → a = b
  | [], [], _ => rfl
  | [], _ :: _, h => by cases h
  | _ :: _, [], h => by cases h
  | x :: a, y :: b, h => by
    rw [List.map_cons, List.map_cons] at h
    injection h with h1 h2
    rw [map_toNat_inj h2, Char.toNat_inj.mp h1]
theorem os_inj (a b : String) : (Str.ofString a = Str.ofString b) = (a = b) := by
  refine propext ⟨fun h => ?_, fun h => by rw [h]⟩
  rw [Str.ofString_eq_toList, Str.ofString_eq_toList] at h
  injection h with h
  have := map_toNat_inj (by simpa using h)
  exact String.toList_inj.mp this
theorem ix0 {a : D} {r : List D} : fIx (.tuple (a :: r)) (.int 0) = some (.sh a) := by
  show (L2.atI (a :: r) ((0 : Nat) : Int)).map Rs.sh = _
  rw [atI_nat (v := a) rfl]; rfl
theorem ix1 {a b : D} {r : List D} : fIx (.tuple (a :: b :: r)) (.int 1) = some (.sh b) := by
  show (L2.atI (a :: b :: r) ((1 : Nat) : Int)).map Rs.sh = _
  rw [atI_nat (v := b) rfl]; rfl
theorem ix2 {a b c : D} {r : List D} : fIx (.tuple (a :: b :: c :: r)) (.int 2) = some (.sh c) := by
  show (L2.atI (a :: b :: c :: r) ((2 : Nat) : Int)).map Rs.sh = _
  rw [atI_nat (v := c) rfl]; rfl
theorem ix3 {a b c d : D} {r : List D} : fIx (.tuple (a :: b :: c :: d :: r)) (.int 3) = some (.sh d) := by
  show (L2.atI (a :: b :: c :: d :: r) ((3 : Nat) : Int)).map Rs.sh = _
  rw [atI_nat (v := d) rfl]; rfl
theorem ix4 {a b c d e : D} {r : List D} : fIx (.tuple (a :: b :: c :: d :: e :: r)) (.int 4) = some (.sh e) := by
  show (L2.atI (a :: b :: c :: d :: e :: r) ((4 : Nat) : Int)).map Rs.sh = _
  rw [atI_nat (v := e) rfl]; rfl
theorem lx0 {a : D} {r : List D} : fIx (.list (a :: r)) (.int 0) = some (.sh a) := by
  show (L2.atI (a :: r) ((0 : Nat) : Int)).map Rs.sh = _
  rw [atI_nat (v := a) rfl]; rfl
theorem lx1 {a b : D} {r : List D} : fIx (.list (a :: b :: r)) (.int 1) = some (.sh b) := by
  show (L2.atI (a :: b :: r) ((1 : Nat) : Int)).map Rs.sh = _
  rw [atI_nat (v := b) rfl]; rfl
theorem lx2 {a b c : D} {r : List D} : fIx (.list (a :: b :: c :: r)) (.int 2) = some (.sh c) := by
  show (L2.atI (a :: b :: c :: r) ((2 : Nat) : Int)).map Rs.sh = _
  rw [atI_nat (v := c) rfl]; rfl
theorem lx3 {a b c d : D} {r : List D} : fIx (.list (a :: b :: c :: d :: r)) (.int 3) = some (.sh d) := by
  show (L2.atI (a :: b :: c :: d :: r) ((3 : Nat) : Int)).map Rs.sh = _
  rw [atI_nat (v := d) rfl]; rfl
theorem fLen_tup (ds : List D) : fLen (.tuple ds) = some (.sh (.int ds.length)) := rfl
theorem isB_n : isT "bool" .none = some (.sh (.bool false)) := rfl
theorem isB_b (b : Bool) : isT "bool" (.bool b) = some (.sh (.bool true)) := rfl
theorem isB_i (b : Int) : isT "bool" (.int b) = some (.sh (.bool false)) := rfl
theorem isB_s (b : Str) : isT "bool" (.str b) = some (.sh (.bool false)) := rfl
theorem isB_l (b : List D) : isT "bool" (.list b) = some (.sh (.bool false)) := rfl
theorem isB_t (b : List D) : isT "bool" (.tuple b) = some (.sh (.bool false)) := rfl
theorem isI_n : isT "int" .none = some (.sh (.bool false)) := rfl
theorem isI_b (b : Bool) : isT "int" (.bool b) = some (.sh (.bool true)) := rfl
theorem isI_i (b : Int) : isT "int" (.int b) = some (.sh (.bool true)) := rfl
theorem isI_s (b : Str) : isT "int" (.str b) = some (.sh (.bool false)) := rfl
theorem isI_l (b : List D) : isT "int" (.list b) = some (.sh (.bool false)) := rfl
theorem isI_t (b : List D) : isT "int" (.tuple b) = some (.sh (.bool false)) := rfl
theorem isS_n : isT "str" .none = some (.sh (.bool false)) := rfl
theorem isS_b (b : Bool) : isT "str" (.bool b) = some (.sh (.bool false)) := rfl
theorem isS_i (b : Int) : isT "str" (.int b) = some (.sh (.bool false)) := rfl
theorem isS_s (b : Str) : isT "str" (.str b) = some (.sh (.bool true)) := rfl
theorem isS_l (b : List D) : isT "str" (.list b) = some (.sh (.bool false)) := rfl
theorem isS_t (b : List D) : isT "str" (.tuple b) = some (.sh (.bool false)) := rfl
theorem isL_n : isT "list" .none = some (.sh (.bool false)) := rfl
theorem isL_b (b : Bool) : isT "list" (.bool b) = some (.sh (.bool false)) := rfl
theorem isL_i (b : Int) : isT "list" (.int b) = some (.sh (.bool false)) := rfl
theorem isL_s (b : Str) : isT "list" (.str b) = some (.sh (.bool false)) := rfl
theorem isL_l (b : List D) : isT "list" (.list b) = some (.sh (.bool true)) := rfl
theorem isL_t (b : List D) : isT "list" (.tuple b) = some (.sh (.bool false)) := rfl
theorem isT_n : isT "tuple" .none = some (.sh (.bool false)) := rfl
theorem isT_b (b : Bool) : isT "tuple" (.bool b) = some (.sh (.bool false)) := rfl
theorem isT_i (b : Int) : isT "tuple" (.int b) = some (.sh (.bool false)) := rfl
theorem isT_s (b : Str) : isT "tuple" (.str b) = some (.sh (.bool false)) := rfl
theorem isT_l (b : List D) : isT "tuple" (.list b) = some (.sh (.bool false)) := rfl
theorem isT_t (b : List D) : isT "tuple" (.tuple b) = some (.sh (.bool true)) := rfl
theorem ixl {ds : List D} {k : Nat} {d : D} (h : ds[k]? = some d) : fIx (.list ds) (.int (k : Int)) = some (.sh d) := by
  show (L2.atI ds (k : Int)).map Rs.sh = _
  rw [atI_nat h]; rfl
theorem ixt {ds : List D} {k : Nat} {d : D} (h : ds[k]? = some d) : fIx (.tuple ds) (.int (k : Int)) = some (.sh d) := by
  show (L2.atI ds (k : Int)).map Rs.sh = _
  rw [atI_nat h]; rfl
theorem ixlI {ds : List D} {k : Int} {d : D} (h0 : 0 ≤ k) (h : ds[k.toNat]? = some d) : fIx (.list ds) (.int k) = some (.sh d) := by
  obtain ⟨n, rfl⟩ := Int.eq_ofNat_of_zero_le h0
  exact ixl h
theorem ixtI {ds : List D} {k : Int} {d : D} (h0 : 0 ≤ k) (h : ds[k.toNat]? = some d) : fIx (.tuple ds) (.int k) = some (.sh d) := by
  obtain ⟨n, rfl⟩ := Int.eq_ofNat_of_zero_le h0
  exact ixt h
abbrev zs (σ : List Int) : List D := σ.map .int
theorem mul_ok (a b : Int) (h : -(2 ^ 64) < a ∧ a < 2 ^ 64) : fMulV (.int a) (.int b) = some (.sh (.int (a * b))) := by
  show (if cMul a b = true then some (Rs.sh (.int (a * b))) else none) = _
  rw [if_pos (show cMul a b = true from decide_eq_true (.inl h))]
theorem mul_ok2 (a b : Int) (h : -(2 ^ 64) < b ∧ b < 2 ^ 64) : fMulV (.int a) (.int b) = some (.sh (.int (a * b))) := by
  show (if cMul a b = true then some (Rs.sh (.int (a * b))) else none) = _
  rw [if_pos (show cMul a b = true from decide_eq_true (.inr h))]
theorem cd_ok (a b : Int) (h : 0 < b) (h2 : b < 2 ^ 8999) : cDivD a b = true := by
  unfold cDivD
  refine decide_eq_true ⟨h, ?_⟩
  obtain ⟨n, rfl⟩ := Int.eq_ofNat_of_zero_le (Int.le_of_lt h)
  have h3 : n < 2 ^ 8999 := by exact_mod_cast h2
  rw [Int.natAbs_natCast]
  have h0 : n ≠ 0 := by rintro rfl; exact absurd h (by decide)
  exact Nat.lt_of_lt_of_le ((Nat.log2_lt h0).mpr h3) (by decide)
theorem nat_of {r : Int} (h : 0 ≤ r) : ∃ n : Nat, r = (n : Int) := Int.eq_ofNat_of_zero_le h
theorem len_inz {ds : List D} (h : inz ds) : ∃ l, ds = zs l := h
/-! ### data that _law_same takes for equal: themselves -/
def okd : Nat → D → Prop
  | _, .none => True
  | _, .int _ => True
  | _, .bool _ => True
  | _, .str _ => True
  | n + 1, .list ds => ds.length ≤ 1000000 ∧ ∀ d ∈ ds, okd n d
  | n + 1, .tuple ds => ds.length ≤ 1000000 ∧ ∀ d ∈ ds, okd n d
  | _, _ => False
theorem okd_mono : ∀ {n m : Nat} {d : D}, n ≤ m → okd n d → okd m d
  | n, m, .none, _, _ => by cases m <;> trivial
  | n, m, .int _, _, _ => by cases m <;> trivial
  | n, m, .str _, _, _ => by cases m <;> trivial
  | 0, _, .list _, _, h => h.elim
  | 0, _, .tuple _, _, h => h.elim
  | n + 1, 0, .list _, l, _ => absurd l (by omega)
  | n + 1, 0, .tuple _, l, _ => absurd l (by omega)
  | n + 1, m + 1, .list ds, l, h => ⟨h.1, fun d hd => okd_mono (by omega) (h.2 d hd)⟩
  | n + 1, m + 1, .tuple ds, l, h => ⟨h.1, fun d hd => okd_mono (by omega) (h.2 d hd)⟩
  | n, m, .bool _, _, _ => by cases m <;> trivial
  | n, m, .dict _, _, h => by cases n <;> exact h.elim
theorem okd_str (n : Nat) (x : Str) : okd n (.str x) := by cases n <;> trivial
theorem okd_int (n : Nat) (x : Int) : okd n (.int x) := by cases n <;> trivial
theorem okd_bool (n : Nat) (x : Bool) : okd n (.bool x) := by cases n <;> trivial
theorem okd_non (n : Nat) : okd n .none := by cases n <;> trivial
theorem all0 {n : Nat} : ∀ d ∈ ([] : List D), okd n d := fun d hd => nomatch hd
theorem all1 {n : Nat} {a : D} (ha : okd n a) : ∀ d ∈ [a], okd n d := fun d hd => by rw [List.mem_singleton.mp hd]; exact ha
theorem allc {n : Nat} {a : D} {l : List D} (ha : okd n a) (h : ∀ d ∈ l, okd n d) : ∀ d ∈ a :: l, okd n d := fun d hd => (List.mem_cons.mp hd).elim (fun e => e ▸ ha) (h d)
theorem okd_zs {n : Nat} (l : List Int) : ∀ d ∈ zs l, okd n d := fun d hd => by
  obtain ⟨z, _, rfl⟩ := List.mem_map.mp hd
  exact okd_int _ _
theorem okd_map {α : Type} {n : Nat} {f : α → D} {l : List α} (h : ∀ x ∈ l, okd n (f x)) : ∀ d ∈ l.map f, okd n d := fun d hd => by
  obtain ⟨z, hz, rfl⟩ := List.mem_map.mp hd
  exact h z hz
theorem okd_list {n : Nat} {ds : List D} (l : ds.length ≤ 1000000) (h : ∀ d ∈ ds, okd n d) : okd (n + 1) (.list ds) := ⟨l, h⟩
theorem okd_tup {n : Nat} {ds : List D} (l : ds.length ≤ 1000000) (h : ∀ d ∈ ds, okd n d) : okd (n + 1) (.tuple ds) := ⟨l, h⟩
theorem okd_zl {n : Nat} (l : List Int) (h : l.length ≤ 1000000) : okd (n + 1) (.list (zs l)) := ⟨by rw [List.length_map]; exact h, okd_zs l⟩
theorem okd_zt {n : Nat} (l : List Int) (h : l.length ≤ 1000000) : okd (n + 1) (.tuple (zs l)) := ⟨by rw [List.length_map]; exact h, okd_zs l⟩
/-! ### == of data with themselves and others of a kind -/
mutual
/-- no dict, within a depth -/
def eqd : D → Bool
  | .list ds => eqds ds
  | .tuple ds => eqds ds
  | .dict _ => false
  | _ => true
def eqds : List D → Bool
  | [] => true
  | d :: ds => eqd d && eqds ds
end
theorem extend_lv (ds es : List D) (q : Addr) : mExtend (lv ds) [.ow (.nod (.lst q) (lv es))] = if ds.length + es.length ≤ 1000000 then some (lv (ds ++ es), .none) else none := by
  unfold lv mExtend
  simp
theorem ext_ok {ds es : List D} {q : Addr} (h : ds.length + es.length ≤ 1000000) : mExtend (lv ds) [.ow (Ot.flat q es)] = some (lv (ds ++ es), .none) := (extend_lv ds es q).trans (if_pos h)
theorem store_lv (p : Addr) (ds : List D) (k : Nat) (d : D) (h : k < ds.length) : storeL (.lst p) (lv ds) (.int (k : Int)) (.leaf d) = some (.lst p, lv (ds.set k d)) := by
  unfold lv storeL putIx ixN
  simp [h]
theorem store_lvI (p : Addr) (ds : List D) (k : Int) (d : D) (h0 : 0 ≤ k) (h : k < ds.length) : storeL (.lst p) (lv ds) (.int k) (.leaf d) = some (.lst p, lv (ds.set k.toNat d)) := by
  obtain ⟨n, rfl⟩ := Int.eq_ofNat_of_zero_le h0
  exact store_lv p ds n d (by omega)
end ML

/-! ## M31 -/
set_option Elab.async false
set_option linter.all false
set_option autoImplicit false
set_option maxRecDepth 100000
set_option maxHeartbeats 4000000
namespace ML
open PySem PySem.Spec PyProof.Rows L2
mutual
theorem okd_dep : ∀ {n : Nat} {d : D}, okd n d → noD d = true ∧ d.depth ≤ n
  | n, .none, _ => ⟨rfl, by simp [PyData.depth]⟩
  | n, .int _, _ => ⟨rfl, by simp [PyData.depth]⟩
  | n, .str _, _ => ⟨rfl, by simp [PyData.depth]⟩
  | n, .bool _, _ => ⟨rfl, by simp [PyData.depth]⟩
  | 0, .list _, h => h.elim
  | 0, .tuple _, h => h.elim
  | n + 1, .list ds, h => by
    have := okds_dep (n := n) h.2
    exact ⟨by simpa [noD] using this.1, by simp [PyData.depth]; omega⟩
  | n + 1, .tuple ds, h => by
    have := okds_dep (n := n) h.2
    exact ⟨by simpa [noD] using this.1, by simp [PyData.depth]; omega⟩
  | n, .dict _, h => by cases n <;> exact h.elim
theorem okds_dep : ∀ {n : Nat} {ds : List D}, (∀ d ∈ ds, okd n d) → noDs ds = true ∧ PyData.depthAll ds ≤ n
  | n, [], _ => ⟨rfl, by simp [PyData.depthAll]⟩
  | n, d :: ds, h => by
    have h1 := okd_dep (h d List.mem_cons_self)
    have h2 := okds_dep (n := n) (ds := ds) fun e he => h e (List.mem_cons_of_mem _ he)
    exact ⟨by simp [noDs, h1.1, h2.1], by simp [PyData.depthAll]; omega⟩
end
theorem dep_okd {n : Nat} {d : D} (h : okd n d) (hn : n ≤ 64) : dep d = true := by
  have := okd_dep h
  unfold dep
  rw [this.1, Bool.and_true]
  exact decide_eq_true (by omega)
mutual
theorem eqv_okd : ∀ {n : Nat} {d : D}, okd n d → PyData.eqv d d = true
  | n, .none, _ => by simp [PyData.eqv]
  | n, .int _, _ => by simp [PyData.eqv]
  | n, .str _, _ => by simp [PyData.eqv]
  | n, .bool _, _ => by simp [PyData.eqv]
  | 0, .list _, h => h.elim
  | 0, .tuple _, h => h.elim
  | n + 1, .list ds, h => by
    have := eqvs_okd (n := n) h.2
    simpa [PyData.eqv] using this
  | n + 1, .tuple ds, h => by
    have := eqvs_okd (n := n) h.2
    simpa [PyData.eqv] using this
  | n, .dict _, h => by cases n <;> exact h.elim
theorem eqvs_okd : ∀ {n : Nat} {ds : List D}, (∀ d ∈ ds, okd n d) → PyData.eqvAll ds ds = true
  | n, [], _ => by simp [PyData.eqvAll]
  | n, d :: ds, h => by
    have h1 := eqv_okd (h d List.mem_cons_self)
    have h2 := eqvs_okd (n := n) (ds := ds) fun e he => h e (List.mem_cons_of_mem _ he)
    simp [PyData.eqvAll, h1, h2]
end
theorem fEq_okd {n : Nat} {d : D} (h : okd n d) (hn : n ≤ 64) : fEq d d = some (.sh (.bool true)) := by
  unfold fEq
  rw [dep_okd h hn, eqv_okd h]; rfl
theorem fNe_okd {n : Nat} {d : D} (h : okd n d) (hn : n ≤ 64) : fNe d d = some (.sh (.bool false)) := by
  unfold fNe
  rw [dep_okd h hn, eqv_okd h]; rfl
mutual
/-- no bool in it -/
def nob : D → Bool
  | .bool _ => false
  | .list ds => nobs ds
  | .tuple ds => nobs ds
  | .dict _ => false
  | _ => true
def nobs : List D → Bool
  | [] => true
  | d :: ds => nob d && nobs ds
end
mutual
theorem eqv_nob : ∀ (d e : D), nob d = true → nob e = true → (PyData.eqv d e = true ↔ d = e)
  | .none, e, _, h => by cases e <;> simp [PyData.eqv]
  | .int _, e, _, h => by cases e <;> simp [PyData.eqv] <;> simp [nob] at h
  | .str _, e, _, h => by cases e <;> simp [PyData.eqv]
  | .bool _, _, h, _ => by simp [nob] at h
  | .list ds, e, h, h2 => by
    cases e with
    | list es =>
      have := eqvs_nob ds es (by simpa [nob] using h) (by simpa [nob] using h2)
      simpa [PyData.eqv] using this
    | _ => simp [PyData.eqv]
  | .tuple ds, e, h, h2 => by
    cases e with
    | tuple es =>
      have := eqvs_nob ds es (by simpa [nob] using h) (by simpa [nob] using h2)
      simpa [PyData.eqv] using this
    | _ => simp [PyData.eqv]
  | .dict _, _, h, _ => by simp [nob] at h
theorem eqvs_nob : ∀ (ds es : List D), nobs ds = true → nobs es = true → (PyData.eqvAll ds es = true ↔ ds = es)
  | [], [], _, _ => by simp [PyData.eqvAll]
  | [], _ :: _, _, _ => by simp [PyData.eqvAll]
  | _ :: _, [], _, _ => by simp [PyData.eqvAll]
  | d :: ds, e :: es, h, h2 => by
    have h' : nob d = true ∧ nobs ds = true := by simpa [nobs] using h
    have h2' : nob e = true ∧ nobs es = true := by simpa [nobs] using h2
    have a := eqv_nob d e h'.1 h2'.1
    have b := eqvs_nob ds es h'.2 h2'.2
    simp [PyData.eqvAll, a, b]
end
theorem nobs_mem : ∀ {ds : List D}, (∀ d ∈ ds, nob d = true) → nobs ds = true
  | [], _ => rfl
  | d :: ds, h => by
    rw [nobs, h d List.mem_cons_self, nobs_mem fun e he => h e (List.mem_cons_of_mem _ he)]; rfl
theorem nobs_zs (l : List Int) : nobs (zs l) = true := nobs_mem fun d hd => by
  obtain ⟨z, _, rfl⟩ := List.mem_map.mp hd
  rfl
theorem fEq_nob {n m : Nat} {d e : D} [Decidable (d = e)] (h : okd n d) (h2 : okd m e) (hn : n ≤ 64) (hm : m ≤ 64) (a : nob d = true) (b : nob e = true) : fEq d e = some (.sh (.bool (decide (d = e)))) := by
  unfold fEq
  rw [dep_okd h hn, dep_okd h2 hm]
  have := eqv_nob d e a b
  rw [if_pos (show (true && true) = true from rfl)]
  congr 3
  exact Bool.eq_iff_iff.mpr (this.trans decide_eq_true_iff.symm)
theorem fNe_nob {n m : Nat} {d e : D} [Decidable (d = e)] (h : okd n d) (h2 : okd m e) (hn : n ≤ 64) (hm : m ≤ 64) (a : nob d = true) (b : nob e = true) : fNe d e = some (.sh (.bool (!decide (d = e)))) := by
  unfold fNe
  rw [dep_okd h hn, dep_okd h2 hm]
  have := eqv_nob d e a b
  rw [if_pos (show (true && true) = true from rfl)]
  congr 4
  exact Bool.eq_iff_iff.mpr (this.trans decide_eq_true_iff.symm)
end ML

/-! ## M32 -/
set_option Elab.async false
set_option linter.all false
set_option autoImplicit false
set_option maxRecDepth 100000
set_option maxHeartbeats 4000000
namespace ML
open PySem PySem.Spec PyProof.Rows L2
section
variable {X : Cx} {W : Wd} {wx : WX} {K : PySem.W.Frag} {H H' : Hp} {σ : L2.St} {δ δ' : List Sl} {π : List Cell} {a b e : Expr} {es : List Expr} {pos : Pos} {S : Addr → Prop}
/-! ### [e, ..], items as they are -/
def ots : List Sl → Option (List Ot)
  | [] => some []
  | s :: l => (s.ot).bind fun o => (ots l).map (o :: ·)
theorem ots_adr : ∀ {l : List Sl} {os : List Ot}, ots l = some os → adrL l = Ot.adrs os ∧ (∀ s ∈ l, s.fit) ∧ os.length = l.length
  | [], os, h => by cases h; exact ⟨rfl, fun s hs => (nomatch hs), rfl⟩
  | s :: l, os, h => by
    obtain ⟨o, h1, h2⟩ := Option.bind_eq_some_iff.mp h
    obtain ⟨os', h3, rfl⟩ := Option.map_eq_some_iff.mp h2
    obtain ⟨i1, i2, i3⟩ := ots_adr h3
    have e1 := adr_ot h1
    refine ⟨?_, fun t ht => ?_, by rw [List.length_cons, List.length_cons, i3]⟩
    · rw [Ot.adrs, ← i1, ← e1]
      cases s <;> simp [adrL]
    · rcases List.mem_cons.mp ht with rfl | ht
      · exact ot_fit h1
      · exact i2 t ht
theorem Args.ows : ∀ {vs : List V} {l : List Sl} {os : List Ot}, Args K S H vs l → ots l = some os → Ows K S H vs os
  | _, [], os, h, e => by cases h; cases e; exact .nil
  | _, s :: l, os, h, e => by
    obtain ⟨o, h1, h2⟩ := Option.bind_eq_some_iff.mp e
    obtain ⟨os', h3, rfl⟩ := Option.map_eq_some_iff.mp h2
    cases h with
    | cons a r => exact .cons (a.ot h1) (r.ows h3)
theorem SS.gather {vs : List V} {l : List Sl} {os : List Ot} {p : Addr} (s : SS K W H σ δ (π ++ cells vs l)) (lv : vs.length = l.length) (ho : ots l = some os) (hp : H p = none) : SS K W (upd H p (.lst vs)) σ δ (π ++ [(some (.ref p), .ow (.nod (.lst p) os))]) := by
  obtain ⟨S, x⟩ := s.st
  obtain ⟨ea, hf, hlen⟩ := ots_adr ho
  have x1 := x.newL (p := p) hp (xs := []) (ds := []) .nil
  generalize hS1 : (fun b => S b ∨ b = p) = S1 at x1
  have e0 : (σ.zip δ ++ (π ++ cells vs l) ++ [(some (V.ref p), Sl.ow (Ot.flat p []))])[(σ.zip δ ++ (π ++ cells vs l)).length]? = some (some (V.ref p), Sl.ow (Ot.flat p [])) := snoc_last
  obtain ⟨xs, g1, g2, g3, g4, g5, g6⟩ := x1.mutAt (π := []) (s := .lst p) (os := []) e0 rfl
  have y : StF K W (upd H p (.lst [])) (σ.zip δ ++ (π ++ cells vs l)) S1 := by
    have x1' := x1
    rw [List.append_assoc] at x1'
    exact SS.restrict x1'
  have y' := y
  rw [← List.append_assoc] at y'
  have ga := StF.args y' lv hf
  have ow1 : Ows K S1 (upd H p (.lst [])) vs os := ga.ows ho
  have kp : ∀ b, b ∉ (Sh.lst p).own → upd H p (.lst vs) b = upd H p (.lst []) b := fun b hb => by
    have hne : b ≠ p := fun z => hb (by rw [z]; exact List.mem_cons_self)
    rw [upd_ne hne, upd_ne hne]
  -- where the addresses of os stand
  have hin : ∀ b ∈ Ot.adrs os, ∃ (j : Nat) (w : Option V) (oj : Ot), (σ.zip δ ++ π).length ≤ j ∧ j < (σ.zip δ ++ (π ++ cells vs l)).length ∧ (σ.zip δ ++ (π ++ cells vs l) ++ [(some (V.ref p), Sl.ow (Ot.flat p []))])[j]? = some (w, .ow oj) ∧ b ∈ oj.adr := by
    intro b hb
    rw [← ea, ← adrC_cells lv] at hb
    obtain ⟨k, w, oj, h1, h2⟩ := adrC_mem hb
    have hk : k < (cells vs l).length := (List.getElem?_eq_some_iff.mp h1).1
    refine ⟨(σ.zip δ ++ π).length + k, w, oj, by omega, ?_, ?_, h2⟩
    · rw [← List.append_assoc, List.length_append (as := σ.zip δ ++ π)]; omega
    · apply snoc_old
      rw [← List.append_assoc, List.getElem?_append_right (by omega), Nat.add_sub_cancel_left]
      exact h1
  have pno : ∀ b ∈ Ot.adrs os, b ≠ p := fun b hb z => by
    obtain ⟨j, w, oj, h1, h2, h3, h4⟩ := hin b hb
    refine x1.dj j _ _ _ _ _ b (by omega) h3 e0 h4 ?_
    rw [z, Ot.adr]
    exact List.mem_append_left _ (List.mem_cons_self)
  have ow2 : Ows K S1 (upd H p (.lst vs)) vs os := Ows.ev (g5 _ kp) _ _ (fun b hb u q => by
    rw [kp b (fun z => pno b hb (by simpa [Sh.own] using z))]
    exact q) ow1
  have z := g6 (.lst p) vs os (upd H p (.lst vs)) (fun j => (σ.zip δ ++ π).length ≤ j ∧ j < (σ.zip δ ++ (π ++ cells vs l)).length) ((σ.zip δ ++ π) ++ ((cells vs l).map (fun c => (c.1, Sl.un)) ++ [(some (.ref p), .ow (.nod (.lst p) os))])) rfl rfl kp upd_same ow2
    (by rw [← ea, ← adrC_cells lv]; exact adrC_nodup (A := σ.zip δ ++ π) x (by rw [List.append_assoc]))
    (fun b hb => by
      obtain ⟨j, w, oj, h1, h2, h3, h4⟩ := hin b hb
      exact .inr ⟨j, w, oj, by omega, ⟨h1, h2⟩, h3, h4⟩)
    (by
      rw [← List.append_assoc, List.getElem?_append_right (by simp)]
      have : (σ.zip δ ++ (π ++ cells vs l)).length - (σ.zip δ ++ π ++ List.map (fun c => (c.1, Sl.un)) (cells vs l)).length = 0 := by simp
      rw [this]
      rfl)
    (fun j c hj hc => by
      by_cases h1 : j < (σ.zip δ ++ π).length
      · rw [List.getElem?_append_left h1] at hc
        refine .inr ⟨?_, fun q => by omega⟩
        apply snoc_old
        rw [← List.append_assoc, List.getElem?_append_left h1]
        exact hc
      · rw [List.getElem?_append_right (by omega)] at hc
        by_cases h2 : j - (σ.zip δ ++ π).length < (cells vs l).length
        · rw [List.getElem?_append_left (by rw [List.length_map]; exact h2)] at hc
          rw [List.getElem?_map] at hc
          obtain ⟨c0, _, rfl⟩ := Option.map_eq_some_iff.mp hc
          exact .inl rfl
        · rw [List.getElem?_append_right (by rw [List.length_map]; omega)] at hc
          have := (List.getElem?_eq_some_iff.mp hc).1
          simp at this
          exfalso
          apply hj
          simp at *
          omega)
  rw [List.append_assoc] at z
  refine ⟨s.len, S1, ?_⟩
  have z2 : StF K W (upd H p (.lst vs)) (σ.zip δ ++ π ++ ((cells vs l).map (fun c => (c.1, Sl.un)) ++ [(some (.ref p), .ow (.nod (.lst p) os))])) S1 := by
    rw [List.append_assoc]; exact z
  have z3 := z2.mid
  rw [List.append_assoc] at z3
  exact z3
def vLstO (as : List VT) : VT := fun δ Q Xc => mvEv as δ (fun l δ' => ∃ os, ots l = some os ∧ ∀ p, Q (.ow (.nod (.lst p) os)) δ') Xc
theorem ve_lstO {as : List VT} (h : VMv X W wx es as) (hl : es.length ≤ 1000) (he : es.length = as.length := by rfl) : VE X W wx (.List es pos) (vLstO as) :=
  ⟨PE.imp (pe_lst h.pa) fun σ H Q ⟨δ, π, Qd, Xd, s, h, kk, xr⟩ => ⟨δ, π, _, Xd, s, h, fun l δ' q vs H' lv ll s' => by
    refine ⟨Nat.le_of_lt (small1000 (by omega)), fun p hp => ?_⟩
    obtain ⟨os, ho, q⟩ := q
    exact kk _ _ (q p) _ _ (s'.gather (by rw [lv, ll]) ho hp), xr⟩⟩
end
end ML

/-! ## M33 -/
set_option Elab.async false
set_option linter.all false
set_option autoImplicit false
set_option maxRecDepth 100000
set_option maxHeartbeats 4000000
namespace ML
open PySem PySem.Spec PyProof.Rows L2
/-! ### own exceptions with fields: __init__(self, f, ..): self.f = f .. -/
structure ExI (P : Program) (w : World) (K : PySem.W.Frag) (mg : Str → Option Value) (base : Heap) (k : Nat) (x : Str) (C : Addr) (fs : List Str) : Prop where
  T : OexC K C
  g : mg x = some (.ref C)
  ex : ∃ (fI : Addr) (fd : FuncData) (sp : Sp), PySem.W.findIn K (.ref C) "__init__" = some (some (.ref fI)) ∧ PySem.W.typeIn K (.ref fI) = some (.type "function") ∧ FnOk P w K mg base CX0 k fI fd ("self" :: fs) sp ∧ Binds K fd ("self" :: fs) [] ∧
    ∀ (a : Addr) (ys : List V) (H : Hp) (Q : VK), ys.length = fs.length → H a = some (exo a C none) → (∀ dx, H dx = none → dx ≠ a → Q .non (upd (upd H dx (exd dx (fs.zip ys).reverse)) a (exo a C (some dx)))) → sp (.ref a :: ys) H Q E0
def vRaiseF (C : Addr) (fs : List Str) (ts : VTs) : VSt := fun E δ => ts δ (fun ds δ' => E.ex ⟨C, fs.reverse, ds.reverse⟩ δ') E.ex
section
variable {X : Cx} {W : Wd} {wx : WX} {K : PySem.W.Frag} {H H' : Hp} {σ : L2.St} {δ δ' : List Sl} {π : List Cell} {e : Expr} {es : List Expr} {ts : VTs} {pos pos' p : Pos} {S : Addr → Prop}
theorem zip_rev {α β : Type} : ∀ {l : List α} {m : List β}, l.length = m.length → (l.zip m).reverse = l.reverse.zip m.reverse
  | [], [], _ => rfl
  | [], _ :: _, h => by cases h
  | _ :: _, [], h => by cases h
  | x :: l, y :: m, h => by
    have h' : l.length = m.length := by simpa using h
    rw [List.zip_cons_cons, List.reverse_cons, List.reverse_cons, List.reverse_cons, zip_rev h', List.zip_append (by rw [List.length_reverse, List.length_reverse, h'])]
    rfl
theorem vs_raiseF {x : Str} {C : Addr} {fs : List Str} {k : Nat} (G : ExI X.prog X.w X.K X.mg X.base k x C fs) (hr : Room (k + 1) X.A) (ha : VA X W wx (e :: es) ts) (hn : (e :: es).length = fs.length) (hl : fs.length ≤ 1000) (tk : Takes X wx) (hc : X.calm = true) (hg : Gl X x := by rfl)
    (hdb : (x == ("__debug__" : Str)) = false := by decide) (he : starEach (e :: es) X.env = (false, eval e X.env) :: starEach es X.env := by rfl) (hpl : (backTo pos (starEach es X.env)).any (·.1) = false := by rfl) :
    VS X W wx (.Raise (some (.Call (.Name x p) (e :: es) [] pos)) none pos') (vRaiseF C fs ts) := by
  obtain ⟨fI, fd, sp, iC, tI, F1, hb, hsp⟩ := G.ex
  refine ⟨PS.imp (ps_raise hc tk (pmk_oex (dvs := []) G.T iC tI F1 hr hb .nil (fun _ _ _ _ _ _ _ h => h.elim) hg G.g ha.pa hdb he hpl)) fun Dd σ H ⟨δ, π, E, s, h, kk⟩ => ?_⟩
  refine ⟨δ, π, _, _, s, h, fun ds δ1 q vs H1 lv ln s1 => ?_, kk.ex σ⟩
  have lf : vs.length = fs.length := by rw [lv, ln, hn]
  refine ⟨by omega, fun a na => ?_⟩
  rw [List.append_nil]
  refine hsp a vs (upd H1 a (exo a C none)) _ lf upd_same fun dx ndx nea => ⟨rfl, dx, (fs.zip vs).reverse, upd_same, ?_, ?_, ?_⟩
  · rw [upd_ne nea, upd_same]
  · rw [upd_ne nea] at ndx
    exact ndx
  have ndx' : H1 dx = none := by
    rw [upd_ne nea] at ndx
    exact ndx
  have eH : upd (del (upd (upd (upd H1 a (exo a C none)) dx (exd dx (fs.zip vs).reverse)) a (exo a C (some dx))) a) dx (.xd (fs.zip vs).reverse) = upd H1 dx (.xd (fs.zip vs).reverse) := by
    funext b
    by_cases h1 : b = dx
    · subst h1; rw [upd_same, upd_same]
    · rw [upd_ne h1, upd_ne h1]
      by_cases h2 : b = a
      · subst h2; rw [del_same, na]
      · rw [del_ne h2, upd_ne h2, upd_ne h1, upd_ne h2]
  rw [eH]
  obtain ⟨S, x1⟩ := s1.st
  have rp : Rps X.K S H1 vs ds := SS.reads x1 (by rw [lv, ln])
  have x2 : StF X.K W (upd H1 dx (.xd (fs.zip vs).reverse)) (σ.zip δ1 ++ π) S := (SS.restrict x1).more ndx'
  have ev : Ev S H1 S (upd H1 dx (.xd (fs.zip vs).reverse)) := ⟨fun b o h _ => upd_grow ndx' b o h, fun b h => .inl h⟩
  have rp2 : Rps X.K S (upd H1 dx (.xd (fs.zip vs).reverse)) vs.reverse ds.reverse := Rps.reverse (Rps.ev ev ds vs rp)
  refine kk.ex σ _ _ q (some dx) _ vs.reverse ⟨s1.len, S, ?_⟩ (by rw [List.length_reverse, List.length_reverse, lv, ln]) ⟨by rw [List.length_reverse, List.length_reverse, lf], .inr ⟨dx, rfl, ?_, ?_⟩⟩
  · have := StF.pushs x2 rp2
    rw [List.append_assoc] at this
    exact this
  · intro z
    have z' : fs.reverse = [] := z
    have : fs.length = 0 := by rw [List.reverse_eq_nil_iff.mp z']; rfl
    rw [this] at hn
    simp at hn
  · show (upd H1 dx (HO.xd (fs.zip vs).reverse)) dx = some (.xd (fs.reverse.zip vs.reverse))
    rw [upd_same, zip_rev (by rw [lf])]
/-! ### isinstance of any caught exception, its fields -/
theorem call_isE2 {a D : Addr} {d : Option Addr} {oe : Obj} {pn : List (Addr × Obj)} (C : ExcC X.K D) (hz : Zc (.ref D) d oe) (hf : ∃ vs, oe.data = .fields vs) : CallR (X.suite a ((a, oe) :: pn)) (.builtin "isinstance") (fun xs H Q => (∀ dx, d = some dx → ∃ fs, H dx = some (.xd fs)) ∧ rIsE X.K D a xs H Q) := by
  intro pins s σ H xs us Q I r h
  obtain ⟨hdx, c, cv, b, rfl, hcv, e, q⟩ := h
  cases r with
  | cons rx rr =>
    cases rr with
    | cons rt rr =>
      cases rr
      cases rx
      have ec := hcv _ rt
      subst ec
      obtain ⟨hget, _⟩ := I.pin (a, oe) (List.mem_append.mpr (.inl List.mem_cons_self))
      obtain ⟨vs, hv⟩ := hf
      have J : ∃ od, PySem.W.InstAt s.heap a oe D od := by
        obtain ⟨oc, od, oda, osl⟩ := oe
        obtain ⟨h1, h2⟩ := hz
        dsimp only at h1 h2 hv
        subst h1 h2 hv
        cases od with
        | none => exact ⟨none, hget, rfl, rfl, trivial⟩
        | some dx =>
          obtain ⟨fs, hfs⟩ := hdx dx rfl
          have hx : ObjOk X.prog X.w H s.heap dx (.xd fs) := I.hok dx _ hfs
          obtain ⟨mA, hns, _⟩ := hx
          obtain ⟨od, ho, _⟩ := lookIn_ns hns
          exact ⟨some od, hget, rfl, rfl, ho⟩
      obtain ⟨od, J⟩ := J
      obtain ⟨cdD, hcD, _⟩ := PySem.W.any_some C.hd
      exact PySem.W.kia_one (PySem.W.kitx_exc (gt := none) (by rw [hcD]; rfl) C.hg C.hk C.hs C.ha C.hn C.ht C.hm) I.kIn J e (fun z => nomatch z) fun tk => ⟨.bl b, H, I.kept (t' := tk) fun _ _ z => z, rfl, q⟩
/-- isinstance(e, T) -/
def xIsF (C : Addr) (b : Bool) : Exn → VT := fun x δ Q _ => x.cls = C ∧ Q (.sh (.bool b)) δ
theorem xe_isF {i : Nat} {C : Addr} {n T : Str} {c : V} {cv : Value} {b : Bool} {pn' pT pI : Pos} (hx : ExcC X.K C) (hT : ∀ (a : Addr) (oe : Obj) (pn : List (Addr × Obj)), PE (X.suite a ((a, oe) :: pn)) (.Name T pT) (tC c)) (hu : ∀ u, RelV c u → u = cv) (hk : PySem.W.kitOne X.K (.ref C) cv = some b)
    (hm : X.mg "isinstance" = none) (hN : X.N[i]? = some n := by rfl) (hv : Vis X.env.scope n := by first | exact Or.inl rfl | exact Or.inr (Or.inl rfl) | exact Or.inr (Or.inr rfl)) (hd : (n == ("__debug__" : Str)) = false := by decide) (hcd : (n == ("__classdict__" : Str)) = false := by decide)
    (hg : Gl X "isinstance" := by rfl) (he : starEach [.Name n pn', .Name T pT] X.env = (false, eval (.Name n pn') X.env) :: starEach [.Name T pT] X.env := by rfl) (he2 : starEach [.Name T pT] X.env = (false, eval (.Name T pT) X.env) :: starEach [] X.env := by rfl)
    (hpl : (backTo pos (starEach [.Name T pT] X.env)).any (·.1) = false := by rfl) : XE X W i (.Call (.Name "isinstance" pI) [.Name n pn', .Name T pT] [] pos) (fun x => xIsF C b x) := by
  refine ⟨fun a oe cls d pn z1 z2 => ?_⟩
  refine ⟨fun pins sh σ H Q I hh => ?_⟩
  obtain ⟨δ, π, Qd, x, vs, ρ, s, l, h1, h2, ds, q, k⟩ := hh
  obtain ⟨q1, q3⟩ := q
  have ec : cls = .ref C := by rw [h2, q1]
  subst ec
  have P : PE (X.suite a ((a, oe) :: pn)) (.Call (.Name "isinstance" pI) [.Name n pn', .Name T pT] [] pos) (tCB (fun xs H Q => (∀ dx, d = some dx → ∃ fs, H dx = some (.xd fs)) ∧ rIsE X.K C a xs H Q) (tCons (tVar i) (tCons (tC c) tNil))) :=
    pe_callB (call_isE2 hx z1 z2) hg hm (by decide +kernel) (pa_cons (pe_var hN hv hd hcd) (pa_cons (hT a oe pn) pa_nil he2) he) (by decide) (by decide) he hpl
  refine P.run pins sh σ H Q I ⟨.ref a, h1, ?_, c, cv, b, rfl, hu, hk, k _ _ q3 _ _ (s.push fun _ => .bl _) ds⟩
  intro dx hdx
  rcases ds.2 with ⟨_, z⟩ | ⟨dd, z1, _, z⟩
  · rw [z] at hdx; cases hdx
  · rw [z1] at hdx
    cases hdx
    exact ⟨_, z⟩
def xFld (C : Addr) (f : Str) : Exn → VT := fun x δ Q _ => x.cls = C ∧ ∃ d, (x.names.zip x.vals).lookup f = some d ∧ Q (.sh d) δ
theorem lookup_putD (f g : Str) (y : D) (fs : List (Str × D)) : ((f, y) :: fs).lookup g = if g = f then some y else fs.lookup g := by
  by_cases h : g = f
  · subst h
    simp [List.lookup]
  · have e : (g == f) = false := by simpa using h
    rw [if_neg h]
    simp [List.lookup, e]
theorem lookup_zip {f : Str} : ∀ {ns : List Str} {vs : List V} {ds : List D} {d : D}, vs.length = ds.length → (ns.zip ds).lookup f = some d → ∃ (v : V) (j : Nat), (ns.zip vs).lookup f = some v ∧ vs[j]? = some v ∧ ds[j]? = some d
  | [], vs, ds, d, _, h => by cases h
  | n :: ns, [], [], d, _, h => by cases h
  | n :: ns, [], _ :: _, d, l, h => by cases l
  | n :: ns, _ :: _, [], d, l, h => by cases l
  | n :: ns, v :: vs, e :: ds, d, l, h => by
    rw [List.zip_cons_cons, lookup_putD] at h
    rw [List.zip_cons_cons, lookup_put]
    by_cases c : f = n
    · rw [if_pos c] at h ⊢
      cases h
      exact ⟨v, 0, rfl, rfl, rfl⟩
    · rw [if_neg c] at h ⊢
      obtain ⟨v', j, h1, h2, h3⟩ := lookup_zip (by simpa using l) h
      exact ⟨v', j + 1, h1, by simpa using h2, by simpa using h3⟩
end
section
variable {X : Cx} {W : Wd} {pos : Pos}
theorem xe_fld {i : Nat} {C : Addr} {n f : Str} {pn' : Pos} (hx : XfC X.K C) (hno : PySem.W.findIn X.K (.ref C) f = some none)
    (hN : X.N[i]? = some n := by rfl) (hv : Vis X.env.scope n := by first | exact Or.inl rfl | exact Or.inr (Or.inl rfl) | exact Or.inr (Or.inr rfl)) (hd : (n == ("__debug__" : Str)) = false := by decide) (hcd : (n == ("__classdict__" : Str)) = false := by decide)
    (hb : attributeBase (.Name n pn') f X.env (eval (.Name n pn') X.env) = eval (.Name n pn') X.env := by rfl) : XE X W i (.Attribute (.Name n pn') f pos) (fun x => xFld C f x) := by
  refine ⟨fun a oe cls d pn z1 z2 => ?_⟩
  refine PE.imp (pe_xf hx hno z1 z2 (pe_var hN hv hd hcd) hb) fun σ H Q hh => ?_
  obtain ⟨δ, π, Qd, x, vs, ρ, s, l, h1, h2, ds, q, k⟩ := hh
  obtain ⟨q1, dd, q2, q3⟩ := q
  obtain ⟨v, j, e1, e2, e3⟩ := lookup_zip l q2
  refine ⟨.ref a, h1, rfl, by rw [h2, q1], ?_⟩
  rcases ds.2 with ⟨z, _⟩ | ⟨dx, z1, _, z⟩
  · rw [z] at e1; cases e1
  refine ⟨dx, _, v, z1, z, e1, k _ _ q3 _ _ ?_ ds⟩
  obtain ⟨S, y⟩ := s.st
  have y' := y
  rw [List.append_assoc π, ← List.append_assoc (σ.zip δ)] at y'
  have rp : Rps X.K S H vs x.vals := by
    have y2 : StF X.K W H (σ.zip δ ++ (π ++ shs vs x.vals)) S := SS.restrict y
    exact SS.reads y2 l
  exact s.pushF y (rp.at e2 e3)
end
end ML

/-! ## M34 -/
set_option Elab.async false
set_option linter.all false
set_option autoImplicit false
set_option maxRecDepth 100000
set_option maxHeartbeats 4000000
namespace ML
open PySem PySem.Spec PyProof.Rows L2
section
variable {X : Cx} {W : Wd} {wx : WX} {K : PySem.W.Frag} {H H' : Hp} {σ : L2.St} {δ δ' : List Sl} {π : List Cell} {a b c e : Expr} {es : List Expr} {pos : Pos} {S : Addr → Prop} {i : Nat}
/-! ### an exception's suite: displays, tests, if -/
def lXA (K : PySem.W.Frag) (W : Wd) (i : Nat) (a : Addr) (cls : Value) (d : Option Addr) (n : Nat) (t : Exn → VTs) : TA := fun σ H Q => ∃ (δ : List Sl) (π : List Cell) (Qd : List D → List Sl → Prop) (x : Exn) (vs : List V) (ρ : List Cell),
  SS K W H σ δ (π ++ shs vs x.vals ++ ρ) ∧ vs.length = x.vals.length ∧ σ[i]? = some (some (.ref a)) ∧ cls = .ref x.cls ∧ DS H d x.names vs ∧ t x δ Qd noX ∧
  ∀ ds δ', Qd ds δ' → ∀ us H', us.length = ds.length → ds.length = n → SS K W H' σ δ' (π ++ shs vs x.vals ++ ρ ++ shs us ds) → DS H' d x.names vs → Q us H'
structure XA (X : Cx) (W : Wd) (i : Nat) (es : List Expr) (t : Exn → VTs) : Prop where
  run : ∀ (a : Addr) (oe : Obj) (cls : Value) (d : Option Addr) (pn : List (Addr × Obj)), Zc cls d oe → (∃ vs, oe.data = .fields vs) → PA (X.suite a ((a, oe) :: pn)) es (lXA X.K W i a cls d es.length t)
theorem xa_nil : XA X W i [] (fun _ => vNil) := ⟨fun a oe cls d pn z1 z2 => PA.imp pa_nil fun σ H Q ⟨δ, π, Qd, x, vs, ρ, s, l, h1, h2, ds, q, k⟩ => k _ _ q [] H rfl rfl (by rw [shs_nil, List.append_nil]; exact s) ds⟩
theorem xa_cons {t : Exn → VT} {ts : Exn → VTs} (he : XE X W i e t) (hr : XA X W i es ts) (hs : starEach (e :: es) X.env = (false, eval e X.env) :: starEach es X.env := by rfl) : XA X W i (e :: es) (fun x => vCons (t x) (ts x)) := by
  refine ⟨fun a oe cls d pn z1 z2 => PA.imp (pa_cons (he.run a oe cls d pn z1 z2) (hr.run a oe cls d pn z1 z2) hs) fun σ H Q ⟨δ, π, Qd, x, vs, ρ, s, l, h1, h2, ds, q, k⟩ => ?_⟩
  refine ⟨δ, π, _, x, vs, ρ, s, l, h1, h2, ds, q, fun rv δ1 q1 v H1 s1 ds1 => ?_⟩
  refine ⟨δ1, π, _, x, vs, ρ ++ [(some v, .sh rv.get)], ?_, l, h1, h2, ds1, q1.2, fun es δ2 q2 us H2 l2 n2 s2 ds2 => ?_⟩
  · rw [← List.append_assoc]
    exact s1.shr q1.1
  · refine k _ _ q2 (v :: us) H2 (by rw [List.length_cons, List.length_cons, l2]) (by rw [List.length_cons, List.length_cons, n2]) ?_ ds2
    rw [show shs (v :: us) ((Sl.sh rv.get).get :: es) = (some v, .sh rv.get) :: shs us es from rfl, List.append_cons]
    rw [← List.append_assoc] at s2
    exact s2
theorem xe_tup {k : Nat} {ts : Exn → VTs} (h : XA X W i es ts) (hl : es.length ≤ 1000) (hs : starEach es X.env = starEach es X.env := by rfl) : XE X W i (.Tuple es k pos) (fun x => vTup (ts x)) :=
  ⟨fun a oe cls d pn z1 z2 => PE.imp (pe_tup (h.run a oe cls d pn z1 z2)) fun σ H Q ⟨δ, π, Qd, x, vs, ρ, s, l, h1, h2, ds, q, k⟩ => ⟨δ, π, _, x, vs, ρ, s, l, h1, h2, ds, q, fun es δ' q us H' l' n s' ds' => by
    refine ⟨Nat.le_of_lt (small1000 (by omega)), fun p hp => ?_⟩
    obtain ⟨S, x1⟩ := s'.st
    obtain ⟨_, z⟩ := s'.drop.new (SS.restrict x1) (.tup hp (SS.reads x1 l'))
    refine k _ _ q _ _ z ⟨ds'.1, ?_⟩
    rcases ds'.2 with h | ⟨dd, e1, e2, e3⟩
    · exact .inl h
    · exact .inr ⟨dd, e1, e2, by rw [upd_ne (fun z => by rw [z, hp] at e3; cases e3)]; exact e3⟩⟩⟩
theorem xe_lst {ts : Exn → VTs} (h : XA X W i es ts) (hl : es.length ≤ 1000) : XE X W i (.List es pos) (fun x => vLst (ts x)) :=
  ⟨fun a oe cls d pn z1 z2 => PE.imp (pe_lst (h.run a oe cls d pn z1 z2)) fun σ H Q ⟨δ, π, Qd, x, vs, ρ, s, l, h1, h2, ds, q, k⟩ => ⟨δ, π, _, x, vs, ρ, s, l, h1, h2, ds, q, fun es δ' q us H' l' n s' ds' => by
    refine ⟨Nat.le_of_lt (small1000 (by omega)), fun p hp => ?_⟩
    obtain ⟨S, x1⟩ := s'.st
    obtain ⟨p2, z⟩ := s'.drop.new (SS.restrict x1) (.lst hp (SS.reads x1 l'))
    refine k _ _ (q p2) _ _ z ⟨ds'.1, ?_⟩
    rcases ds'.2 with h | ⟨dd, e1, e2, e3⟩
    · exact .inl h
    · exact .inr ⟨dd, e1, e2, by rw [upd_ne (fun z => by rw [z, hp] at e3; cases e3)]; exact e3⟩⟩⟩
/-! tests -/
def lXT (K : PySem.W.Frag) (W : Wd) (i : Nat) (a : Addr) (cls : Value) (d : Option Addr) (t : Exn → VTt) : TT := fun σ H Q => ∃ (δ : List Sl) (π : List Cell) (Qd : Bool → List Sl → Prop) (x : Exn) (vs : List V) (ρ : List Cell),
  SS K W H σ δ (π ++ shs vs x.vals ++ ρ) ∧ vs.length = x.vals.length ∧ σ[i]? = some (some (.ref a)) ∧ cls = .ref x.cls ∧ DS H d x.names vs ∧ t x δ Qd noX ∧
  ∀ b δ', Qd b δ' → ∀ H', SS K W H' σ δ' (π ++ shs vs x.vals ++ ρ) → DS H' d x.names vs → Q b H'
structure XT (X : Cx) (W : Wd) (i : Nat) (e : Expr) (t : Exn → VTt) : Prop where
  run : ∀ (a : Addr) (oe : Obj) (cls : Value) (d : Option Addr) (pn : List (Addr × Obj)), Zc cls d oe → (∃ vs, oe.data = .fields vs) → PT (X.suite a ((a, oe) :: pn)) e (lXT X.K W i a cls d t)
structure XW (X : Cx) (W : Wd) (i : Nat) (e : Expr) (t : Exn → VTt) : Prop where
  run : ∀ (a : Addr) (oe : Obj) (cls : Value) (d : Option Addr) (pn : List (Addr × Obj)), Zc cls d oe → (∃ vs, oe.data = .fields vs) → PW (X.suite a ((a, oe) :: pn)) e (lXT X.K W i a cls d t)
theorem xt_val {t : Exn → VT} (h : XE X W i e t) (he : ∀ whole, isTrue e X.env whole = (do let v ← whole; standAt e.pos; holding [v] (truthy v)) := by intro _; rfl) : XT X W i e (fun x => vB (t x)) :=
  ⟨fun a oe cls d pn z1 z2 => PT.imp (pt_val (h.run a oe cls d pn z1 z2) he) fun σ H Q ⟨δ, π, Qd, x, vs, ρ, s, l, h1, h2, ds, q, k⟩ => ⟨δ, π, _, x, vs, ρ, s, l, h1, h2, ds, q, fun rv δ' q v H' s' ds' => by
    obtain ⟨b, rfl, q⟩ := q
    exact ⟨b, s'.bool, k _ _ q _ s'.drop ds'⟩⟩⟩
theorem xt_not {t : Exn → VTt} (h : XT X W i a t) : XT X W i (.UnaryOp .Not a pos) (fun x => vNot (t x)) :=
  ⟨fun a oe cls d pn z1 z2 => PT.imp (pt_not (h.run a oe cls d pn z1 z2)) fun σ H Q ⟨δ, π, Qd, x, vs, ρ, s, l, h1, h2, ds, q, k⟩ => ⟨δ, π, _, x, vs, ρ, s, l, h1, h2, ds, q, fun b δ' q H' s' ds' => k _ _ q _ s' ds'⟩⟩
theorem xw_and1 {t : Exn → VTt} (h : XT X W i a t) : XW X W i (.BoolOp .And [a] pos) t := ⟨fun a oe cls d pn z1 z2 => pw_and1 (h.run a oe cls d pn z1 z2)⟩
theorem xw_and {t u : Exn → VTt} (ha : XT X W i a t) (hb : XW X W i (.BoolOp .And (b :: es) pos) u) : XW X W i (.BoolOp .And (a :: b :: es) pos) (fun x => vAnd (t x) (u x)) :=
  ⟨fun a oe cls d pn z1 z2 => PW.imp (pw_and (ha.run a oe cls d pn z1 z2) (hb.run a oe cls d pn z1 z2)) fun σ H Q ⟨δ, π, Qd, x, vs, ρ, s, l, h1, h2, ds, q, k⟩ => ⟨δ, π, _, x, vs, ρ, s, l, h1, h2, ds, q, fun b δ' q H' s' ds' => by
    cases b with
    | true =>
      rw [if_pos rfl]
      rw [if_pos rfl] at q
      exact ⟨δ', π, Qd, x, vs, ρ, s', l, h1, h2, ds', q, k⟩
    | false =>
      rw [if_neg (by decide)]
      rw [if_neg (by decide)] at q
      exact k _ _ q _ s' ds'⟩⟩
theorem xw_or1 {t : Exn → VTt} (h : XT X W i a t) : XW X W i (.BoolOp .Or [a] pos) t := ⟨fun a oe cls d pn z1 z2 => pw_or1 (h.run a oe cls d pn z1 z2)⟩
theorem xw_or {t u : Exn → VTt} (ha : XT X W i a t) (hb : XW X W i (.BoolOp .Or (b :: es) pos) u) : XW X W i (.BoolOp .Or (a :: b :: es) pos) (fun x => vOr (t x) (u x)) :=
  ⟨fun a oe cls d pn z1 z2 => PW.imp (pw_or (ha.run a oe cls d pn z1 z2) (hb.run a oe cls d pn z1 z2)) fun σ H Q ⟨δ, π, Qd, x, vs, ρ, s, l, h1, h2, ds, q, k⟩ => ⟨δ, π, _, x, vs, ρ, s, l, h1, h2, ds, q, fun b δ' q H' s' ds' => by
    cases b with
    | true =>
      rw [if_pos rfl]
      rw [if_pos rfl] at q
      exact k _ _ q _ s' ds'
    | false =>
      rw [if_neg (by decide)]
      rw [if_neg (by decide)] at q
      exact ⟨δ', π, Qd, x, vs, ρ, s', l, h1, h2, ds', q, k⟩⟩⟩
theorem xt_w {t : Exn → VTt} (h : XW X W i e t) : XT X W i e t := ⟨fun a oe cls d pn z1 z2 => (h.run a oe cls d pn z1 z2).pt⟩
/-- if of a suite: its body doesn't fall through -/
def xIf (c : Exn → VTt) (p q : Exn → VSt) : Exn → VSt := fun x E δ => c x δ (fun b δ' => if b = true then p x ⟨fun _ => False, E.rt, E.bk, E.ct, E.ex⟩ δ' else q x E δ') noX
theorem vx_if {tc : Exn → VTt} {xs rest : List Stmt} {p q : Exn → VSt} (hc : XT X W i c tc) (ha : VX X W i xs p) (hb : VX X W i rest q) : VX X W i (.If c xs [] pos :: rest) (xIf tc p q) := by
  refine ⟨fun a oe cls d pn z1 z2 => ?_⟩
  refine PSs.imp (pss_cons (ps_if (hc.run a oe cls d pn z1 z2) (ha.run a oe cls d pn z1 z2) pss_nil) (hb.run a oe cls d pn z1 z2)) fun Dd σ H ⟨δ, π, E, x, vs, s, l, h1, h2, ds, q, k⟩ => ?_
  refine ⟨δ, π, _, x, vs, [], by rw [List.append_nil]; exact s, l, h1, h2, ds, q, fun b δ' z H' s' ds' => ?_⟩
  rw [List.append_nil] at s'
  cases b with
  | true =>
    rw [if_pos rfl] at z ⊢
    exact ⟨δ', π, _, x, vs, s', l, h1, h2, ds', z, ⟨fun _ z => z.elim, k.rt, k.bk, k.ct, k.ex⟩⟩
  | false =>
    rw [if_neg (by decide)] at z ⊢
    exact ⟨δ', π, E, x, vs, s', l, h1, h2, ds', z, k⟩
end
end ML
namespace ML
open PySem PySem.Spec PyProof.Rows L2
/-! ### facts of an own exception with fields -/
def oexIn (K : PySem.W.Frag) (C : Addr) : Bool := match K.lookup C with
  | some ⟨.type "type", _, .cls cd, sl⟩ => (match cd.mro, sl.toList with
    | .ref C' :: bm, [_, _, _, _, some (.builtin n), _] => C' == C && n == "ValueError.__new__" && !cd.hasDel && cd.hasDict && PySem.HandSPX.refsVE bm
    | _, _ => false)
  | _ => false
theorem oex_of {K : PySem.W.Frag} {C : Addr} (q : oexIn K C = true) (sa : PySem.W.findIn K (.ref C) "__setattr__" = some (some (.builtin "object.__setattr__"))) (exC : PySem.W.subIn K (.ref C) (.type "BaseException") = some true)
    (tyC : PySem.W.typeIn K (.ref C) = some (.type "type")) (kC : PySem.W.keepIn K (.ref C) = true) : OexC K C := by
  refine ⟨?_, sa, exC, tyC, kC⟩
  unfold oexIn at q
  split at q
  · rename_i dd cd sl ho
    split at q
    · rename_i C' bm k0 k1 k2 k3 n k5 hm hs
      simp only [Bool.and_eq_true, beq_iff_eq, Bool.not_eq_true'] at q
      obtain ⟨⟨⟨⟨rfl, rfl⟩, hdel⟩, hd⟩, hr⟩ := q
      obtain ⟨nm, bs, mro, ns, qn, hdi, sn, sub, ab, col, del⟩ := cd
      dsimp only at hm hdel hd
      subst hm hdel hd
      have hsl : sl = #[k0, k1, k2, k3, some (.builtin "ValueError.__new__"), k5] := by
        obtain ⟨l⟩ := sl
        simp only at hs
        rw [hs]
      subst hsl
      exact ⟨nm, qn, ns, bs, bm, sn, sub, ab, col, dd, k0, k1, k2, k3, k5, ho, hr⟩
    · cases q
  · cases q
theorem upd_upd {H : Hp} {a : Addr} {o u : HO} : upd (upd H a o) a u = upd H a u := by
  funext b
  by_cases h : b = a
  · rw [h, upd_same, upd_same]
  · rw [upd_ne h, upd_ne h, upd_ne h]
theorem upd_swap {H : Hp} {a b : Addr} {o u : HO} (h : a ≠ b) : upd (upd H a o) b u = upd (upd H b u) a o := by
  funext c
  by_cases h1 : c = a
  · rw [h1, upd_same, upd_ne h, upd_same]
  · by_cases h2 : c = b
    · rw [h2, upd_same, upd_ne (Ne.symm h), upd_same]
    · rw [upd_ne h2, upd_ne h1, upd_ne h1, upd_ne h2]
section
variable {P : Program} {w : World} {K : PySem.W.Frag} {mg : Str → Option Value} {base : Heap} {x qual : Str} {C fI : Addr} {fd : FuncData} {st : Stmt}
def spI (C : Addr) (fs : List Str) : Sp := fun vs H Q _ => ∃ (a : Addr) (ys : List V), vs = .ref a :: ys ∧ ys.length = fs.length ∧ H a = some (exo a C none) ∧ ∀ dx, H dx = none → dx ≠ a → Q .non (upd (upd H dx (exd dx (fs.zip ys).reverse)) a (exo a C (some dx)))
theorem exi_mk {fs : List Str} (T : OexC K C) (g : mg x = some (.ref C)) (iC : PySem.W.findIn K (.ref C) "__init__" = some (some (.ref fI))) (tI : PySem.W.typeIn K (.ref fI) = some (.type "function"))
    (F : FnOk P w K mg base CX0 1 fI fd ("self" :: fs) (spI C fs)) (hb : Binds K fd ("self" :: fs) []) : ExI P w K mg base 1 x C fs :=
  ⟨T, g, fI, fd, _, iC, tI, F, hb, fun a ys H Q hl ha k => ⟨a, ys, rfl, hl, ha, k⟩⟩
theorem spI_len {fs : List Str} {vs : List V} {H : Hp} {Q : VK} {E : XK} (h : spI C fs vs H Q E) : vs.length = ("self" :: fs : List Str).length := by
  obtain ⟨a, ys, rfl, hl, _⟩ := h
  rw [List.length_cons, List.length_cons, hl]
/-- the bodies' readings -/
theorem rd1 {f : Str} {vs : List V} {H : Hp} {Q : VK} {E : XK} {D : Ends} {N : List Str} (T : OexC K C) (n1 : PySem.W.findIn K (.ref C) f = some none) (h : spI C [f] vs H Q E) (hD : ∀ σ H', D.nx σ H' = Q .non H') (hN : N = (["self", f] : List Str)) :
    tOst K f (tVar 0) (tVar 1) D (start N vs) H := by
  obtain ⟨a, ys, rfl, hl, ha, k⟩ := h
  subst hN
  match ys, hl with
  | [y], _ =>
    refine ⟨y, rfl, .ref a, rfl, a, C, rfl, T, n1, .inl ⟨ha, fun dx h1 h2 => ?_⟩⟩
    rw [hD]
    exact k dx h1 h2
theorem rd2 {f g : Str} {vs : List V} {H : Hp} {Q : VK} {E : XK} {D D1 : Ends} {N : List Str} (T : OexC K C) (n1 : PySem.W.findIn K (.ref C) f = some none) (n2 : PySem.W.findIn K (.ref C) g = some none) (h : spI C [f, g] vs H Q E) (hD : ∀ σ H', D.nx σ H' = Q .non H')
    (hD1 : ∀ σ H', D1.nx σ H' = tOst K g (tVar 0) (tVar 2) D σ H') (hN : N = (["self", f, g] : List Str)) : tOst K f (tVar 0) (tVar 1) D1 (start N vs) H := by
  obtain ⟨a, ys, rfl, hl, ha, k⟩ := h
  subst hN
  match ys, hl with
  | [y, z], _ =>
    refine ⟨y, rfl, .ref a, rfl, a, C, rfl, T, n1, .inl ⟨ha, fun dx h1 h2 => ?_⟩⟩
    rw [hD1]
    refine ⟨z, rfl, .ref a, rfl, a, C, rfl, T, n2, .inr ⟨dx, [(f, y)], upd_same, ?_, by show 1 ≤ 900; omega, ?_⟩⟩
    · rw [upd_ne h2, upd_same]
    · rw [hD]
      have := k dx h1 h2
      have e : upd (upd (upd H dx (exd dx [(f, y)])) a (exo a C (some dx))) dx (exd dx [(g, z), (f, y)]) = upd (upd H dx (exd dx ([f, g].zip [y, z]).reverse)) a (exo a C (some dx)) := by
        rw [upd_swap (Ne.symm h2), upd_upd]
        rfl
      rw [e]
      exact this
end
end ML

/-! ## M35 -/
set_option Elab.async false
set_option linter.all false
set_option autoImplicit false
set_option maxRecDepth 100000
set_option maxHeartbeats 4000000
namespace ML
open PySem PySem.Spec PyProof.Rows L2
section
variable {X : Cx} {W : Wd} {wx : WX} {K : PySem.W.Frag} {H H' : Hp} {σ : L2.St} {δ δ' : List Sl} {π : List Cell} {a b c e ov : Expr} {es : List Expr} {pos apos cpos : Pos} {S : Addr → Prop}
/-! ### CONSTANT.index(text) -/
def wrN (K : PySem.W.Frag) (a : Addr) : Bool := match K.lookup a with
  | some o => o.dict.isNone
  | none => false
structure GlT (K : PySem.W.Frag) (mg : Str → Option Value) (x : Str) (ws : List Str) : Prop where
  ex : ∃ a, mg x = some (.ref a) ∧ wrTx K a ws = true ∧ wrN K a = true
theorem GlT.glc {mg : Str → Option Value} {x : Str} {ws : List Str} (G : GlT K mg x ws) : GlC K mg x (.tuple (ws.map .str)) := by
  obtain ⟨a, h1, h2, _⟩ := G.ex
  exact glc_tx h1 h2
def fTIx (ws : List Str) (d : D) : Option Rs := match d with
  | .str z => if z ∈ ws then some (.sh (.int (ws.idxOf z))) else none
  | _ => none
theorem ve_tix {x : Str} {ws : List Str} {o : Opr} (G : GlT X.K X.mg x ws) (hb : VO X W wx e o) (hg : Gl X x := by rfl) (hd : (x == ("__debug__" : Str)) = false := by decide)
    (hbase : attributeBase (.Name x pos) "index" X.env (eval (.Name x pos) X.env) = eval (.Name x pos) X.env := by rfl) (hfew : Few X cpos [e] := by rfl) (hline : (apos.endLine == cpos.line) = true := by rfl) (hs : starEach [e] X.env = (false, eval e X.env) :: starEach [] X.env := by rfl) (hplain : (backTo cpos (starEach [] X.env)).any (·.1) = false := by rfl) :
    VE X W wx (.Call (.Attribute (.Name x pos) "index" apos) [e] [] cpos) (v1 (fTIx ws) o) := by
  obtain ⟨tb, B⟩ := hb
  obtain ⟨p, hm, hw, hn⟩ := G.ex
  refine ⟨PE.imp (pe_bm PySem.F.plainAttrs_tuple PySem.F.slot_tuple_index PySem.F.type_tuple_index mt_tup_index (pe_glob (v := .ref p) hg hm rfl hd) (pa_cons B.pe pa_nil hs) hbase hfew hline hs hplain) fun σ H Q h => ?_⟩
  unfold wrTx at hw
  split at hw
  · rename_i dd its n sl ek
    rw [Bool.and_eq_true] at hw
    have hl := of_decide_eq_true hw.1
    refine ⟨.inr (.inl ⟨rfl, _, ek, rfl, ?_⟩), ?_⟩
    · unfold wrN at hn
      rw [ek] at hn
      exact Option.isNone_iff_eq_none.mp hn
    · refine run1 (r := fun x H Q => (fun x xs H Q => ∃ p, ∃ ys : List Str, ∃ z j, x = .ref p ∧ xs = [.str z] ∧ SqT X.K H p (ys.map V.str) ∧ ys[j]? = some z ∧ (∀ m, m < j → ys[m]? ≠ some z) ∧ Q (.int (j : Nat)) H) (V.ref p) [x] H Q) B ?_ h
      intro S H x d res Q hx hf hq
      cases d with
      | str z =>
        have hf' : (if z ∈ ws then some (Rs.sh (.int (ws.idxOf z))) else none) = some res := hf
        by_cases c : z ∈ ws
        · rw [if_pos c] at hf'
          cases hf'
          have ex := Rr.str hx
          subst ex
          obtain ⟨r1, _⟩ := txAll_of (K := X.K) (S := S) (H := H) hw.2
          refine ⟨p, ws, z, ws.idxOf z, rfl, rfl, .inr ⟨_, its, n, ek, rfl, rfl, Nat.le_trans hl (by decide), r1⟩, ?_, fun m hm' e => ?_, hq _ _ (.old (.int _))⟩
          · have := List.idxOf_lt_length_of_mem c
            rw [List.getElem?_eq_getElem this, List.getElem_idxOf this]
          · have hm2 : m < ws.length := (List.getElem?_eq_some_iff.mp e).1
            rw [List.getElem?_eq_getElem hm2] at e
            have e' := Option.some.inj e
            have := List.not_of_lt_findIdx (p := (· == z)) (xs := ws) (i := m) hm'
            rw [e'] at this
            simp at this
        · rw [if_neg c] at hf'
          cases hf'
      | _ => cases hf
  · cases hw
/-! ### list.index -/
def fLIx : D → D → Option Rs
  | .list ds, d => if (dep d && dep (.list ds)) = true then (ds.findIdx? fun z => PyData.eqv z d).map fun j => .sh (.int (j : Nat)) else none
  | _, _ => none
def vLIx (a b : Opr) : VT := fun δ Q Xc => a.ev δ (fun ra δ1 => (∃ ds, a.fin true ra δ1 = some (.list ds)) ∧ b.ev δ1 (fun rb δ2 => ∃ x y r, a.fin true ra δ2 = some x ∧ b.fin true rb δ2 = some y ∧ fLIx x y = some r ∧ ∀ p, Q (r.to p) δ2) Xc) Xc
theorem ve_lix {oa ob : Opr} (hu : X.A.units + 65 < cLine) (ha : VO X W wx ov oa) (hb : VO X W wx e ob)
    (hbase : attributeBase ov "index" X.env (eval ov X.env) = eval ov X.env := by rfl) (hfew : Few X cpos [e] := by rfl) (hline : (apos.endLine == cpos.line) = true := by rfl) (hs : starEach [e] X.env = (false, eval e X.env) :: starEach [] X.env := by rfl) (hplain : (backTo cpos (starEach [] X.env)).any (·.1) = false := by rfl) :
    VE X W wx (.Call (.Attribute ov "index" apos) [e] [] cpos) (vLIx oa ob) := by
  obtain ⟨ta, A⟩ := ha
  obtain ⟨tb, B⟩ := hb
  refine ⟨PE.imp (pe_bm PySem.F.plainAttrs_list PySem.F.slot_list_index PySem.F.type_list_index (mt_indexD hu) A.pe (pa_cons B.pe pa_nil hs) hbase hfew hline hs hplain) fun σ H Q h => ?_⟩
  obtain ⟨δ, π, Qd, Xd, s, h, k, xr⟩ := h
  refine A.run σ H δ π _ Xd _ s h xr fun ra δ1 q v H1 s1 i1 => ?_
  obtain ⟨⟨ds, hd⟩, q⟩ := q
  refine ⟨?_, ?_⟩
  · obtain ⟨S, x⟩ := s1.st
    have r := Opr.read (ρ := []) (m := true) s1.len x i1 hd
    obtain ⟨p, xs, rfl, h2, _⟩ := RqA.list r
    exact .inl ⟨rfl, xs, h2⟩
  · refine B.run σ H1 δ1 _ _ Xd _ s1 q xr.more fun rb δ2 q u H2 s2 i2 => ?_
    obtain ⟨x, y, res, e1, e2, e3, q⟩ := q
    obtain ⟨S, z⟩ := s2.st
    have z1 : StF X.K W H2 (σ.zip δ2 ++ (π ++ ((some v, ra) :: [(some u, rb)]))) S := by
      rw [List.append_assoc] at z
      exact z
    have rx := Opr.read (m := true) s2.len z1 i1 e1
    have ry := Opr.read (m := true) (ρ := []) s2.len z i2 e2
    cases x with
    | list es =>
      have e3' : (if (dep y && dep (.list es)) = true then (es.findIdx? fun z => PyData.eqv z y).map fun j => Rs.sh (.int (j : Nat)) else none) = some res := e3
      by_cases c : (dep y && dep (.list es)) = true
      · rw [if_pos c] at e3'
        obtain ⟨j, hj, rfl⟩ := Option.map_eq_some_iff.mp e3'
        rw [Bool.and_eq_true] at c
        have d1 := RqA.dp (dep_n c.2) rx
        have d2 := RqA.dp (dep_n c.1) ry
        obtain ⟨p, xs, rfl, _, _⟩ := RqA.list rx
        obtain ⟨hjl, hj1, hj2⟩ := List.findIdx?_eq_some_iff_getElem.mp hj
        refine ⟨p, u, y, es, j, es[j], rfl, rfl, d1, d2, RqA.shaped rx c.2, RqA.shaped ry c.1, List.getElem?_eq_getElem hjl, hj1, fun m z' hm hz => ?_, ?_⟩
        · have hml : m < es.length := by omega
          rw [List.getElem?_eq_getElem hml] at hz
          cases hz
          simpa using hj2 m hm
        · obtain ⟨p2, s3⟩ := s2.drop.drop.new (SS.restrict (SS.restrict z)) (.old (.int (j : Nat)))
          exact k _ _ (q p2) _ _ s3
      · rw [if_neg c] at e3'
        cases e3'
    | _ => cases e3
end
end ML

/-! ## M36 -/
set_option Elab.async false
set_option linter.all false
set_option autoImplicit false
set_option maxRecDepth 100000
set_option maxHeartbeats 4000000
namespace ML
open PySem PySem.Spec PyProof.Rows L2
theorem nn_n : ML.isNon .none = true := rfl
theorem nn_i (i : Int) : ML.isNon (.int i) = false := rfl
theorem nn_b (i : Bool) : ML.isNon (.bool i) = false := rfl
theorem nn_s (i : Str) : ML.isNon (.str i) = false := rfl
theorem nn_l (i : List D) : ML.isNon (.list i) = false := rfl
theorem nn_t (i : List D) : ML.isNon (.tuple i) = false := rfl
theorem cutD_to (l : List D) (b : Nat) : cutD l none (some (b : Int)) = l.take b := by
  unfold cutD
  rw [HT.sIx_none, HT.sIx_nat, List.drop_zero, Nat.sub_zero, ← List.take_take, List.take_length]
theorem cutD_from (l : List D) (b : Nat) : cutD l (some (b : Int)) none = l.drop b := by
  unfold cutD
  rw [HT.sIx_none, HT.sIx_nat]
  by_cases h : b ≤ l.length
  · rw [Nat.min_eq_left h]
    exact List.take_of_length_le (by rw [List.length_drop]; exact Nat.le_refl _)
  · rw [Nat.min_eq_right (by omega), List.drop_of_length_le (by omega : l.length ≤ b), List.drop_length]; simp
theorem cutD_both (l : List D) (a b : Nat) : cutD l (some (a : Int)) (some (b : Int)) = (l.drop a).take (b - a) := by
  unfold cutD
  rw [HT.sIx_nat, HT.sIx_nat]
  by_cases h : a ≤ l.length
  · rw [Nat.min_eq_left h]
    by_cases h2 : b ≤ l.length
    · rw [Nat.min_eq_left h2]
    · rw [Nat.min_eq_right (by omega)]
      rw [List.take_of_length_le (by rw [List.length_drop]; exact Nat.le_refl _), List.take_of_length_le (by rw [List.length_drop]; omega)]
  · rw [Nat.min_eq_right (a := a) (b := l.length) (by omega), List.drop_of_length_le (i := a) (by omega : l.length ≤ a), List.drop_length]; simp
theorem slU_list (ds : List D) (n : Nat) : fSlU (.list ds) (.int (n : Int)) = some (.nw (ds.take n)) := by
  show some (Rs.nw (cutD ds none (some (n : Int)))) = _
  rw [cutD_to]
theorem slL_list (ds : List D) (n : Nat) : fSlL (.list ds) (.int (n : Int)) = some (.nw (ds.drop n)) := by
  show some (Rs.nw (cutD ds (some (n : Int)) none)) = _
  rw [cutD_from]
theorem slB_list (ds : List D) (a b : Nat) : slD (.list ds) (some (a : Int)) (some (b : Int)) = some (.nw ((ds.drop a).take (b - a))) := by
  show some (Rs.nw (cutD ds (some (a : Int)) (some (b : Int)))) = _
  rw [cutD_both]
theorem zs_inj {a b : List Int} (h : zs a = zs b) : a = b := by
  have : ∀ {a b : List Int}, a.map PyData.int = b.map PyData.int → a = b := by
    intro a
    induction a with
    | nil => intro b h; cases b <;> first | rfl | cases h
    | cons x a ih =>
      intro b h
      cases b with
      | nil => cases h
      | cons y b =>
        rw [List.map_cons, List.map_cons] at h
        injection h with h1 h2
        injection h1 with h1
        rw [h1, ih h2]
  exact this h
theorem dep_zl (l : List Int) (h : l.length ≤ 1000000) : dep (.list (zs l)) = true := dep_okd (okd_zl (n := 0) l h) (by omega)
theorem nob_zl (l : List Int) : nob (.list (zs l)) = true := by
  simp [nob, nobs_zs]
theorem eqv_zl (a b : List Int) : PyData.eqv (.list (zs a)) (.list (zs b)) = decide (a = b) := by
  refine Bool.eq_iff_iff.mpr ((eqv_nob _ _ (nob_zl a) (nob_zl b)).trans ?_)
  constructor
  · intro h
    injection h with h
    exact decide_eq_true (zs_inj h)
  · intro h
    rw [of_decide_eq_true h]
theorem fEq_zl (a b : List Int) (h1 : a.length ≤ 1000000) (h2 : b.length ≤ 1000000) : fEq (.list (zs a)) (.list (zs b)) = some (.sh (.bool (decide (a = b)))) := by
  unfold fEq
  rw [dep_zl a h1, dep_zl b h2, if_pos (show (true && true) = true from rfl), eqv_zl]
theorem fNe_zl (a b : List Int) (h1 : a.length ≤ 1000000) (h2 : b.length ≤ 1000000) : fNe (.list (zs a)) (.list (zs b)) = some (.sh (.bool (!decide (a = b)))) := by
  unfold fNe
  rw [dep_zl a h1, dep_zl b h2, if_pos (show (true && true) = true from rfl), eqv_zl]
theorem zs_take (l : List Int) (n : Nat) : (zs l).take n = zs (l.take n) := List.map_take.symm
theorem zs_drop (l : List Int) (n : Nat) : (zs l).drop n = zs (l.drop n) := List.map_drop.symm
theorem zs_app (a b : List Int) : zs a ++ zs b = zs (a ++ b) := List.map_append.symm
theorem zs_len (l : List Int) : (zs l).length = l.length := List.length_map _
theorem ix_zl {l : List Int} {k : Nat} (h : k < l.length) : fIx (.list (zs l)) (.int (k : Int)) = some (.sh (.int l[k])) := ixl (by rw [List.getElem?_map, List.getElem?_eq_getElem h]; rfl)
end ML

/-! ## M37 -/
set_option Elab.async false
set_option linter.all false
set_option autoImplicit false
set_option maxRecDepth 100000
set_option maxHeartbeats 4000000
namespace ML
open PySem PySem.Spec PyProof.Rows L2
section
variable {X : Cx} {W : Wd} {wx : WX} {K : PySem.W.Frag} {H H' : Hp} {σ : L2.St} {δ δ' : List Sl} {π ν ρ : List Cell} {a b c e f ov tg iter kx vx : Expr} {es ifs : List Expr} {t u tk tv : VT} {pos apos cpos : Pos} {S : Addr → Prop} {i : Nat}
/-! ### {} -/
abbrev Ot.dct (p : Addr) (ks : List Key) (os : List Ot) : Ot := .nod (.dct p ks) os
def vDct0 : VT := fun δ Q _ => ∀ p, Q (.ow (.dct p [] [])) δ
theorem ve_dct0 : VE X W wx (.Dict [] [] pos) vDct0 := by
  refine ⟨PE.imp pe_dnewK fun σ H Q h => ?_⟩
  obtain ⟨δ, π, Qd, Xd, s, h, k, xr⟩ := h
  intro p hp
  refine k _ _ (h p) _ _ ?_
  obtain ⟨S, x⟩ := s.st
  refine ⟨s.len, fun b => S b ∨ b = p, ?_⟩
  have := x.newS (u := .dK []) (s := .dct p []) (xs := []) (ds := []) hp rfl ⟨by rw [upd_same]; rfl, rfl, List.nodup_nil, fun k hk => by cases hk⟩ .nil
  rw [List.append_assoc] at this
  exact this
/-! ### d.get(k), d.get(k, x) -/
def isDictD : D → Bool
  | .dict kvs => isDct kvs
  | _ => false
def getD2 (d k x : D) : Option D := match d with
  | .dict kvs => if isDct kvs = true then (kidx k).map fun k => (dlook kvs k).getD x else none
  | _ => none
def vGet1 (o : Opr) (t : VT) : VT := fun δ Q Xc => o.ev δ (fun ra δ1 => (∃ d, o.fin true ra δ1 = some d ∧ isDictD d = true) ∧ vS t δ1 (fun rk δ2 => ∃ dk d r, rk = .sh dk ∧ o.fin false ra δ2 = some d ∧ getD2 d dk .none = some r ∧ Q (.sh r) δ2) Xc) Xc
def vGet2 (o : Opr) (t u : VT) : VT := fun δ Q Xc => o.ev δ (fun ra δ1 => (∃ d, o.fin true ra δ1 = some d ∧ isDictD d = true) ∧ vS t δ1 (fun rk δ2 => ∃ dk, rk = .sh dk ∧ vS u δ2 (fun rx δ3 => ∃ dx d r, rx = .sh dx ∧ o.fin false ra δ3 = some d ∧ getD2 d dk dx = some r ∧ Q (.sh r) δ3) Xc) Xc) Xc
theorem isD_of {m : Bool} {v : V} {d : D} (h : Rr m K S H v d) (hd : isDictD d = true) : ∃ a, v = .ref a ∧ IsD H a := by
  cases d with
  | dict kvs =>
    cases m with
    | true =>
      obtain ⟨a, ks, xs, ds, rfl, _, h1, _⟩ := RqA.dictI h hd
      exact ⟨a, rfl, .inl ⟨_, h1⟩⟩
    | false =>
      obtain ⟨a, ks, xs, ds, rfl, _, h1, _⟩ := Rq.dictI h hd
      exact ⟨a, rfl, .inl ⟨_, h1⟩⟩
  | _ => cases hd
theorem get_of {v y z : V} {d k x r : D} (h : Rq K S H v d) (hy : Rp K S H y k) (hz : Rp K S H z x) (e : getD2 d k x = some r) : ∃ a o, v = .ref a ∧ DGet H a y o ∧ Rp K S H (o.getD z) r := by
  cases d with
  | dict kvs =>
    have e' : (if isDct kvs = true then (kidx k).map fun k => (dlook kvs k).getD x else none) = some r := e
    by_cases c : isDct kvs = true
    · rw [if_pos c] at e'
      obtain ⟨kk, e1, e2⟩ := Option.map_eq_some_iff.mp e'
      obtain ⟨a, ks, xs, ds, rfl, rfl, h1, h2, h3, h4, h5⟩ := Rq.dictI h c
      have ey := Rp.key_of e1 hy
      subst ey
      have q := dlook_at (k := kk) h2 (Rps.length h5)
      refine ⟨a, _, rfl, Or.inl ⟨_, _, h1, rfl, rfl⟩, ?_⟩
      cases el : dlook ((ks.map kD).zip ds) kk with
      | none =>
        rw [q.2 el]
        rw [el] at e2
        cases e2
        exact hz
      | some w =>
        obtain ⟨j, v', q1, q2, q3⟩ := q.1 w el
        rw [q1]
        rw [el] at e2
        cases e2
        exact h5.at q2 q3
    · rw [if_neg c] at e'
      cases e'
  | _ => cases e
theorem ve_get1 {o : Opr} (hu : X.A.units + 1 < cLine) (ha : VO X W wx ov o) (he : VE X W wx e t) (m : M1 X ov "get" apos e cpos) : VE X W wx (.Call (.Attribute ov "get" apos) [e] [] cpos) (vGet1 o t) := by
  obtain ⟨ta, A⟩ := ha
  refine ⟨PE.imp (pe_dget1 hu A.pe (ve_sh he).pe m) fun σ H Q h => ?_⟩
  obtain ⟨δ, π, Qd, Xd, s, h, k, xr⟩ := h
  refine A.run σ H δ π _ Xd _ s h xr fun ra δ1 q v H1 s1 i1 => ?_
  obtain ⟨⟨d0, hd0, hd1⟩, q⟩ := q
  have hv : ∃ a, v = .ref a ∧ IsD H1 a := by
    obtain ⟨S, x⟩ := s1.st
    exact isD_of (Opr.read (ρ := []) (m := true) s1.len x i1 hd0) hd1
  obtain ⟨p, rfl, hD⟩ := hv
  refine ⟨p, rfl, hD, ?_⟩
  refine ⟨δ1, _, _, Xd, s1, q, fun rk δ2 q y H2 s2 => ?_, xr.more⟩
  obtain ⟨dk, d, r, rfl, e1, e2, q3⟩ := q
  obtain ⟨S, z⟩ := s2.st
  have z1 : StF X.K W H2 (σ.zip δ2 ++ (π ++ ((some (V.ref p), ra) :: [(some y, .sh dk)]))) S := by
    rw [List.append_assoc] at z
    exact z
  have rv := Opr.read (m := false) s2.len z1 i1 e1
  have ry : Rp X.K S H2 y dk := by
    obtain ⟨u', eu, r⟩ := z.sh (σ.zip δ2 ++ (π ++ [(some (V.ref p), ra)])).length (some y) dk (by rw [← List.append_assoc]; exact snoc_last)
    cases eu
    exact r
  obtain ⟨a', o', e', g, rr⟩ := get_of rv ry (RpX.non) e2
  cases e'
  exact ⟨o', g, k _ _ q3 _ _ (s2.drop.drop.pushF (SS.restrict (SS.restrict z)) rr)⟩
theorem ve_get2 {o : Opr} (hu : X.A.units + 1 < cLine) (ha : VO X W wx ov o) (he : VE X W wx e t) (hf : VE X W wx f u) (m : M2 X ov "get" apos e f cpos) : VE X W wx (.Call (.Attribute ov "get" apos) [e, f] [] cpos) (vGet2 o t u) := by
  obtain ⟨ta, A⟩ := ha
  refine ⟨PE.imp (pe_dget2 hu A.pe (ve_sh he).pe (ve_sh hf).pe m) fun σ H Q h => ?_⟩
  obtain ⟨δ, π, Qd, Xd, s, h, k, xr⟩ := h
  refine A.run σ H δ π _ Xd _ s h xr fun ra δ1 q v H1 s1 i1 => ?_
  obtain ⟨⟨d0, hd0, hd1⟩, q⟩ := q
  have hv : ∃ a, v = .ref a ∧ IsD H1 a := by
    obtain ⟨S, x⟩ := s1.st
    exact isD_of (Opr.read (ρ := []) (m := true) s1.len x i1 hd0) hd1
  obtain ⟨p, rfl, hD⟩ := hv
  refine ⟨p, rfl, hD, ?_⟩
  refine ⟨δ1, _, _, Xd, s1, q, fun rk δ2 q y H2 s2 => ?_, xr.more⟩
  obtain ⟨dk, rfl, q⟩ := q
  refine ⟨δ2, _, _, Xd, s2, q, fun rx δ3 q z H3 s3 => ?_, xr.more.more⟩
  obtain ⟨dx, d, r, rfl, e1, e2, q3⟩ := q
  obtain ⟨S, x⟩ := s3.st
  have x1 : StF X.K W H3 (σ.zip δ3 ++ (π ++ ((some (V.ref p), ra) :: [(some y, .sh dk), (some z, .sh dx)]))) S := by
    have e : π ++ ((some (V.ref p), ra) :: [(some y, Sl.sh dk), (some z, .sh dx)]) = π ++ [(some (V.ref p), ra)] ++ [(some y, Sl.sh dk)] ++ [(some z, Sl.sh dx)] := by simp
    rw [e]
    exact x
  have rv := Opr.read (m := false) s3.len x1 i1 e1
  have rz : Rp X.K S H3 z dx := by
    obtain ⟨u', eu, r⟩ := x.sh (σ.zip δ3 ++ (π ++ [(some (V.ref p), ra)] ++ [(some y, Sl.sh dk)])).length (some z) dx (by rw [← List.append_assoc]; exact snoc_last)
    cases eu
    exact r
  have ry : Rp X.K S H3 y dk := by
    have x' := SS.restrict x
    obtain ⟨u', eu, r⟩ := x'.sh (σ.zip δ3 ++ (π ++ [(some (V.ref p), ra)])).length (some y) dk (by rw [← List.append_assoc]; exact snoc_last)
    cases eu
    exact r
  obtain ⟨a', o', e', g, rr⟩ := get_of rv ry rz e2
  cases e'
  exact ⟨o', g, k _ _ q3 _ _ (s3.drop.drop.drop.pushF (SS.restrict (SS.restrict (SS.restrict x))) rr)⟩
/-! ### {k: v for .. in .. if ..} -/
/-- the pairs of a dict, after one more -/
def putKD (ks : List Key) (ds : List D) (k : Key) (d : D) : List Key × List D := match kpos ks k with
  | none => (ks ++ [k], ds ++ [d])
  | some j => (ks, ds.set j d)
def vDc (it : VTs) (g : D → List Sl → Option (List Sl)) (cond : VTt) (tk tv : VT) (vs : List Nat) : VT := fun δ Q Xc => it δ (fun its δ1 => its.length ≤ 1000000 ∧ ∃ I : Nat → List Key → List D → List Sl → Prop, I 0 [] [] (wipeD δ1 vs) ∧
  (∀ k d ks ds δ2, its[k]? = some d → ks.length ≤ k → ks.length = ds.length → I k ks ds δ2 → ∃ δ3, g d δ2 = some δ3 ∧ cond δ3 (fun b δ4 => if b = true then vS tk δ4 (fun rk δ5 => ∃ dk kk, rk = .sh dk ∧ kidx dk = some kk ∧ vS tv δ5 (fun rv δ6 => ∃ dv, rv = .sh dv ∧ I (k + 1) (putKD ks ds kk dv).1 (putKD ks ds kk dv).2 (wipeD δ6 vs)) noX) noX else I (k + 1) ks ds (wipeD δ4 vs)) noX) ∧
  ∀ ks ds δ2, ks.length = ds.length → I its.length ks ds δ2 → ∀ p, Q (.ow (.dct p ks (ds.map .leaf))) δ2) Xc
theorem putKD_len {ks : List Key} {ds : List D} {k : Key} {d : D} (h : ks.length = ds.length) : (putKD ks ds k d).1.length = (putKD ks ds k d).2.length ∧ (putKD ks ds k d).1.length ≤ ks.length + 1 := by
  unfold putKD
  split
  · simp [h]
  · simp [h]
theorem SS.intoD {A B : List Cell} {Da : Addr} {ks : List Key} {ds : List D} {y z : V} {dk dv : D} {kk : Key} (s : SS K W H σ δ (A ++ [(some (.ref Da), .ow (.dct Da ks (ds.map .leaf)))] ++ B ++ [(some y, .sh dk)] ++ [(some z, .sh dv)])) (e : kidx dk = some kk) :
    ∃ xs, y = kV kk ∧ H Da = some (.dK (ks.zip xs)) ∧ ks.length = xs.length ∧ SS K W (upd H Da (.dK (putK (ks.zip xs) kk z))) σ δ (A ++ [(some (.ref Da), .ow (.dct Da (putKD ks ds kk dv).1 ((putKD ks ds kk dv).2.map .leaf)))]) := by
  obtain ⟨S, x⟩ := s.st
  have eD : (σ.zip δ ++ (A ++ [(some (V.ref Da), Sl.ow (.dct Da ks (ds.map .leaf)))] ++ B ++ [(some y, .sh dk)] ++ [(some z, .sh dv)]))[(σ.zip δ ++ A).length]? = some (some (V.ref Da), Sl.ow (.dct Da ks (ds.map .leaf))) := by
    rw [List.append_assoc A, List.append_assoc A, List.append_assoc A, ← List.append_assoc (σ.zip δ), List.getElem?_append_right (Nat.le_refl _), Nat.sub_self]
    rfl
  have rz : Rp K S H z dv := by
    obtain ⟨u', eu, r⟩ := x.sh (σ.zip δ ++ (A ++ [(some (V.ref Da), Sl.ow (.dct Da ks (ds.map .leaf)))] ++ B ++ [(some y, Sl.sh dk)])).length (some z) dv (by rw [← List.append_assoc]; exact snoc_last)
    cases eu
    exact r
  have ry : Rp K S H y dk := by
    have x' := SS.restrict x
    obtain ⟨u', eu, r⟩ := x'.sh (σ.zip δ ++ (A ++ [(some (V.ref Da), Sl.ow (.dct Da ks (ds.map .leaf)))] ++ B)).length (some y) dk (by rw [← List.append_assoc]; exact snoc_last)
    cases eu
    exact r
  obtain ⟨rfl, okk⟩ := kidx_v e ry
  obtain ⟨xs, ⟨g1, g2, g3, g4⟩, h2, h3, h4, h5, h6⟩ := x.mutAt (π := []) (s := .dct Da ks) (os := ds.map .leaf) eD rfl
  have rps := Ows.of_leaves h2
  have lx : xs.length = ds.length := Rps.length rps
  refine ⟨xs, rfl, g1, g2, s.len, S, ?_⟩
  have kp : ∀ b, b ∉ (Sh.dct Da ks).own → upd H Da (.dK (putK (ks.zip xs) kk z)) b = H b := fun b hb => upd_ne (fun z => hb (by rw [z]; exact List.mem_cons_self))
  have ev := h5 _ kp
  have key : ∃ xs', Sh.holds (upd H Da (.dK (putK (ks.zip xs) kk z))) xs' (.dct Da (putKD ks ds kk dv).1) ∧ Rps K S H xs' (putKD ks ds kk dv).2 := by
    unfold putKD
    cases el : kpos ks kk with
    | none =>
      have nk := kpos_none el
      refine ⟨xs ++ [z], ⟨by rw [upd_same, putK_no nk g2], by rw [List.length_append, List.length_append, g2]; rfl, nd_snoc g3 nk, fun w hw => ?_⟩, rps.append (.cons rz .nil)⟩
      rcases List.mem_append.mp hw with hw | hw
      · exact g4 w hw
      · rw [List.mem_singleton.mp hw]; exact okk
    | some j => exact ⟨xs.set j z, ⟨by rw [upd_same, putK_at el g3 g2], by rw [List.length_set]; exact g2, g3, g4⟩, rps.set rz⟩
  obtain ⟨xs', hh, hr⟩ := key
  have ho' := Ows.leaves (Rps.ev ev _ _ hr)
  refine h6 (.dct Da (putKD ks ds kk dv).1) xs' _ _ (fun _ => False) _ rfl rfl kp hh ho' (by rw [Ot.adrs_leaf]; exact List.nodup_nil) (fun b hb => by rw [Ot.adrs_leaf] at hb; cases hb) ?_ (fun j c nj q => ?_)
  · rw [← List.append_assoc (σ.zip δ), List.getElem?_append_right (Nat.le_refl _), Nat.sub_self]
    rfl
  · have jl := (List.getElem?_eq_some_iff.mp q).1
    have jl' : j < (σ.zip δ ++ A).length + 1 := by
      rw [← List.append_assoc, List.length_append (bs := [_])] at jl
      exact jl
    refine .inr ⟨?_, fun z => z⟩
    rw [← List.append_assoc (σ.zip δ), List.getElem?_append_left (by omega)] at q
    rw [List.append_assoc A, List.append_assoc A, List.append_assoc A, ← List.append_assoc (σ.zip δ), List.getElem?_append_left (by omega)]
    exact q
theorem dc_run {it : VTs} {ws vs : List Nat} {g : D → List Sl → Option (List Sl)} {tc : VTt} {tk tv : VT} {Q : VK} (hw : ∀ i ∈ ws, i ∈ vs) (h : lE X.K W wx (vDc it g tc tk tv vs) σ H Q) :
    tDc (lI X.K W wx it) (lG X.K W ws g) (lT X.K W wx0 tc) (lE X.K W wx0 (vS tk)) (lE X.K W wx0 (vS tv)) vs σ H Q := by
  obtain ⟨δ, π, Qd, Xd, s, h, k, xr⟩ := h
  refine ⟨δ, π, _, Xd, s, h, fun its δ1 q J ν H1 s1 iok => ?_, xr⟩
  obtain ⟨hlen, I, i0, step, last⟩ := q
  intro Da hD
  have s1w : SS X.K W H1 (L2.wipe σ vs) (wipeD δ1 vs) (π ++ ν) := s1.wipe
  obtain ⟨S1, x1⟩ := s1w.st
  have s2 : SS X.K W (upd H1 Da (.dK [])) (L2.wipe σ vs) (wipeD δ1 vs) (π ++ ν ++ [(some (.ref Da), .ow (.dct Da [] []))]) := by
    refine ⟨s1w.len, fun b => S1 b ∨ b = Da, ?_⟩
    rw [← List.append_assoc]
    exact x1.newS (u := .dK []) (s := .dct Da []) (xs := []) (ds := []) hD rfl ⟨by rw [upd_same]; rfl, rfl, List.nodup_nil, fun k hk => by cases hk⟩ .nil
  refine ⟨fun i m H' => m = its.length - i ∧ i ≤ its.length ∧ ∃ ks ds δ2, ks.length ≤ i ∧ ks.length = ds.length ∧ I i ks ds δ2 ∧ SS X.K W H' (L2.wipe σ vs) δ2 (π ++ ν ++ [(some (.ref Da), .ow (.dct Da ks (ds.map .leaf)))]), ⟨_, rfl, Nat.zero_le _, [], [], _, Nat.le_refl _, rfl, i0, s2⟩, ?_⟩
  rintro i m H2 ⟨rfl, hi2, ks, ds, δ2, hacc, hkd, iv, s2⟩
  by_cases hlt : i < its.length
  · have hd : its[i]? = some its[i] := List.getElem?_eq_getElem hlt
    obtain ⟨go, yld⟩ := iok.go (L2.wipe σ vs) δ2 H2 π [(some (.ref Da), .ow (.dct Da ks (ds.map .leaf)))] i _ s2 hd
    obtain ⟨δ3, g3, b3⟩ := step i _ ks ds δ2 hd hacc hkd iv
    refine .inr ⟨go, fun H' => ∃ ks ds δ2, ks.length ≤ i + 1 ∧ ks.length = ds.length ∧ I (i + 1) ks ds δ2 ∧ SS X.K W H' (L2.wipe σ vs) δ2 (π ++ ν ++ [(some (.ref Da), .ow (.dct Da ks (ds.map .leaf)))]), fun H' ⟨ks', ds', δ4, l4, l5, iv4, s4⟩ => ⟨_, by omega, rfl, hlt, ks', ds', δ4, l4, l5, iv4, s4⟩, fun x H' hy => ?_⟩
    have s3 := yld x H' hy
    refine ⟨δ2, _, _, (π ++ ν ++ [(some (V.ref Da), Sl.ow (.dct Da ks (ds.map .leaf)))]).length, δ3, snoc_last, s3, g3, fun σ2 w s4 => ?_⟩
    have ew : L2.wipe σ2 vs = L2.wipe σ vs := by rw [wipe_sub w hw, wipe_wipe]
    refine ⟨ew, δ3, _, _, _, s4, b3, fun bb δ4 q H3 s5 => ?_, fun _ _ q => q.elim⟩
    have back : ∀ {H' : Hp} {δ5 : List Sl} {ρ : List Cell}, SS X.K W H' σ2 δ5 ρ → SS X.K W H' (L2.wipe σ vs) (wipeD δ5 vs) ρ := fun {H' δ5 ρ} z => by
      have := z.wipe (vs := vs)
      rw [ew] at this
      exact this
    cases bb with
    | false =>
      have q1 : I (i + 1) ks ds (wipeD δ4 vs) := q
      exact iteF ⟨ks, ds, _, by omega, hkd, q1, back s5.drop⟩
    | true =>
      have q1 : vS tk δ4 (fun rk δ5 => ∃ dk kk, rk = .sh dk ∧ kidx dk = some kk ∧ vS tv δ5 (fun rv δ6 => ∃ dv, rv = .sh dv ∧ I (i + 1) (putKD ks ds kk dv).1 (putKD ks ds kk dv).2 (wipeD δ6 vs)) noX) noX := q
      refine iteT ?_
      refine ⟨δ4, _, _, _, s5, q1, fun rk δ5 q2 y H4 s6 => ?_, fun _ _ q => q.elim⟩
      obtain ⟨dk, kk, rfl, ek, q3⟩ := q2
      refine ⟨δ5, _, _, _, s6, q3, fun rv δ6 q4 z H5 s7 => ?_, fun _ _ q => q.elim⟩
      obtain ⟨dv, rfl, q5⟩ := q4
      obtain ⟨xs, ey, hl, lx, s8⟩ := s7.intoD ek
      refine ⟨_, kk, ey, hl, ?_, _, _, _, ?_, (putKD_len hkd).1, q5, back s8⟩
      · rw [List.length_zip]
        exact Nat.lt_of_le_of_lt (Nat.min_le_left _ _) (Nat.lt_of_le_of_lt (show ks.length ≤ 1000000 by omega) (by decide))
      · have := (putKD_len (k := kk) (d := dv) hkd).2
        omega
  · obtain rfl : i = its.length := by omega
    refine .inl ⟨iok.stop (L2.wipe σ vs) δ2 H2 π _ _ s2 (Nat.le_refl _), k _ _ (last _ _ _ hkd iv Da) _ _ ?_⟩
    exact (s2.mid).unwipe
theorem ve_dc {scope : Scope} {own : List (Str × Nat)} {it : VTs} {ws : List Nat} {g : D → List Sl → Option (List Sl)} {tc : VTt} (hc : X.calm = true) (hN : X.N.Nodup) (hi : VI X W wx tg iter it) (ok : BlkOk X.N X.env.scope scope own)
    (hg : ∀ (s : Shared) (H : Hp) (C : Addr) (cl : List (Str × Addr)) (fp : List Addr), VG (X.blk s H scope (compEnvC scope cl C X.env) fp) W tg ws g)
    (ht : ∀ (s : Shared) (H : Hp) (C : Addr) (cl : List (Str × Addr)) (fp : List Addr), VCs (X.blk s H scope (compEnvC scope cl C X.env) fp) W wx0 ifs tc)
    (hk : ∀ (s : Shared) (H : Hp) (C : Addr) (cl : List (Str × Addr)) (fp : List Addr), VE (X.blk s H scope (compEnvC scope cl C X.env) fp) W wx0 kx tk)
    (he : ∀ (s : Shared) (H : Hp) (C : Addr) (cl : List (Str × Addr)) (fp : List Addr), VE (X.blk s H scope (compEnvC scope cl C X.env) fp) W wx0 vx tv)
    (hw : ∀ i ∈ ws, i ∈ own.map (·.2)) (hs : ∀ x, foldedSetIterable iter X.env x = pure x := by intro _; rfl) :
    VE X W wx (.DictComp kx vx [⟨tg, iter, ifs, 0⟩] scope pos) (vDc it g tc tk tv (own.map (·.2))) :=
  ⟨PE.imp (pe_dc (g := lG X.K W ws g) (tt := lT X.K W wx0 tc) hc hN hi.pi ok (fun s H C cl fp => (hg s H C cl fp).pg) (fun s H C cl fp => (ht s H C cl fp).pt) (fun s H C cl fp => (ve_sh (hk s H C cl fp)).pe) (fun s H C cl fp => (ve_sh (he s H C cl fp)).pe) hs) fun σ H Q h => dc_run hw h⟩
/-! ### isinstance of one of several classes -/
def xOr (t u : Exn → VT) : Exn → VT := fun x δ Q Xc => t x δ Q Xc ∨ u x δ Q Xc
theorem xe_or {t u : Exn → VT} (h : XE X W i e t) (g : XE X W i e u) : XE X W i e (xOr t u) := by
  refine ⟨fun a oe cls d pn z1 z2 => ⟨fun pins sh σ H Q I hh => ?_⟩⟩
  obtain ⟨δ, π, Qd, x, vs, ρ, s, l, h1, h2, ds, q, k⟩ := hh
  rcases q with q | q
  · exact (h.run a oe cls d pn z1 z2).run pins sh σ H Q I ⟨δ, π, Qd, x, vs, ρ, s, l, h1, h2, ds, q, k⟩
  · exact (g.run a oe cls d pn z1 z2).run pins sh σ H Q I ⟨δ, π, Qd, x, vs, ρ, s, l, h1, h2, ds, q, k⟩
end
end ML

/-! ## M38 -/
set_option Elab.async false
set_option linter.all false
set_option autoImplicit false
set_option maxRecDepth 100000
set_option maxHeartbeats 4000000
namespace ML
open PySem PySem.Spec PyProof.Rows L2
/-! ### dicts, for simp -/
/-- a dict of one's own, its values shared -/
abbrev dc (p : Addr) (ks : List Key) (ds : List D) : Sl := .ow (.nod (.dct p ks) (lv ds))
/-- what it holds -/
def dgt (ks : List Key) (ds : List D) (k : Key) : Option D := dlook ((ks.map kD).zip ds) k
theorem lv_nil : lv [] = [] := rfl
theorem keep_dc (p : Addr) (ks ks' : List Key) (ds es : List D) : keepO (some (dc p ks ds)) (dc p ks' es) = dc p ks' es := by
  show (if p = p then dc p ks' es else Sl.un) = _
  rw [if_pos rfl]
theorem isDictD_dct (ks : List Key) (ds : List D) : isDictD (dctD ks ds) = true := isDct_of
theorem getD2_dct (ks : List Key) (ds : List D) (k x : D) : getD2 (dctD ks ds) k x = (kidx k).map fun k => (dgt ks ds k).getD x := by
  show (if isDct ((ks.map kD).zip ds) = true then _ else _) = _
  rw [if_pos isDct_of]
  rfl
theorem getD2_i (ks : List Key) (ds : List D) (i : Int) (x : D) : getD2 (dctD ks ds) (.int i) x = some ((dgt ks ds (.inl i)).getD x) := by rw [getD2_dct]; rfl
theorem getD2_s (ks : List Key) (ds : List D) (i : Str) (x : D) : getD2 (dctD ks ds) (.str i) x = some ((dgt ks ds (.inr i)).getD x) := by rw [getD2_dct]; rfl
theorem dctD_no (ks : List Key) (ds es : List D) : (ks.map kD).zip ds ≠ [(.bool true, .list es)] := by
  intro h
  cases ks with
  | nil => cases h
  | cons k ks =>
    cases ds with
    | nil => cases h
    | cons d ds => cases k <;> cases h
theorem fIx_dctD (ks : List Key) (ds : List D) (y : D) : fIx (dctD ks ds) y = (kidx y).bind fun k => (dgt ks ds k).map Rs.sh := by
  unfold dctD dgt
  rw [fIx_dct (dctD_no ks ds), if_pos isDct_of]
theorem fIx_di (ks : List Key) (ds : List D) (i : Int) : fIx (dctD ks ds) (.int i) = (dgt ks ds (.inl i)).map Rs.sh := fIx_dctD ks ds _
theorem fIx_ds (ks : List Key) (ds : List D) (i : Str) : fIx (dctD ks ds) (.str i) = (dgt ks ds (.inr i)).map Rs.sh := fIx_dctD ks ds _
theorem fIn_dct (ks : List Key) (ds : List D) (y : D) : fIn y (dctD ks ds) = (kidx y).map fun k => .sh (.bool (dgt ks ds k).isSome) := by
  have e : inD y (dctD ks ds) = (kidx y).map fun k => (dgt ks ds k).isSome := by
    show (if isDct _ = true then _ else _) = _
    rw [if_pos isDct_of]
    rfl
  unfold fIn
  rw [e, Option.map_map]
  rfl
theorem fNotIn_dct (ks : List Key) (ds : List D) (y : D) : fNotIn y (dctD ks ds) = (kidx y).map fun k => .sh (.bool (!(dgt ks ds k).isSome)) := by
  have e : inD y (dctD ks ds) = (kidx y).map fun k => (dgt ks ds k).isSome := by
    show (if isDct _ = true then _ else _) = _
    rw [if_pos isDct_of]
    rfl
  unfold fNotIn
  rw [e, Option.map_map]
  rfl
theorem fIn_di (ks : List Key) (ds : List D) (i : Int) : fIn (.int i) (dctD ks ds) = some (.sh (.bool (dgt ks ds (.inl i)).isSome)) := fIn_dct ks ds _
theorem fIn_ds (ks : List Key) (ds : List D) (i : Str) : fIn (.str i) (dctD ks ds) = some (.sh (.bool (dgt ks ds (.inr i)).isSome)) := fIn_dct ks ds _
theorem fNotIn_di (ks : List Key) (ds : List D) (i : Int) : fNotIn (.int i) (dctD ks ds) = some (.sh (.bool (!(dgt ks ds (.inl i)).isSome))) := fNotIn_dct ks ds _
theorem fNotIn_ds (ks : List Key) (ds : List D) (i : Str) : fNotIn (.str i) (dctD ks ds) = some (.sh (.bool (!(dgt ks ds (.inr i)).isSome))) := fNotIn_dct ks ds _
theorem truD_dct (ks : List Key) (ds : List D) : truD (dctD ks ds) = some (!((ks.map kD).zip ds).isEmpty) := by
  show (if isDct _ = true then _ else _) = _
  rw [if_pos isDct_of]
theorem dgt_nil (k : Key) : dgt [] [] k = none := rfl
theorem dgt_cons (k0 : Key) (d : D) (ks : List Key) (ds : List D) (k : Key) : dgt (k0 :: ks) (d :: ds) k = if k0 = k then some d else dgt ks ds k := by
  show (if kidx (kD k0) = some k then some d else dlook ((ks.map kD).zip ds) k) = _
  rw [kidx_kD]
  by_cases c : k0 = k
  · subst c; rw [if_pos rfl, if_pos rfl]
  · rw [if_neg c, if_neg (fun z => c (Option.some.inj z))]; rfl
theorem dgt_put : ∀ {ks : List Key} {ds : List D} (k : Key) (d : D) (k' : Key), ks.length = ds.length → dgt (putKD ks ds k d).1 (putKD ks ds k d).2 k' = if k' = k then some d else dgt ks ds k'
  | [], [], k, d, k', _ => by
    show dgt [k] [d] k' = _
    rw [dgt_cons]
    by_cases c : k = k'
    · rw [if_pos c, if_pos c.symm]
    · rw [if_neg c, if_neg (Ne.symm c)]
  | [], _ :: _, k, d, k', h => by simp at h
  | _ :: _, [], k, d, k', h => by simp at h
  | k0 :: ks, d0 :: ds, k, d, k', h => by
    have hl : ks.length = ds.length := by simpa using h
    have ih := dgt_put (ks := ks) (ds := ds) k d k' hl
    unfold putKD at ih ⊢
    unfold kpos
    by_cases c : k0 = k
    · subst c
      rw [if_pos rfl]
      show dgt (k0 :: ks) (d :: ds) k' = _
      rw [dgt_cons, dgt_cons]
      by_cases c2 : k0 = k'
      · rw [if_pos c2, if_pos c2.symm]
      · rw [if_neg c2, if_neg (Ne.symm c2), if_neg c2]
    · rw [if_neg c]
      cases el : kpos ks k with
      | none =>
        rw [el] at ih
        show dgt (k0 :: (ks ++ [k])) (d0 :: (ds ++ [d])) k' = _
        have ih' : dgt (ks ++ [k]) (ds ++ [d]) k' = if k' = k then some d else dgt ks ds k' := ih
        rw [dgt_cons, ih', dgt_cons]
        by_cases c2 : k0 = k'
        · subst c2
          rw [if_pos rfl, if_pos rfl, if_neg c]
        · rw [if_neg c2, if_neg c2]
      | some j =>
        rw [el] at ih
        show dgt (k0 :: ks) (d0 :: ds.set j d) k' = _
        have ih' : dgt ks (ds.set j d) k' = if k' = k then some d else dgt ks ds k' := ih
        rw [dgt_cons, ih', dgt_cons]
        by_cases c2 : k0 = k'
        · subst c2
          rw [if_pos rfl, if_pos rfl, if_neg c]
        · rw [if_neg c2, if_neg c2]
theorem kpos_lt {ks : List Key} {k : Key} {j : Nat} (h : kpos ks k = some j) : j < ks.length := (List.getElem?_eq_some_iff.mp (kpos_some h)).1
theorem storeL_dct {p : Addr} {ks : List Key} {ds : List D} {dk d : D} {k : Key} (e : kidx dk = some k) (hl : ks.length = ds.length) (hn : ks.length < 1000000) :
    storeL (.dct p ks) (lv ds) dk (.leaf d) = some (.dct p (putKD ks ds k d).1, lv (putKD ks ds k d).2) := by
  show (kidx dk).bind (fun k => (putKey ks (lv ds) k (.leaf d)).map fun r => (Sh.dct p r.1, r.2)) = _
  rw [e]
  show (putKey ks (lv ds) k (.leaf d)).map (fun r => (Sh.dct p r.1, r.2)) = _
  unfold putKey putKD
  rw [if_pos hn]
  cases el : kpos ks k with
  | none => simp [lv]
  | some j =>
    have hj := kpos_lt el
    rw [hl] at hj
    simp [lv, hj, List.map_set]
/-! dicts by what they hold -/
structure DM (ks : List Key) (ds : List D) (n : Nat) (f : Key → Option D) : Prop where
  l : ks.length = ds.length
  n : ks.length ≤ n
  g : ∀ k, dgt ks ds k = f k
theorem DM.nil {n : Nat} : DM [] [] n (fun _ => none) := ⟨rfl, Nat.zero_le _, dgt_nil⟩
theorem DM.put {ks : List Key} {ds : List D} {n : Nat} {f : Key → Option D} (h : DM ks ds n f) (k : Key) (d : D) : DM (putKD ks ds k d).1 (putKD ks ds k d).2 (n + 1) (fun k' => if k' = k then some d else f k') := by
  have := putKD_len (k := k) (d := d) h.l
  exact ⟨this.1, by have := h.n; omega, fun k' => by rw [dgt_put _ _ _ h.l, h.g]⟩
theorem DM.mono {ks : List Key} {ds : List D} {n m : Nat} {f : Key → Option D} (h : DM ks ds n f) (hm : n ≤ m) : DM ks ds m f := ⟨h.l, Nat.le_trans h.n hm, h.g⟩
theorem DM.store {ks : List Key} {ds : List D} {n : Nat} {f : Key → Option D} (h : DM ks ds n f) (hn : n < 1000000) {dk : D} {k : Key} (e : kidx dk = some k) (p : Addr) (d : D) : storeL (.dct p ks) (lv ds) dk (.leaf d) = some (.dct p (putKD ks ds k d).1, lv (putKD ks ds k d).2) :=
  storeL_dct e h.l (Nat.lt_of_le_of_lt h.n hn)
/-- registers: numbers at numbers, 0 where there is none -/
def updI (f : Int → Int) (i v : Int) : Int → Int := fun j => if j = i then v else f j
structure Rg (ks : List Key) (ds : List D) (n : Nat) (f : Int → Int) : Prop where
  l : ks.length = ds.length
  n : ks.length ≤ n
  g : ∀ i, (dgt ks ds (.inl i)).getD (.int 0) = .int (f i)
theorem Rg.nil {n : Nat} : Rg [] [] n (fun _ => 0) := ⟨rfl, Nat.zero_le _, fun _ => rfl⟩
theorem Rg.mono {ks : List Key} {ds : List D} {n m : Nat} {f : Int → Int} (h : Rg ks ds n f) (hm : n ≤ m) : Rg ks ds m f := ⟨h.l, Nat.le_trans h.n hm, h.g⟩
theorem Rg.put {ks : List Key} {ds : List D} {n : Nat} {f : Int → Int} (h : Rg ks ds n f) (i v : Int) : Rg (putKD ks ds (.inl i) (.int v)).1 (putKD ks ds (.inl i) (.int v)).2 (n + 1) (updI f i v) := by
  have := putKD_len (k := .inl i) (d := .int v) h.l
  refine ⟨this.1, by have := h.n; omega, fun j => ?_⟩
  rw [dgt_put _ _ _ h.l]
  unfold updI
  by_cases c : j = i
  · subst c; rw [if_pos rfl, if_pos rfl]; rfl
  · rw [if_neg (fun z => c (by injection z)), if_neg c, h.g]
theorem Rg.get {ks : List Key} {ds : List D} {n : Nat} {f : Int → Int} (h : Rg ks ds n f) (i : Int) : getD2 (dctD ks ds) (.int i) (.int 0) = some (.int (f i)) := by rw [getD2_i, h.g]
theorem Rg.store {ks : List Key} {ds : List D} {n : Nat} {f : Int → Int} (h : Rg ks ds n f) (hn : n < 1000000) (p : Addr) (i v : Int) : storeL (.dct p ks) (lv ds) (.int i) (.leaf (.int v)) = some (.dct p (putKD ks ds (.inl i) (.int v)).1, lv (putKD ks ds (.inl i) (.int v)).2) :=
  storeL_dct rfl h.l (Nat.lt_of_le_of_lt h.n hn)
/-! ### loops -/
theorem least {P : Nat → Prop} : ∀ {n : Nat}, P n → ∃ m, P m ∧ ∀ k, P k → m ≤ k := by
  intro n
  induction n using Nat.strongRecOn with
  | _ n ih =>
    intro h
    by_cases c : ∃ k, P k ∧ k < n
    · obtain ⟨k, h1, h2⟩ := c
      exact ih k h2 h1
    · exact ⟨n, h, fun k hk => Nat.le_of_not_lt fun z => c ⟨k, hk, z⟩⟩
open Classical in
theorem WH_by {c : VTt} {pb : VSt} {E : En} {δ : List Sl} (J : Nat → List Sl → Prop) {n0 : Nat} (h0 : J n0 δ)
    (hs : ∀ n δ1, J n δ1 → ∀ nx : List Sl → Prop, (∀ m δ', m < n → J m δ' → nx δ') → c δ1 (fun b δ2 => if b = true then pb ⟨nx, E.rt, E.nx, nx, E.ex⟩ δ2 else E.nx δ2) E.ex) : vWh c pb E δ := by
  have μx : ∀ δ', ∃ m : Nat, (∃ n, J n δ') → J m δ' ∧ ∀ k, J k δ' → m ≤ k := fun δ' => by
    by_cases q : ∃ n, J n δ'
    · obtain ⟨n, hn⟩ := q
      obtain ⟨m, h1, h2⟩ := least (P := fun n => J n δ') hn
      exact ⟨m, fun _ => ⟨h1, h2⟩⟩
    · exact ⟨0, fun z => (q z).elim⟩
  obtain ⟨μ, hμ⟩ := Classical.axiomOfChoice μx
  refine vWh_by (fun δ' => ∃ n, J n δ') μ ⟨n0, h0⟩ fun δ1 q => ?_
  have h1 := (hμ δ1 q).1
  exact hs _ δ1 h1 _ fun m δ' hm hj => ⟨⟨m, hj⟩, Nat.lt_of_le_of_lt ((hμ δ' ⟨m, hj⟩).2 m hj) hm⟩
/-! ### dict comprehensions -/
def DC (g : D → List Sl → Option (List Sl)) (cond : VTt) (tk tv : VT) (vs : List Nat) (its : List D) (δ1 : List Sl) (Q : Sl → List Sl → Prop) : Prop := its.length ≤ 1000000 ∧ ∃ I : Nat → List Key → List D → List Sl → Prop, I 0 [] [] (wipeD δ1 vs) ∧
  (∀ k d ks ds δ2, its[k]? = some d → ks.length ≤ k → ks.length = ds.length → I k ks ds δ2 → ∃ δ3, g d δ2 = some δ3 ∧ cond δ3 (fun b δ4 => if b = true then vS tk δ4 (fun rk δ5 => ∃ dk kk, rk = .sh dk ∧ kidx dk = some kk ∧ vS tv δ5 (fun rv δ6 => ∃ dv, rv = .sh dv ∧ I (k + 1) (putKD ks ds kk dv).1 (putKD ks ds kk dv).2 (wipeD δ6 vs)) noX) noX else I (k + 1) ks ds (wipeD δ4 vs)) noX) ∧
  ∀ ks ds δ2, ks.length = ds.length → I its.length ks ds δ2 → ∀ p, Q (dc p ks ds) δ2
theorem vDc_eq (it : VTs) (g : D → List Sl → Option (List Sl)) (cond : VTt) (tk tv : VT) (vs : List Nat) (δ : List Sl) (Q : Sl → List Sl → Prop) (Xc : Exn → List Sl → Prop) : vDc it g cond tk tv vs δ Q Xc = it δ (fun its δ1 => DC g cond tk tv vs its δ1 Q) Xc := rfl
theorem DC_by {g : D → List Sl → Option (List Sl)} {cond : VTt} {tk tv : VT} {vs : List Nat} {its : List D} {δ1 : List Sl} {Q : Sl → List Sl → Prop} (I : Nat → List Key → List D → List Sl → Prop) (hl : its.length ≤ 1000000) (h0 : I 0 [] [] (wipeD δ1 vs))
    (hs : ∀ k d ks ds δ2, its[k]? = some d → ks.length ≤ k → ks.length = ds.length → I k ks ds δ2 → ∃ δ3, g d δ2 = some δ3 ∧ cond δ3 (fun b δ4 => if b = true then vS tk δ4 (fun rk δ5 => ∃ dk kk, rk = .sh dk ∧ kidx dk = some kk ∧ vS tv δ5 (fun rv δ6 => ∃ dv, rv = .sh dv ∧ I (k + 1) (putKD ks ds kk dv).1 (putKD ks ds kk dv).2 (wipeD δ6 vs)) noX) noX else I (k + 1) ks ds (wipeD δ4 vs)) noX)
    (he : ∀ ks ds δ2, ks.length = ds.length → I its.length ks ds δ2 → ∀ p, Q (dc p ks ds) δ2) : DC g cond tk tv vs its δ1 Q := ⟨hl, I, h0, hs, he⟩
theorem vDct0_eq (δ : List Sl) (Q : Sl → List Sl → Prop) (Xc : Exn → List Sl → Prop) : vDct0 δ Q Xc = ∀ p, Q (dc p [] []) δ := rfl
theorem kidx_i (i : Int) : kidx (.int i) = some (.inl i) := rfl
theorem kidx_s (i : Str) : kidx (.str i) = some (.inr i) := rfl
end ML

/-! ## M39 -/
set_option Elab.async false
set_option linter.all false
set_option autoImplicit false
set_option maxRecDepth 100000
set_option maxHeartbeats 4000000
namespace ML
open PySem PySem.Spec PyProof.Rows L2

/-! ### ranges as values -/
section
variable {X : Cx} {W : Wd} {wx : WX} {K : PySem.W.Frag} {H H' : Hp} {σ : L2.St} {δ δ' : List Sl} {π ν ρ : List Cell} {e a b c tg iter elt tg1 iter1 : Expr} {es ifs ifs1 : List Expr} {t u te : VT} {ts : VTs} {pos p apos cpos : Pos} {S S' : Addr → Prop}
theorem cr_range1 : CallR X (.type "range") (fun vs H Q => ∃ j, vs = [V.int j] ∧ ∀ p, H p = none → Q (.ref p) (upd H p (.rng 0 j))) := by
  intro pins s σ H x us Q I r h
  obtain ⟨j, rfl, q⟩ := h
  obtain ⟨u1, rfl, ri⟩ := vals1 r
  obtain ⟨t, rfl⟩ := ri
  refine call_range_1 ⟨.ref s.heap.objs.size, upd H s.heap.objs.size (.rng 0 j), I.laid (t' := s.toks + 2) (fun b o e => Heap.get?_push_of_some _ e) (Nat.le_refl _) ?_, rfl, q _ (I.hok.fresh (Nat.le_refl _))⟩
  exact ⟨_, t, _, Heap.get?_push_size _ rfl⟩
def fRng1 : D → Option Rs
  | .int j => some (.sh (rgD 0 j))
  | _ => none
theorem snd_rng1 : Snd1 K (fun v H Q => ∃ j, [v] = [V.int j] ∧ ∀ p, H p = none → Q (.ref p) (upd H p (.rng 0 j))) fRng1 := by
  intro S H x d res Q hx hf hq
  cases d with
  | int j =>
    cases hf
    cases hx with
    | inl r => cases r; exact ⟨j, rfl, fun p hp => hq _ _ (.rng hp)⟩
    | inr r => obtain ⟨s, xs, es, rfl, e, h1, h2⟩ := r; cases s <;> cases e
  | _ => cases hf
def iRg (t : VT) : VTs := fun δ Q Xc => vS t δ (fun rv δ' => ∃ i j, rv = .sh (rgD i j) ∧ (-(2 ^ 62) ≤ i ∧ i < 2 ^ 62 ∧ -(2 ^ 62) ≤ j ∧ j < 2 ^ 62) ∧ Q (rngD i (j - i).toNat) δ') Xc
def iRngV (te : TE) : TI := fun σ H R => te σ H fun x H1 => ∃ a i j, x = .ref a ∧ H1 a = some (.rng i j) ∧ (-(2 ^ 62) ≤ i ∧ i < 2 ^ 62 ∧ -(2 ^ 62) ≤ j ∧ j < 2 ^ 62) ∧ R (Itr i (j - i).toNat) H1
theorem pi_rngv {l : Expr} {tl : TE} (hl : PE X l tl) : PI X tg l (iRngV tl) := by
  refine ⟨fun pins s σ H R I h => ?_⟩
  refine thn (hl.run pins s σ H _ I h) fun v s1 ⟨x, H1, I1, r1, q1⟩ => ?_
  obtain ⟨a, lo, hi, e, hq, ⟨h1, h2, h3, h4⟩, q⟩ := q1
  subst e
  cases r1
  obtain ⟨t1, t2, t3, ho⟩ := I1.hok a _ hq
  refine wpAny_pyIter_range ho (small_one h1 h2 h3 h4) ?_
  refine ⟨s1.heap.objs.size, [s1.heap.objs.size], _, _, H1, rfl, I1.kept (t' := s1.toks) fun b o e => Heap.get?_push_of_some _ e, turn_range _ lo (hi - lo).toNat, ?_, fun b hb => ?_, q⟩
  · have e1 : lo + ((0 : Nat) : Int) * 1 = lo := by simp
    have e2 : (((hi - lo).toNat : Nat) : Int) - ((0 : Nat) : Int) = Builtin.Range.rangeSize lo hi 1 := by rw [rangeSize_one]; split <;> omega
    show IsRangeIter _ _ (lo + ((0 : Nat) : Int) * 1) ((((hi - lo).toNat : Nat) : Int) - ((0 : Nat) : Int)) 1
    rw [e1, e2]
    exact Heap.get?_push_size _ rfl
  · have e : b = s1.heap.objs.size := by simpa using hb
    subst e
    exact I1.fpOk (Nat.le_refl _) (I1.hok.fresh (Nat.le_refl _))
theorem SS.range {i j : Int} {v : V} (s : SS K W H σ δ (π ++ [(some v, .sh (rgD i j))])) : ∃ a, v = .ref a ∧ H a = some (.rng i j) := by
  obtain ⟨S, x, r⟩ := SS.at (ν := []) (ρ := []) (by rw [List.append_nil]; exact s)
  have key : ∀ t, RpX K S H t → ∀ v, t = .one v (rgD i j) → ∃ a, v = .ref a ∧ H a = some (.rng i j) := by
    intro t ht v e
    cases ht with
    | rng h1 h2 =>
      injection e with e1 e2
      unfold rgD at e2
      injection e2 with e2
      injection e2 with e2 _
      injection e2 with _ e2
      injection e2 with e2
      injection e2 with e2 e3
      injection e2 with e2
      injection e3 with e3
      injection e3 with e3
      subst e1 e2 e3
      exact ⟨_, rfl, h1⟩
    | lck h1 h2 =>
      exfalso
      injection e with e1 e2
      unfold rgD lkD at e2
      injection e2 with e2
      injection e2 with e2 _
      injection e2 with e2 _
      cases e2
    | @dct a ks xs es h1 h2 h3 h4 h5 h6 =>
      exfalso
      injection e with e1 e2
      unfold rgD dctD at e2
      injection e2 with e2
      cases ks with
      | nil => cases e2
      | cons k ks =>
        cases es with
        | nil => cases e2
        | cons d es => cases k <;> cases e2
    | obj h1 h2 h3 h4 h5 h6 =>
      exfalso
      injection e with e1 e2
      unfold rgD objD at e2
      injection e2 with e2
      injection e2 with e2 _
      cases e2
    | _ => cases e
  exact key _ r _ rfl
theorem vi_rgv (he : VE X W wx e t) : VI X W wx tg e (iRg t) :=
  ⟨PI.imp (pi_rngv he.pe) fun σ H R ⟨δ, π, Qd, Xd, s, h, k, xr⟩ => ⟨δ, π, _, Xd, s, h, fun rv δ' q v H' s' => by
    obtain ⟨q1, i, j, q2, hb, q⟩ := q
    have s2 := s'.shr q1
    rw [q2] at s2
    obtain ⟨a, rfl, ha⟩ := s2.range
    exact ⟨a, i, j, rfl, ha, hb, k _ _ q _ [] _ (by rw [List.append_nil]; exact s2.drop) itok_rng⟩, xr⟩⟩

/-! ### two fors -/
def swapF (a n r i : Nat) : Nat := if i < a then i else if i < a + n then i + r else if i < a + n + r then i - n else i
theorem swapF_at (a n r i : Nat) : (i < a ∧ swapF a n r i = i) ∨ (a ≤ i ∧ i < a + n ∧ swapF a n r i = i + r) ∨ (a + n ≤ i ∧ i < a + n + r ∧ swapF a n r i = i - n) ∨ (a + n + r ≤ i ∧ swapF a n r i = i) := by
  unfold swapF
  by_cases h1 : i < a
  · exact .inl ⟨h1, if_pos h1⟩
  · by_cases h2 : i < a + n
    · exact .inr (.inl ⟨by omega, h2, by rw [if_neg h1, if_pos h2]⟩)
    · by_cases h3 : i < a + n + r
      · exact .inr (.inr (.inl ⟨by omega, h3, by rw [if_neg h1, if_neg h2, if_pos h3]⟩))
      · exact .inr (.inr (.inr ⟨by omega, by rw [if_neg h1, if_neg h2, if_neg h3]⟩))
theorem SS.swap {ρ ν : List Cell} (s : SS K W H σ δ (π ++ ρ ++ ν)) : SS K W H σ δ (π ++ ν ++ ρ) := by
  obtain ⟨S, x⟩ := s.st
  refine ⟨s.len, S, x.re (cs' := σ.zip δ ++ (π ++ ν ++ ρ)) (swapF (σ.zip δ ++ π).length ν.length ρ.length) (fun i c q => .inr ?_) (fun i j n q => ?_)⟩
  · rw [List.append_assoc, ← List.append_assoc (σ.zip δ)] at q
    rw [List.append_assoc, ← List.append_assoc (σ.zip δ)]
    generalize σ.zip δ ++ π = A at q
    unfold swapF
    have hi := (List.getElem?_eq_some_iff.mp q).1
    rw [List.length_append, List.length_append] at hi
    split
    · rename_i h1
      rw [List.getElem?_append_left h1] at q ⊢
      exact q
    · rename_i h1
      rw [List.getElem?_append_right (by omega)] at q
      split
      · rename_i h2
        rw [List.getElem?_append_left (by omega)] at q
        rw [List.getElem?_append_right (by omega), List.getElem?_append_right (by omega)]
        rw [show i + ρ.length - A.length - ρ.length = i - A.length by omega]
        exact q
      · rename_i h2
        rw [List.getElem?_append_right (by omega)] at q
        rw [if_pos (by omega), List.getElem?_append_right (by omega), List.getElem?_append_left (by omega)]
        rw [show i - ν.length - A.length = i - A.length - ν.length by omega]
        exact q
  · intro v o w p e1 e2
    have hi := (List.getElem?_eq_some_iff.mp e1).1
    have hj := (List.getElem?_eq_some_iff.mp e2).1
    rw [List.append_assoc, ← List.append_assoc (σ.zip δ), List.length_append, List.length_append] at hi hj
    have k1 := swapF_at (σ.zip δ ++ π).length ν.length ρ.length i
    have k2 := swapF_at (σ.zip δ ++ π).length ν.length ρ.length j
    omega
/-- [te for .. in it if cond for .. in it1 if cond1] -/
def vLc2 (it : VTs) (g : D → List Sl → Option (List Sl)) (cond : VTt) (it1 : VTs) (g1 : D → List Sl → Option (List Sl)) (cond1 : VTt) (te : VT) (vs vs1 : List Nat) : VT := fun δ Q Xc => it δ (fun its δ1 => ∃ I : Nat → List D → List Sl → Prop, I 0 [] (wipeD δ1 vs) ∧
  (∀ k d acc δ2, its[k]? = some d → I k acc δ2 → ∃ δ3, g d δ2 = some δ3 ∧ cond δ3 (fun b δ4 => if b = true then it1 δ4 (fun its1 δ5 => ∃ I1 : Nat → List D → List Sl → Prop, I1 0 acc (wipeD δ5 vs1) ∧
      (∀ j d1 acc1 δ6, its1[j]? = some d1 → I1 j acc1 δ6 → ∃ δ7, g1 d1 δ6 = some δ7 ∧ cond1 δ7 (fun b1 δ8 => if b1 = true then te δ8 (fun rv δ9 => rv.isIn = true ∧ acc1.length < 1000000 ∧ I1 (j + 1) (acc1 ++ [rv.get]) (wipeD δ9 vs1)) noX else I1 (j + 1) acc1 (wipeD δ8 vs1)) noX) ∧
      ∀ acc1 δ6, I1 its1.length acc1 δ6 → I (k + 1) acc1 (wipeD δ6 vs)) noX else I (k + 1) acc (wipeD δ4 vs)) noX) ∧
  ∀ acc δ2, I its.length acc δ2 → ∀ p, Q (.ow (Ot.flat p acc)) δ2) Xc
theorem lc2_run {it it1 : VTs} {ws ws1 vs vs1 : List Nat} {g g1 : D → List Sl → Option (List Sl)} {tc tc1 : VTt} {te : VT} {Q : VK} (hw : ∀ i ∈ ws, i ∈ vs) (hw1 : ∀ i ∈ ws1, i ∈ vs1) (hv : ∀ i ∈ vs1, i ∈ vs) (h : lE X.K W wx (vLc2 it g tc it1 g1 tc1 te vs vs1) σ H Q) :
    tLc2 (lI X.K W wx it) (lG X.K W ws g) (lT X.K W wx0 tc) (lI X.K W wx0 it1) (lG X.K W ws1 g1) (lT X.K W wx0 tc1) (lE X.K W wx0 te) vs vs1 σ H Q := by
  obtain ⟨δ, π, Qd, Xd, s, h, k, xr⟩ := h
  refine ⟨δ, π, _, Xd, s, h, fun its δ1 q J ν H1 s1 iok => ?_, xr⟩
  obtain ⟨I, i0, step, last⟩ := q
  intro Da hD
  have s1w : SS X.K W H1 (L2.wipe σ vs) (wipeD δ1 vs) (π ++ ν) := s1.wipe
  obtain ⟨S1, x1⟩ := s1w.st
  have s2 : SS X.K W (upd H1 Da (.lst [])) (L2.wipe σ vs) (wipeD δ1 vs) (π ++ ν ++ [(some (.ref Da), .ow (Ot.flat Da []))]) := ⟨s1w.len, _, by rw [← List.append_assoc]; exact x1.newL (ds := []) hD .nil⟩
  refine ⟨fun i m H' => m = its.length - i ∧ i ≤ its.length ∧ ∃ acc δ2, I i acc δ2 ∧ SS X.K W H' (L2.wipe σ vs) δ2 (π ++ ν ++ [(some (.ref Da), .ow (Ot.flat Da acc))]), ⟨_, rfl, Nat.zero_le _, [], _, i0, s2⟩, ?_⟩
  rintro i m H2 ⟨rfl, hi2, acc, δ2, iv, s2⟩
  by_cases hlt : i < its.length
  · have hd : its[i]? = some its[i] := List.getElem?_eq_getElem hlt
    obtain ⟨go, yld⟩ := iok.go (L2.wipe σ vs) δ2 H2 π [(some (.ref Da), .ow (Ot.flat Da acc))] i _ s2 hd
    obtain ⟨δ3, g3, b3⟩ := step i _ acc δ2 hd iv
    refine .inr ⟨go, fun H' => ∃ acc δ2, I (i + 1) acc δ2 ∧ SS X.K W H' (L2.wipe σ vs) δ2 (π ++ ν ++ [(some (.ref Da), .ow (Ot.flat Da acc))]), fun H' ⟨acc', δ4, iv4, s4⟩ => ⟨_, by omega, rfl, hlt, acc', δ4, iv4, s4⟩, fun x H' hy => ?_⟩
    have s3 := yld x H' hy
    refine ⟨δ2, _, _, (π ++ ν ++ [(some (V.ref Da), Sl.ow (Ot.flat Da acc))]).length, δ3, snoc_last, s3, g3, fun σ2 w s4 => ?_⟩
    have ew : L2.wipe σ2 vs = L2.wipe σ vs := by rw [wipe_sub w hw, wipe_wipe]
    refine ⟨ew, δ3, _, _, _, s4, b3, fun bb δ4 q H3 s5 => ?_, fun _ _ q => q.elim⟩
    have back : ∀ {H' : Hp} {δ5 : List Sl} {ρ : List Cell}, SS X.K W H' σ2 δ5 ρ → SS X.K W H' (L2.wipe σ vs) (wipeD δ5 vs) ρ := fun {H' δ5 ρ} z => by
      have := z.wipe (vs := vs)
      rw [ew] at this
      exact this
    cases bb with
    | false =>
      have q1 : I (i + 1) acc (wipeD δ4 vs) := q
      exact iteF ⟨acc, _, q1, back s5.drop⟩
    | true =>
      refine iteT ?_
      refine ⟨δ4, _, _, _, s5.drop, q, fun its1 δ5 q5 J1 ν1 H4 s6 iok1 => ?_, fun _ _ q => q.elim⟩
      obtain ⟨I1, i10, step1, last1⟩ := q5
      have s7 : SS X.K W H4 (L2.wipe σ2 vs1) (wipeD δ5 vs1) (π ++ ν ++ ν1 ++ [(some (.ref Da), .ow (Ot.flat Da acc))]) := s6.swap.wipe
      refine ⟨fun j m H' => m = its1.length - j ∧ j ≤ its1.length ∧ ∃ acc1 δ6, I1 j acc1 δ6 ∧ SS X.K W H' (L2.wipe σ2 vs1) δ6 (π ++ ν ++ ν1 ++ [(some (.ref Da), .ow (Ot.flat Da acc1))]), ⟨_, rfl, Nat.zero_le _, acc, _, i10, s7⟩, ?_⟩
      rintro j m1 H5 ⟨rfl, hj2, acc1, δ6, iv1, s8⟩
      by_cases hlt1 : j < its1.length
      · have hd1 : its1[j]? = some its1[j] := List.getElem?_eq_getElem hlt1
        obtain ⟨go1, yld1⟩ := iok1.go (L2.wipe σ2 vs1) δ6 H5 (π ++ ν) [(some (.ref Da), .ow (Ot.flat Da acc1))] j _ s8 hd1
        obtain ⟨δ7, g7, b7⟩ := step1 j _ acc1 δ6 hd1 iv1
        refine .inr ⟨go1, fun H' => ∃ acc1 δ6, I1 (j + 1) acc1 δ6 ∧ SS X.K W H' (L2.wipe σ2 vs1) δ6 (π ++ ν ++ ν1 ++ [(some (.ref Da), .ow (Ot.flat Da acc1))]), fun H' ⟨acc', δ4, iv4, s4⟩ => ⟨_, by omega, rfl, hlt1, acc', δ4, iv4, s4⟩, fun x1 H' hy1 => ?_⟩
        have s9 := yld1 x1 H' hy1
        refine ⟨δ6, _, _, (π ++ ν ++ ν1 ++ [(some (V.ref Da), Sl.ow (Ot.flat Da acc1))]).length, δ7, snoc_last, s9, g7, fun σ3 w1 s10 => ?_⟩
        have ew1 : L2.wipe σ3 vs1 = L2.wipe σ2 vs1 := by rw [wipe_sub w1 hw1, wipe_wipe]
        refine ⟨ew1, δ7, _, _, _, s10, b7, fun bb1 δ8 q8 H6 s11 => ?_, fun _ _ q => q.elim⟩
        have back1 : ∀ {H' : Hp} {δ5 : List Sl} {ρ : List Cell}, SS X.K W H' σ3 δ5 ρ → SS X.K W H' (L2.wipe σ2 vs1) (wipeD δ5 vs1) ρ := fun {H' δ5 ρ} z => by
          have := z.wipe (vs := vs1)
          rw [ew1] at this
          exact this
        cases bb1 with
        | false =>
          have q1 : I1 (j + 1) acc1 (wipeD δ8 vs1) := q8
          exact iteF ⟨acc1, _, q1, back1 s11.drop⟩
        | true =>
          have q1 : te δ8 (fun rv δ9 => rv.isIn = true ∧ acc1.length < 1000000 ∧ I1 (j + 1) (acc1 ++ [rv.get]) (wipeD δ9 vs1)) noX := q8
          refine iteT ?_
          refine ⟨δ8, _, _, _, s11, q1, fun rv δ9 q2 y H7 s12 => ?_, fun _ _ q => q.elim⟩
          obtain ⟨q3, q5, q4⟩ := q2
          obtain ⟨xs, hl, lx, s13⟩ := (s12.shr q3).into (o := .leaf rv.get) rfl
          refine ⟨xs, hl, ?_, acc1 ++ [rv.get], _, q4, back1 (by rw [show Ot.flat Da (acc1 ++ [rv.get]) = .lst Da (acc1.map .leaf ++ [.leaf rv.get]) by simp [Ot.flat]]; exact s13)⟩
          rw [lx, List.length_map]
          exact Nat.lt_of_lt_of_le q5 (by decide)
      · obtain rfl : j = its1.length := by omega
        refine .inl ⟨iok1.stop (L2.wipe σ2 vs1) δ6 H5 (π ++ ν) _ _ s8 (Nat.le_refl _), acc1, _, last1 _ _ iv1, ?_⟩
        have := s8.mid.wipe (vs := vs)
        rwa [show L2.wipe (L2.wipe σ2 vs1) vs = L2.wipe σ vs from (wipe_sub (ws := vs1) wipe_wipe hv).trans ew] at this
  · obtain rfl : i = its.length := by omega
    refine .inl ⟨iok.stop (L2.wipe σ vs) δ2 H2 π _ _ s2 (Nat.le_refl _), k _ _ (last _ _ iv Da) _ _ ?_⟩
    exact (s2.mid).unwipe
theorem ve_lc2 {scope : Scope} {own : List (Str × Nat)} {vs1 : List Nat} {it it1 : VTs} {ws ws1 : List Nat} {g g1 : D → List Sl → Option (List Sl)} {tc tc1 : VTt} (hc : X.calm = true) (hN : X.N.Nodup) (hi : VI X W wx tg iter it) (ok : BlkOk X.N X.env.scope scope own) (hv : ∀ i ∈ vs1, i ∈ own.map (·.2))
    (hg : ∀ (s : Shared) (H : Hp) (C : Addr) (cl : List (Str × Addr)) (fp : List Addr), VG (X.blk s H scope (compEnvC scope cl C X.env) fp) W tg ws g)
    (ht : ∀ (s : Shared) (H : Hp) (C : Addr) (cl : List (Str × Addr)) (fp : List Addr), VCs (X.blk s H scope (compEnvC scope cl C X.env) fp) W wx0 ifs tc)
    (hi1 : ∀ (s : Shared) (H : Hp) (C : Addr) (cl : List (Str × Addr)) (fp : List Addr), VI (X.blk s H scope (compEnvC scope cl C X.env) fp) W wx0 tg1 iter1 it1)
    (hg1 : ∀ (s : Shared) (H : Hp) (C : Addr) (cl : List (Str × Addr)) (fp : List Addr), VG (X.blk s H scope (compEnvC scope cl C X.env) fp) W tg1 ws1 g1)
    (ht1 : ∀ (s : Shared) (H : Hp) (C : Addr) (cl : List (Str × Addr)) (fp : List Addr), VCs (X.blk s H scope (compEnvC scope cl C X.env) fp) W wx0 ifs1 tc1)
    (he : ∀ (s : Shared) (H : Hp) (C : Addr) (cl : List (Str × Addr)) (fp : List Addr), VE (X.blk s H scope (compEnvC scope cl C X.env) fp) W wx0 elt te)
    (hw : ∀ i ∈ ws, i ∈ own.map (·.2)) (hw1 : ∀ i ∈ ws1, i ∈ vs1) (hs : ∀ x, foldedSetIterable iter X.env x = pure x := by intro _; rfl) (hs1 : ∀ env x, foldedSetIterable iter1 env x = pure x := by intro _ _; rfl) :
    VE X W wx (.ListComp elt [⟨tg, iter, ifs, 0⟩, ⟨tg1, iter1, ifs1, 0⟩] scope pos) (vLc2 it g tc it1 g1 tc1 te (own.map (·.2)) vs1) :=
  ⟨PE.imp (pe_lc2 (g := lG X.K W ws g) (tt := lT X.K W wx0 tc) (wi1 := lI X.K W wx0 it1) (g1 := lG X.K W ws1 g1) (tt1 := lT X.K W wx0 tc1) (te := lE X.K W wx0 te) hc hN hi.pi ok hv (fun s H C cl fp => (hg s H C cl fp).pg) (fun s H C cl fp => (ht s H C cl fp).pt) (fun s H C cl fp => (hi1 s H C cl fp).pi) (fun s H C cl fp => (hg1 s H C cl fp).pg) (fun s H C cl fp => (ht1 s H C cl fp).pt) (fun s H C cl fp => (he s H C cl fp).pe) hs hs1) fun σ H Q h => lc2_run hw hw1 hv h⟩
end
end ML
namespace ML
open PySem PySem.Spec PyProof.Rows L2
def LC2i (g1 : D → List Sl → Option (List Sl)) (cond1 : VTt) (te : VT) (vs1 : List Nat) (its1 : List D) (acc : List D) (δ5 : List Sl) (Qn : List D → List Sl → Prop) : Prop := ∃ I1 : Nat → List D → List Sl → Prop, I1 0 acc (wipeD δ5 vs1) ∧
  (∀ j d1 acc1 δ6, its1[j]? = some d1 → I1 j acc1 δ6 → ∃ δ7, g1 d1 δ6 = some δ7 ∧ cond1 δ7 (fun b1 δ8 => if b1 = true then te δ8 (fun rv δ9 => rv.isIn = true ∧ acc1.length < 1000000 ∧ I1 (j + 1) (acc1 ++ [rv.get]) (wipeD δ9 vs1)) noX else I1 (j + 1) acc1 (wipeD δ8 vs1)) noX) ∧
  ∀ acc1 δ6, I1 its1.length acc1 δ6 → Qn acc1 δ6
def LC2 (g : D → List Sl → Option (List Sl)) (cond : VTt) (it1 : VTs) (g1 : D → List Sl → Option (List Sl)) (cond1 : VTt) (te : VT) (vs vs1 : List Nat) (its : List D) (δ1 : List Sl) (Q : Sl → List Sl → Prop) : Prop := ∃ I : Nat → List D → List Sl → Prop, I 0 [] (wipeD δ1 vs) ∧
  (∀ k d acc δ2, its[k]? = some d → I k acc δ2 → ∃ δ3, g d δ2 = some δ3 ∧ cond δ3 (fun b δ4 => if b = true then it1 δ4 (fun its1 δ5 => LC2i g1 cond1 te vs1 its1 acc δ5 (fun acc1 δ6 => I (k + 1) acc1 (wipeD δ6 vs))) noX else I (k + 1) acc (wipeD δ4 vs)) noX) ∧
  ∀ acc δ2, I its.length acc δ2 → ∀ p, Q (.ow (Ot.flat p acc)) δ2
theorem vLc2_eq (it : VTs) (g : D → List Sl → Option (List Sl)) (cond : VTt) (it1 : VTs) (g1 : D → List Sl → Option (List Sl)) (cond1 : VTt) (te : VT) (vs vs1 : List Nat) (δ : List Sl) (Q : Sl → List Sl → Prop) (Xc : Exn → List Sl → Prop) : vLc2 it g cond it1 g1 cond1 te vs vs1 δ Q Xc = it δ (fun its δ1 => LC2 g cond it1 g1 cond1 te vs vs1 its δ1 Q) Xc := rfl
theorem LC2i_by {g1 : D → List Sl → Option (List Sl)} {cond1 : VTt} {te : VT} {vs1 : List Nat} {its1 : List D} {acc : List D} {δ5 : List Sl} {Qn : List D → List Sl → Prop} (I1 : Nat → List D → List Sl → Prop) (h0 : I1 0 acc (wipeD δ5 vs1))
    (hs : ∀ j d1 acc1 δ6, its1[j]? = some d1 → I1 j acc1 δ6 → ∃ δ7, g1 d1 δ6 = some δ7 ∧ cond1 δ7 (fun b1 δ8 => if b1 = true then te δ8 (fun rv δ9 => rv.isIn = true ∧ acc1.length < 1000000 ∧ I1 (j + 1) (acc1 ++ [rv.get]) (wipeD δ9 vs1)) noX else I1 (j + 1) acc1 (wipeD δ8 vs1)) noX)
    (he : ∀ acc1 δ6, I1 its1.length acc1 δ6 → Qn acc1 δ6) : LC2i g1 cond1 te vs1 its1 acc δ5 Qn := ⟨I1, h0, hs, he⟩
theorem LC2_by {g : D → List Sl → Option (List Sl)} {cond : VTt} {it1 : VTs} {g1 : D → List Sl → Option (List Sl)} {cond1 : VTt} {te : VT} {vs vs1 : List Nat} {its : List D} {δ1 : List Sl} {Q : Sl → List Sl → Prop} (I : Nat → List D → List Sl → Prop) (h0 : I 0 [] (wipeD δ1 vs))
    (hs : ∀ k d acc δ2, its[k]? = some d → I k acc δ2 → ∃ δ3, g d δ2 = some δ3 ∧ cond δ3 (fun b δ4 => if b = true then it1 δ4 (fun its1 δ5 => LC2i g1 cond1 te vs1 its1 acc δ5 (fun acc1 δ6 => I (k + 1) acc1 (wipeD δ6 vs))) noX else I (k + 1) acc (wipeD δ4 vs)) noX)
    (he : ∀ acc δ2, I its.length acc δ2 → ∀ p, Q (.ow (Ot.flat p acc)) δ2) : LC2 g cond it1 g1 cond1 te vs vs1 its δ1 Q := ⟨I, h0, hs, he⟩
end ML

/-! ## M40 -/
set_option Elab.async false
set_option linter.all false
set_option autoImplicit false
set_option maxRecDepth 100000
set_option maxHeartbeats 4000000
namespace ML
open PySem PySem.Spec PyProof.Rows L2

/-! ### CONSTANT.get(text), a dict of the module from texts to tuples of texts -/
def look (tab : List (Str × List Str)) (z : Str) : Option (List Str) := match tab with
  | [] => none
  | (k, ws) :: r => if k = z then some ws else look r z
def tabOk (K : PySem.W.Frag) : List DictEntry → List (Str × List Str) → Bool
  | [], [] => true
  | e :: es, (k, ws) :: t => (match e.key, e.val with
    | .str x _, .ref b => decide (x = k) && wrTx K b ws
    | _, _ => false) && tabOk K es t
  | _, _ => false
def tabIn (K : PySem.W.Frag) (a : Addr) (tab : List (Str × List Str)) : Bool := match K.lookup a with
  | some ⟨.type "dict", none, .dict es _, _⟩ => tabOk K es.toList tab
  | _ => false
theorem tabOk_find {K : PySem.W.Frag} : ∀ {es : List DictEntry} {tab : List (Str × List Str)} (z : Str), tabOk K es tab = true → es.any (·.refKey) = false ∧
    match look tab z with
    | some ws => ∃ e b, es.find? (·.key.isStr z) = some e ∧ e.val = .ref b ∧ wrTx K b ws = true
    | none => es.find? (·.key.isStr z) = none
  | [], [], z, _ => ⟨rfl, rfl⟩
  | [], _ :: _, z, h => by cases h
  | e :: es, [], z, h => by cases h
  | e :: es, (k, ws) :: t, z, h => by
    have h' : ((match e.key, e.val with
      | .str x _, .ref b => decide (x = k) && wrTx K b ws
      | _, _ => false) && tabOk K es t) = true := h
    rw [Bool.and_eq_true] at h'
    obtain ⟨h1, h2⟩ := h'
    obtain ⟨i1, i2⟩ := tabOk_find z h2
    split at h1
    · rename_i x t' b ek ev
      rw [Bool.and_eq_true] at h1
      have e1 : x = k := of_decide_eq_true h1.1
      subst e1
      refine ⟨?_, ?_⟩
      · rw [List.any_cons, i1, Bool.or_false]
        unfold DictEntry.refKey
        rw [ek]
      · have q : e.key.isStr z = decide (x = z) := by
          rw [ek]
          show (x == z) = _
          by_cases c : x = z
          · subst c; simp
          · simp [c]
        unfold look
        by_cases c : x = z
        · rw [if_pos c]
          exact ⟨e, b, by rw [List.find?_cons_of_pos (by rw [q]; exact decide_eq_true c)], ev, h1.2⟩
        · rw [if_neg c, List.find?_cons_of_neg (by rw [q]; simpa using c)]
          exact i2
    · cases h1
structure GlD (K : PySem.W.Frag) (w : World) (mg : Str → Option Value) (x : Str) (tab : List (Str × List Str)) : Prop where
  ex : ∃ a es n, mg x = some (.ref a) ∧ KDict K w a es n ∧ ∀ z, match look tab z with
    | some ws => ∃ b, PySem.W.nsIn K a z = some (some (.ref b)) ∧ wrTx K b ws = true
    | none => PySem.W.nsIn K a z = some none
theorem gld_of {K : PySem.W.Frag} {w : World} {mg : Str → Option Value} {x : Str} {a : Addr} {tab : List (Str × List Str)} (hm : mg x = some (.ref a)) (h1 : He.dicW K a = some (He.keysIn w.params (tab.map (·.1)))) (h2 : tabIn K a tab = true) : GlD K w mg x tab := by
  obtain ⟨es, n, D⟩ := He.dicW_ok h1
  refine ⟨a, es, n, hm, D, fun z => ?_⟩
  have hl := D.at_
  have h3 : tabOk K es.toList tab = true := by
    unfold tabIn at h2
    rw [hl] at h2
    exact h2
  obtain ⟨i1, i2⟩ := tabOk_find z h3
  have e0 : PySem.W.nsIn K a z = (match es.toList.find? (·.key.isStr z) with
      | some e => some (some e.val)
      | none => if es.toList.any (·.refKey) then none else some none) := by
    unfold PySem.W.nsIn
    rw [hl]
    rfl
  rw [e0]
  cases hq : look tab z with
  | none =>
    simp only [hq] at i2 ⊢
    rw [i2, i1]
    rfl
  | some ws =>
    simp only [hq] at i2 ⊢
    obtain ⟨e, b, i3, i4, i5⟩ := i2
    exact ⟨b, by rw [i3]; show some (some e.val) = _; rw [i4], i5⟩
section
variable {X : Cx} {W : Wd} {wx : WX} {K : PySem.W.Frag} {e : Expr} {pos apos cpos : Pos} {a : Addr} {es : Array DictEntry} {n : Nat}
def tKGet (K : PySem.W.Frag) (a : Addr) (ty : TE) : TE := fun σ H Q => ty σ H fun y H2 => ∃ z r v, y = V.str z ∧ PySem.W.nsIn K a z = some r ∧ RelV v (r.getD .none) ∧ Q v H2
theorem pe_kget {x : Str} {ty : TE} (D : KDict X.K X.w a es n) (hm : X.mg x = some (.ref a)) (he : PE X e ty) (m : L2.M1 X (.Name x pos) "get" apos e cpos) (hg : Gl X x) (hd : (x == ("__debug__" : Str)) = false) :
    PE X (.Call (.Attribute (.Name x pos) "get" apos) [e] [] cpos) (tKGet X.K a ty) := by
  refine ⟨fun pins s σ H Q I h => ?_⟩
  refine wpAny_Call_method m.base m.few m.line PySem.F.plainAttrs_dict PySem.F.slot_dict_get PySem.F.type_dict_get (thn ((pe_glob (v := V.ref a) hg hm rfl hd).run pins s σ H _ I (show tC (V.ref a) σ H (fun v H' => v = V.ref a ∧ H' = H) from ⟨rfl, rfl⟩)) fun u s1 ⟨x, H1, I1, rx, ex, eh⟩ => ?_)
  subst ex eh
  obtain rfl : u = Value.ref a := rx
  refine ⟨kd_type D I1, fun a' e => ⟨_, by cases e; exact I1.kIn _ _ D.at_, rfl⟩, ?_⟩
  rw [m.trees]
  refine Calls.callWith_builtin rfl (Calls.evalArgs_plain (Calls.spliced_cons (thn (he.run pins s1 σ H1 _ I1 h) fun iv s2 ⟨y, H2, I2, ry, z, r, v, ey, er, rv, q2⟩ => Calls.spliced_nil ?_)))
  subst ey
  obtain ⟨t, rfl⟩ := ry
  refine call_meetsIn PySem.F.slot_dict_get (kd_type D I2) PySem.F.entry_dict_get (PySem.F.args_dict_get_2 _ _) (meets_dict_get (strKind X.prog X.w) a (strKind_is X.prog X.w z t) D.low) ⟨_, PySem.W.mapOf_K (prog := X.prog) I2.kIn D.at_ D.lit, ?_⟩
  rw [PySem.W.find_K D.at_ er]
  exact ⟨v, H2, I2.tok _, rv, q2⟩
def fKGet (tab : List (Str × List Str)) (d : D) : Option Rs := match d with
  | .str z => match look tab z with
    | some ws => some (.sh (.tuple (ws.map .str)))
    | none => some (.sh .none)
  | _ => none
theorem ve_kget {x : Str} {tab : List (Str × List Str)} {o : Opr} (G : GlD X.K X.w X.mg x tab) (hb : VO X W wx e o) (m : L2.M1 X (.Name x pos) "get" apos e cpos) (hg : Gl X x := by rfl) (hd : (x == ("__debug__" : Str)) = false := by decide) :
    VE X W wx (.Call (.Attribute (.Name x pos) "get" apos) [e] [] cpos) (v1 (fKGet tab) o) := by
  obtain ⟨tb, B⟩ := hb
  obtain ⟨a, es, n, hm, D, hz⟩ := G.ex
  refine ⟨PE.imp (pe_kget D hm B.pe m hg hd) fun σ H Q h => ?_⟩
  refine run1 (r := fun y H Q => ∃ z r v, y = V.str z ∧ PySem.W.nsIn X.K a z = some r ∧ RelV v (r.getD .none) ∧ Q v H) B ?_ h
  intro S H x d res Q hx hf hq
  cases d with
  | str z =>
    have ex := Rr.str hx
    subst ex
    have z1 := hz z
    have hf' : (match look tab z with
      | some ws => some (Rs.sh (.tuple (ws.map .str)))
      | none => some (Rs.sh .none)) = some res := hf
    revert z1 hf'
    cases look tab z with
    | none =>
      intro z1 hf'
      cases hf'
      exact ⟨z, none, .non, rfl, z1, rfl, hq _ _ (.old .non)⟩
    | some ws =>
      rintro ⟨b, h1, h2⟩ hf'
      cases hf'
      refine ⟨z, _, .ref b, rfl, h1, rfl, hq _ _ (.old ?_)⟩
      unfold wrTx at h2
      split at h2
      · rename_i dd its n sl e
        rw [Bool.and_eq_true] at h2
        have hl := of_decide_eq_true h2.1
        obtain ⟨r1, r2⟩ := txAll_of (K := X.K) (S := S) (H := H) h2.2
        exact .tup (.inr (.inr ⟨_, its, n, e, rfl, rfl, Nat.le_trans hl (by decide), r1⟩)) r2
      · cases h2
  | _ => cases hf
end
end ML

/-! ## M41 -/
set_option Elab.async false
set_option linter.all false
set_option autoImplicit false
set_option maxRecDepth 100000
set_option maxHeartbeats 4000000
namespace ML
open PySem PySem.Spec PyProof.Rows L2
/-! ### enumerate(tuple) -/
theorem meets_enum_begins {v : Value} {o : Obj} {H : Heap → Prop} (B : Begins v o H) :
    Meets (Builtin.«enumerate.__new__» ⟨[.type "enumerate", v], []⟩) (fun _ R s => H s.heap ∧
      R (.ok (.ret (.ref (s.heap.push o).objs.size)))
        { s with heap := (s.heap.push o).push { cls := .type "enumerate", data := .fields #[.none, .bool false, .ref s.heap.objs.size, rawInt 0, .none, .none] } }) :=
  .of_wp fun prog w A R s h => by
    obtain ⟨hp, g, d, tk, os⟩ := s
    obtain ⟨h1, h⟩ := h
    have hsub := sub_enumerate
    have q1 : ∀ {A' : Around} {E : Value → Shared → Prop} {Q : Value → Shared → Prop}, Q (.ref hp.objs.size) ⟨hp.push o, g, d, tk, os⟩ → wpAny (model prog w) A' (pyIter v) Q E ⟨hp, g, d, tk, os⟩ :=
      fun q => B.iter prog w _ _ ⟨hp, g, d, tk, os⟩ _ h1 q
    wp_walk using q1
    refine wpAny_stack_any fun st => wpAny_pure ?_
    split
    · rename_i c _ _ _ _ _
      cases (c == Value.type "enumerate")
      · wp_walk using q1
        exact ⟨_, rfl, h⟩
      · wp_walk using q1
        exact ⟨_, rfl, h⟩
    · wp_walk using q1
      exact ⟨_, rfl, h⟩
section
variable {prog : Program} {w : World} {A : Around} {E : Value → Shared → Prop} {s : Shared}
theorem call_enum_begins {v : Value} {o : Obj} {H : Heap → Prop} {Q : Value → Shared → Prop} (B : Begins v o H) (h1 : H s.heap)
    (h : ∀ h', IsEnum h' (s.heap.objs.size + 1) s.heap.objs.size 0 .none → h'.get? s.heap.objs.size = some o → h'.objs.size = s.heap.objs.size + 2 →
      (∀ b o, s.heap.get? b = some o → h'.get? b = some o) → Q (.ref (s.heap.objs.size + 1)) { s with heap := h' }) :
    wpAny (model prog w) A (call (.type "enumerate") [v]) Q E s := by
  refine callType_new F.called_enumerate (by decide) (F.typeCall_enumerate_1 _) (F.newCall_enumerate_1 _) (fun obj => F.args_object_init_2 obj _) F.entry_enumerate_new
    (meets_enum_begins B) ⟨h1, ?_⟩
  have hz : (s.heap.push o).objs.size = s.heap.objs.size + 1 := Heap.size_push ..
  show _ ∧ _
  rw [hz]
  have he : IsEnum ((s.heap.push o).push { cls := .type "enumerate", data := .fields #[.none, .bool false, .ref s.heap.objs.size, rawInt 0, .none, .none] }) (s.heap.objs.size + 1) s.heap.objs.size 0 .none := by
    have := Heap.get?_push_size (s.heap.push o) (o := { cls := .type "enumerate", data := .fields #[.none, .bool false, .ref s.heap.objs.size, rawInt 0, .none, .none] }) rfl
    rw [hz] at this; exact this
  refine ⟨⟨_, he, rfl⟩, h _ he (Heap.get?_push_of_some _ (Heap.get?_push_size _ B.free)) (by rw [Heap.size_push, hz]) fun b o x => Heap.get?_push_of_some _ (Heap.get?_push_of_some _ x)⟩
end
def ItEt (K : PySem.W.Frag) (a : Addr) : It :=
  ⟨fun i H => ∃ (xs : List V) (x : V), SqT K H a xs ∧ xs[i]? = some x, fun i H v H' => ∃ T x, v = .ref T ∧ H T = none ∧ H' = upd H T (.tup [.int (i : Nat), x]) ∧ ∀ xs, SqT K H a xs → xs[i]? = some x, fun i H => ∃ xs : List V, SqT K H a xs ∧ xs.length ≤ i⟩
theorem draws_end {prog : Program} {w : World} {A : Around} (hh : A.handled = none) (it t : Addr) (hne : t ≠ it) (items : Array Value) (n : Nat) (hn : items.size ≤ n) :
    Draws prog w A it [it, t] n (fun _ _ => False) (fun i h => i = n ∧ h.IsTupleIter it t i ∧ h.IsTuple t items) where
  live := fun _ _ st => let ⟨o, ho, _⟩ := st.2.1; ⟨o, ho⟩
  frame := fun _ _ _ st hk => ⟨st.1, st.2.1.at fun o e => hk it (by simp) o e, st.2.2.at fun o e => hk t (by simp) o e⟩
  item := fun i s Q E hi st hQ => by
    have := st.1
    omega
  done := fun s Q E st hE => wpAny_nextOf_tuple_end hh st.2.1 st.2.2 (Array.getElem?_eq_none hn) hE
theorem turn_enumT {P : Program} {w : World} {K : PySem.W.Frag} {elts : List Expr} {kk : Nat} {tpos : Pos} (a e it : Addr) :
    Turn P w K (.Tuple elts kk tpos) (ItEt K a) [e, it] e (fun i h => (∃ old, IsEnum h e it ((i : Nat) : Int) old) ∧ h.IsTupleIter it a i ∧ e ≠ it ∧ a ≠ it ∧ a ≠ e) where
  mem := by simp
  obj := fun i h st b hb => by
    obtain ⟨⟨old, he⟩, ⟨o, ho, hc, hd⟩, _⟩ := st
    have e' : b = e ∨ b = it := by simpa using hb
    rcases e' with z | z
    · rw [z]; exact ⟨_, he, fun v q => nomatch q⟩
    · rw [z]; exact ⟨o, ho, fun v q => by rw [hd] at q; cases q⟩
  keep := fun i h h' st k => let ⟨⟨old, he⟩, hi, hne⟩ := st; ⟨⟨old, k e (by simp) _ he⟩, hi.at fun o q => k it (by simp) o q, hne⟩
  item := by
    intro X hP hw hK hc i pins s σ H E I hf st hg
    subst hP hw hK
    obtain ⟨⟨old, he⟩, hit, hne, hat, hae⟩ := st
    obtain ⟨xs, x, hq, hx⟩ := hg
    obtain ⟨its, rv, p, hz⟩ := I.tuple hq
    obtain ⟨u, hu, ru⟩ := rv.get hx
    have p' : s.heap.IsTuple a its.toArray := p
    have hel : e < s.heap.objs.size := Heap.lt_size he
    have hil : it < s.heap.objs.size := by obtain ⟨_, q, _⟩ := hit; exact Heap.lt_size q
    have hlt : i < its.toArray.size := by simpa using (List.getElem?_eq_some_iff.mp hu).1
    refine wpAny_pyNext_enum_itemD (Draws.tuple (A := X.A.in1) (I.ok.hd hc) it a hat its.toArray) he ⟨hit, p'⟩ hlt hne (by simp [hne, Ne.symm hae]) fun xv h' tk px ho hit' hT hsz hk => ?_
    have exv : xv = u := by
      have : its.toArray[i]? = some xv := px
      rw [show its.toArray[i]? = some u by simpa using hu] at this
      exact (Option.some.inj this).symm
    subst exv
    refine ⟨_, rfl, wpAny_letOwnedTupleGo_enum ho fun h'' he' sb => ?_⟩
    have hT2 := (sb.2 s.heap.objs.size (Nat.ne_of_gt hel)).trans hT
    have new : ObjOk X.prog X.w (upd H s.heap.objs.size (.tup [.int (i : Nat), x])) h'' s.heap.objs.size (.tup [.int (i : Nat), x]) :=
      ⟨by show 2 ≤ sizeLine; decide, [.int i tk, xv], .cons ⟨_, rfl⟩ (.cons ru .nil), ⟨_, hT2, rfl, _, rfl⟩⟩
    have I1 := Inv.turnedNew (t' := tk + 1) (ch := [e, it]) I (fun b ob hb q => (sb.2 b fun z => hb (by simp [z])).trans (hk b ob (fun z => hb (by simp [z])) (fun z => hb (by simp [z])) q)) hf (Nat.le_refl s.heap.objs.size) new
    refine ⟨.ref s.heap.objs.size, _, I1, rfl, ⟨_, x, rfl, I.hok.fresh (Nat.le_refl _), rfl, fun ys hy => by rw [I.tuple_inj hy hq]; exact hx⟩, ⟨⟨xv, ?_⟩, hit'.1.at fun o q => (sb.2 it (Ne.symm hne)).trans q, hne, hat, hae⟩, fun b hb => ?_⟩
    · have e1 : ((i + 1 : Nat) : Int) = (i : Int) + 1 := by omega
      rw [e1]; exact he'
    · have hb' : b < s.heap.objs.size := by
        have e' : b = e ∨ b = it := by simpa using hb
        rcases e' with z | z
        · rw [z]; exact hel
        · rw [z]; exact hil
      rw [upd_ne (Nat.ne_of_lt hb')]
      exact (hf b hb).1
  done := by
    intro X hP hw hK hc i pins s σ H E I hf st hg
    subst hP hw hK
    obtain ⟨⟨old, he⟩, hit, hne, hat, hae⟩ := st
    obtain ⟨xs, hq, hx⟩ := hg
    obtain ⟨its, rv, p, hz⟩ := I.tuple hq
    obtain ⟨f0, f1, f2, f3, f4, f5⟩ := hf it (by simp)
    have hl := rv.length
    have p' : s.heap.IsTuple a its.toArray := p
    exact wpAny_pyNext_enum_endD (draws_end (A := X.A.in1) (I.ok.hd hc) it a hat its.toArray i (by simp; omega)) he ⟨rfl, hit, p'⟩ fun h' eb => ⟨rfl, I.turned (t' := s.toks) (fun b o hb q => eb b o hb q) f0 f1 f3 f4 f5⟩
  self := fun A i s Q E st h => let ⟨⟨_, he⟩, _⟩ := st; wpAny_pyIter_enum he h
section
variable {X : Cx} {W : Wd} {wx : WX} {K : PySem.W.Frag} {H H' : Hp} {σ : L2.St} {δ δ' : List Sl} {π : List Cell} {e a b c : Expr} {t u : VT} {ta : TA} {pos p : Pos}
def iEnumT (K : PySem.W.Frag) (ta : TA) : TI := fun σ H R => ta σ H fun vs H1 => ∃ a xs, vs = [.ref a] ∧ SqT K H1 a xs ∧ R (ItEt K a) H1
theorem pi_enumT {elts : List Expr} {kk : Nat} {tpos : Pos} (hg : Gl X "enumerate") (hm : X.mg "enumerate" = none) (ha : PA X [e] ta) (hs : starEach [e] X.env = [(false, eval e X.env)] := by rfl) :
    PI X (.Tuple elts kk tpos) (.Call (.Name "enumerate" p) [e] [] pos) (iEnumT X.K ta) := by
  refine ⟨fun pins s σ H R I h => ?_⟩
  refine Call_ (ld_blt I hg hm boot_enumerate (PyProof.Rows.callWith_type1 (thn (ha.run pos pins s σ H _ I h) fun us s1 ⟨vs, H1, I1, r1, q1⟩ => ?_) hs rfl))
  obtain ⟨a, xs, ex, hq, q⟩ := q1
  subst ex
  cases r1 with
  | cons r rr =>
    cases rr
    cases r
    obtain ⟨its, rv, p', hz⟩ := I1.tuple hq
    have p2 : s1.heap.IsTuple a its.toArray := p'
    have hal : a < s1.heap.objs.size := by obtain ⟨o, ho, _⟩ := p'; exact Heap.lt_size ho
    refine call_enum_begins (begins_tuple a its.toArray) p2 fun h' he hit hsz hk => wpAny_pyIter_enum he ?_
    have I2 : Inv X pins σ H1 { s1 with heap := h' } := I1.kept (t' := s1.toks) hk
    refine ⟨s1.heap.objs.size + 1, [s1.heap.objs.size + 1, s1.heap.objs.size], _, _, H1, rfl, I2, turn_enumT a (s1.heap.objs.size + 1) s1.heap.objs.size, ⟨⟨.none, he⟩, ⟨_, hit, rfl, rfl⟩, Nat.succ_ne_self _, Nat.ne_of_lt hal, Nat.ne_of_lt (Nat.lt_succ_of_lt hal)⟩, fun b hb => ?_, q⟩
    have e' : b = s1.heap.objs.size + 1 ∨ b = s1.heap.objs.size := by simpa using hb
    have hle : s1.heap.objs.size ≤ b := by
      rcases e' with z | z
      · rw [z]; exact Nat.le_succ _
      · rw [z]; exact Nat.le_refl _
    exact I1.fpOk hle (I1.hok.fresh hle)
theorem itok_enumT {a : Addr} {ds : List D} : ItOk K W (ItEt K a) (enumD ds) [(some (.ref a), .sh (.tuple ds))] where
  stop := fun σ δ H π ρ i s hi => by
    obtain ⟨S, x, r⟩ := s.at
    rw [enumD_length] at hi
    cases r with
    | tup h1 h2 => exact ⟨_, h1.sq, by rw [h2.length]; exact hi⟩
  go := fun σ δ H π ρ i d s hd => by
    obtain ⟨S, x, r⟩ := s.at
    obtain ⟨y, hy, rfl⟩ := enumD_get hd
    cases r with
    | tup h1 h2 =>
      obtain ⟨v, hv, rv⟩ := h2.get hy
      refine ⟨⟨_, v, h1.sq, hv⟩, fun z H' hz => ?_⟩
      obtain ⟨T, v', rfl, hT, rfl, hz⟩ := hz
      rw [hz _ h1.sq] at hv
      cases hv
      obtain ⟨_, z⟩ := s.new x (.tup hT (.cons (.int _) (.cons rv .nil)))
      exact z
def iEnT (t : VT) : VTs := fun δ Q Xc => vCons t vNil δ (fun ds δ' => ∃ es, ds = [.tuple es] ∧ Q (enumD es) δ') Xc
theorem vi_enumT {elts : List Expr} {kk : Nat} {tpos : Pos} (hm : X.mg "enumerate" = none) (he : VE X W wx a t) (hg : Gl X "enumerate" := by rfl) (hs : starEach [a] X.env = [(false, eval a X.env)] := by rfl) :
    VI X W wx (.Tuple elts kk tpos) (.Call (.Name "enumerate" p) [a] [] pos) (iEnT t) :=
  ⟨PI.imp (pi_enumT hg hm (va_cons he va_nil hs).pa hs) fun σ H R ⟨δ, π, Qd, Xd, s, h, k, xr⟩ => ⟨δ, π, _, Xd, s, h, fun ds δ' q vs H' l n s' => by
    obtain ⟨es, rfl, q⟩ := q
    obtain ⟨v, rfl⟩ := len1 l
    rw [shs_cons, shs_nil] at s'
    obtain ⟨a', xs, rfl, hl⟩ := s'.tuple
    exact ⟨a', xs, rfl, hl, k _ _ q _ _ _ s' itok_enumT⟩, xr⟩⟩
end
end ML

/-! ## M42 -/
set_option Elab.async false
set_option linter.all false
set_option autoImplicit false
set_option maxRecDepth 100000
set_option maxHeartbeats 4000000
namespace ML
open PySem PySem.Spec PyProof.Rows L2
/-! ### fields of an instance of one's own -/
theorem lookup_at : ∀ {ks : List Str} {xs : List V} {f : Str} {n : Nat} {y : V}, kpos ks f = some n → xs[n]? = some y → (ks.zip xs).lookup f = some y
  | [], _, _, _, _, h, _ => by cases h
  | k0 :: ks, [], _, n, _, _, q => by simp at q
  | k0 :: ks, x :: xs, f, n, y, h, q => by
    unfold kpos at h
    rw [List.zip_cons_cons, List.lookup_cons]
    by_cases c : k0 = f
    · rw [if_pos c] at h
      cases h
      subst c
      simpa using q
    · rw [if_neg c] at h
      obtain ⟨m, h1, rfl⟩ := Option.map_eq_some_iff.mp h
      rw [show (f == k0) = false from beq_eq_false_iff_ne.mpr fun z => c z.symm]
      exact lookup_at h1 (by simpa using q)
theorem lookup_no : ∀ {ks : List Str} {xs : List V} {f : Str}, kpos ks f = none → (ks.zip xs).lookup f = none
  | [], _, _, _ => by simp
  | k0 :: ks, [], _, _ => by simp
  | k0 :: ks, x :: xs, f, h => by
    unfold kpos at h
    rw [List.zip_cons_cons, List.lookup_cons]
    by_cases c : k0 = f
    · rw [if_pos c] at h; cases h
    · rw [if_neg c] at h
      rw [show (f == k0) = false from beq_eq_false_iff_ne.mpr fun z => c z.symm]
      exact lookup_no (by simpa using h)
theorem putF_at {f : Str} {v : V} : ∀ {ks : List Str} {xs : List V} {n : Nat}, kpos ks f = some n → ks.length = xs.length → putF f v (ks.zip xs) = ks.zip (xs.set n v)
  | [], _, _, h, _ => by cases h
  | k0 :: ks, [], n, _, q => by simp at q
  | k0 :: ks, x :: xs, n, h, q => by
    unfold kpos at h
    rw [List.zip_cons_cons]
    unfold putF
    by_cases c : k0 = f
    · rw [if_pos c] at h
      cases h
      rw [if_pos c, List.set_cons_zero, List.zip_cons_cons]
    · rw [if_neg c] at h
      obtain ⟨m, h1, rfl⟩ := Option.map_eq_some_iff.mp h
      rw [if_neg c, List.set_cons_succ, List.zip_cons_cons, putF_at h1 (by simpa using q)]
theorem putF_no {f : Str} {v : V} : ∀ {ks : List Str} {xs : List V}, kpos ks f = none → ks.length = xs.length → putF f v (ks.zip xs) = (ks ++ [f]).zip (xs ++ [v])
  | [], [], _, _ => rfl
  | [], _ :: _, _, q => by simp at q
  | k0 :: ks, [], _, q => by simp at q
  | k0 :: ks, x :: xs, h, q => by
    unfold kpos at h
    rw [List.zip_cons_cons]
    unfold putF
    by_cases c : k0 = f
    · rw [if_pos c] at h; cases h
    · rw [if_neg c] at h
      rw [if_neg c, List.cons_append, List.cons_append, List.zip_cons_cons, putF_no (by simpa using h) (by simpa using q)]
section
variable {X : Cx} {W : Wd} {wx : WX} {K : PySem.W.Frag} {H H' : Hp} {σ : L2.St} {δ δ' : List Sl} {π : List Cell} {a b e value : Expr} {es : List Expr} {t : VT} {pos pos' p apos : Pos} {S : Addr → Prop} {te : TE} {C : Addr}
def fdLoc (C : Addr) (f : Str) (L : Nde) : Option Sl := match L.s with
  | .obj _ _ C' ks => if C' = C then (kpos ks f).bind fun n => kidQ L (.fld f) n else none
  | _ => none
def vFd (C : Addr) (a : Opr) (f : Str) : VT := fun δ Q Xc => a.ev δ (fun ra δ1 => ∃ L r, a.loc ra δ1 = some L ∧ fdLoc C f L = some r ∧ Q r δ1) Xc
theorem ve_fd {oa : Opr} {f : Str} (cl : Cls X.K C) (na : NoAttr X.K C f) (ha : VO X W wx a oa) (hb : attributeBase a f X.env (eval a X.env) = eval a X.env := by rfl) : VE X W wx (.Attribute a f pos) (vFd C oa f) := by
  obtain ⟨ta, A⟩ := ha
  refine ⟨PE.imp (pe_fld A.pe hb) fun σ H Q h => ?_⟩
  obtain ⟨δ, π, Qd, Xd, s, h, k, xr⟩ := h
  refine A.run σ H δ π _ Xd _ s h xr fun ra δ1 q v H1 s1 i1 => ?_
  obtain ⟨L, r, e1, e3, q⟩ := q
  obtain ⟨S, z⟩ := s1.st
  have z1 : StF X.K W H1 (σ.zip δ1 ++ (π ++ ((some v, ra) :: []))) S := z
  obtain ⟨h1, h2, h3⟩ := Opr.loc_ok s1.len z1 i1 e1
  obtain ⟨w, w1, w2⟩ := zipcell (ρ := π ++ ((some v, ra) :: [])) s1.len h1
  obtain ⟨xs, g1, g2, _⟩ := z1.mutAt w2 h2
  obtain ⟨j, t, τ, sh, os⟩ := L
  simp only at h1 h2 h3 g1 g2 w2
  have l1 : xs.length = os.length := Ows.length g2
  rw [h3]
  cases sh with
  | obj p dx C' ks =>
    have e3' : (if C' = C then (kpos ks f).bind fun n => kidQ ⟨j, t, τ, .obj p dx C' ks, os⟩ (.fld f) n else none) = some r := e3
    by_cases c : C' = C
    · subst c
      rw [if_pos rfl] at e3'
      obtain ⟨n, hn, hx⟩ := Option.bind_eq_some_iff.mp e3'
      obtain ⟨g11, g12, g13⟩ := g1
      have ln : n < ks.length := (List.getElem?_eq_some_iff.mp (kpos_some hn)).1
      have ex : xs[n]? = some xs[n] := List.getElem?_eq_getElem (by omega)
      have e' : (match os[n]? with | some (.leaf d) => some (Sl.sh d) | some (.nod s _) => some (.rf j (τ ++ [.fld f]) s.root) | none => none) = some r := hx
      have fin : ∀ y : V, xs[n]? = some y → Q y H1 := by
        intro y ey
        split at e'
        · rename_i d eo
          cases e'
          obtain ⟨y', q1, q2⟩ := Ows.get g2 eo
          rw [ey] at q1
          cases q1
          cases q2 with
          | leaf rp => exact k _ _ q _ _ (s1.drop.pushF (SS.restrict z) rp)
        · rename_i s os2 eo
          cases e'
          obtain ⟨y', q1, q2⟩ := Ows.get g2 eo
          rw [ey] at q1
          cases q1
          cases q2 with
          | nod _ _ =>
            refine k _ _ q _ _ ⟨s1.len, S, ?_⟩
            have := (SS.restrict z).way (j := j) (π := τ ++ [.fld f]) (p := s.root)
            rw [List.append_assoc] at this
            exact this
        · cases e'
      exact ⟨p, C', dx, _, xs[n], rfl, g11, cl, na, lookup_at hn ex, fin _ ex⟩
    · rw [if_neg c] at e3'; cases e3'
  | lst p => cases e3
  | dct p ks => cases e3
  | lkd p ks us o => cases e3
  | tup p => cases e3
def storeF (C : Addr) (s : Sh) (os : List Ot) (f : Str) (o : Ot) : Option (Sh × List Ot) := match s with
  | .obj p dx C' ks => if C' = C ∧ ks.length < 900 then (match kpos ks f with
      | some n => (match os[n]? with
        | some (.leaf _) => some (.obj p dx C ks, os.set n o)
        | _ => none)
      | none => some (.obj p dx C (ks ++ [f]), os ++ [o])) else none
  | _ => none
def vPutF (C : Addr) (t : VT) (c : Opr) (f : Str) : VSt := fun E δ => t δ (fun rv δ1 => rv.isIn = true ∧ c.ev δ1 (fun rc δ2 => ∃ (o : Ot) (L : Nde) (s' : Sh) (os' : List Ot), rv.ot = some o ∧ c.loc rc δ2 = some L ∧ storeF C L.s L.os f o = some (s', os') ∧ E.nx (L.set δ2 s' os')) E.ex) E.ex
theorem storeF_ok {s s' : Sh} {os os' : List Ot} {f : Str} {o : Ot} {xs : List V} {v : V} (h : storeF C s os f o = some (s', os')) (hh : s.holds H xs) (ho : Ows K S H xs os) (wo : Ow K S H v o) :
    s'.root = s.root ∧ s'.own = s.own ∧ (Ot.adrs os').Perm (Ot.adrs os ++ o.adr) ∧ ∃ xs' fs dx, H s.root = some (.ins C dx fs) ∧ fs.length < 1000 ∧ (∀ b, b ∉ s.own → upd H s.root (.ins C dx (putF f v fs)) b = H b) ∧ s'.holds (upd H s.root (.ins C dx (putF f v fs))) xs' ∧ Ows K S H xs' os' := by
  cases s with
  | obj p dx C' ks =>
    have h' : (if C' = C ∧ ks.length < 900 then (match kpos ks f with
      | some n => (match os[n]? with
        | some (.leaf _) => some (Sh.obj p dx C ks, os.set n o)
        | _ => none)
      | none => some (Sh.obj p dx C (ks ++ [f]), os ++ [o])) else none) = some (s', os') := h
    by_cases c : C' = C ∧ ks.length < 900
    · obtain ⟨c1, c2⟩ := c
      subst c1
      rw [if_pos ⟨rfl, c2⟩] at h'
      obtain ⟨h1, h2, h3⟩ := hh
      have hz : (ks.zip xs).length < 1000 := by rw [List.length_zip]; omega
      have kp : ∀ u, ∀ b, b ∉ (Sh.obj p dx C' ks).own → upd H p u b = H b := fun u b hb => upd_ne (fun z => hb (by rw [z]; exact List.mem_cons_self))
      have ndx : dx ≠ p := fun z => by rw [z] at h2; rw [h1] at h2; cases h2
      cases hk : kpos ks f with
      | some n =>
        rw [hk] at h'
        simp only at h'
        split at h'
        · rename_i d ed
          cases h'
          refine ⟨rfl, rfl, adrs_put_leaf ed, xs.set n v, _, dx, h1, hz, kp _, ⟨?_, ?_, by rw [List.length_set]; exact h3⟩, ho.set wo⟩
          · show upd H p _ p = _
            rw [upd_same, putF_at hk h3]
          · show upd H p _ dx = _
            rw [upd_ne ndx]
            exact h2
        · cases h'
      | none =>
        rw [hk] at h'
        cases h'
        refine ⟨rfl, rfl, by rw [Ot.adrs_app, Ot.adrs, Ot.adrs, List.append_nil], xs ++ [v], _, dx, h1, hz, kp _, ⟨?_, ?_, by rw [List.length_append, List.length_append, h3]; rfl⟩, ho.append (.cons wo .nil)⟩
        · show upd H p _ p = _
          rw [upd_same, putF_no hk h3]
        · show upd H p _ dx = _
          rw [upd_ne ndx]
          exact h2
    · rw [if_neg c] at h'; cases h'
  | lst p => cases h
  | dct p ks => cases h
  | lkd p ks us o => cases h
  | tup p => cases h
theorem vs_putF {o : Opr} {ov : Expr} {f : Str} (cl : Cls X.K C) (na : NoAttr X.K C f) (he : VE X W wx value t) (ho : VO X W wx ov o) (hs : swapsWith value (some (.Attribute ov f pos')) pos.line X.env = pure false := by rfl) :
    VS X W wx (.Assign [.Attribute ov f pos'] value pos) (vPutF C t o f) := by
  obtain ⟨te, A⟩ := ho
  refine ⟨PS.imp (ps_fld A.pe he.pe hs) fun Dd σ H ⟨δ, π, E, s, h, k⟩ => ?_⟩
  refine ⟨δ, π, _, _, s, h, fun rv δ1 z v H1 s1 => ?_, k.ex σ⟩
  obtain ⟨z1, z2⟩ := z
  refine A.run σ H1 δ1 _ _ _ _ s1 z2 (k.ex σ).more fun rc δ2 z3 cv H2 s2 i2 => ?_
  obtain ⟨ot, L, s', os', q1, q3, q4, q5⟩ := z3
  obtain ⟨S, x⟩ := s2.st
  obtain ⟨h1, h2, h3⟩ := Opr.loc_ok s2.len x i2 q3
  have x2 : StF X.K W H2 (σ.zip δ2 ++ (π ++ ([(some v, rv), (some cv, rc)]))) S := by
    rw [List.append_assoc π] at x
    exact x
  obtain ⟨xs, g1, g2, g3⟩ := x2.mutL s2.len h1 h2
  have ev : (σ.zip δ2 ++ (π ++ ([(some v, rv), (some cv, rc)])))[(σ.zip δ2 ++ π).length]? = some (some v, rv) := by
    rw [← List.append_assoc, List.getElem?_append_right (Nat.le_refl _), Nat.sub_self]
    rfl
  have wo : Ow X.K S H2 v ot := (x2.arg ev (ot_fit q1)).ot q1
  obtain ⟨r1, r2, pm, xs', fs, dx, e1, e2, kp, hh, ho'⟩ := storeF_ok (v := v) q4 g1 g2 wo
  refine ⟨L.s.root, C, dx, fs, h3, e1, cl, na, e2, ?_⟩
  obtain ⟨y, _⟩ := g3 s' xs' os' _ (adrC [(some cv, rc)]) r1 r2 kp hh ho' (by
    have e0 : adrC [(some v, rv), (some cv, rc)] = ot.adr ++ adrC [(some cv, rc)] := by
      cases rv with
      | sh d => cases q1; simp [adrC, Ot.adr]
      | ow o => cases q1; simp [adrC]
      | _ => cases q1
    rw [e0, ← List.append_assoc]
    exact pm.append_right _)
  exact k.nx _ q5 _ _ ⟨by rw [Nde.set_len]; exact s2.len, S, y⟩
/-! ### name.m(..) -/
def isObj (C : Addr) (m : Str) (s : Option Sl) : Prop := match s with
  | some (.ow (.nod (.obj _ _ C' ks) _)) => C' = C ∧ kpos ks m = none
  | _ => False
def vMeth (C : Addr) (m : Str) (sem : SemG) (i : Nat) (as : List Ag) : VT := fun δ Q Xc => isObj C m δ[i]? ∧ vCal sem (.ln i :: as) δ Q Xc
structure FnM (P : Program) (w : World) (K : PySem.W.Frag) (mg : Str → Option Value) (base : Heap) (k : Nat) (C : Addr) (m : Str) (n : Nat) (sem : SemG) : Prop where
  ex : ∃ (f : Addr) (fd : FuncData) (ps : List Str), FnOk P w K mg base (L2.CX P w) k f fd ps (spG K n sem) ∧ Meth K C m f ∧ Binds K fd ps []
def tMethS (C : Addr) (m : Str) (sp : Sp) (E : L2.St → XK) (ta : TE) (t : TA) : TE := fun σ H Q => ta σ H fun x H1 => ∃ a dx fs, x = .ref a ∧ H1 a = some (.ins C dx fs) ∧ fs.lookup m = none ∧
  t σ H1 fun vs H2 => sp (x :: vs) H2 Q (E σ)
theorem pe_methS {CX : CXT} {k : Nat} {f : Addr} {fd : FuncData} {ps : List Str} {sp : Sp} {E : L2.St → XK} {m : Str} {o : Expr} {ta : TE} {t : TA} {pl : Sem Bool} (he : PE X o ta) (c : Cls X.K C) (hm : Meth X.K C m f) (F : FnOk X.prog X.w X.K X.mg X.base CX k f fd ps sp) (hr : Room k X.A) (hb : Binds X.K fd ps []) (hx : ∀ σ, PassesAt CX X σ (E σ)) (ha : PA X (e :: es) t)
    (hst : starEach (e :: es) X.env = (false, eval e X.env) :: starEach es X.env := by rfl) (hpl : (backTo pos (starEach es X.env)).any (·.1) = false := by rfl)
    (ht : eval (.Call (.Attribute o m apos) (e :: es) [] pos) X.env = (do
      let ov ← eval o X.env
      standAt apos.atName
      let (f, first) ← holding [ov] (getMethod ov m pl)
      callWith pos f first (backTo pos (starEach (e :: es) X.env)) (backToKw pos (keywordEach [] X.env))) := by rfl) :
    PE X (.Call (.Attribute o m apos) (e :: es) [] pos) (tMethS C m sp E ta t) := by
  refine ⟨fun pins s σ H Q I h => ?_⟩
  refine PySem.W.methodCall_KW (pl := pl) (thn (he.run pins s σ H _ I h) fun u s1 ⟨x, H1, I1, rx, a, dx, fs, ex, ea, l, q⟩ => ?_) ht
  subst ex
  obtain rfl : u = Value.ref a := rx
  refine getmeth_ok I1 ea c hm l ?_
  refine PySem.W.callWith_K (first := [.ref a]) (h₀ := X.base) I.ok.mod.kin hm.kp (thn (ha.run pos pins s1 σ H1 _ I1 q) fun us s2 ⟨vs, H2, I2, r, q2⟩ => ⟨I2.kIn, ?_⟩) hst hpl
  exact run_fnS (us := .ref a :: us) (vs := .ref a :: vs) F hr hb (hx σ) I2 (.cons rfl r) q2
theorem pe_methS0 {CX : CXT} {k : Nat} {f : Addr} {fd : FuncData} {ps : List Str} {sp : Sp} {E : L2.St → XK} {m : Str} {o : Expr} {ta : TE} {pl : Sem Bool} (he : PE X o ta) (c : Cls X.K C) (hm : Meth X.K C m f) (F : FnOk X.prog X.w X.K X.mg X.base CX k f fd ps sp) (hr : Room k X.A) (hb : Binds X.K fd ps []) (hx : ∀ σ, PassesAt CX X σ (E σ))
    (ht : eval (.Call (.Attribute o m apos) [] [] pos) X.env = (do
      let ov ← eval o X.env
      standAt apos.atName
      let (f, first) ← holding [ov] (getMethod ov m pl)
      callWith pos f first (backTo pos (starEach [] X.env)) (backToKw pos (keywordEach [] X.env))) := by rfl) :
    PE X (.Call (.Attribute o m apos) [] [] pos) (tMethS C m sp E ta tNil) := by
  refine ⟨fun pins s σ H Q I h => ?_⟩
  refine PySem.W.methodCall_KW (pl := pl) (thn (he.run pins s σ H _ I h) fun u s1 ⟨x, H1, I1, rx, a, dx, fs, ex, ea, l, q⟩ => ?_) ht
  subst ex
  obtain rfl : u = Value.ref a := rx
  refine getmeth_ok I1 ea c hm l ?_
  exact PySem.W.callWith_K0 (first := [.ref a]) I1.kIn hm.kp (run_fnS (us := [.ref a]) (vs := [.ref a]) F hr hb (hx σ) I1 (.cons rfl .nil) q)
theorem meth_run {n : Nat} {sem : SemG} {as : List Ag} {i : Nat} {m : Str} {Q : VK} (hlen : as.length + 1 = n) (nd : (lnsOf (.ln i :: as)).Nodup) (h : lE K W wx (vMeth C m sem i as) σ H Q) :
    tMethS C m (spG K n sem) (WE wx) (tVar i) (lAg K W wx as) σ H Q := by
  obtain ⟨δ, π, Qd, Xd, s, ⟨ho, hc⟩, kk, xr⟩ := h
  have hc' : agEv (.ln i :: as) δ (fun l δ1 => ∃ ins, agIn δ1 (lnsOf (.ln i :: as)) (.ln i :: as) l = some ins ∧
    sem ins (fun rv outs => (agBor δ1 (.ln i :: as) l = true → lnAtm (.ln i :: as) outs = true ∧ rv.atm = true) ∧ Qd rv (agOut δ1 (.ln i :: as) outs)) (fun x outs => (agBor δ1 (.ln i :: as) l = true → lnAtm (.ln i :: as) outs = true ∧ x.vals.all atom = true) ∧ Xd x (agOut δ1 (.ln i :: as) outs))) Xd := hc
  obtain ⟨inat, hev⟩ := hc'
  obtain ⟨v, hv⟩ := s.inAt inat
  refine ⟨v, hv, ?_⟩
  obtain ⟨sl, esl⟩ : ∃ sl, δ[i]? = some sl := by
    cases q : δ[i]? with
    | none => rw [q] at ho; exact ho.elim
    | some sl => exact ⟨sl, rfl⟩
  rw [esl] at ho
  unfold isObj at ho
  split at ho
  · rename_i p dx C' ks os eo
    cases eo
    obtain ⟨rfl, hk⟩ := ho
    obtain ⟨S, x⟩ := s.st
    obtain ⟨w, w1, w2⟩ := zipcell (ρ := π) s.len esl
    rw [hv] at w1
    cases w1
    obtain ⟨u, eu, ow⟩ := x.ow _ _ _ w2
    cases eu
    cases ow with
    | nod h1 h2 =>
      obtain ⟨g1, g2, g3⟩ := h1
      refine ⟨p, dx, _, rfl, g1, lookup_no hk, ?_⟩
      refine ⟨δ, π ++ [(some (V.ref p), .un)], _, Xd, s.blank, hev, fun l δ' q vs H' l1 l2 ii s' => ?_, xr.more⟩
      obtain ⟨ins, hin, q⟩ := q
      have s2 : SS K W H' σ δ' (π ++ cells (V.ref p :: vs) (.un :: l)) := by rw [cells_cons, List.append_cons]; exact s'
      obtain ⟨A, F0, x, back⟩ := s2.called (as := .ln i :: as) (by rw [List.length_cons, List.length_cons, l1]) (ag_is (a0 := .ln i) hv ii) nd hin
      have li := (agIn_at hin).1
      have hlen' : (Ag.ln i :: as).length = n := by rw [List.length_cons]; exact hlen
      refine ⟨A, F0, ins, _, _, by rw [List.length_cons, l1]; exact hlen, by rw [li, hlen'], x, q, fun rv outs z v H2 ws lw lo y => ?_, fun x outs z d H2 us ws lw lo y lu ds => ?_⟩
      · refine kk _ _ z.2 _ _ (back H2 ws outs [(some v, rv)] (by rw [lw, hlen']) (by rw [lo, hlen']) (fun hb => ⟨(z.1 hb).1, fun c hc => ?_⟩) y)
        rw [List.mem_singleton] at hc
        rw [hc]
        exact (z.1 hb).2
      · exact xr x _ z.2 d H2 us (back H2 ws outs (shs us x.vals) (by rw [lw, hlen']) (by rw [lo, hlen']) (fun hb => ⟨(z.1 hb).1, shs_atm (z.1 hb).2⟩) y) lu ds
  · exact ho.elim
theorem ve_meth {k n i : Nat} {sem : SemG} {as : List Ag} {x m : Str} {pn : Pos} {pl : Sem Bool} (cl : Cls X.K C) (G : FnM X.prog X.w X.K X.mg X.base k C m n sem) (hr : Room k X.A) (tk : Takes X wx) (ha : VAg X W wx (e :: es) as) (hn : (e :: es).length + 1 = n) (nd : (lnsOf (.ln i :: as)).Nodup)
    (hN : X.N[i]? = some x := by rfl) (hv : Vis X.env.scope x := by first | exact Or.inl rfl | exact Or.inr (Or.inl rfl) | exact Or.inr (Or.inr rfl)) (hd : (x == ("__debug__" : Str)) = false := by decide) (hcd : (x == ("__classdict__" : Str)) = false := by decide)
    (hst : starEach (e :: es) X.env = (false, eval e X.env) :: starEach es X.env := by rfl) (hpl : (backTo pos (starEach es X.env)).any (·.1) = false := by rfl)
    (ht : eval (.Call (.Attribute (.Name x pn) m apos) (e :: es) [] pos) X.env = (do
      let ov ← eval (.Name x pn) X.env
      standAt apos.atName
      let (f, first) ← holding [ov] (getMethod ov m pl)
      callWith pos f first (backTo pos (starEach (e :: es) X.env)) (backToKw pos (keywordEach [] X.env))) := by rfl) :
    VE X W wx (.Call (.Attribute (.Name x pn) m apos) (e :: es) [] pos) (vMeth C m sem i as) := by
  obtain ⟨f, fd, ps, F, hm, hb⟩ := G.ex
  exact ⟨PE.imp (pe_methS (pl := pl) (E := WE wx) (pe_var hN hv hd hcd) cl hm F hr hb (fun σ => passAt tk σ) ha.pa hst hpl ht) fun σ H Q h => meth_run (by rw [← ha.len]; exact hn) nd h⟩
theorem ve_meth0 {k i : Nat} {sem : SemG} {x m : Str} {pn : Pos} {pl : Sem Bool} (cl : Cls X.K C) (G : FnM X.prog X.w X.K X.mg X.base k C m 1 sem) (hr : Room k X.A) (tk : Takes X wx)
    (hN : X.N[i]? = some x := by rfl) (hv : Vis X.env.scope x := by first | exact Or.inl rfl | exact Or.inr (Or.inl rfl) | exact Or.inr (Or.inr rfl)) (hd : (x == ("__debug__" : Str)) = false := by decide) (hcd : (x == ("__classdict__" : Str)) = false := by decide)
    (ht : eval (.Call (.Attribute (.Name x pn) m apos) [] [] pos) X.env = (do
      let ov ← eval (.Name x pn) X.env
      standAt apos.atName
      let (f, first) ← holding [ov] (getMethod ov m pl)
      callWith pos f first (backTo pos (starEach [] X.env)) (backToKw pos (keywordEach [] X.env))) := by rfl) :
    VE X W wx (.Call (.Attribute (.Name x pn) m apos) [] [] pos) (vMeth C m sem i []) := by
  obtain ⟨f, fd, ps, F, hm, hb⟩ := G.ex
  refine ⟨PE.imp (pe_methS0 (pl := pl) (E := WE wx) (pe_var hN hv hd hcd) cl hm F hr hb (fun σ => passAt tk σ) ht) fun σ H Q h => ?_⟩
  obtain ⟨v, hv, a, dx, fs, e1, e2, e3, δ, π, Qd, Xd, s, hc, kk, xr⟩ := meth_run (n := 1) (as := []) rfl (List.nodup_cons.mpr ⟨by simp [lnsOf], List.nodup_nil⟩) h
  exact ⟨v, hv, a, dx, fs, e1, e2, e3, kk _ _ hc [] H rfl rfl (fun k a v q => by simp at q) (by rw [show cells [] [] = [] from rfl, List.append_nil]; exact s)⟩
end
end ML

/-! ## M43 -/
set_option Elab.async false
set_option linter.all false
set_option autoImplicit false
set_option maxRecDepth 100000
set_option maxHeartbeats 4000000
namespace ML
open PySem PySem.Spec PyProof.Rows L2
/-! ### C(..), a new instance of one's own -/
section
variable {K : PySem.W.Frag} {H1 H' : Hp} {cs : List Cell} {S F0 A : Addr → Prop} {x dx C : Addr}
abbrev mkH (H1 : Hp) (x dx C : Addr) : Hp := upd (upd H1 dx (.own x)) x (.ins C dx [])
abbrev mkF (F0 : Addr → Prop) (x dx : Addr) : Addr → Prop := fun b => F0 b ∨ b = x ∨ b = dx
theorem mkH_ne (hx : H1 x = none) (hd : H1 dx = none) {b : Addr} {o : HO} (h : H1 b = some o) : mkH H1 x dx C b = some o := by
  have n1 : b ≠ x := fun z => by rw [z, hx] at h; cases h
  have n2 : b ≠ dx := fun z => by rw [z, hd] at h; cases h
  show upd _ x _ b = _
  rw [upd_ne n1, upd_ne n2]
  exact h
theorem mkH_no {b : Addr} (h : mkH H1 x dx C b = none) : H1 b = none ∧ b ≠ x ∧ b ≠ dx := by
  have n1 : b ≠ x := fun z => by rw [z] at h; have : (some (HO.ins C dx []) : Option HO) = none := by rw [← h]; exact upd_same.symm
                                 cases this
  have h2 : upd H1 dx (.own x) b = none := by rw [← h]; exact (upd_ne n1).symm
  have n2 : b ≠ dx := fun z => by rw [z, upd_same] at h2; cases h2
  rw [upd_ne n2] at h2
  exact ⟨h2, n1, n2⟩
theorem StF.fore (hx : H1 x = none) (hd : H1 dx = none) (y : StF K ⟨H1, F0, A⟩ (mkH H1 x dx C) cs S) : StF K ⟨mkH H1 x dx C, mkF F0 x dx, A⟩ (mkH H1 x dx C) cs S where
  aw := fun b hb => by
    obtain ⟨h1, h2⟩ := y.aw b hb
    have h1' : H1 b ≠ none := h1
    refine ⟨fun z => h1' (mkH_no z).1, fun z => ?_⟩
    rcases z with z | z | z
    · exact h2 z
    · exact h1' (z ▸ hx)
    · exact h1' (z ▸ hd)
  trk := y.trk
  sub := y.sub
  kp := fun b o h _ => h
  th := fun b h => h
  sh := y.sh
  ow := y.ow
  rf := y.rf
  fp := fun i v o b e hb => by
    obtain ⟨h1, h2⟩ := y.fp i v o b e hb
    refine ⟨h1, ?_⟩
    by_cases c1 : b = x
    · exact .inl (.inr (.inl c1))
    by_cases c2 : b = dx
    · exact .inl (.inr (.inr c2))
    rcases h2 with h2 | h2
    · exact .inl (.inl h2)
    · exfalso
      refine y.trk b h1 ?_
      show upd _ x _ b = _
      rw [upd_ne c1, upd_ne c2]
      exact h2
  dj := y.dj
  nd := y.nd
theorem StF.aft (hx : H1 x = none) (hd : H1 dx = none) (y : StF K ⟨mkH H1 x dx C, mkF F0 x dx, A⟩ H' cs S) : StF K ⟨H1, F0, A⟩ H' cs S where
  aw := fun b hb => by
    obtain ⟨h1, h2⟩ := y.aw b hb
    have n1 : b ≠ x := fun z => h2 (.inr (.inl z))
    have n2 : b ≠ dx := fun z => h2 (.inr (.inr z))
    refine ⟨fun z => h1 ?_, fun z => h2 (.inl z)⟩
    show upd _ x _ b = _
    rw [upd_ne n1, upd_ne n2]
    exact z
  trk := y.trk
  sub := y.sub
  kp := fun b o h n => y.kp b o (mkH_ne hx hd h) fun z => by
    have h' : H1 b = some o := h
    rcases z with z | z | z
    · exact n z
    · rw [z, hx] at h'; cases h'
    · rw [z, hd] at h'; cases h'
  th := fun b h => y.th b fun z => h (mkH_no z).1
  sh := y.sh
  ow := y.ow
  rf := y.rf
  fp := fun i v o b e hb => by
    obtain ⟨h1, h2⟩ := y.fp i v o b e hb
    refine ⟨h1, ?_⟩
    rcases h2 with (h2 | h2 | h2) | h2
    · exact .inl h2
    · exact .inr (by rw [h2]; exact hx)
    · exact .inr (by rw [h2]; exact hd)
    · exact .inr (mkH_no h2).1
  dj := y.dj
  nd := y.nd
end
theorem StF.rot {K : PySem.W.Frag} {W : Wd} {H : Hp} {cs : List Cell} {c : Cell} {S : Addr → Prop} (x : StF K W H (cs ++ [c]) S) : StF K W H (c :: cs) S := by
  refine x.re (cs' := c :: cs) (fun i => if i = 0 then cs.length else i - 1) (fun i d q => .inr ?_) (fun i j n q v o w p e1 e2 => ?_)
  · cases i with
    | zero =>
      rw [if_pos rfl, List.getElem?_append_right (Nat.le_refl _), Nat.sub_self]
      exact q
    | succ i =>
      have hi := (List.getElem?_eq_some_iff.mp q).1
      rw [List.length_cons] at hi
      rw [if_neg (by omega), List.getElem?_append_left (by omega)]
      exact q
  · have h1 := (List.getElem?_eq_some_iff.mp e1).1
    have h2 := (List.getElem?_eq_some_iff.mp e2).1
    rw [List.length_cons] at h1 h2
    by_cases c1 : i = 0 <;> by_cases c2 : j = 0
    · omega
    · rw [if_pos c1, if_neg c2] at q; omega
    · rw [if_neg c1, if_pos c2] at q; omega
    · rw [if_neg c1, if_neg c2] at q; omega
theorem StF.rot' {K : PySem.W.Frag} {W : Wd} {H : Hp} {cs : List Cell} {c : Cell} {S : Addr → Prop} (x : StF K W H (c :: cs) S) : StF K W H (cs ++ [c]) S := by
  refine x.re (cs' := cs ++ [c]) (fun i => if i = cs.length then 0 else i + 1) (fun i d q => .inr ?_) (fun i j n q v o w p e1 e2 => ?_)
  · have hi := (List.getElem?_eq_some_iff.mp q).1
    rw [List.length_append, List.length_cons, List.length_nil] at hi
    by_cases c1 : i = cs.length
    · subst c1
      rw [if_pos rfl]
      rw [List.getElem?_append_right (Nat.le_refl _), Nat.sub_self] at q
      exact q
    · rw [if_neg c1]
      rw [List.getElem?_append_left (by omega)] at q
      exact q
  · by_cases c1 : i = cs.length <;> by_cases c2 : j = cs.length
    · omega
    · rw [if_pos c1, if_neg c2] at q; omega
    · rw [if_neg c1, if_pos c2] at q; omega
    · rw [if_neg c1, if_neg c2] at q; omega
section
variable {X : Cx} {W : Wd} {wx : WX} {K : PySem.W.Frag} {H H' : Hp} {σ : L2.St} {δ δ' : List Sl} {π : List Cell} {e : Expr} {es : List Expr} {pos p : Pos} {S : Addr → Prop} {C : Addr}
def tMakeS (C : Addr) (sp : Sp) (E : L2.St → XK) (t : TA) : TE := fun σ H Q => t σ H fun vs H1 => ∀ x dx, H1 x = none → H1 dx = none → dx ≠ x →
  sp (.ref x :: vs) (upd (upd H1 dx (.own x)) x (.ins C dx [])) (fun v H2 => v = .non ∧ Q (.ref x) H2) (E σ)
theorem run_makeS {CX : CXT} {k : Nat} {f : Addr} {fd : FuncData} {ps : List Str} {sp : Sp} {E : L2.St → XK} {pins : List (Addr × Obj)} {σ : L2.St} {H : Hp} {s : Shared} {Q : VK} {us : List Value} {vs : List V} (M : Mk X.K C f) (F : FnOk X.prog X.w X.K X.mg X.base CX k f fd ps sp) (hr : Room (k + 1) X.A) (hb : Binds X.K fd ps [])
    (hx : PassesAt CX X σ (E σ)) (I : Inv X pins σ H s) (r : Vals vs us)
    (h : ∀ x dx, H x = none → H dx = none → dx ≠ x → sp (.ref x :: vs) (upd (upd H dx (.own x)) x (.ins C dx [])) (fun v H2 => v = .non ∧ Q (.ref x) H2) (E σ)) :
    wpAny (model X.prog X.w) X.A (call (.ref C) us) (EP X pins σ Q) X.xe s := by
  have hq := h (s.heap.objs.size + 1) s.heap.objs.size (I.hok.fresh (Nat.le_succ _)) (I.hok.fresh (Nat.le_refl _)) (Nat.ne_of_lt (Nat.lt_succ_self _))
  have I2 := Inv.made (C := C) I
  have r2 : Vals (V.ref (s.heap.objs.size + 1) :: vs) (Value.ref (s.heap.objs.size + 1) :: us) := .cons rfl r
  have hl : (Value.ref (s.heap.objs.size + 1) :: us).length = ps.length := by
    have e := r2.length
    rw [F.len _ _ _ _ hq] at e
    exact e.symm
  have b := hb _ (Value.ref (s.heap.objs.size + 1) :: us) I2.kIn (by rw [List.append_nil]; exact hl)
  rw [List.append_nil] at b
  refine wpAny_call (make_map (f := f) I.kIn M.makes M.init (beq_iff_eq.mp M.fn) (codeAny_mono (F.run _ X.stack _ _ ⟨Value.ref (s.heap.objs.size + 1) :: us, []⟩ (Value.ref (s.heap.objs.size + 1) :: us) _ _ (E σ) (hr.make C us [])
    (I2.env0.make C us []) b r2 hq) fun r s' hq' => ?_))
  cases r with
  | error e => exact hx pins _ _ e s' I2 hq'
  | ok fl =>
    cases fl with
    | ret u =>
      obtain ⟨v, H', I3, rv, ev, q3⟩ := I2.after hq'
      subst ev
      exact ⟨rv, ⟨V.ref (s.heap.objs.size + 1), H', I3, rfl, q3⟩⟩
    | next => exact False.elim hq'
    | brk => exact False.elim hq'
    | cont => exact False.elim hq'
theorem pe_makeS {CX : CXT} {k : Nat} {f : Addr} {fd : FuncData} {ps : List Str} {sp : Sp} {E : L2.St → XK} {x : Str} {t : TA} (M : Mk X.K C f) (F : FnOk X.prog X.w X.K X.mg X.base CX k f fd ps sp) (hr : Room (k + 1) X.A) (hg : Gl X x) (hm : X.mg x = some (.ref C)) (hb : Binds X.K fd ps []) (hx : ∀ σ, PassesAt CX X σ (E σ))
    (ha : PA X (e :: es) t) (hdb : (x == ("__debug__" : Str)) = false := by decide) (he : starEach (e :: es) X.env = (false, eval e X.env) :: starEach es X.env := by rfl) (hpl : (backTo pos (starEach es X.env)).any (·.1) = false := by rfl) :
    PE X (.Call (.Name x p) (e :: es) [] pos) (tMakeS C sp E t) := by
  refine ⟨fun pins s σ H Q I h => ?_⟩
  refine wpAny_Call_Name_kw (ld_glob I hg hm ?_ hdb)
  refine PySem.W.callWith_K (h₀ := X.base) I.ok.mod.kin M.kp (thn (ha.run pos pins s σ H _ I h) fun us s1 ⟨vs, H1, I1, r, q⟩ => ⟨I1.kIn, ?_⟩) he hpl
  exact run_makeS M F hr hb (hx σ) I1 r q
def oRoot : Ot → Option Addr
  | .leaf _ => none
  | .nod s _ => some s.root
def vMake (C : Addr) (sem : SemG) (as : List Ag) : VT := fun δ Q Xc => agEv as δ (fun l δ1 => ∃ ins, agIn δ1 (lnsOf as) as l = some ins ∧ agBor δ1 as l = false ∧ ∀ x dx,
  sem (.ow (.nod (.obj x dx C []) []) :: ins) (fun rv outs => rv = .sh .none ∧ ∃ o rest, outs = .ow o :: rest ∧ oRoot o = some x ∧ Q (.ow o) (agOut δ1 as rest)) (fun e outs => ∃ o rest, outs = o :: rest ∧ Xc e (agOut δ1 as rest))) Xc
structure FnI (P : Program) (w : World) (K : PySem.W.Frag) (mg : Str → Option Value) (base : Heap) (k : Nat) (C : Addr) (n : Nat) (sem : SemG) : Prop where
  ex : ∃ (f : Addr) (fd : FuncData) (ps : List Str), FnOk P w K mg base (L2.CX P w) k f fd ps (spG K n sem) ∧ Mk K C f ∧ Binds K fd ps []
theorem make_run {n : Nat} {sem : SemG} {as : List Ag} {Q : VK} (hlen : as.length + 1 = n) (nd : (lnsOf as).Nodup) (h : lE K W wx (vMake C sem as) σ H Q) :
    tMakeS C (spG K n sem) (WE wx) (lAg K W wx as) σ H Q := by
  obtain ⟨δ, π, Qd, Xd, s, h, kk, xr⟩ := h
  refine ⟨δ, π, _, Xd, s, h, fun l δ' q vs H1 l1 l2 i s' => ?_, xr⟩
  obtain ⟨ins, hin, hbor, q⟩ := q
  intro x dx hx hd hne
  have q := q x dx
  obtain ⟨A, F0, y, back⟩ := s'.called l1 i nd hin
  have li := (agIn_at hin).1
  have y1 := y.grow (H' := mkH H1 x dx C) fun b o e => mkH_ne hx hd e
  have hH1 : ∀ b, (A b ∨ F0 b) → H1 b ≠ none := y.trk
  have ev : Ev (fun b => A b ∨ F0 b) H1 (fun b => (A b ∨ F0 b) ∨ b ∈ (Ot.nod (.obj x dx C []) []).adr) (mkH H1 x dx C) := ⟨fun b o h _ => mkH_ne hx hd h, fun b hb => hb.imp id fun z => by
    have z' : b = x ∨ b = dx := by simpa [Ot.adr, Ot.adrs, Sh.own] using z
    rcases z' with rfl | rfl
    · exact hx
    · exact hd⟩
  have mx : mkH H1 x dx C x = some (.ins C dx []) := upd_same
  have md : mkH H1 x dx C dx = some (.own x) := by
    show upd _ x _ dx = _
    rw [upd_ne hne, upd_same]
  have y2 : StF K ⟨H1, F0, A⟩ (mkH H1 x dx C) (cells vs ins ++ [(some (V.ref x), .ow (.nod (.obj x dx C []) []))]) (fun b => (A b ∨ F0 b) ∨ b ∈ (Ot.nod (.obj x dx C []) []).adr) := by
    refine y1.own (fun b hb => ?_) (fun i w d e u eu => ?_) (fun i w d e u eu => ?_) ?_ ?_
    · have z' : b = x ∨ b = dx := by simpa [Ot.adr, Ot.adrs, Sh.own] using hb
      rcases z' with rfl | rfl
      · exact ⟨hx, fun z => hH1 _ z hx, by rw [mx]; exact fun z => nomatch z⟩
      · exact ⟨hd, fun z => hH1 _ z hd, by rw [md]; exact fun z => nomatch z⟩
    · obtain ⟨u', eu', r⟩ := y.sh i w d e
      rw [eu] at eu'
      cases eu'
      exact Rp.ev ev d u r
    · obtain ⟨u', eu', r⟩ := y.ow i w d e
      rw [eu] at eu'
      cases eu'
      exact Ow.ev ev d u (fun b _ o z => mkH_ne hx hd z) r
    · exact .nod (xs := []) (show (Sh.obj x dx C []).holds (mkH H1 x dx C) [] from ⟨mx, md, rfl⟩) .nil
    · simp [Ot.adr, Ot.adrs, Sh.own]
      exact fun z => hne z.symm
  have y3 := (StF.fore hx hd y2).rot
  have eS : (fun b => (A b ∨ F0 b) ∨ b ∈ (Ot.nod (.obj x dx C []) []).adr) = fun b => A b ∨ mkF F0 x dx b := funext fun b => propext (by simp [Ot.adr, Ot.adrs, Sh.own, mkF, or_assoc])
  rw [eS] at y3
  have split : ∀ {ws : List (Option V)} {o : Sl} {rest : List Sl}, ws.length = n → (o :: rest).length = n → ∃ w0 ws', ws = w0 :: ws' ∧ ws'.length = as.length ∧ rest.length = as.length := fun {ws o rest} lw lo => by
    cases ws with
    | nil => simp at lw; omega
    | cons w0 ws' => exact ⟨w0, ws', rfl, by simp at lw; omega, by simp at lo; omega⟩
  refine ⟨A, mkF F0 x dx, .ow (.nod (.obj x dx C []) []) :: ins, _, _, by rw [List.length_cons, l1]; exact hlen, by rw [List.length_cons, li]; exact hlen, y3, q, fun rv outs z v H2 ws lw lo y' => ?_, fun e outs z d H2 us ws lw lo y' lu ds => ?_⟩
  · obtain ⟨rfl, o, rest, rfl, ho, q'⟩ := z
    obtain ⟨w0, ws', rfl, lw', lo'⟩ := split lw lo
    obtain ⟨S, z⟩ := y'
    have z1 := StF.aft hx hd z
    obtain ⟨u, eu, rv⟩ := z1.sh _ _ _ snoc_last
    cases eu
    refine ⟨?_, ?_⟩
    · cases rv
      rfl
    obtain ⟨u, eu, ow⟩ := z1.ow 0 w0 o rfl
    subst eu
    cases o with
    | leaf d => cases ho
    | nod s os =>
      cases ho
      cases ow with
      | nod g1 g2 =>
        have z2 : ML.St K ⟨H1, F0, A⟩ H2 ((some (V.ref s.root), .ow (.nod s os)) :: ws'.zip rest) := ML.St.drop (ds := [(some v, Sl.sh .none)]) ⟨S, z1⟩
        obtain ⟨S2, z2⟩ := z2
        exact kk _ _ q' _ _ (back H2 ws' rest [(some (V.ref s.root), .ow (.nod s os))] lw' lo' (fun hb => by rw [hbor] at hb; cases hb) ⟨S2, z2.rot'⟩)
  · obtain ⟨o, rest, rfl, q'⟩ := z
    obtain ⟨w0, ws', rfl, lw', lo'⟩ := split lw lo
    obtain ⟨S, z⟩ := y'
    have z1 := StF.aft hx hd z
    have z2 : StF K ⟨H1, F0, A⟩ H2 (ws'.zip rest ++ shs us e.vals) S := z1.re (fun i => i + 1) (fun i c q => .inr (by rw [← q]; rfl)) (fun i j nij q => absurd (by omega : i = j) nij)
    exact xr e _ q' d H2 us (back H2 ws' rest (shs us e.vals) lw' lo' (fun hb => by rw [hbor] at hb; cases hb) ⟨S, z2⟩) lu ds
theorem ve_make {k n : Nat} {sem : SemG} {as : List Ag} {x : Str} (G : FnI X.prog X.w X.K X.mg X.base k C n sem) (hm : X.mg x = some (.ref C)) (hr : Room (k + 1) X.A) (tk : Takes X wx) (ha : VAg X W wx (e :: es) as) (hn : (e :: es).length + 1 = n) (nd : (lnsOf as).Nodup) (hg : Gl X x := by rfl)
    (hdb : (x == ("__debug__" : Str)) = false := by decide) (he : starEach (e :: es) X.env = (false, eval e X.env) :: starEach es X.env := by rfl) (hpl : (backTo pos (starEach es X.env)).any (·.1) = false := by rfl) :
    VE X W wx (.Call (.Name x p) (e :: es) [] pos) (vMake C sem as) := by
  obtain ⟨f, fd, ps, F, M, hb⟩ := G.ex
  exact ⟨PE.imp (pe_makeS (E := WE wx) M F hr hg hm hb (fun σ => passAt tk σ) ha.pa hdb he hpl) fun σ H Q h => make_run (by rw [← ha.len]; exact hn) nd h⟩
end
end ML

/-! ## M44 -/
set_option Elab.async false
set_option linter.all false
set_option autoImplicit false
set_option maxRecDepth 100000
set_option maxHeartbeats 4000000
namespace ML
open PySem PySem.Spec PyProof.Rows L2
/-! ### ints in order -/
def insI (x : Int) : List Int → List Int
  | [] => [x]
  | y :: r => if x ≤ y then x :: y :: r else y :: insI x r
def srtI : List Int → List Int
  | [] => []
  | x :: r => insI x (srtI r)
theorem insI_perm (x : Int) : ∀ l : List Int, (insI x l).Perm (x :: l)
  | [] => List.Perm.refl _
  | y :: r => by
    unfold insI
    split
    · exact List.Perm.refl _
    · exact ((insI_perm x r).cons y).trans (List.Perm.swap x y r)
theorem srtI_perm : ∀ l : List Int, (srtI l).Perm l
  | [] => List.Perm.refl _
  | x :: r => (insI_perm x _).trans ((srtI_perm r).cons x)
theorem insI_srt {x : Int} : ∀ {l : List Int}, l.Pairwise (· ≤ ·) → (insI x l).Pairwise (· ≤ ·)
  | [], _ => by unfold insI; simp
  | y :: r, h => by
    have h1 := List.pairwise_cons.mp h
    unfold insI
    split
    · rename_i c
      refine List.pairwise_cons.mpr ⟨fun z hz => ?_, h⟩
      rcases List.mem_cons.mp hz with rfl | hz
      · exact c
      · exact Int.le_trans c (h1.1 z hz)
    · rename_i c
      refine List.pairwise_cons.mpr ⟨fun z hz => ?_, insI_srt h1.2⟩
      rcases List.mem_cons.mp ((insI_perm x r).mem_iff.mp hz) with rfl | hz
      · omega
      · exact h1.1 z hz
theorem srtI_srt : ∀ l : List Int, (srtI l).Pairwise (· ≤ ·)
  | [] => List.Pairwise.nil
  | x :: r => insI_srt (srtI_srt r)
theorem srt_uniq : ∀ {l m : List Int}, l.Perm m → l.Pairwise (· ≤ ·) → m.Pairwise (· ≤ ·) → l = m
  | [], m, h, _, _ => by rw [List.nil_perm.mp h]
  | a :: l, [], h, _, _ => by have := h.length_eq; simp at this
  | a :: l, b :: m, h, h1, h2 => by
    have p1 := List.pairwise_cons.mp h1
    have p2 := List.pairwise_cons.mp h2
    have e1 : a ≤ b := by
      rcases List.mem_cons.mp (h.mem_iff.mpr List.mem_cons_self : b ∈ a :: l) with e | e
      · omega
      · exact p1.1 b e
    have e2 : b ≤ a := by
      rcases List.mem_cons.mp (h.mem_iff.mp List.mem_cons_self : a ∈ b :: m) with e | e
      · omega
      · exact p2.1 a e
    have e : a = b := by omega
    subst e
    rw [srt_uniq h.cons_inv p1.2 p2.2]
theorem srtI_of {l m : List Int} (h : m.Perm l) (hs : m.Pairwise (· ≤ ·)) : m = srtI l := srt_uniq (h.trans (srtI_perm l).symm) hs (srtI_srt l)
theorem srtI_id {l : List Int} (hs : l.Pairwise (· ≤ ·)) : srtI l = l := (srtI_of (List.Perm.refl l) hs).symm
theorem srtI_len (l : List Int) : (srtI l).length = l.length := (srtI_perm l).length_eq
def ints? : List D → Option (List Int)
  | [] => some []
  | .int i :: r => (ints? r).map (i :: ·)
  | _ => none
theorem ints?_of : ∀ {ds : List D} {ns : List Int}, ints? ds = some ns → ds = zs ns
  | [], ns, h => by cases h; rfl
  | x :: r, ns, h => by
    cases x with
    | int i =>
      obtain ⟨m, h1, h2⟩ := Option.map_eq_some_iff.mp (show (ints? r).map (i :: ·) = some ns from h)
      subst h2
      rw [ints?_of h1]
      rfl
    | _ => cases h
theorem ints?_zs (ns : List Int) : ints? (zs ns) = some ns := by
  induction ns with
  | nil => rfl
  | cons n ns ih => show (ints? (zs ns)).map (n :: ·) = _; rw [ih]; rfl
def fSortI (d : D) : Option Rs := match d with
  | .list ds => (ints? ds).map fun ns => .nw (zs (srtI ns))
  | _ => none
theorem fSortI_zs (ns : List Int) : fSortI (.list (zs ns)) = some (.nw (zs (srtI ns))) := by
  show (ints? (zs ns)).map _ = _
  rw [ints?_zs]; rfl
section
variable {X : Cx} {W : Wd} {wx : WX} {K : PySem.W.Frag} {H H' : Hp} {σ : L2.St} {δ δ' : List Sl} {π : List Cell} {a b e ov : Expr} {t u : VT} {pos p apos cpos : Pos} {S : Addr → Prop}
theorem snd_sortI : Snd1 K (fun v H Q => rSortedI K [v] H Q) fSortI := by
  intro S H x d res Q hx hf hq
  cases d with
  | list ds =>
    have hf' : (ints? ds).map (fun ns => Rs.nw (zs (srtI ns))) = some res := hf
    obtain ⟨ns, h1, rfl⟩ := Option.map_eq_some_iff.mp hf'
    have e := ints?_of h1
    subst e
    obtain ⟨p, xs, rfl, h2, h3⟩ := Rq.list hx
    rw [Rps.ints_v h3] at h2
    refine ⟨p, ns, rfl, h2, fun ns' q pm srt hn => ?_⟩
    rw [srtI_of pm srt]
    exact hq _ _ (.lst hn (Rps.ints _))
  | _ => cases hf
/-! ### dicts with ints as keys: sorted(d), list(d) -/
def keysI : List (D × D) → Option (List Int)
  | [] => some []
  | (.int i, _) :: r => (keysI r).map (i :: ·)
  | _ => none
theorem keysI_of : ∀ {ks : List Key} {xs : List V} {ds : List D} {ns : List Int}, ks.length = xs.length → xs.length = ds.length → keysI ((ks.map kD).zip ds) = some ns → (ks.zip xs).map (·.1) = ns.map Sum.inl
  | [], [], [], ns, _, _, h => by cases h; rfl
  | [], [], _ :: _, _, _, h, _ => by simp at h
  | [], _ :: _, _, _, h, _, _ => by simp at h
  | _ :: _, [], _, _, h, _, _ => by simp at h
  | _ :: _, _ :: _, [], _, _, h, _ => by simp at h
  | k :: ks, x :: xs, d :: ds, ns, h1, h2, h => by
    cases k with
    | inl i =>
      obtain ⟨m, q1, q2⟩ := Option.map_eq_some_iff.mp (show (keysI ((ks.map kD).zip ds)).map (i :: ·) = some ns from h)
      subst q2
      rw [List.zip_cons_cons, List.map_cons, keysI_of (by simpa using h1) (by simpa using h2) q1]
      rfl
    | inr z => cases h
theorem keysI_dct : ∀ {ns : List Int} {ds : List D}, ns.length = ds.length → keysI (((ns.map Sum.inl).map kD).zip ds) = some ns
  | [], [], _ => rfl
  | [], _ :: _, h => by simp at h
  | _ :: _, [], h => by simp at h
  | n :: ns, d :: ds, h => by
    show (keysI (((ns.map Sum.inl).map kD).zip ds)).map (n :: ·) = _
    rw [keysI_dct (by simpa using h)]
    rfl
def fSortD (d : D) : Option Rs := match d with
  | .dict kvs => if isDct kvs = true then (keysI kvs).bind fun ns => if ns.length < 64 then some (.nw (zs (srtI ns))) else none else none
  | _ => none
def fListD (d : D) : Option Rs := match d with
  | .dict kvs => if isDct kvs = true then (keysI kvs).map fun ns => .nw (zs ns) else none
  | _ => none
theorem fSortD_dct {ns : List Int} {ds : List D} (h : ns.length = ds.length) (hl : ns.length < 64) : fSortD (dctD (ns.map Sum.inl) ds) = some (.nw (zs (srtI ns))) := by
  show (if isDct _ = true then _ else _) = _
  rw [if_pos isDct_of, keysI_dct h]
  show (if ns.length < 64 then _ else _) = _
  rw [if_pos hl]
theorem fListD_dct {ns : List Int} {ds : List D} (h : ns.length = ds.length) : fListD (dctD (ns.map Sum.inl) ds) = some (.nw (zs ns)) := by
  show (if isDct _ = true then _ else _) = _
  rw [if_pos isDct_of, keysI_dct h]
  rfl
theorem snd_sortD : SndN1 true K (fun v H Q => ∃ (a : Addr) (kvs : List (Key × V)) (ks : List Int), [v] = [.ref a] ∧ Rd H a (.dK kvs) ∧ kvs.map (·.1) = ks.map Sum.inl ∧ ks.length < 64 ∧
    ∀ (ys : List Int) (p : Addr), ys.Perm ks → ys.Pairwise (· ≤ ·) → H p = none → Q (.ref p) (upd H p (.lst (ys.map V.int)))) fSortD := by
  intro S H x d res Q hx hf hq
  cases d with
  | dict kvs =>
    have hf' : (if isDct kvs = true then (keysI kvs).bind fun ns => if ns.length < 64 then some (Rs.nw (zs (srtI ns))) else none else none) = some res := hf
    by_cases hd : isDct kvs = true
    · rw [if_pos hd] at hf'
      obtain ⟨ns, h1, h2⟩ := Option.bind_eq_some_iff.mp hf'
      by_cases hl : ns.length < 64
      · rw [if_pos hl] at h2
        cases h2
        obtain ⟨p, ks, xs, ds, rfl, rfl, g1, g2, g3, _, _⟩ := RqA.dictI hx hd
        refine ⟨p, _, ns, rfl, g1, keysI_of g2 g3 h1, hl, fun ys q pm srt hn => ?_⟩
        rw [srtI_of pm srt]
        exact hq _ _ (.lst hn (Rps.ints _))
      · rw [if_neg hl] at h2; cases h2
    · rw [if_neg hd] at hf'; cases hf'
  | _ => cases hf
theorem snd_listD : SndN1 true K (fun v H Q => ∃ (a : Addr) (kvs : List (Key × V)), [v] = [.ref a] ∧ Rd H a (.dK kvs) ∧ ∀ p, H p = none → Q (.ref p) (upd H p (.lst (kvs.map fun kv => kV kv.1)))) fListD := by
  intro S H x d res Q hx hf hq
  cases d with
  | dict kvs =>
    have hf' : (if isDct kvs = true then (keysI kvs).map fun ns => Rs.nw (zs ns) else none) = some res := hf
    by_cases hd : isDct kvs = true
    · rw [if_pos hd] at hf'
      obtain ⟨ns, h1, rfl⟩ := Option.map_eq_some_iff.mp hf'
      obtain ⟨p, ks, xs, ds, rfl, rfl, g1, g2, g3, _, _⟩ := RqA.dictI hx hd
      refine ⟨p, _, rfl, g1, fun q hn => ?_⟩
      have e : (ks.zip xs).map (fun kv => kV kv.1) = ns.map V.int := by
        have := congrArg (List.map kV) (keysI_of g2 g3 h1)
        rw [List.map_map, List.map_map] at this
        exact this
      rw [e]
      exact hq _ _ (.lst hn (Rps.ints _))
    · rw [if_neg hd] at hf'; cases hf'
  | _ => cases hf
/-! ### a field of an instance that nobody holds -/
def vFdT (C : Addr) (t : VT) (f : Str) : VT := fun δ Q Xc => t δ (fun rv δ1 => ∃ p dx ks os n o, rv = .ow (.nod (.obj p dx C ks) os) ∧ kpos ks f = some n ∧ os[n]? = some o ∧ Q (.sh o.get) δ1) Xc
theorem ve_fdT {C : Addr} {f : Str} (cl : Cls X.K C) (na : NoAttr X.K C f) (ha : VE X W wx a t) (hb : attributeBase a f X.env (eval a X.env) = eval a X.env := by rfl) : VE X W wx (.Attribute a f pos) (vFdT C t f) := by
  refine ⟨PE.imp (pe_fld ha.pe hb) fun σ H Q ⟨δ, π, Qd, Xd, s, h, k, xr⟩ => ⟨δ, π, _, Xd, s, h, fun rv δ' q v H' s' => ?_, xr⟩⟩
  obtain ⟨p, dx, ks, os, n, o, rfl, hk, ho, q⟩ := q
  obtain ⟨S, x⟩ := s'.st
  have x0 := x
  rw [← List.append_assoc] at x0
  obtain ⟨u, eu, ow⟩ := x0.ow _ _ _ snoc_last
  cases eu
  have x2 := x0.frz (i := (σ.zip δ' ++ π).length) snoc_last
  rw [List.set_append_right _ _ (Nat.le_refl _), Nat.sub_self] at x2
  cases ow with
  | nod h1 h2 =>
    obtain ⟨g1, g2, g3⟩ := h1
    obtain ⟨y, q1, q2⟩ := Ows.get h2 ho
    have ln : n < ks.length := (List.getElem?_eq_some_iff.mp (kpos_some hk)).1
    have hl := Ows.length h2
    refine ⟨p, C, dx, _, y, rfl, g1, cl, na, lookup_at hk q1, ?_⟩
    have rp : Rp X.K (fun b => S b ∧ b ∉ (Ot.nod (.obj p dx C ks) os).adr) H' y o.get := Ow.rp o y (fun b hb z => z.2 (by
      rw [Ot.adr]
      refine List.mem_append_right _ ?_
      obtain ⟨l1, l2, e1, e2⟩ := List.mem_iff_append.mp (List.mem_of_getElem? ho)
      rw [Ot.adrs_app, Ot.adrs]
      exact List.mem_append_right _ (List.mem_append_left _ hb))) (fun b hb => hb.1) q2
    exact k _ _ q _ _ (SS.pushF s'.drop (SS.restrict (ρ := [(some (V.ref p), .sh (Ot.nod (.obj p dx C ks) os).get)]) (by rw [← List.append_assoc]; exact x2)) rp)
/-! ### d.setdefault(k, x), what it gives being dropped -/
theorem valV_none : ∀ {ks : List Key} {xs : List V} {k : Key}, kpos ks k = none → valV (ks.zip xs) k = none
  | [], _, _, _ => by simp [valV]
  | k0 :: ks, [], _, _ => by simp [valV]
  | k0 :: ks, x :: xs, k, h => by
    have e : valV ((k0, x) :: ks.zip xs) k = if k0 = k then some x else valV (ks.zip xs) k := by
      unfold valV
      rw [List.find?_cons]
      by_cases c : k0 = k
      · simp [c]
      · simp [c]
    unfold kpos at h
    by_cases c : k0 = k
    · rw [if_pos c] at h; cases h
    · rw [if_neg c] at h
      rw [List.zip_cons_cons, e, if_neg c]
      exact valV_none (by simpa using h)
def vSetd (c : Opr) (tk tx : VT) : VT := fun δ Q Xc => c.ev δ (fun rc δ1 => (∃ d, c.fin true rc δ1 = some d ∧ isDictD d = true) ∧ vS tk δ1 (fun rk δ2 => tx δ2 (fun rv δ3 => rv.isIn = true ∧ ∃ dk kk o L p ks, rk = .sh dk ∧ kidx dk = some kk ∧ rv.ot = some o ∧ c.loc rc δ3 = some L ∧
  L.s = .dct p ks ∧ ks.length < 1000000 ∧ (kpos ks kk = none → Q .un (L.set δ3 (.dct p (ks ++ [kk])) (L.os ++ [o]))) ∧ (∀ n, kpos ks kk = some n → Q .un δ3)) Xc) Xc) Xc
theorem ve_setd {o : Opr} {f : Expr} {tk tx : VT} (ha : VO X W wx ov o) (he : VE X W wx e tk) (hf : VE X W wx f tx) (m : L2.M2 X ov "setdefault" apos e f cpos) : VE X W wx (.Call (.Attribute ov "setdefault" apos) [e, f] [] cpos) (vSetd o tk tx) := by
  obtain ⟨ta, A⟩ := ha
  refine ⟨PE.imp (pe_dsetd A.pe (ve_sh he).pe hf.pe m) fun σ H Q h => ?_⟩
  obtain ⟨δ, π, Qd, Xd, s, h, k, xr⟩ := h
  refine A.run σ H δ π _ Xd _ s h xr fun rc δ1 q cv H1 s1 i1 => ?_
  obtain ⟨⟨d0, hd0, hd1⟩, q⟩ := q
  have hv : ∃ a, cv = .ref a ∧ IsD H1 a := by
    obtain ⟨S, x⟩ := s1.st
    exact isD_of (Opr.read (ρ := []) (m := true) s1.len x i1 hd0) hd1
  obtain ⟨p0, rfl, hD⟩ := hv
  refine ⟨p0, rfl, hD, ?_⟩
  refine ⟨δ1, _, _, Xd, s1, q, fun rk δ2 q kv H2 s2 => ?_, xr.more⟩
  refine ⟨δ2, _, _, Xd, s2, q, fun rv δ3 q v H3 s3 => ?_, xr.more.more⟩
  obtain ⟨z1, dk, kk, ot, L, p, ks, rfl, q1, q2, q3, q4, q5, q6, q7⟩ := q
  obtain ⟨S, x⟩ := s3.st
  have x1 : StF X.K W H3 (σ.zip δ3 ++ (π ++ ((some (V.ref p0), rc) :: [(some kv, Sl.sh dk), (some v, rv)]))) S := by
    rw [List.append_assoc, List.append_assoc] at x
    exact x
  obtain ⟨h1, h2, h3⟩ := Opr.loc_ok s3.len x1 i1 q3
  have x2 : StF X.K W H3 (σ.zip δ3 ++ (π ++ ([(some (V.ref p0), rc), (some kv, Sl.sh dk), (some v, rv)]))) S := x1
  obtain ⟨xs, g1, g2, g3⟩ := x2.mutL s3.len h1 h2
  have at2 : ∀ (n : Nat) (c : Cell), [(some (V.ref p0), rc), (some kv, Sl.sh dk), (some v, rv)][n]? = some c → (σ.zip δ3 ++ (π ++ ([(some (V.ref p0), rc), (some kv, Sl.sh dk), (some v, rv)])))[(σ.zip δ3 ++ π).length + n]? = some c := fun n c e => by
    rw [← List.append_assoc, List.getElem?_append_right (by omega), Nat.add_sub_cancel_left]
    exact e
  obtain ⟨u, eu, rk⟩ := x2.sh _ _ _ (at2 1 _ rfl)
  cases eu
  have wo : Ow X.K S H3 v ot := (x2.arg (at2 2 _ rfl) (ot_fit q2)).ot q2
  obtain ⟨rfl, okk⟩ := kidx_v q1 rk
  obtain ⟨j, t, τ, sh, os⟩ := L
  simp only at q4 h1 h2 h3 g1 g2 g3
  subst q4
  obtain ⟨g11, g12, g13, g14⟩ := g1
  have hz : (ks.zip xs).length < sizeLine := by rw [List.length_zip]; exact Nat.lt_of_le_of_lt (Nat.min_le_left _ _) (Nat.lt_of_lt_of_le q5 (by decide))
  have ep : p0 = p := by cases h3; rfl
  subst ep
  refine ⟨_, kk, g11, rfl, hz, fun w hw => ?_, fun hw => ?_⟩
  · cases hk : kpos ks kk with
    | none => rw [valV_none hk] at hw; cases hw
    | some n => exact k _ _ (q7 n hk) _ _ (s3.drop.drop.drop.blank)
  · cases hk : kpos ks kk with
    | some n =>
      have ln : n < ks.length := (List.getElem?_eq_some_iff.mp (kpos_some hk)).1
      rw [valV_at hk (List.getElem?_eq_getElem (show n < xs.length by omega))] at hw
      cases hw
    | none =>
      have nk := kpos_none hk
      obtain ⟨y, _⟩ := g3 (.dct p0 (ks ++ [kk])) (xs ++ [v]) (os ++ [ot]) (upd H3 p0 (.dK (putK (ks.zip xs) kk v))) (adrC [(some (V.ref p0), rc), (some (kV kk), Sl.sh dk)]) rfl rfl (fun b hb => upd_ne (fun z => hb (by rw [z]; exact List.mem_cons_self))) ⟨by rw [upd_same, putK_no nk g12], by rw [List.length_append, List.length_append, g12]; rfl, nd_snoc g13 nk, fun x hx => by
        rcases List.mem_append.mp hx with hx | hx
        · exact g14 x hx
        · rw [List.mem_singleton.mp hx]; exact okk⟩ (g2.append (.cons wo .nil)) (by
        have e0 : adrC [(some (V.ref p0), rc), (some (kV kk), Sl.sh dk), (some v, rv)] = adrC [(some (V.ref p0), rc), (some (kV kk), Sl.sh dk)] ++ ot.adr := by
          cases rc <;> cases rv with
          | sh d => cases q2; simp [adrC, Ot.adr]
          | ow o => cases q2; simp [adrC]
          | _ => cases q2
        rw [e0, Ot.adrs_app, Ot.adrs, Ot.adrs, List.append_nil, List.append_assoc]
        exact (List.perm_append_comm (l₁ := ot.adr)).append_left _)
      have y2 : SS X.K W (upd H3 p0 (.dK (putK (ks.zip xs) kk v))) σ (Nde.set ⟨j, t, τ, .dct p0 ks, os⟩ δ3 (.dct p0 (ks ++ [kk])) (os ++ [ot])) π := ⟨by rw [Nde.set_len]; exact s3.len, S, y⟩
      exact k _ _ (q6 hk) _ _ y2.blank
end
end ML

/-! ## M45 -/
set_option Elab.async false
set_option linter.all false
set_option autoImplicit false
set_option maxRecDepth 100000
set_option maxHeartbeats 4000000
namespace ML
open PySem PySem.Spec PyProof.Rows L2
/-! ### set(list of ints), and sorted(set(..)) -/
section
variable {P : Program} {w : World} {A : Around} {E : Value → Shared → Prop} {s : Shared}
abbrev newS (w : World) : Obj := { cls := .type "set", dict := none, data := .set #[] 0 (.fresh 0 0 (!w.params.followText "set-order")) }
/-- one item after the other goes in, from a list's iterator -/
theorem fill_list {A1 : Around} {S l it : Addr} {items : Array Value} {ns : List Int} {R : Result → Shared → Prop} {s : Shared} (hh : A1.handled = none) (hli : l ≠ it) (hSl : S ≠ l) (hSi : S ≠ it) (hit : IntsAre items.toList ns) (hb : ns.length + 1 < scanBound) (h1 : s.heap.IsListIter it l 0) (h2 : s.heap.IsList l items)
    (hS : s.heap.get? S = some (newS w)) (q : ∀ s' c, (∀ b o, b ≠ S → b ≠ it → s.heap.get? b = some o → s'.heap.get? b = some o) → s'.gens = s.gens → s'.drawn = s.drawn → s'.os = s.os → c ≤ ns.length → SetR w s'.heap S (fun j => decide (j ∈ ns)) c → R (.ok (.ret .none)) s') :
    codeAny (model P w) A1 (.builtin "set.update.loop" ⟨[.ref S, .ref it], []⟩) R s := by
  have e : items.size = ns.length := by rw [← IntsAre.length hit, Array.length_toList]
  refine set_update_ints ((Walks.list (A := A1.in1) (by simpa using hh) it l hli items).toS) S (by simp [hSl, hSi]) ns e hb (fun i v hv => ?_) (items.size - 0) 0 s rfl (Nat.zero_le _) ⟨h1, h2⟩ ⟨0, Nat.le_refl _, setR_new_at hS⟩ fun s' c m hc r => ?_
  · obtain ⟨t, ev⟩ := IntsAre.int_at hit i v (by rw [Array.getElem?_toList]; exact hv)
    have hi : i < ns.length := e ▸ (Array.getElem?_eq_some_iff.mp hv).1
    exact ⟨ns[i], t, List.getElem?_eq_getElem hi, by rw [ev, List.getD_eq_getElem?_getD, List.getElem?_eq_getElem hi] <;> rfl⟩
  · exact q s' c (fun b o n1 n2 eb => m.heap b o (by simp [n1, n2]) eb) m.gens m.drawn m.os (e ▸ hc) r
/-- a call of a built-in class, by what its two parts do -/
theorem callType_two {T newId initId : String} {args : List Value} {Q Q₁ : Value → Shared → Prop} (ft : TypeCalled T newId initId) (hct : checkTypeCall T ⟨args, []⟩ = pure ())
    (hnew : codeAny (model P w) A.in1 (.call (.builtin newId) ⟨.type T :: args, []⟩) (wants Q₁ E) s)
    (hnext : ∀ obj s₁, Q₁ obj s₁ → s₁.TypeIs obj T ∧ codeAny (model P w) A.in1 (.call (.builtin initId) ⟨obj :: args, []⟩) (wants (fun r s₂ => r = .none ∧ Q obj s₂) E) s₁) :
    wpAny (model P w) A (call (.type T) args) Q E s := by
  obtain ⟨c, tl, hmro⟩ := ft.mro
  have hmade := ft.made
  have hsub := ft.sub
  have h1 := ft.notType
  have h2 := ft.canCreate
  refine wpAny_call (codeAny_of_tree ?_)
  show wpAny _ _ (callAny (.type T) _) _ _ _
  refine wpAny_pure ⟨Code.quiet_builtin _ (by decide +kernel), codeAny_builtin F.entry_type_call ?_⟩
  rw [Around.under_plain (weight_type_call_type T args []) rfl]
  repeat (any_goals (first | assumption | wp_step))
  refine codeAny_mono hnew fun r s₁ hr => ?_
  rcases r with e | fl
  · exact hr
  cases fl with
  | ret obj =>
    obtain ⟨hT, hi⟩ := hnext _ _ hr
    have hli := ft.init.lookup
    have hbi := ft.init.bind obj
    repeat (any_goals (first | assumption | wp_step))
    refine codeAny_mono hi fun r₂ s₂ hr₂ => ?_
    rcases r₂ with e | fl₂
    · exact hr₂
    cases fl₂ with
    | ret r =>
      obtain ⟨rfl, hq⟩ := hr₂
      repeat (any_goals (first | assumption | wp_step))
    | _ => exact hr₂.elim
  | _ => exact hr.elim
theorem made_of_list {l : Addr} {items : Array Value} {ns : List Int} {Q : Value → Shared → Prop} (hh : A.handled = none) (hl : s.heap.IsList l items) (hit : IntsAre items.toList ns) (hb : ns.length + 1 < scanBound)
    (h : ∀ (h' : Heap) (tk c : Nat), SetR w h' s.heap.objs.size (fun j => decide (j ∈ ns)) c → c ≤ ns.length → (∀ b o, s.heap.get? b = some o → h'.get? b = some o) → Q (.ref s.heap.objs.size) { s with heap := h', toks := tk }) :
    wpAny (model P w) A (call (.type "set") [.ref l]) Q E s := by
  refine callType_two F.called_set (F.typeCall_set_1 _) (code_set_led1 (.ref l) (E := E) (Q₁ := fun obj s₁ => obj = .ref s.heap.objs.size ∧ s₁ = { s with heap := s.heap.push (newS w) }) ⟨rfl, rfl⟩) fun obj s₁ hq => ?_
  obtain ⟨rfl, rfl⟩ := hq
  have hlS : l < s.heap.objs.size := by obtain ⟨o, ho, _⟩ := hl; exact Heap.lt_size ho
  have hl1 : (s.heap.push (newS w)).IsList l items := hl.push _
  have hS : (s.heap.push (newS w)).get? s.heap.objs.size = some (newS w) := Heap.get?_push_size _ rfl
  have hz : (s.heap.push (newS w)).objs.size = s.heap.objs.size + 1 := Heap.size_push ..
  refine ⟨⟨_, hS, rfl⟩, codeAny_call_builtin F.called_set.init.plain F.entry_set_init (check_set_init_1 ⟨_, hS, rfl⟩ ?_)⟩
  obtain ⟨ol, hol, hcl, nl, hdl⟩ := hl1
  obtain ⟨oc, od, odt, osl⟩ := ol
  simp only at hcl hdl
  subst hcl hdl
  have q1 := F.sub_list_set
  have q2 := F.sub_list_frozenset
  have q3 : (Value.type "list" == Value.type "dict") = false := by decide
  unfold Builtin.«set.__init__» noKeywords Builtin.Frozenset.updateFrom
  generalize hPI : pyIter = PI
  wp_walk
  subst hPI
  refine wpAny_pyIter_list ⟨_, hol, rfl, nl, rfl⟩ ?_
  refine wpAny_bind (wpAny_runValue ?_)
  have hs2 : ((s.heap.push (newS w)).push { cls := .type "list_iterator", data := .fields #[.ref l, .int 0 0] }).get? s.heap.objs.size = some (newS w) := Heap.get?_push_of_some _ hS
  refine fill_list (l := l) (items := items) (ns := ns) (by simp [hh]) (by rw [hz]; exact Nat.ne_of_lt (Nat.lt_succ_of_lt hlS)) (Nat.ne_of_gt hlS) (by rw [hz]; exact Nat.ne_of_lt (Nat.lt_succ_self _)) hit hb ⟨_, Heap.get?_push_size _ rfl, rfl, rfl⟩ ⟨_, Heap.get?_push_of_some _ hol, rfl, nl, rfl⟩ hs2 fun s' c kp eg ed eo hc r => ?_
  obtain ⟨h', g2, d', tk', os'⟩ := s'
  simp only at eg ed eo
  subst eg ed eo
  refine wpAny_pure ?_
  show wpAny _ _ (ret Value.none) _ _ _
  refine wpAny_pure ⟨rfl, h h' tk' c r hc fun b o e => kp b o ?_ ?_ (Heap.get?_push_of_some _ (Heap.get?_push_of_some _ e))⟩
  · exact Nat.ne_of_lt (Heap.lt_size e)
  · rw [hz]
    exact Nat.ne_of_lt (Nat.lt_succ_of_lt (Heap.lt_size e))
end
def srtU (l : List Int) : List Int := match srtI l with
  | [] => []
  | x :: r => go x r
where go (x : Int) : List Int → List Int
  | [] => [x]
  | y :: r => if x = y then go x r else x :: go y r
theorem go_mem (k : Int) : ∀ (x : Int) (l : List Int), k ∈ srtU.go x l ↔ k ∈ x :: l
  | x, [] => by unfold srtU.go; rfl
  | x, y :: r => by
    unfold srtU.go
    split
    · rename_i c
      subst c
      rw [go_mem k x r]
      simp
    · rw [List.mem_cons, go_mem k y r, List.mem_cons (a := k) (b := x)]
theorem go_srt : ∀ (x : Int) (l : List Int), (x :: l).Pairwise (· ≤ ·) → (srtU.go x l).Pairwise (· < ·) ∧ ∀ z ∈ srtU.go x l, x ≤ z
  | x, [], _ => by unfold srtU.go; simp
  | x, y :: r, h => by
    have h1 := List.pairwise_cons.mp h
    unfold srtU.go
    split
    · rename_i c
      subst c
      exact go_srt x r h1.2
    · rename_i c
      have ih := go_srt y r h1.2
      have hxy := h1.1 y List.mem_cons_self
      refine ⟨List.pairwise_cons.mpr ⟨fun z hz => ?_, ih.1⟩, fun z hz => ?_⟩
      · have := ih.2 z hz
        omega
      · rcases List.mem_cons.mp hz with rfl | hz
        · exact Int.le_refl _
        · have := ih.2 z hz
          omega
theorem srtU_mem (l : List Int) (k : Int) : k ∈ srtU l ↔ k ∈ l := by
  have h := (srtI_perm l).mem_iff (a := k)
  unfold srtU
  cases q : srtI l with
  | nil => rw [q] at h; exact h
  | cons x r => rw [q] at h; exact (go_mem k x r).trans h
theorem srtU_srt (l : List Int) : (srtU l).Pairwise (· < ·) := by
  have h := srtI_srt l
  unfold srtU
  cases q : srtI l with
  | nil => exact List.Pairwise.nil
  | cons x r => rw [q] at h; exact (go_srt x r h).1
theorem ltp_uniq : ∀ {l m : List Int}, l.Pairwise (· < ·) → m.Pairwise (· < ·) → (∀ k, k ∈ l ↔ k ∈ m) → l = m
  | [], [], _, _, _ => rfl
  | [], b :: m, _, _, h => by have := (h b).mpr List.mem_cons_self; cases this
  | a :: l, [], _, _, h => by have := (h a).mp List.mem_cons_self; cases this
  | a :: l, b :: m, h1, h2, h => by
    have p1 := List.pairwise_cons.mp h1
    have p2 := List.pairwise_cons.mp h2
    have e : a = b := by
      have q1 := (h a).mp List.mem_cons_self
      have q2 := (h b).mpr List.mem_cons_self
      rcases List.mem_cons.mp q1 with e | e
      · exact e
      · rcases List.mem_cons.mp q2 with f | f
        · exact f.symm
        · have := p2.1 a e
          have := p1.1 b f
          omega
    subst e
    rw [ltp_uniq p1.2 p2.2 fun k => ⟨fun hk => ?_, fun hk => ?_⟩]
    · rcases List.mem_cons.mp ((h k).mp (List.mem_cons_of_mem _ hk)) with e | e
      · have := p1.1 k hk; omega
      · exact e
    · rcases List.mem_cons.mp ((h k).mpr (List.mem_cons_of_mem _ hk)) with e | e
      · have := p2.1 k hk; omega
      · exact e
theorem srtU_of {l m : List Int} (hs : m.Pairwise (· < ·)) (h : ∀ k, k ∈ m ↔ k ∈ l) : m = srtU l := ltp_uniq hs (srtU_srt l) fun k => (h k).trans (srtU_mem l k).symm
section
variable {X : Cx} {W : Wd} {wx : WX} {K : PySem.W.Frag} {H H' : Hp} {σ : L2.St} {δ δ' : List Sl} {π : List Cell} {a : Expr} {t : VT} {pos p : Pos} {S : Addr → Prop}
def rSetL (K : PySem.W.Frag) (w : World) : List V → Hp → VK → Prop := fun vs H Q => ∃ (l : Addr) (ns : List Int), vs = [V.ref l] ∧ SqL K H l (ns.map V.int) ∧ ns.length < 64 ∧ ∀ p c, c ≤ ns.length → H p = none → Q (.ref p) (upd H p (SetO w p (fun j => decide (j ∈ ns)) c))
theorem cr_setL (hc : X.calm = true) : CallR X (.type "set") (rSetL X.K X.w) := by
  intro pins s σ H vs us Q I r h
  obtain ⟨l, ns, rfl, hs, h64, q⟩ := h
  obtain ⟨its, rv, hl, hz⟩ := I.list hs
  obtain ⟨u, rfl, ru⟩ := vals1 r
  obtain rfl : u = Value.ref l := ru
  refine made_of_list (I.ok.hd hc) hl.isList (ns := ns) (by simpa using rv.ints) (by unfold scanBound; omega) fun h' tk c R hcn kp => ?_
  exact ⟨.ref _, upd H s.heap.objs.size (SetO X.w s.heap.objs.size (fun j => decide (j ∈ ns)) c), I.laid (t' := tk) kp (Nat.le_refl _) (setO_new R), rfl, q _ c hcn (I.hok.fresh (Nat.le_refl _))⟩
/-- sorted(set(x)), fewer than 64 ints -/
def fSrtU (d : D) : Option Rs := match d with
  | .list ds => (ints? ds).bind fun ns => if ns.length < 64 then some (.nw (zs (srtU ns))) else none
  | _ => none
theorem fSrtU_zs (ns : List Int) (h : ns.length < 64) : fSrtU (.list (zs ns)) = some (.nw (zs (srtU ns))) := by
  show (ints? (zs ns)).bind _ = _
  rw [ints?_zs]
  show (if _ then _ else _) = _
  rw [if_pos h]
theorem ve_srtU {oa : Opr} {pn ps pp : Pos} (hc : X.calm = true) (hm : X.mg "sorted" = none) (hm2 : X.mg "set" = none) (ha : VO X W wx a oa) (hg : Gl X "sorted" := by rfl) (hg2 : Gl X "set" := by rfl)
    (he : starEach [.Call (.Name "set" ps) [a] [] pp] X.env = (false, eval (.Call (.Name "set" ps) [a] [] pp) X.env) :: starEach [] X.env := by rfl) (he2 : starEach [a] X.env = (false, eval a X.env) :: starEach [] X.env := by rfl) :
    VE X W wx (.Call (.Name "sorted" pn) [.Call (.Name "set" ps) [a] [] pp] [] pos) (v1 fSrtU oa) := by
  obtain ⟨ta, A⟩ := ha
  have P1 : PE X (.Call (.Name "set" ps) [a] [] pp) (tCB (rSetL X.K X.w) (tCons ta tNil)) := pe_callTy (cr_setL hc) hg2 hm2 (by decide +kernel) (pa_cons A.pe pa_nil he2) (he := he2)
  refine ⟨PE.imp (pe_callB (cr_sortedSet hc) hg hm (by decide +kernel) (pa_cons P1 pa_nil he)) fun σ H Q h => ?_⟩
  show ta σ H fun x H1 => rSetL X.K X.w [x] H1 fun y H2 => rSortedSet X.w [y] H2 Q
  obtain ⟨δ, π, Qd, Xd, s, h, k, xr⟩ := h
  refine A.run σ H δ π _ Xd _ s h xr fun ra δ1 q v H1 s1 i1 => ?_
  obtain ⟨x, res, e1, e2, q⟩ := q
  obtain ⟨S, z⟩ := s1.st
  have rd := Opr.read (m := false) (ρ := []) s1.len z i1 e1
  cases x with
  | list ds =>
    obtain ⟨ns, h1, h2⟩ := Option.bind_eq_some_iff.mp (show (ints? ds).bind (fun ns => if ns.length < 64 then some (Rs.nw (zs (srtU ns))) else none) = some res from e2)
    by_cases h64 : ns.length < 64
    · rw [if_pos h64] at h2
      cases h2
      have e := ints?_of h1
      subst e
      obtain ⟨l, xs, rfl, g1, g2⟩ := Rq.list rd
      rw [Rps.ints_v g2] at g1
      refine ⟨l, ns, rfl, g1, h64, fun p c hcn hn => ⟨p, _, c, rfl, upd_same, by omega, fun ns' q' hs hk hl hn' => ?_⟩⟩
      have en : ns' = srtU ns := srtU_of hs fun k => (hk k).trans (by simp)
      subst en
      obtain ⟨S2, y⟩ := (s1.drop).st
      have y2 := (y.grow (upd_grow hn)).newL hn' (Rps.ints (srtU ns))
      rw [List.append_assoc] at y2
      exact k _ _ (q q') _ _ ⟨s1.len, _, y2⟩
    · rw [if_neg h64] at h2; cases h2
  | _ => cases e2
end
end ML

/-! ## M46 -/
set_option Elab.async false
set_option linter.all false
set_option autoImplicit false
set_option maxRecDepth 100000
set_option maxHeartbeats 4000000
namespace ML
open PySem PySem.Spec PyProof.Rows L2
/-! ### name = {..: .. for ..} on one line -/
section
variable {X : Cx} {W : Wd} {wx : WX} {tg iter kx vx : Expr} {ifs : List Expr}
theorem sw_trueD {gs : List Comprehension} {scope : Scope} {pos py : Pos} {y : Str} {l : Nat} {env : Env} (hk : env.scope.kind = .function) (hy : env.scope.names.lookup y = some .local) (hl : (py.line == pos.line) = true)
    (ha : (scope.names.any fun (n, k) => n == y && (k == .local || k == .cell)) = false) : swapsWith (.DictComp kx vx gs scope pos) (some (.Name y py)) l env = pure true := by
  have e1 : env.kindOf y = some .local := hy
  have e2 : env.blockKind = .function := by unfold Env.blockKind; rw [hk]; rfl
  unfold swapsWith
  simp only [e2, e1, ha, Expr.pos, hl]
  rfl
theorem vs_setDc {i : Nat} {x : Str} {px spos pos : Pos} {scope : Scope} {own : List (Str × Nat)} {it : VTs} {ws : List Nat} {g : D → List Sl → Option (List Sl)} {tc : VTt} {tk tv : VT} (hc : X.calm = true) (hN : X.N.Nodup) (hx : X.N[i]? = some x) (hxl : X.env.scope.names.lookup x = some .local)
    (hsw : swapsWith (.DictComp kx vx [⟨tg, iter, ifs, 0⟩] scope pos) (some (.Name x px)) spos.line X.env = pure true) (hi : VI X W wx tg iter it) (ok : BlkOk X.N X.env.scope scope own)
    (hg : ∀ (s : Shared) (H : Hp) (C : Addr) (cl : List (Str × Addr)) (fp : List Addr), VG (X.blk s H scope (compEnvC scope cl C X.env) fp) W tg ws g)
    (ht : ∀ (s : Shared) (H : Hp) (C : Addr) (cl : List (Str × Addr)) (fp : List Addr), VCs (X.blk s H scope (compEnvC scope cl C X.env) fp) W wx0 ifs tc)
    (hk : ∀ (s : Shared) (H : Hp) (C : Addr) (cl : List (Str × Addr)) (fp : List Addr), VE (X.blk s H scope (compEnvC scope cl C X.env) fp) W wx0 kx tk)
    (he : ∀ (s : Shared) (H : Hp) (C : Addr) (cl : List (Str × Addr)) (fp : List Addr), VE (X.blk s H scope (compEnvC scope cl C X.env) fp) W wx0 vx tv)
    (hw : ∀ i ∈ ws, i ∈ own.map (·.2)) (hs : ∀ x, foldedSetIterable iter X.env x = pure x := by intro _; rfl) :
    VS X W wx (.Assign [.Name x px] (.DictComp kx vx [⟨tg, iter, ifs, 0⟩] scope pos) spos) (vSet i (vDc it g tc tk tv (own.map (·.2)))) := by
  refine ⟨⟨fun pins s σ H D I h => ?_⟩⟩
  obtain ⟨δ, π, E, st, h, k⟩ := h
  have h2 : tDc (lI X.K W wx it) (lG X.K W ws g) (lT X.K W wx0 tc) (lE X.K W wx0 (vS tk)) (lE X.K W wx0 (vS tv)) (own.map (·.2)) σ H (fun x H1 => gName i x σ H1 D.nx) :=
    dc_run (Q := fun x H1 => gName i x σ H1 D.nx) hw ⟨δ, π, _, _, st, h, fun rv δ' z v H' s' => k.nx _ z.2 _ _ (s'.put z.1), k.ex σ⟩
  rw [exec_Assign_Name_used _ _ _ _ hsw]
  refine wpAny_bind (wpAny_standAt (wpAny_bind ?_))
  show wpAny _ X.A (do let _ ← comprehension (.DictComp kx vx [⟨tg, iter, ifs, 0⟩] scope pos) scope X.env (firstIterPos [⟨tg, iter, ifs, 0⟩] pos) newDict false (eval iter X.env) (some (assign (.Name x px) X.env))) _ _ s
  refine wpAny_bind (thn (dc_core (Qf := fun _ s' => SP X pins D .next s') hc hN I hi.pi ok (fun s H C cl fp => (hg s H C cl fp).pg) (fun s H C cl fp => (ht s H C cl fp).pt) (fun s H C cl fp => (ve_sh (hk s H C cl fp)).pe) (fun s H C cl fp => (ve_sh (he s H C cl fp)).pe) hs h2 fun L C s' m H' I' q hn f => ?_) fun _ s' hq => wpAny_pure (wpAny_pure hq))
  show wpAny _ _ (assign (.Name x px) X.env (.ref L)) _ _ _
  refine wpAny_assign_Name (store_ok2 (v := V.ref L) I' hN hx (.inl hxl) rfl (fun s2 I2 ⟨a, sb, ha⟩ => ?_) (.inr hxl))
  obtain ⟨f0, f1, f2, f3, f4, f5⟩ := f
  have haC : C ≠ a := by
    rcases ha with z | z
    · exact z ▸ f1
    · exact fun e => f4 x a z e.symm
  exact ⟨m, hn.sameBut sb haC, fun h3 sb3 => ⟨_, H', I2.turned (t' := s2.toks) (fun b o hb e => (sb3.2 b hb).trans e) f0 f1 f3 f4 f5, q⟩⟩
end
end ML

/-! ## M47 -/
set_option Elab.async false
set_option linter.all false
set_option autoImplicit false
set_option maxRecDepth 100000
set_option maxHeartbeats 4000000
namespace ML
open PySem PySem.Spec PyProof.Rows L2
/-! ### a + b of two lists that nobody else holds, with what they own -/
def slOf : Ot → Sl
  | .leaf d => .sh d
  | .nod s os => .ow (.nod s os)
theorem ots_sl : ∀ os : List Ot, ots (os.map slOf) = some os
  | [] => rfl
  | .leaf d :: os => by
    have := ots_sl os
    show (some (Ot.leaf d)).bind (fun o => (ots (os.map slOf)).map (o :: ·)) = _
    rw [this]; rfl
  | .nod s o :: os => by
    have := ots_sl os
    show (some (Ot.nod s o)).bind (fun o => (ots (os.map slOf)).map (o :: ·)) = _
    rw [this]; rfl
theorem adrs_in {os : List Ot} {i : Nat} {o : Ot} {b : Addr} (h : os[i]? = some o) (hb : b ∈ o.adr) : b ∈ Ot.adrs os := adrs_at h b hb
theorem ow_lst {K : PySem.W.Frag} {S : Addr → Prop} {H : Hp} {v : V} {o : Ot} {p : Addr} {os : List Ot} (h : Ow K S H v o) (e : o = .nod (.lst p) os) : v = .ref p ∧ ∃ xs, H p = some (.lst xs) ∧ Ows K S H xs os := by
  cases h with
  | leaf r => cases e
  | nod h1 h2 =>
    injection e with e1 e2
    subst e1
    subst e2
    exact ⟨rfl, _, h1, h2⟩
theorem adrs_dj : ∀ {os : List Ot} {i j : Nat} {o p : Ot} {b : Addr}, (Ot.adrs os).Nodup → i ≠ j → os[i]? = some o → os[j]? = some p → b ∈ o.adr → b ∈ p.adr → False
  | [], i, j, o, p, b, _, _, h, _, _, _ => by simp at h
  | a :: os, 0, 0, o, p, b, _, n, _, _, _, _ => n rfl
  | a :: os, 0, j + 1, o, p, b, nd, _, h1, h2, hb, hc => by
    cases h1
    rw [Ot.adrs] at nd
    exact (List.nodup_append.mp nd).2.2 b hb b (adrs_in (by simpa using h2) hc) rfl
  | a :: os, i + 1, 0, o, p, b, nd, _, h1, h2, hb, hc => by
    cases h2
    rw [Ot.adrs] at nd
    exact (List.nodup_append.mp nd).2.2 b hc b (adrs_in (by simpa using h1) hb) rfl
  | a :: os, i + 1, j + 1, o, p, b, nd, n, h1, h2, hb, hc => by
    rw [Ot.adrs] at nd
    exact adrs_dj (i := i) (j := j) (List.nodup_append.mp nd).2.1 (by omega) (by simpa using h1) (by simpa using h2) hb hc
theorem adrs_nd : ∀ {os : List Ot} {i : Nat} {o : Ot}, (Ot.adrs os).Nodup → os[i]? = some o → o.adr.Nodup
  | [], i, o, _, h => by simp at h
  | a :: os, 0, o, nd, h => by
    cases h
    rw [Ot.adrs] at nd
    exact (List.nodup_append.mp nd).1
  | a :: os, i + 1, o, nd, h => by
    rw [Ot.adrs] at nd
    exact adrs_nd (List.nodup_append.mp nd).2.1 (by simpa using h)
section
variable {X : Cx} {W : Wd} {wx : WX} {K : PySem.W.Frag} {H H' : Hp} {σ : L2.St} {δ δ' : List Sl} {π : List Cell} {a b : Expr} {t u : VT} {pos : Pos} {S : Addr → Prop} {cs : List Cell}
theorem slOf_ow {o p : Ot} (h : slOf o = .ow p) : o = p := by
  cases o with
  | leaf d => cases h
  | nod s os => cases h; rfl
theorem StF.spill {p : Addr} {os : List Ot} (x : StF K W H (cs ++ [(some (V.ref p), .ow (.nod (.lst p) os))]) S) : ∃ xs, H p = some (.lst xs) ∧ xs.length = os.length ∧ StF K W H (cs ++ cells xs (os.map slOf)) S := by
  obtain ⟨u, eu, ow⟩ := x.ow _ _ _ snoc_last
  cases eu
  · obtain ⟨_, xs, h1, h2⟩ := ow_lst ow rfl
    have nd := x.nd _ _ _ snoc_last
    rw [Ot.adr] at nd
    have nd2 := (List.nodup_append.mp nd).2.1
    have old : ∀ {i : Nat} {c : Cell}, i < cs.length → (cs ++ cells xs (os.map slOf))[i]? = some c → (cs ++ [(some (V.ref p), Sl.ow (.nod (.lst p) os))])[i]? = some c := fun {i c} hi e => by
      rw [List.getElem?_append_left hi] at e ⊢
      exact e
    have new : ∀ {i : Nat} {c : Cell}, ¬ i < cs.length → (cs ++ cells xs (os.map slOf))[i]? = some c → ∃ v o, os[i - cs.length]? = some o ∧ xs[i - cs.length]? = some v ∧ c = (some v, slOf o) ∧ Ow K S H v o := fun {i c} hi e => by
      rw [List.getElem?_append_right (by omega)] at e
      obtain ⟨v, s, rfl, g1, g2⟩ := cells_at e
      rw [List.getElem?_map] at g2
      obtain ⟨o, g3, rfl⟩ := Option.map_eq_some_iff.mp g2
      obtain ⟨v', q1, q2⟩ := Ows.get h2 g3
      rw [g1] at q1
      cases q1
      exact ⟨v, o, g3, g1, rfl, q2⟩
    have top : ∀ {j : Nat} {o : Ot} {b : Addr}, os[j]? = some o → b ∈ o.adr → b ∈ (Ot.nod (.lst p) os).adr := fun e hb => by
      rw [Ot.adr]
      exact List.mem_append_right _ (adrs_in e hb)
    refine ⟨xs, h1, Ows.length h2, x.aw, x.trk, x.sub, x.kp, x.th, fun i v d e => ?_, fun i v o e => ?_, fun i v j π p' e => ?_, fun i v o b e hb => ?_, fun i j v o w p' b n e1 e2 hb hc => ?_, fun i v o e => ?_⟩
    · by_cases hi : i < cs.length
      · exact x.sh _ _ _ (old hi e)
      · obtain ⟨v', o, g1, g2, g3, g4⟩ := new hi e
        cases o with
        | leaf d' =>
          cases g3
          cases g4 with
          | leaf r => exact ⟨v', rfl, r⟩
        | nod s o' => cases g3
    · by_cases hi : i < cs.length
      · exact x.ow _ _ _ (old hi e)
      · obtain ⟨v', o', g1, g2, g3, g4⟩ := new hi e
        injection g3 with g5 g6
        have := slOf_ow g6.symm
        subst this
        exact ⟨v', g5, g4⟩
    · by_cases hi : i < cs.length
      · exact x.rf _ _ _ _ _ (old hi e)
      · obtain ⟨v', o', g1, g2, g3, g4⟩ := new hi e
        cases o' <;> cases g3
    · by_cases hi : i < cs.length
      · exact x.fp _ _ _ _ (old hi e) hb
      · obtain ⟨v', o', g1, g2, g3, g4⟩ := new hi e
        injection g3 with g5 g6
        have := slOf_ow g6.symm
        subst this
        exact x.fp _ _ _ _ snoc_last (top g1 hb)
    · by_cases hi : i < cs.length <;> by_cases hj : j < cs.length
      · exact x.dj i j _ _ _ _ b n (old hi e1) (old hj e2) hb hc
      · obtain ⟨v', o', g1, g2, g3, g4⟩ := new hj e2
        injection g3 with g5 g6
        have := slOf_ow g6.symm
        subst this
        exact x.dj i cs.length _ _ _ _ b (by omega) (old hi e1) snoc_last hb (top g1 hc)
      · obtain ⟨v', o', g1, g2, g3, g4⟩ := new hi e1
        injection g3 with g5 g6
        have := slOf_ow g6.symm
        subst this
        exact x.dj j cs.length _ _ _ _ b (by omega) (old hj e2) snoc_last hc (top g1 hb)
      · obtain ⟨v', o', g1, g2, g3, g4⟩ := new hi e1
        injection g3 with g5 g6
        have := slOf_ow g6.symm
        subst this
        obtain ⟨v2, o2, k1, k2, k3, k4⟩ := new hj e2
        injection k3 with k5 k6
        have := slOf_ow k6.symm
        subst this
        exact adrs_dj nd2 (by omega) g1 k1 hb hc
    · by_cases hi : i < cs.length
      · exact x.nd _ _ _ (old hi e)
      · obtain ⟨v', o', g1, g2, g3, g4⟩ := new hi e
        injection g3 with g5 g6
        have := slOf_ow g6.symm
        subst this
        exact adrs_nd nd2 g1
theorem SS.spill {p : Addr} {os : List Ot} (s : SS K W H σ δ (π ++ [(some (V.ref p), .ow (.nod (.lst p) os))])) : ∃ xs, H p = some (.lst xs) ∧ xs.length = os.length ∧ SS K W H σ δ (π ++ cells xs (os.map slOf)) := by
  obtain ⟨S, x⟩ := s.st
  rw [← List.append_assoc] at x
  obtain ⟨xs, h1, h2, y⟩ := x.spill
  exact ⟨xs, h1, h2, s.len, S, by rw [← List.append_assoc]; exact y⟩
def vAddO (t u : VT) : VT := fun δ Q Xc => t δ (fun ra δ1 => ∃ p os, ra = .ow (.nod (.lst p) os) ∧ u δ1 (fun rb δ2 => ∃ q os', rb = .ow (.nod (.lst q) os') ∧ os.length + os'.length ≤ 1000000 ∧ ∀ r, Q (.ow (.nod (.lst r) (os ++ os'))) δ2) Xc) Xc
theorem SS.owRef {v : V} {s : Sh} {os : List Ot} {ρ : List Cell} (s' : SS K W H σ δ (π ++ [(some v, .ow (.nod s os))] ++ ρ)) : v = .ref s.root := by
  obtain ⟨S, x⟩ := s'.st
  obtain ⟨u, eu, ow⟩ := x.ow (σ.zip δ ++ π).length v (.nod s os) (by
    rw [← List.append_assoc, ← List.append_assoc, List.append_assoc _ _ ρ, List.getElem?_append_right (by omega), Nat.sub_self]
    rfl)
  cases eu
  cases ow
  rfl
theorem ve_addO (ha : VE X W wx a t) (hb : VE X W wx b u) : VE X W wx (.BinOp a .Add b pos) (vAddO t u) :=
  ⟨PE.imp (pe_op op_cat ha.pe hb.pe) fun σ H Q ⟨δ, π, Qd, Xd, s, h, k, xr⟩ => ⟨δ, π, _, Xd, s, h, fun ra δ1 q v H1 s1 => by
    obtain ⟨p, os, rfl, q⟩ := q
    refine ⟨δ1, _, _, Xd, s1, q, fun rb δ2 q w H2 s2 => ?_, xr.more⟩
    obtain ⟨r, os', rfl, hlen, q⟩ := q
    have e1 := s2.owRef
    have e2 := SS.owRef (ρ := []) (by rw [List.append_nil]; exact s2)
    subst e1
    subst e2
    obtain ⟨ys, y1, y2, s3⟩ := s2.spill
    obtain ⟨xs, x1, x2, s4⟩ := s3.swap.spill
    have s5 := s4.swap
    rw [List.append_assoc] at s5
    refine ⟨_, _, xs, ys, rfl, rfl, x1, y1, by rw [x2, y2]; exact le_line hlen, fun z hz => ?_⟩
    have e : cells xs (os.map slOf) ++ cells ys (os'.map slOf) = cells (xs ++ ys) ((os ++ os').map slOf) := by
      unfold cells
      rw [List.map_append, List.map_append, List.zip_append (by simp [x2])]
    rw [e] at s5
    exact k _ _ (q z) _ _ (s5.gather (by simp [x2, y2]) (ots_sl _) hz), xr⟩⟩
end
end ML

/-! ## M48 -/
set_option Elab.async false
set_option linter.all false
set_option autoImplicit false
set_option maxRecDepth 100000
set_option maxHeartbeats 4000000
namespace ML
open PySem PySem.Spec PyProof.Rows L2
/-! ### sorted(dict of ints), any length -/
section
variable {X : Cx} {K : PySem.W.Frag}
theorem cr_sortedDI (hc : X.calm = true) : CallR X (.builtin "sorted") fun xs H Q => ∃ (a : Addr) (kvs : List (Key × V)) (ks : List Int), xs = [.ref a] ∧ Rd H a (.dK kvs) ∧ kvs.map (·.1) = ks.map Sum.inl ∧
    ∀ (ys : List Int) (p : Addr), ys.Perm ks → ys.Pairwise (· ≤ ·) → H p = none → Q (.ref p) (upd H p (.lst (ys.map V.int))) := by
  intro pins s σ H vs us Q I r h
  obtain ⟨a, kvs, ks, rfl, hd, hk, q⟩ := h
  obtain ⟨u, rfl, ru⟩ := vals1 r
  obtain rfl : u = Value.ref a := ru
  obtain ⟨hl, hsys, ws, hkv, hdo⟩ := dk_rd I.hok hd
  obtain ⟨ep, hda⟩ := hdo.dictAt
  have hkk := hkv.keys
  have hlen : ws.length = ks.length := by
    have := congrArg List.length (hkk.symm.trans hk)
    simpa using this
  have hlw : ws.length ≤ sizeLine := by
    have := congrArg List.length hkk
    simp at this
    omega
  refine Calls.call_function_entry kind_sorted plain_sorted entry_sorted (args_sorted1 _) ?_
  unfold Builtin.sorted
  refine wpAny_bind (wpAny_pure ?_)
  refine wpAny_bind (W.kdu_collect (W.kdl_dict hsys) (I.ok.hd hc) hda hlw fun h' tk acc kp it => ?_)
  have hacc : acc.toList.length ≤ sizeLine := by
    have := it.1
    simp at *
    omega
  have hints : IntsAre acc.toList ks := by
    refine ints_each ?_ fun j v hj => ?_
    · have := it.1
      simp
      omega
    · have hj' : acc[j]? = some v := by simpa using hj
      obtain ⟨k, x, e1, e2⟩ := it.2 j v hj'
      have e3 : (ws.map (·.1))[j]? = some k := by rw [List.getElem?_map, e1]; rfl
      rw [← hkk, hk, List.getElem?_map] at e3
      obtain ⟨i, e4, e5⟩ := Option.map_eq_some_iff.mp e3
      subst e5
      have e2' : keyIs (Sum.inl i) v = true := e2
      rcases keyIs_shape e2' with ⟨i', t, e6, e7⟩ | ⟨x', t, e6, e7⟩
      · cases e6
        exact ⟨_, _, e4, e7⟩
      · cases e6
  refine wpAny_bind (wpAny_newList ?_ hacc)
  have hat : (h'.push { cls := .type "list", data := Data.seq acc.toList.toArray }).get? h'.objs.size = some (seqObj "list" acc.toList.toArray 0) := Heap.get?_push_size _ rfl
  refine wpAny_bind (wpAny_holding (wpAny_call_entry slot_list_sort ⟨_, hat, rfl⟩ entry_list_sort (SrtO.list_sort_ord SrtO.swo_int hat hacc (fun h2 => SrtO.ints_sortable hints h2) fun out srtd stb => ?_) (args_list_sort _)))
  refine ⟨_, rfl, ?_⟩
  obtain ⟨o1, o2, o3⟩ := SrtO.ints_out hints srtd stb
  refine wpAny_pure ⟨_, rfl, ?_⟩
  have I1 := I.kept (t' := tk) kp
  have hlt : ∀ {b : Addr} {o : Obj}, h'.get? b = some o → b < h'.objs.size := fun e => Heap.lt_size e
  refine ⟨.ref _, upd H h'.objs.size (.lst ((out.map SrtO.iv).map V.int)), I1.laid (t' := tk) (fun b o e => ?_) (Nat.le_refl _) ⟨?_, out, ?_⟩, rfl, q _ _ o2 o3 (I1.hok.fresh (Nat.le_refl _))⟩
  · show (sortedHeap _ _ _ _).get? b = _
    rw [sortedHeap_old (Nat.ne_of_lt (hlt e)) (by rw [size_push']; exact Nat.lt_succ_of_lt (hlt e))]
    exact Heap.get?_push_of_some _ e
  · rw [List.length_map, o2.length_eq]
    omega
  · obtain ⟨e, he⟩ := sortedHeap_at (out := out.toArray) hat
    exact ⟨e, vals_of_ints o1, he⟩
/-- sorted(dict of ints) -/
def fSortDX (d : D) : Option Rs := match d with
  | .dict kvs => if isDct kvs = true then (keysI kvs).map fun ns => .nw (zs (srtI ns)) else none
  | _ => none
theorem fSortDX_dct {ns : List Int} {ds : List D} (h : ns.length = ds.length) : fSortDX (dctD (ns.map Sum.inl) ds) = some (.nw (zs (srtI ns))) := by
  show (if isDct _ = true then _ else _) = _
  rw [if_pos isDct_of, keysI_dct h]
  rfl
theorem snd_sortDX : SndN1 true K (fun v H Q => ∃ (a : Addr) (kvs : List (Key × V)) (ks : List Int), [v] = [.ref a] ∧ Rd H a (.dK kvs) ∧ kvs.map (·.1) = ks.map Sum.inl ∧
    ∀ (ys : List Int) (p : Addr), ys.Perm ks → ys.Pairwise (· ≤ ·) → H p = none → Q (.ref p) (upd H p (.lst (ys.map V.int)))) fSortDX := by
  intro S H x d res Q hx hf hq
  cases d with
  | dict kvs =>
    have hf' : (if isDct kvs = true then (keysI kvs).map fun ns => Rs.nw (zs (srtI ns)) else none) = some res := hf
    by_cases hd : isDct kvs = true
    · rw [if_pos hd] at hf'
      obtain ⟨ns, h1, h2⟩ := Option.map_eq_some_iff.mp hf'
      cases h2
      obtain ⟨p, ks, xs, ds, rfl, rfl, g1, g2, g3, _, _⟩ := RqA.dictI hx hd
      refine ⟨p, _, ns, rfl, g1, keysI_of g2 g3 h1, fun ys q pm srt hn => ?_⟩
      rw [srtI_of pm srt]
      exact hq _ _ (.lst hn (Rps.ints _))
    · rw [if_neg hd] at hf'; cases hf'
  | _ => cases hf
end
end ML

/-! ## M49 -/
set_option Elab.async false
set_option linter.all false
set_option autoImplicit false
set_option maxRecDepth 100000
set_option maxHeartbeats 4000000
namespace ML
open PySem PySem.Spec PyProof.Rows L2
section
variable {X : Cx} {W : Wd} {wx : WX} {K : PySem.W.Frag} {H H' : Hp} {σ : L2.St} {δ δ' : List Sl} {π ν ρ : List Cell} {a b e tg iter kx vx elt : Expr} {es ifs : List Expr} {t u tk tv te : VT} {pos apos cpos : Pos} {S : Addr → Prop} {body : List Stmt} {pb : VSt}
/-! ### for k in a dict that is new: it stays locked -/
def iKeysN (td : TE) : TI := fun σ H R => td σ H fun x H1 => ∃ d kvs, x = .ref d ∧ H1 d = some (.dK kvs) ∧ ∀ o, R (Itk d o kvs) (upd H1 d (.frz o (.dK kvs)))
theorem pi_keysN {td : TE} (he : PE X e td) : PI X tg e (iKeysN td) := by
  refine ⟨fun pins s σ H R I h => ?_⟩
  refine thn (he.run pins s σ H _ I h) fun u s1 ⟨x, H1, I0, rx, d, kvs, ex, hd0, q⟩ => ?_
  subst ex
  obtain rfl : u = Value.ref d := rx
  obtain ⟨o, I1⟩ := I0.lock hd0 True.intro
  have hd : upd H1 d (.frz o (.dK kvs)) d = some (.frz o (.dK kvs)) := upd_same
  obtain ⟨hs, hgd, hx, es, ep, vs, hdt, hsz, kv, hm⟩ := I1.frzK hd
  refine iter_keys hs hgd hx hdt (pi_one (tk := s1.toks) I1 _ (turn_keys _ hdt) ⟨_, Heap.get?_push_size _ rfl, rfl, ?_⟩ (q o))
  rw [hsz] <;> rfl
def iDk (t : VT) : VTs := fun δ Q Xc => t δ (fun rv δ' => ∃ p ks os, rv = .ow (.nod (.dct p ks) os) ∧ Q (ks.map kD) δ') Xc
theorem keyget {ks : List Key} {us : List V} {i : Nat} {d : D} (hl : ks.length = us.length) (h : (ks.map kD)[i]? = some d) : ∃ k v, d = kD k ∧ ks[i]? = some k ∧ (ks.zip us)[i]? = some (k, v) := by
  rw [List.getElem?_map] at h
  obtain ⟨k, h1, h2⟩ := Option.map_eq_some_iff.mp h
  have hi := (List.getElem?_eq_some_iff.mp h1).1
  refine ⟨k, us[i], h2.symm, h1, ?_⟩
  rw [List.getElem?_zip_eq_some]
  exact ⟨h1, List.getElem?_eq_getElem (by omega)⟩
theorem itok_dk {d : Addr} {ks : List Key} {us : List V} {o : Obj} {os : List Ot} : ItOk K W (Itk d o (ks.zip us)) (ks.map kD) [(some (.ref d), .ow (.nod (.lkd d ks us o) os))] := by
  have key : ∀ σ δ H π ρ, SS K W H σ δ (π ++ [(some (.ref d), .ow (.nod (.lkd d ks us o) os))] ++ ρ) → H d = some (.frz o (.dK (ks.zip us))) ∧ ks.length = us.length ∧ ∀ k ∈ ks, okK k = true := fun σ δ H π ρ s => by
    obtain ⟨S, x⟩ := s.st
    have e : (σ.zip δ ++ (π ++ [(some (V.ref d), Sl.ow (.nod (.lkd d ks us o) os))] ++ ρ))[(σ.zip δ).length + π.length]? = some (some (V.ref d), Sl.ow (.nod (.lkd d ks us o) os)) := by
      rw [List.getElem?_append_right (by omega), Nat.add_sub_cancel_left, List.append_assoc, List.getElem?_append_right (Nat.le_refl _), Nat.sub_self]
      rfl
    obtain ⟨u, eu, w⟩ := x.ow _ _ _ e
    cases w with
    | nod h1 h2 =>
      obtain ⟨g1, g2, g3, g4, g5⟩ := h1
      subst g2
      exact ⟨g1, g3, g5⟩
  constructor
  · intro σ δ H π ρ i s hi
    obtain ⟨k1, k2, _⟩ := key _ _ _ _ _ s
    rw [List.length_map] at hi
    exact ⟨k1, by rw [List.length_zip]; omega⟩
  · intro σ δ H π ρ i dd s hd
    obtain ⟨k1, k2, k3⟩ := key _ _ _ _ _ s
    obtain ⟨k, v, rfl, e1, e2⟩ := keyget k2 hd
    refine ⟨⟨k1, (List.getElem?_eq_some_iff.mp e2).1⟩, fun y H' hy => ?_⟩
    obtain ⟨rfl, k', v', e3, rfl⟩ := hy
    rw [e2] at e3
    cases e3
    exact s.push fun _ => Rp.key (k3 _ (List.mem_of_getElem? e1))
theorem vi_dk (he : VE X W wx e t) : VI X W wx tg e (iDk t) :=
  ⟨PI.imp (pi_keysN he.pe) fun σ H R ⟨δ, π, Qd, Xd, s, h, k, xr⟩ => ⟨δ, π, _, Xd, s, h, fun rv δ' q v H' s' => by
    obtain ⟨p, ks, os, rfl, q⟩ := q
    obtain ⟨S, x⟩ := s'.st
    have e : (σ.zip δ' ++ (π ++ [(some v, Sl.ow (.nod (.dct p ks) os))]))[(σ.zip δ' ++ π).length]? = some (some v, Sl.ow (.nod (.dct p ks) os)) := by rw [← List.append_assoc]; exact snoc_last
    obtain ⟨u, eu, w⟩ := x.ow _ _ _ e
    cases eu
    have ev := w.root rfl
    subst ev
    obtain ⟨xs, g1, g2, g3, g4, g5, g6⟩ := x.mutAt (π := []) e rfl
    obtain ⟨f1, f2, f3, f4⟩ := g1
    refine ⟨p, _, rfl, f1, fun o => ?_⟩
    have kp : ∀ b, b ∉ (Sh.dct p ks).own → upd H' p (.frz o (.dK (ks.zip xs))) b = H' b := fun b hb => upd_ne (fun z => hb (by rw [z]; exact List.mem_cons_self))
    have nd := x.nd _ _ _ e
    rw [Ot.adr] at nd
    have y := g6 (.lkd p ks xs o) xs os (upd H' p (.frz o (.dK (ks.zip xs)))) (fun _ => False) (σ.zip δ' ++ (π ++ [(some (V.ref p), Sl.ow (.nod (.lkd p ks xs o) os))])) rfl rfl kp ⟨upd_same, rfl, f2, f3, f4⟩
      (Ows.ev (g5 _ kp) os xs (fun b hb u q => by rw [kp b (fun z => g4 b z hb)]; exact q) g2) (List.nodup_append.mp nd).2.1 (fun b hb => .inl hb) (by rw [← List.append_assoc]; exact snoc_last)
      (fun j c nj q => .inr ⟨by
        have hj : j < (σ.zip δ' ++ π).length := by
          have := (List.getElem?_eq_some_iff.mp q).1
          rw [← List.append_assoc, List.length_append] at this
          simp only [List.length_cons, List.length_nil] at this
          omega
        rw [← List.append_assoc, List.getElem?_append_left hj] at q ⊢
        exact q, fun z => z⟩)
    exact k _ _ q _ _ _ ⟨s'.len, S, y⟩ itok_dk, xr⟩⟩
end
end ML

/-! ## M50 -/
set_option Elab.async false
set_option linter.all false
set_option autoImplicit false
set_option maxRecDepth 100000
set_option maxHeartbeats 4000000
namespace ML
open PySem PySem.Spec PyProof.Rows L2
section
variable {X : Cx} {W : Wd} {wx : WX} {K : PySem.W.Frag} {H H' : Hp} {σ : L2.St} {δ δ' : List Sl} {π ν ρ : List Cell} {a b e tg iter kx vx elt : Expr} {es ifs : List Expr} {t u tk tv te : VT} {pos apos cpos : Pos} {S : Addr → Prop} {body : List Stmt} {pb : VSt}
/-! ### for k in a dict that stands in a place: it is locked, and is free again behind it -/
theorem SS.lockAt (s : SS K W H σ δ π) {j : Nat} {o : Ot} {τ : List Step} {p : Addr} {ks : List Key} {os : List Ot} (hj : δ[j]? = some (.ow o)) (ht : o.at τ = some (.nod (.dct p ks) os)) :
    ∃ us, H p = some (.dK (ks.zip us)) ∧ ∀ ob, SS K W (upd H p (.frz ob (.dK (ks.zip us)))) σ (δ.set j (.ow (Ot.put (.nod (.lkd p ks us ob) os) o τ))) π := by
  obtain ⟨S, x⟩ := s.st
  rw [← List.append_nil π] at x
  obtain ⟨xs, ⟨f1, f2, f3, f4⟩, g2, g3⟩ := x.mutL (L := ⟨j, o, τ, .dct p ks, os⟩) s.len hj ht
  refine ⟨xs, f1, fun ob => ?_⟩
  obtain ⟨y, _⟩ := g3 (.lkd p ks xs ob) xs os (upd H p (.frz ob (.dK (ks.zip xs)))) [] rfl rfl (fun b hb => upd_ne (fun z => hb (by rw [z]; exact List.mem_cons_self))) ⟨upd_same, rfl, f2, f3, f4⟩ g2 (List.Perm.refl _)
  exact ⟨by rw [List.length_set]; exact s.len, S, y⟩
theorem SS.frzAt (s : SS K W H σ δ π) {j : Nat} {o : Ot} {τ : List Step} {p : Addr} {ks : List Key} {us : List V} {ob : Obj} {os : List Ot} (hj : δ[j]? = some (.ow o)) (ht : o.at τ = some (.nod (.lkd p ks us ob) os)) :
    (H p = some (.frz ob (.dK (ks.zip us))) ∧ ks.length = us.length ∧ ∀ k ∈ ks, okK k = true) ∧ SS K W (upd H p (.dK (ks.zip us))) σ (δ.set j (.ow (Ot.put (.nod (.dct p ks) os) o τ))) π := by
  obtain ⟨S, x⟩ := s.st
  rw [← List.append_nil π] at x
  obtain ⟨xs, ⟨f1, f2, f3, f4, f5⟩, g2, g3⟩ := x.mutL (L := ⟨j, o, τ, .lkd p ks us ob, os⟩) s.len hj ht
  subst f2
  obtain ⟨y, _⟩ := g3 (.dct p ks) xs os (upd H p (.dK (ks.zip xs))) [] rfl rfl (fun b hb => upd_ne (fun z => hb (by rw [z]; exact List.mem_cons_self))) ⟨upd_same, f3, f4, f5⟩ g2 (List.Perm.refl _)
  exact ⟨⟨f1, f3, f5⟩, by rw [List.length_set]; exact s.len, S, y⟩
def Lk (j : Nat) (τ : List Step) (p : Addr) (ks : List Key) (us : List V) (ob : Obj) (δ : List Sl) : Prop := ∃ o os, δ[j]? = some (.ow o) ∧ o.at τ = some (.nod (.lkd p ks us ob) os)
def Unl (j : Nat) (τ : List Step) (p : Addr) (ks : List Key) (us : List V) (ob : Obj) (P : List Sl → Prop) (δ : List Sl) : Prop := ∃ o os, δ[j]? = some (.ow o) ∧ o.at τ = some (.nod (.lkd p ks us ob) os) ∧ P (δ.set j (.ow (Ot.put (.nod (.dct p ks) os) o τ)))
theorem Lk.frz {j : Nat} {τ : List Step} {p : Addr} {ks : List Key} {us : List V} {ob : Obj} (h : Lk j τ p ks us ob δ) (s : SS K W H σ δ π) : H p = some (.frz ob (.dK (ks.zip us))) ∧ ks.length = us.length ∧ ∀ k ∈ ks, okK k = true := by
  obtain ⟨o, os, h1, h2⟩ := h
  exact (s.frzAt h1 h2).1
theorem Unl.free {j : Nat} {τ : List Step} {p : Addr} {ks : List Key} {us : List V} {ob : Obj} {P : List Sl → Prop} (h : Unl j τ p ks us ob P δ) (s : SS K W H σ δ π) : H p = some (.frz ob (.dK (ks.zip us))) ∧ ∃ δ', P δ' ∧ SS K W (upd H p (.dK (ks.zip us))) σ δ' π := by
  obtain ⟨o, os, h1, h2, h3⟩ := h
  have := s.frzAt h1 h2
  exact ⟨this.1.1, _, h3, this.2⟩
/-- the place is locked, what is iterated is what stands there -/
def PlD (c : Opr) (F : Nat → List Step → Addr → List Key → List V → Obj → List Sl → Prop) (δ : List Sl) (Xc : Exn → List Sl → Prop) : Prop := ∃ (j : Nat) (o : Ot) (τ : List Step) (p : Addr) (ks : List Key) (os : List Ot), δ[j]? = some (.ow o) ∧ o.at τ = some (.nod (.dct p ks) os) ∧ ∀ us ob,
  c.ev (δ.set j (.ow (Ot.put (.nod (.lkd p ks us ob) os) o τ))) (fun rc δ1 => (∃ L, c.loc rc δ1 = some L ∧ L.s = .lkd p ks us ob) ∧ F j τ p ks us ob δ1) Xc
theorem PlD.run {c : Opr} {ce : Expr} {tc : TE} {F : Nat → List Step → Addr → List Key → List V → Obj → List Sl → Prop} {Xd : Exn → List Sl → Prop} (A : VOt X W wx ce c tc) (h : PlD c F δ Xd) (s : SS X.K W H σ δ π) (xr : XR X.K W wx σ π Xd) :
    ∃ (j : Nat) (τ : List Step) (p : Addr) (ks : List Key) (us : List V), H p = some (.dK (ks.zip us)) ∧ ∀ ob (Q : VK), (∀ H' δ1, F j τ p ks us ob δ1 → H' p = some (.frz ob (.dK (ks.zip us))) → SS X.K W H' σ δ1 π → Q (.ref p) H') → tc σ (upd H p (.frz ob (.dK (ks.zip us)))) Q := by
  obtain ⟨j, o, τ, p, ks, os, hj, ht, h⟩ := h
  obtain ⟨us, hu, lk⟩ := s.lockAt hj ht
  refine ⟨j, τ, p, ks, us, hu, fun ob Q k => ?_⟩
  refine A.run σ _ _ π _ Xd _ (lk ob) (h us ob) xr fun rc δ1 q v H1 s1 i1 => ?_
  obtain ⟨⟨L, hL, hLs⟩, f⟩ := q
  obtain ⟨S, x⟩ := s1.st
  obtain ⟨f1, f2, f3⟩ := Opr.loc_ok s1.len x i1 hL
  have ev : v = .ref p := by rw [f3, hLs]; rfl
  subst ev
  rw [hLs] at f2
  exact k _ _ f (s1.frzAt f1 f2).1.1 s1.drop
theorem itk_stop {ks : List Key} {us : List V} {p : Addr} {ob : Obj} (h : H p = some (.frz ob (.dK (ks.zip us)))) (hl : ks.length = us.length) : (Itk p ob (ks.zip us)).stop ks.length H := ⟨h, by rw [List.length_zip]; omega⟩
theorem itk_go {ks : List Key} {us : List V} {p : Addr} {ob : Obj} {i : Nat} (h : H p = some (.frz ob (.dK (ks.zip us)))) (hl : ks.length = us.length) (hi : i < ks.length) : (Itk p ob (ks.zip us)).go i H := ⟨h, by rw [List.length_zip]; omega⟩
theorem itk_yld {ks : List Key} {us : List V} {p : Addr} {ob : Obj} {i : Nat} {d : D} {x : V} (hy : (Itk p ob (ks.zip us)).yld i H x H') (hl : ks.length = us.length) (hk : ∀ k ∈ ks, okK k = true) (hd : (ks.map kD)[i]? = some d) (s : SS K W H σ δ π) : SS K W H' σ δ (π ++ [(some x, .sh d)]) := by
  obtain ⟨k, v, rfl, e1, e2⟩ := keyget hl hd
  obtain ⟨rfl, k', v', e3, rfl⟩ := hy
  rw [e2] at e3
  cases e3
  exact s.push fun _ => Rp.key (hk _ (List.mem_of_getElem? e1))
def vForP (c : Opr) (g : D → List Sl → Option (List Sl)) (pb : VSt) : VSt := fun E δ => PlD c (fun j τ p ks us ob δ1 => ∃ I : Nat → List Sl → Prop, I 0 δ1 ∧ (∀ k δ2, I k δ2 → Lk j τ p ks us ob δ2) ∧
  (∀ k d δ2, (ks.map kD)[k]? = some d → I k δ2 → ∃ δ3, g d δ2 = some δ3 ∧ pb ⟨I (k + 1), fun rv => Unl j τ p ks us ob (E.rt rv), Unl j τ p ks us ob E.nx, I (k + 1), E.ex⟩ δ3) ∧ ∀ δ2, I ks.length δ2 → Unl j τ p ks us ob E.nx δ2) δ E.ex
theorem vs_forP {c : Opr} {ws : List Nat} {g : D → List Sl → Option (List Sl)} (hp : PassesOwn (model X.prog X.w) X.A X.env X.xe) (hc : X.calm = true) (ho : VO X W wx iter c) (hg : VG X W tg ws g) (hb : VSs X W wx body pb)
    (hs : ∀ x, foldedSetIterable iter X.env x = pure x := by intro _; rfl) : VS X W wx (.For tg iter body [] pos) (vForP c g pb) := by
  obtain ⟨te, A⟩ := ho
  refine ⟨PS.imp (ps_lock (ps_for hp hc (pi_keys A.pe) hg.pg hb.ps hs)) fun Dd σ H ⟨δ, π, E, s, h, k⟩ => ?_⟩
  obtain ⟨j, τ, p, ks, us, hu, run⟩ := h.run A s (k.ex σ)
  refine ⟨p, _, hu, True.intro, fun ob => run ob _ fun H1 δ1 q hf s1 => ⟨p, ob, rfl, .inl ⟨_, hf, ?_⟩⟩⟩
  obtain ⟨I, i0, il, step, last⟩ := q
  have ends : EnOk X.K W wx π ⟨fun δ => False, fun rv => Unl j τ p ks us ob (E.rt rv), Unl j τ p ks us ob E.nx, fun δ => False, E.ex⟩
      ⟨fun σ' H' => False, fun v H' => H' p = some (.frz ob (.dK (ks.zip us))) ∧ Dd.rt v (upd H' p (.dK (ks.zip us))), fun σ' H' => H' p = some (.frz ob (.dK (ks.zip us))) ∧ Dd.nx σ' (upd H' p (.dK (ks.zip us))), fun σ' H' => False⟩ := by
    refine ⟨fun _ z => z.elim, fun rv δ' z v σ' H' s' => ?_, fun δ' z σ' H' s' => ?_, fun _ z => z.elim, k.ex⟩
    · obtain ⟨z1, δ2, z2, z3⟩ := z.free s'
      exact ⟨z1, k.rt _ _ z2 _ _ _ z3⟩
    · obtain ⟨z1, δ2, z2, z3⟩ := z.free s'
      exact ⟨z1, k.nx _ z2 _ _ z3⟩
  refine ⟨fun i m σ' H' => m = ks.length - i ∧ i ≤ ks.length ∧ ∃ δ2, I i δ2 ∧ SS X.K W H' σ' δ2 π, ⟨_, rfl, Nat.zero_le _, δ1, i0, s1⟩, ?_⟩
  rintro i m σ2 H2 ⟨rfl, hi2, δ2, iv, s2⟩
  obtain ⟨l1, l2, l3⟩ := (il _ _ iv).frz s2
  by_cases hlt : i < ks.length
  · have hd : (ks.map kD)[i]? = some (kD ks[i]) := by rw [List.getElem?_map, List.getElem?_eq_getElem hlt]; rfl
    obtain ⟨δ3, g3, b3⟩ := step i _ δ2 hd iv
    refine .inr ⟨itk_go l1 l2 hlt, fun σ' H' => ∃ δ2, I (i + 1) δ2 ∧ SS X.K W H' σ' δ2 π, fun σ' H' ⟨δ4, iv4, s4⟩ => ⟨_, by omega, rfl, hlt, δ4, iv4, s4⟩, fun x H' hy => ?_⟩
    have s3 := itk_yld hy l2 l3 hd s2
    refine ⟨δ2, _, _, π.length, δ3, snoc_last, s3, g3, fun σ' w s4 => ?_⟩
    exact ⟨δ3, π, _, s4.drop, b3, ⟨fun δ' z σ' H' s' => ⟨δ', z, s'⟩, ends.rt, ends.bk, fun δ' z σ' H' s' => ⟨δ', z, s'⟩, k.ex⟩⟩
  · obtain rfl : i = ks.length := by omega
    exact .inl ⟨itk_stop l1 l2, ends.bk _ (last _ iv) _ _ s2⟩
/-! ### [.. for k in place if ..] -/
def vLcP (c : Opr) (g : D → List Sl → Option (List Sl)) (cond : VTt) (te : VT) (vs : List Nat) : VT := fun δ Q Xc => PlD c (fun j τ p ks us ob δ1 => ks.length ≤ 1000000 ∧ ∃ I : Nat → List D → List Sl → Prop, I 0 [] (wipeD δ1 vs) ∧ (∀ k acc δ2, I k acc δ2 → Lk j τ p ks us ob δ2) ∧
  (∀ k d acc δ2, (ks.map kD)[k]? = some d → acc.length ≤ k → I k acc δ2 → ∃ δ3, g d δ2 = some δ3 ∧ cond δ3 (fun b δ4 => if b = true then te δ4 (fun rv δ5 => rv.isIn = true ∧ I (k + 1) (acc ++ [rv.get]) (wipeD δ5 vs)) noX else I (k + 1) acc (wipeD δ4 vs)) noX) ∧
  ∀ acc δ2, I ks.length acc δ2 → ∀ q, Unl j τ p ks us ob (Q (.ow (Ot.flat q acc))) δ2) δ Xc
theorem lcP_run {c : Opr} {ce : Expr} {tce : TE} {ws vs : List Nat} {g : D → List Sl → Option (List Sl)} {tc : VTt} {te : VT} {Q : VK} (A : VOt X W wx ce c tce) (hw : ∀ i ∈ ws, i ∈ vs) (h : lE X.K W wx (vLcP c g tc te vs) σ H Q) :
    tLockE (tLc (iKeys tce) (lG X.K W ws g) (lT X.K W wx0 tc) (lE X.K W wx0 te) vs) σ H Q := by
  obtain ⟨δ, π, Qd, Xd, s, h, k, xr⟩ := h
  obtain ⟨j, τ, p, ks, us, hu, run⟩ := h.run A s xr
  refine ⟨p, _, hu, True.intro, fun ob => run ob _ fun H1 δ1 q hf s1 => ⟨p, ob, rfl, .inl ⟨_, hf, ?_⟩⟩⟩
  obtain ⟨hlen, I, i0, il, step, last⟩ := q
  intro Da hD
  have s1w : SS X.K W H1 (L2.wipe σ vs) (wipeD δ1 vs) π := s1.wipe
  obtain ⟨S1, x1⟩ := s1w.st
  have s2 : SS X.K W (upd H1 Da (.lst [])) (L2.wipe σ vs) (wipeD δ1 vs) (π ++ [(some (.ref Da), .ow (Ot.flat Da []))]) := ⟨s1w.len, _, by rw [← List.append_assoc]; exact x1.newL (ds := []) hD .nil⟩
  refine ⟨fun i m H' => m = ks.length - i ∧ i ≤ ks.length ∧ ∃ acc δ2, acc.length ≤ i ∧ I i acc δ2 ∧ SS X.K W H' (L2.wipe σ vs) δ2 (π ++ [(some (.ref Da), .ow (Ot.flat Da acc))]), ⟨_, rfl, Nat.zero_le _, [], _, Nat.le_refl _, i0, s2⟩, ?_⟩
  rintro i m H2 ⟨rfl, hi2, acc, δ2, hacc, iv, s2⟩
  obtain ⟨l1, l2, l3⟩ := (il _ _ _ iv).frz s2
  by_cases hlt : i < ks.length
  · have hd : (ks.map kD)[i]? = some (kD ks[i]) := by rw [List.getElem?_map, List.getElem?_eq_getElem hlt]; rfl
    obtain ⟨δ3, g3, b3⟩ := step i _ acc δ2 hd hacc iv
    refine .inr ⟨itk_go l1 l2 hlt, fun H' => ∃ acc δ2, acc.length ≤ i + 1 ∧ I (i + 1) acc δ2 ∧ SS X.K W H' (L2.wipe σ vs) δ2 (π ++ [(some (.ref Da), .ow (Ot.flat Da acc))]), fun H' ⟨acc', δ4, l4, iv4, s4⟩ => ⟨_, by omega, rfl, hlt, acc', δ4, l4, iv4, s4⟩, fun x H' hy => ?_⟩
    have s3 := itk_yld hy l2 l3 hd s2
    refine ⟨δ2, _, _, (π ++ [(some (V.ref Da), Sl.ow (Ot.flat Da acc))]).length, δ3, snoc_last, s3, g3, fun σ2 w s4 => ?_⟩
    have ew : L2.wipe σ2 vs = L2.wipe σ vs := by rw [wipe_sub w hw, wipe_wipe]
    refine ⟨ew, δ3, _, _, _, s4, b3, fun bb δ4 q H3 s5 => ?_, fun _ _ q => q.elim⟩
    have back : ∀ {H' : Hp} {δ5 : List Sl} {ρ : List Cell}, SS X.K W H' σ2 δ5 ρ → SS X.K W H' (L2.wipe σ vs) (wipeD δ5 vs) ρ := fun {H' δ5 ρ} z => by
      have := z.wipe (vs := vs)
      rw [ew] at this
      exact this
    cases bb with
    | false =>
      have q1 : I (i + 1) acc (wipeD δ4 vs) := q
      exact iteF ⟨acc, _, by omega, q1, back s5.drop⟩
    | true =>
      have q1 : te δ4 (fun rv δ5 => rv.isIn = true ∧ I (i + 1) (acc ++ [rv.get]) (wipeD δ5 vs)) noX := q
      refine iteT ?_
      refine ⟨δ4, _, _, _, s5, q1, fun rv δ5 q2 y H4 s6 => ?_, fun _ _ q => q.elim⟩
      obtain ⟨q3, q4⟩ := q2
      obtain ⟨xs, hl, lx, s7⟩ := (s6.shr q3).into (o := .leaf rv.get) rfl
      refine ⟨xs, hl, ?_, acc ++ [rv.get], _, by rw [List.length_append, List.length_cons, List.length_nil]; omega, q4, back (by rw [show Ot.flat Da (acc ++ [rv.get]) = .lst Da (acc.map .leaf ++ [.leaf rv.get]) by simp [Ot.flat]]; exact s7)⟩
      rw [lx, List.length_map]
      exact Nat.lt_of_le_of_lt (show acc.length ≤ 1000000 by omega) (by decide)
  · obtain rfl : i = ks.length := by omega
    obtain ⟨z1, δ3, z2, z3⟩ := (last _ _ iv Da).free s2.unwipe
    exact .inl ⟨itk_stop l1 l2, z1, k _ _ z2 _ _ z3⟩
theorem ve_lcP {scope : Scope} {own : List (Str × Nat)} {c : Opr} {ws : List Nat} {g : D → List Sl → Option (List Sl)} {tc : VTt} (hc : X.calm = true) (hN : X.N.Nodup) (ho : VO X W wx iter c) (ok : BlkOk X.N X.env.scope scope own)
    (hg : ∀ (s : Shared) (H : Hp) (C : Addr) (cl : List (Str × Addr)) (fp : List Addr), VG (X.blk s H scope (compEnvC scope cl C X.env) fp) W tg ws g)
    (ht : ∀ (s : Shared) (H : Hp) (C : Addr) (cl : List (Str × Addr)) (fp : List Addr), VCs (X.blk s H scope (compEnvC scope cl C X.env) fp) W wx0 ifs tc)
    (he : ∀ (s : Shared) (H : Hp) (C : Addr) (cl : List (Str × Addr)) (fp : List Addr), VE (X.blk s H scope (compEnvC scope cl C X.env) fp) W wx0 elt te)
    (hw : ∀ i ∈ ws, i ∈ own.map (·.2)) (hs : ∀ x, foldedSetIterable iter X.env x = pure x := by intro _; rfl) :
    VE X W wx (.ListComp elt [⟨tg, iter, ifs, 0⟩] scope pos) (vLcP c g tc te (own.map (·.2))) := by
  obtain ⟨tce, A⟩ := ho
  exact ⟨PE.imp (pe_lock (pe_lc (g := lG X.K W ws g) (tt := lT X.K W wx0 tc) (te := lE X.K W wx0 te) hc hN (pi_keys A.pe) ok (fun s H C cl fp => (hg s H C cl fp).pg) (fun s H C cl fp => (ht s H C cl fp).pt) (fun s H C cl fp => (he s H C cl fp).pe) hs)) fun σ H Q h => lcP_run A hw h⟩
theorem vs_setLcP {i : Nat} {x : Str} {px spos : Pos} {scope : Scope} {own : List (Str × Nat)} {c : Opr} {ws : List Nat} {g : D → List Sl → Option (List Sl)} {tc : VTt} (hc : X.calm = true) (hN : X.N.Nodup) (hx : X.N[i]? = some x) (hxl : X.env.scope.names.lookup x = some .local)
    (hsw : swapsWith (.ListComp elt [⟨tg, iter, ifs, 0⟩] scope pos) (some (.Name x px)) spos.line X.env = pure true) (ho : VO X W wx iter c) (ok : BlkOk X.N X.env.scope scope own)
    (hg : ∀ (s : Shared) (H : Hp) (C : Addr) (cl : List (Str × Addr)) (fp : List Addr), VG (X.blk s H scope (compEnvC scope cl C X.env) fp) W tg ws g)
    (ht : ∀ (s : Shared) (H : Hp) (C : Addr) (cl : List (Str × Addr)) (fp : List Addr), VCs (X.blk s H scope (compEnvC scope cl C X.env) fp) W wx0 ifs tc)
    (he : ∀ (s : Shared) (H : Hp) (C : Addr) (cl : List (Str × Addr)) (fp : List Addr), VE (X.blk s H scope (compEnvC scope cl C X.env) fp) W wx0 elt te)
    (hw : ∀ i ∈ ws, i ∈ own.map (·.2)) (hs : ∀ x, foldedSetIterable iter X.env x = pure x := by intro _; rfl) :
    VS X W wx (.Assign [.Name x px] (.ListComp elt [⟨tg, iter, ifs, 0⟩] scope pos) spos) (vSet i (vLcP c g tc te (own.map (·.2)))) := by
  obtain ⟨tce, A⟩ := ho
  exact ⟨PS.imp (ps_lock (ps_setLc (g := lG X.K W ws g) (tt := lT X.K W wx0 tc) (te := lE X.K W wx0 te) hc hN hx hxl hsw (pi_keys A.pe) ok (fun s H C cl fp => (hg s H C cl fp).pg) (fun s H C cl fp => (ht s H C cl fp).pt) (fun s H C cl fp => (he s H C cl fp).pe) hs))
    fun Dd σ H ⟨δ, π, E, s, h, k⟩ => lcP_run (Q := fun v H' => gName i v σ H' Dd.nx) A hw ⟨δ, π, _, _, s, h, fun rv δ' z v H' s' => k.nx _ z.2 _ _ (s'.put z.1), k.ex σ⟩⟩
/-! ### {..: .. for k in place if ..} -/
def vDcP (c : Opr) (g : D → List Sl → Option (List Sl)) (cond : VTt) (tk tv : VT) (vs : List Nat) : VT := fun δ Q Xc => PlD c (fun j τ p ks0 us ob δ1 => ks0.length ≤ 1000000 ∧ ∃ I : Nat → List Key → List D → List Sl → Prop, I 0 [] [] (wipeD δ1 vs) ∧ (∀ k ks ds δ2, I k ks ds δ2 → Lk j τ p ks0 us ob δ2) ∧
  (∀ k d ks ds δ2, (ks0.map kD)[k]? = some d → ks.length ≤ k → ks.length = ds.length → I k ks ds δ2 → ∃ δ3, g d δ2 = some δ3 ∧ cond δ3 (fun b δ4 => if b = true then vS tk δ4 (fun rk δ5 => ∃ dk kk, rk = .sh dk ∧ kidx dk = some kk ∧ vS tv δ5 (fun rv δ6 => ∃ dv, rv = .sh dv ∧ I (k + 1) (putKD ks ds kk dv).1 (putKD ks ds kk dv).2 (wipeD δ6 vs)) noX) noX else I (k + 1) ks ds (wipeD δ4 vs)) noX) ∧
  ∀ ks ds δ2, ks.length = ds.length → I ks0.length ks ds δ2 → ∀ q, Unl j τ p ks0 us ob (Q (dc q ks ds)) δ2) δ Xc
theorem dcP_run {c : Opr} {ce : Expr} {tce : TE} {ws vs : List Nat} {g : D → List Sl → Option (List Sl)} {tc : VTt} {tk tv : VT} {Q : VK} (A : VOt X W wx ce c tce) (hw : ∀ i ∈ ws, i ∈ vs) (h : lE X.K W wx (vDcP c g tc tk tv vs) σ H Q) :
    tLockE (tDc (iKeys tce) (lG X.K W ws g) (lT X.K W wx0 tc) (lE X.K W wx0 (vS tk)) (lE X.K W wx0 (vS tv)) vs) σ H Q := by
  obtain ⟨δ, π, Qd, Xd, s, h, k, xr⟩ := h
  obtain ⟨j, τ, p, ks0, us, hu, run⟩ := h.run A s xr
  refine ⟨p, _, hu, True.intro, fun ob => run ob _ fun H1 δ1 q hf s1 => ⟨p, ob, rfl, .inl ⟨_, hf, ?_⟩⟩⟩
  obtain ⟨hlen, I, i0, il, step, last⟩ := q
  intro Da hD
  have s1w : SS X.K W H1 (L2.wipe σ vs) (wipeD δ1 vs) π := s1.wipe
  obtain ⟨S1, x1⟩ := s1w.st
  have s2 : SS X.K W (upd H1 Da (.dK [])) (L2.wipe σ vs) (wipeD δ1 vs) (π ++ [(some (.ref Da), .ow (.dct Da [] []))]) := by
    refine ⟨s1w.len, fun b => S1 b ∨ b = Da, ?_⟩
    rw [← List.append_assoc]
    exact x1.newS (u := .dK []) (s := .dct Da []) (xs := []) (ds := []) hD rfl ⟨by rw [upd_same]; rfl, rfl, List.nodup_nil, fun k hk => by cases hk⟩ .nil
  refine ⟨fun i m H' => m = ks0.length - i ∧ i ≤ ks0.length ∧ ∃ ks ds δ2, ks.length ≤ i ∧ ks.length = ds.length ∧ I i ks ds δ2 ∧ SS X.K W H' (L2.wipe σ vs) δ2 (π ++ [(some (.ref Da), .ow (.dct Da ks (ds.map .leaf)))]), ⟨_, rfl, Nat.zero_le _, [], [], _, Nat.le_refl _, rfl, i0, s2⟩, ?_⟩
  rintro i m H2 ⟨rfl, hi2, ks, ds, δ2, hacc, hkd, iv, s2⟩
  obtain ⟨l1, l2, l3⟩ := (il _ _ _ _ iv).frz s2
  by_cases hlt : i < ks0.length
  · have hd : (ks0.map kD)[i]? = some (kD ks0[i]) := by rw [List.getElem?_map, List.getElem?_eq_getElem hlt]; rfl
    obtain ⟨δ3, g3, b3⟩ := step i _ ks ds δ2 hd hacc hkd iv
    refine .inr ⟨itk_go l1 l2 hlt, fun H' => ∃ ks ds δ2, ks.length ≤ i + 1 ∧ ks.length = ds.length ∧ I (i + 1) ks ds δ2 ∧ SS X.K W H' (L2.wipe σ vs) δ2 (π ++ [(some (.ref Da), .ow (.dct Da ks (ds.map .leaf)))]), fun H' ⟨ks', ds', δ4, l4, l5, iv4, s4⟩ => ⟨_, by omega, rfl, hlt, ks', ds', δ4, l4, l5, iv4, s4⟩, fun x H' hy => ?_⟩
    have s3 := itk_yld hy l2 l3 hd s2
    refine ⟨δ2, _, _, (π ++ [(some (V.ref Da), Sl.ow (.dct Da ks (ds.map .leaf)))]).length, δ3, snoc_last, s3, g3, fun σ2 w s4 => ?_⟩
    have ew : L2.wipe σ2 vs = L2.wipe σ vs := by rw [wipe_sub w hw, wipe_wipe]
    refine ⟨ew, δ3, _, _, _, s4, b3, fun bb δ4 q H3 s5 => ?_, fun _ _ q => q.elim⟩
    have back : ∀ {H' : Hp} {δ5 : List Sl} {ρ : List Cell}, SS X.K W H' σ2 δ5 ρ → SS X.K W H' (L2.wipe σ vs) (wipeD δ5 vs) ρ := fun {H' δ5 ρ} z => by
      have := z.wipe (vs := vs)
      rw [ew] at this
      exact this
    cases bb with
    | false =>
      have q1 : I (i + 1) ks ds (wipeD δ4 vs) := q
      exact iteF ⟨ks, ds, _, by omega, hkd, q1, back s5.drop⟩
    | true =>
      have q1 : vS tk δ4 (fun rk δ5 => ∃ dk kk, rk = .sh dk ∧ kidx dk = some kk ∧ vS tv δ5 (fun rv δ6 => ∃ dv, rv = .sh dv ∧ I (i + 1) (putKD ks ds kk dv).1 (putKD ks ds kk dv).2 (wipeD δ6 vs)) noX) noX := q
      refine iteT ?_
      refine ⟨δ4, _, _, _, s5, q1, fun rk δ5 q2 y H4 s6 => ?_, fun _ _ q => q.elim⟩
      obtain ⟨dk, kk, rfl, ek, q3⟩ := q2
      refine ⟨δ5, _, _, _, s6, q3, fun rv δ6 q4 z H5 s7 => ?_, fun _ _ q => q.elim⟩
      obtain ⟨dv, rfl, q5⟩ := q4
      obtain ⟨xs, ey, hl, lx, s8⟩ := s7.intoD ek
      refine ⟨_, kk, ey, hl, ?_, _, _, _, ?_, (putKD_len hkd).1, q5, back s8⟩
      · rw [List.length_zip]
        exact Nat.lt_of_le_of_lt (Nat.min_le_left _ _) (Nat.lt_of_le_of_lt (show ks.length ≤ 1000000 by omega) (by decide))
      · have := (putKD_len (k := kk) (d := dv) hkd).2
        omega
  · obtain rfl : i = ks0.length := by omega
    obtain ⟨z1, δ3, z2, z3⟩ := (last _ _ _ hkd iv Da).free s2.unwipe
    exact .inl ⟨itk_stop l1 l2, z1, k _ _ z2 _ _ z3⟩
theorem ps_setDc {i : Nat} {x : Str} {px spos pos : Pos} {scope : Scope} {own : List (Str × Nat)} {wi : TI} {g : TG} {tt : TT} {tk tv : TE} (hc : X.calm = true) (hN : X.N.Nodup) (hx : X.N[i]? = some x) (hxl : X.env.scope.names.lookup x = some .local)
    (hsw : swapsWith (.DictComp kx vx [⟨tg, iter, ifs, 0⟩] scope pos) (some (.Name x px)) spos.line X.env = pure true) (hi : PI X tg iter wi) (ok : BlkOk X.N X.env.scope scope own)
    (hg : ∀ (s : Shared) (H : Hp) (C : Addr) (cl : List (Str × Addr)) (fp : List Addr), PG (X.blk s H scope (compEnvC scope cl C X.env) fp) tg g)
    (ht : ∀ (s : Shared) (H : Hp) (C : Addr) (cl : List (Str × Addr)) (fp : List Addr), PTs (X.blk s H scope (compEnvC scope cl C X.env) fp) ifs tt)
    (hk : ∀ (s : Shared) (H : Hp) (C : Addr) (cl : List (Str × Addr)) (fp : List Addr), PE (X.blk s H scope (compEnvC scope cl C X.env) fp) kx tk)
    (he : ∀ (s : Shared) (H : Hp) (C : Addr) (cl : List (Str × Addr)) (fp : List Addr), PE (X.blk s H scope (compEnvC scope cl C X.env) fp) vx tv)
    (hs : ∀ x, foldedSetIterable iter X.env x = pure x := by intro _; rfl) :
    PS X (.Assign [.Name x px] (.DictComp kx vx [⟨tg, iter, ifs, 0⟩] scope pos) spos) (fun D σ H => tDc wi g tt tk tv (own.map (·.2)) σ H fun y H1 => gName i y σ H1 D.nx) := by
  refine ⟨fun pins s σ H D I h2 => ?_⟩
  rw [exec_Assign_Name_used _ _ _ _ hsw]
  refine wpAny_bind (wpAny_standAt (wpAny_bind ?_))
  show wpAny _ X.A (do let _ ← comprehension (.DictComp kx vx [⟨tg, iter, ifs, 0⟩] scope pos) scope X.env (firstIterPos [⟨tg, iter, ifs, 0⟩] pos) newDict false (eval iter X.env) (some (assign (.Name x px) X.env))) _ _ s
  refine wpAny_bind (thn (dc_core (Qf := fun _ s' => SP X pins D .next s') hc hN I hi ok hg ht hk he hs h2 fun L C s' m H' I' q hn f => ?_) fun _ s' hq => wpAny_pure (wpAny_pure hq))
  show wpAny _ _ (assign (.Name x px) X.env (.ref L)) _ _ _
  refine wpAny_assign_Name (store_ok2 (v := V.ref L) I' hN hx (.inl hxl) rfl (fun s2 I2 ⟨a, sb, ha⟩ => ?_) (.inr hxl))
  obtain ⟨f0, f1, f2, f3, f4, f5⟩ := f
  have haC : C ≠ a := by
    rcases ha with z | z
    · exact z ▸ f1
    · exact fun e => f4 x a z e.symm
  exact ⟨m, hn.sameBut sb haC, fun h3 sb3 => ⟨_, H', I2.turned (t' := s2.toks) (fun b o hb e => (sb3.2 b hb).trans e) f0 f1 f3 f4 f5, q⟩⟩
theorem vs_setDcP {i : Nat} {x : Str} {px spos pos : Pos} {scope : Scope} {own : List (Str × Nat)} {c : Opr} {ws : List Nat} {g : D → List Sl → Option (List Sl)} {tc : VTt} {tk tv : VT} (hc : X.calm = true) (hN : X.N.Nodup) (hx : X.N[i]? = some x) (hxl : X.env.scope.names.lookup x = some .local)
    (hsw : swapsWith (.DictComp kx vx [⟨tg, iter, ifs, 0⟩] scope pos) (some (.Name x px)) spos.line X.env = pure true) (ho : VO X W wx iter c) (ok : BlkOk X.N X.env.scope scope own)
    (hg : ∀ (s : Shared) (H : Hp) (C : Addr) (cl : List (Str × Addr)) (fp : List Addr), VG (X.blk s H scope (compEnvC scope cl C X.env) fp) W tg ws g)
    (ht : ∀ (s : Shared) (H : Hp) (C : Addr) (cl : List (Str × Addr)) (fp : List Addr), VCs (X.blk s H scope (compEnvC scope cl C X.env) fp) W wx0 ifs tc)
    (hk : ∀ (s : Shared) (H : Hp) (C : Addr) (cl : List (Str × Addr)) (fp : List Addr), VE (X.blk s H scope (compEnvC scope cl C X.env) fp) W wx0 kx tk)
    (he : ∀ (s : Shared) (H : Hp) (C : Addr) (cl : List (Str × Addr)) (fp : List Addr), VE (X.blk s H scope (compEnvC scope cl C X.env) fp) W wx0 vx tv)
    (hw : ∀ i ∈ ws, i ∈ own.map (·.2)) (hs : ∀ x, foldedSetIterable iter X.env x = pure x := by intro _; rfl) :
    VS X W wx (.Assign [.Name x px] (.DictComp kx vx [⟨tg, iter, ifs, 0⟩] scope pos) spos) (vSet i (vDcP c g tc tk tv (own.map (·.2)))) := by
  obtain ⟨tce, A⟩ := ho
  exact ⟨PS.imp (ps_lock (ps_setDc (g := lG X.K W ws g) (tt := lT X.K W wx0 tc) hc hN hx hxl hsw (pi_keys A.pe) ok (fun s H C cl fp => (hg s H C cl fp).pg) (fun s H C cl fp => (ht s H C cl fp).pt) (fun s H C cl fp => (ve_sh (hk s H C cl fp)).pe) (fun s H C cl fp => (ve_sh (he s H C cl fp)).pe) hs))
    fun Dd σ H ⟨δ, π, E, s, h, k⟩ => dcP_run (Q := fun v H' => gName i v σ H' Dd.nx) A hw ⟨δ, π, _, _, s, h, fun rv δ' z v H' s' => k.nx _ z.2 _ _ (s'.put z.1), k.ex σ⟩⟩
end
end ML

/-! ## M51 -/
set_option Elab.async false
set_option linter.all false
set_option autoImplicit false
set_option maxRecDepth 100000
set_option maxHeartbeats 4000000
namespace ML
open PySem PySem.Spec PyProof.Rows L2
section
variable {X : Cx} {W : Wd} {wx : WX} {K : PySem.W.Frag} {H H' : Hp} {σ : L2.St} {δ δ' : List Sl} {π : List Cell} {ov e : Expr} {t : VT} {pos apos cpos p1 : Pos} {S : Addr → Prop}
/-! ### d.get(k, {}) of a dict whose items are trees: a way into it, or a new dict -/
def vGetN (o : Opr) (t : VT) : VT := fun δ Q Xc => o.ev δ (fun ra δ1 => (∃ L p ks, o.loc ra δ1 = some L ∧ L.s = .dct p ks) ∧ vS t δ1 (fun rk δ2 => ∃ dk kk L p ks, rk = .sh dk ∧ kidx dk = some kk ∧ o.loc ra δ2 = some L ∧ L.s = .dct p ks ∧
  (∀ n r, kpos ks kk = some n → kidQ L (.key kk) n = some r → Q r δ2) ∧ (kpos ks kk = none → ∀ q, Q (.ow (.dct q [] [])) δ2)) Xc) Xc
theorem ve_getN {o : Opr} (hu : X.A.units + 1 < cLine) (ha : VO X W wx ov o) (he : VE X W wx e t) (m : M2 X ov "get" apos e (.Dict [] [] p1) cpos) : VE X W wx (.Call (.Attribute ov "get" apos) [e, .Dict [] [] p1] [] cpos) (vGetN o t) := by
  obtain ⟨ta, A⟩ := ha
  refine ⟨PE.imp (pe_dget2 hu A.pe (ve_sh he).pe (ve_dct0 (X := X) (W := W) (wx := wx) (pos := p1)).pe m) fun σ H Q h => ?_⟩
  obtain ⟨δ, π, Qd, Xd, s, h, k, xr⟩ := h
  refine A.run σ H δ π _ Xd _ s h xr fun ra δ1 q v H1 s1 i1 => ?_
  obtain ⟨⟨L0, p0, ks0, hL0, hs0⟩, q⟩ := q
  have hv : ∃ a, v = .ref a ∧ IsD H1 a := by
    obtain ⟨S, x⟩ := s1.st
    obtain ⟨h1, h2, h3⟩ := Opr.loc_ok s1.len x i1 hL0
    obtain ⟨w, w1, w2⟩ := zipcell (ρ := π ++ ((some v, ra) :: [])) s1.len h1
    obtain ⟨xs, g1, g2, _⟩ := x.mutAt w2 h2
    rw [hs0] at g1
    exact ⟨p0, by rw [h3, hs0]; rfl, .inl ⟨_, .inl g1.1⟩⟩
  obtain ⟨p, rfl, hD⟩ := hv
  refine ⟨p, rfl, hD, ?_⟩
  refine ⟨δ1, _, _, Xd, s1, q, fun rk δ2 q y H2 s2 => ?_, xr.more⟩
  obtain ⟨dk, kk, L, p2, ks, rfl, ek, eL, es, q1, q2⟩ := q
  have hq0 : vDct0 δ2 (fun rv δ' => (∃ q', rv = .ow (.dct q' [] [])) ∧ δ' = δ2) Xd := fun q => ⟨⟨q, rfl⟩, rfl⟩
  refine ⟨δ2, _, _, Xd, s2, hq0, fun rx δ3 hq z H3 s3 => ?_, xr.more.more⟩
  obtain ⟨⟨q', rfl⟩, rfl⟩ := hq
  obtain ⟨S, x⟩ := s3.st
  have x1 : StF X.K W H3 (σ.zip δ3 ++ (π ++ ((some (V.ref p), ra) :: [(some y, .sh dk), (some z, .ow (.dct q' [] []))]))) S := by
    have e : π ++ ((some (V.ref p), ra) :: [(some y, Sl.sh dk), (some z, .ow (.dct q' [] []))]) = π ++ [(some (V.ref p), ra)] ++ [(some y, Sl.sh dk)] ++ [(some z, Sl.ow (.dct q' [] []))] := by simp
    rw [e]
    exact x
  have ry : Rp X.K S H3 y dk := by
    have x' := SS.restrict x
    obtain ⟨u', eu, r⟩ := x'.sh (σ.zip δ3 ++ (π ++ [(some (V.ref p), ra)])).length (some y) dk (by rw [← List.append_assoc]; exact snoc_last)
    cases eu
    exact r
  have iz : o.is σ (V.ref p) := i1
  obtain ⟨h1, h2, h3⟩ := Opr.loc_ok s3.len x1 iz eL
  obtain ⟨w, w1, w2⟩ := zipcell (ρ := π ++ ((some (V.ref p), ra) :: [(some y, .sh dk), (some z, .ow (.dct q' [] []))])) s3.len h1
  obtain ⟨xs, g1, g2, _⟩ := x1.mutAt w2 h2
  obtain ⟨j, o1, τ, sh, os⟩ := L
  simp only at es h1 h2 h3 g1 g2 w2
  subst es
  obtain ⟨g11, g12, g13, g14⟩ := g1
  have ep : p = p2 := by injection h3
  subst ep
  have ey : y = kV kk := Rp.key_of ek ry
  have l1 : xs.length = os.length := Ows.length g2
  cases hk : kpos ks kk with
  | none =>
    refine ⟨none, Or.inl ⟨_, kk, .inl g11, ey, (valV_none hk).symm⟩, ?_⟩
    exact k _ _ (q2 hk q') _ _ (by rw [List.append_assoc π] at s3; exact s3.mid)
  | some n =>
    have ln : n < ks.length := (List.getElem?_eq_some_iff.mp (kpos_some hk)).1
    have ex : xs[n]? = some xs[n] := List.getElem?_eq_getElem (by omega)
    refine ⟨some xs[n], Or.inl ⟨_, kk, .inl g11, ey, (valV_at hk ex).symm⟩, ?_⟩
    have eo : os[n]? = some os[n] := List.getElem?_eq_getElem (by omega)
    obtain ⟨y', f1, f2⟩ := Ows.get g2 eo
    rw [ex] at f1
    cases f1
    have hkid : ∀ r, kidQ ⟨j, o1, τ, .dct p ks, os⟩ (.key kk) n = some r → Q xs[n] H3 := fun r er => by
      have er' := er
      unfold kidQ at er'
      simp only at er'
      rw [eo] at er'
      cases hos : os[n] with
      | leaf d =>
        rw [hos] at er' f2
        cases er'
        have key : ∀ {v : V} {o : Ot}, Ow X.K S H3 v o → o = .leaf d → Rp X.K S H3 v d := fun h e => by
          cases h with
          | leaf rp => cases e; exact rp
          | nod _ _ => cases e
        exact k _ _ (q1 n _ hk er) _ _ (s3.drop.drop.drop.pushF (SS.restrict (SS.restrict (SS.restrict x))) (key f2 rfl))
      | nod s2 os2 =>
        rw [hos] at er' f2
        cases er'
        have rt := f2.root (p := s2.root) rfl
        rw [rt]
        refine k _ _ (q1 n _ hk er) _ _ ⟨s3.len, S, ?_⟩
        have := (SS.restrict (SS.restrict (SS.restrict x))).way (j := j) (π := τ ++ [.key kk]) (p := s2.root)
        rw [List.append_assoc] at this
        exact this
    cases hos : os[n] with
    | leaf d => exact hkid (.sh d) (by unfold kidQ; simp only; rw [eo, hos])
    | nod s2 os2 => exact hkid (.rf j (τ ++ [.key kk]) s2.root) (by unfold kidQ; simp only; rw [eo, hos])
end
end ML

/-! ## M52 -/
set_option Elab.async false
set_option linter.all false
set_option autoImplicit false
set_option maxRecDepth 100000
set_option maxHeartbeats 4000000
namespace ML
open PySem PySem.Spec PyProof.Rows L2
section
variable {X : Cx} {W : Wd} {wx : WX} {K : PySem.W.Frag} {H H' : Hp} {S : Addr → Prop}
/-! ### max(list of ints) -/
def maxI : Int → List Int → Int
  | x, [] => x
  | x, y :: r => maxI (if x < y then y else x) r
theorem maxI_mem : ∀ (x : Int) (l : List Int), maxI x l ∈ x :: l
  | x, [] => List.mem_cons_self
  | x, y :: r => by
    unfold maxI
    have h := maxI_mem (if x < y then y else x) r
    rcases List.mem_cons.mp h with h | h
    · rw [h]
      split <;> simp
    · exact List.mem_cons_of_mem _ (List.mem_cons_of_mem _ h)
theorem maxI_ge : ∀ (x : Int) (l : List Int), ∀ y ∈ x :: l, y ≤ maxI x l
  | x, [], y, h => by rw [List.mem_singleton.mp h]; exact Int.le_refl _
  | x, z :: r, y, h => by
    unfold maxI
    have g := maxI_ge (if x < z then z else x) r
    have g0 := g _ List.mem_cons_self
    rcases List.mem_cons.mp h with h | h
    · subst h
      split at g0 <;> rename_i c <;> simp only [c, if_true, if_false] at g0 ⊢ <;> omega
    · rcases List.mem_cons.mp h with h | h
      · subst h
        split at g0 <;> rename_i c <;> simp only [c, if_true, if_false] at g0 ⊢ <;> omega
      · exact g y (List.mem_cons_of_mem _ h)
def fMaxL (d : D) : Option Rs := match d with
  | .list ds => (ints? ds).bind fun ns => match ns with
    | [] => none
    | x :: r => some (.sh (.int (maxI x r)))
  | _ => none
theorem fMaxL_zs (x : Int) (r : List Int) : fMaxL (.list (zs (x :: r))) = some (.sh (.int (maxI x r))) := by
  show ((ints? (zs (x :: r))).bind fun ns => match ns with | [] => none | x :: r => some (Rs.sh (.int (maxI x r)))) = _
  rw [ints?_zs]
  rfl
theorem snd_maxL : Snd1 K (fun v H Q => rMax K [v] H Q) fMaxL := by
  intro S H x d res Q hx hf hq
  cases d with
  | list ds =>
    obtain ⟨ns, h1, h2⟩ := Option.bind_eq_some_iff.mp (show ((ints? ds).bind fun ns => match ns with | [] => none | x :: r => some (Rs.sh (.int (maxI x r)))) = some res from hf)
    have e := ints?_of h1
    subst e
    obtain ⟨p, xs, rfl, g1, g2⟩ := Rq.list hx
    have ev := Rps.ints_v g2
    subst ev
    cases ns with
    | nil => cases h2
    | cons a r =>
      cases h2
      refine ⟨p, a :: r, rfl, g1, Nat.succ_pos _, fun m hm hy => ?_⟩
      have e1 := hy _ (maxI_mem a r)
      have e2 := maxI_ge a r m hm
      have : m = maxI a r := by omega
      rw [this]
      exact hq _ _ (.old (.int _))
  | _ => cases hf
end
end ML

/-! ## M53 -/
set_option Elab.async false
set_option linter.all false
set_option autoImplicit false
set_option maxRecDepth 100000
set_option maxHeartbeats 4000000
namespace ML
open PySem PySem.Spec PyProof.Rows L2
section
variable {X : Cx} {W : Wd} {wx : WX} {K : PySem.W.Frag} {H H' : Hp} {σ : L2.St} {δ δ' : List Sl} {π : List Cell} {a e : Expr} {oa : Opr} {t : VT} {p pos : Pos} {x : Str} {S : Addr → Prop}
/-! ### dict(d): a new dict of the same items -/
def cpyD (d : D) (Q : List Key → List D → Prop) : Prop := match d with
  | .dict kvs => isDct kvs = true ∧ ∀ ks ds, kvs = (ks.map kD).zip ds → ks.length = ds.length → Q ks ds
  | _ => False
theorem kD_inj {k l : Key} (h : kD k = kD l) : k = l := by
  cases k <;> cases l <;> cases h <;> rfl
theorem zipK_inj : ∀ {ks ls : List Key} {ds es : List D}, ks.length = ds.length → ls.length = es.length → (ks.map kD).zip ds = (ls.map kD).zip es → ks = ls ∧ ds = es
  | [], [], [], [], _, _, _ => ⟨rfl, rfl⟩
  | [], [], _ :: _, _, h, _, _ => by cases h
  | [], [], _, _ :: _, _, h, _ => by cases h
  | [], l :: ls, _, [], _, h, _ => by cases h
  | [], l :: ls, _, e :: es, _, _, h => by simp at h
  | k :: ks, ls, [], _, h, _, _ => by cases h
  | k :: ks, [], d :: ds, _, _, _, h => by simp at h
  | k :: ks, l :: ls, d :: ds, [], _, h, _ => by cases h
  | k :: ks, l :: ls, d :: ds, e :: es, h1, h2, h => by
    simp only [List.map_cons, List.zip_cons_cons, List.cons.injEq, Prod.mk.injEq] at h
    obtain ⟨⟨g1, g2⟩, g3⟩ := h
    obtain ⟨r1, r2⟩ := zipK_inj (Nat.succ.inj h1) (Nat.succ.inj h2) g3
    exact ⟨by rw [kD_inj g1, r1], by rw [g2, r2]⟩
theorem cpyD_dct {ks : List Key} {ds : List D} {Q : List Key → List D → Prop} (h : ks.length = ds.length) : cpyD (dctD ks ds) Q ↔ Q ks ds := by
  show (isDct ((ks.map kD).zip ds) = true ∧ ∀ ls es, (ks.map kD).zip ds = (ls.map kD).zip es → ls.length = es.length → Q ls es) ↔ _
  refine ⟨fun z => z.2 ks ds rfl h, fun z => ⟨isDct_of, fun ls es e h2 => ?_⟩⟩
  obtain ⟨r1, r2⟩ := zipK_inj h h2 e
  rw [← r1, ← r2]
  exact z
theorem cpyD_nil {Q : List Key → List D → Prop} : cpyD (dctD [] []) Q ↔ Q [] [] := cpyD_dct rfl
def vCpy (o : Opr) : VT := fun δ Q Xc => o.ev δ (fun ra δ1 => ∃ d, o.fin false ra δ1 = some d ∧ cpyD d fun ks ds => ∀ q, Q (dc q ks ds) δ1) Xc
theorem ve_cpy (hm : X.mg x = none) (hv : bootBuiltins x = some (.type "dict")) (ha : VO X W wx a oa)
    (hg : Gl X x := by rfl) (hn : x ≠ "__name__" := by decide) (hdb : (x == ("__debug__" : Str)) = false := by decide) (he : starEach [a] X.env = (false, eval a X.env) :: starEach [] X.env := by rfl) : VE X W wx (.Call (.Name x p) [a] [] pos) (vCpy oa) := by
  obtain ⟨ta, A⟩ := ha
  refine ⟨PE.imp (pe_callTy call_dictD hg hm hv (pa_cons A.pe pa_nil he) hn hdb he rfl) fun σ H Q h => ?_⟩
  obtain ⟨δ, π, Qd, Xd, s, h, k, xr⟩ := h
  refine A.run σ H δ π _ Xd _ s h xr fun ra δ1 q v H1 s1 i1 => ?_
  obtain ⟨d, e1, q⟩ := q
  obtain ⟨S, y⟩ := s1.st
  have rq := Opr.read (ρ := []) s1.len y i1 e1
  cases d with
  | dict kvs =>
    obtain ⟨hd, q⟩ := q
    obtain ⟨a, ks, xs, ds, rfl, rfl, h1, h2, h3, h4, h5⟩ := Rq.dictI rq hd
    have l2 : ks.length = ds.length := by rw [h2, h5.length]
    refine ⟨a, _, rfl, h1, fun p hp => ?_⟩
    refine k _ _ (q ks ds rfl l2 p) _ _ ⟨s1.len, fun b => S b ∨ b = p, ?_⟩
    have := (SS.restrict y).newS (u := .dK (ks.zip xs)) (s := .dct p ks) (xs := xs) (ds := ds) hp rfl ⟨by rw [upd_same], h2, h3, h4⟩ h5
    rw [List.append_assoc] at this
    exact this
  | _ => cases q
/-! ### arguments that are moved -/
section
variable (t : VT) (r : List Ag) (δ l : List Sl) (s : Sl)
theorem lns_mv : lnsOf (.mv t :: r) = lnsOf r := Eq.trans rfl rfl
theorem bor_mv : agBor δ (.mv t :: r) (s :: l) = agBor δ r l := rfl
theorem out_mv : agOut δ (.mv t :: r) (s :: l) = agOut δ r l := rfl
theorem lat_mv : lnAtm (.mv t :: r) (s :: l) = lnAtm r l := rfl
end
end
end ML

/-! ## M54 -/
set_option Elab.async false
set_option linter.all false
set_option autoImplicit false
set_option maxRecDepth 100000
set_option maxHeartbeats 4000000
namespace ML
open PySem PySem.Spec PyProof.Rows L2
section
variable {X : Cx} {W : Wd} {wx : WX} {K : PySem.W.Frag} {H H' : Hp} {S : Addr → Prop}
/-! ### xs.pop(i) -/
def mPopAt (os : List Ot) (l : List Sl) : Option (List Ot × D) := match l with
  | [.sh (.int i)] => if 0 ≤ i ∧ i < 1000000 then (match os[i.toNat]? with
    | some (.leaf d) => some (os.take i.toNat ++ os.drop (i.toNat + 1), d)
    | _ => none) else none
  | _ => none
theorem popAt_lv (ds : List D) (n : Nat) (h : n < 1000000) (d : D) (e : ds[n]? = some d) : mPopAt (lv ds) [.sh (.int (n : Nat))] = some (lv (ds.take n ++ ds.drop (n + 1)), d) := by
  unfold lv mPopAt
  simp only
  rw [if_pos ⟨Int.natCast_nonneg _, by omega⟩, Int.toNat_natCast, List.getElem?_map, e]
  simp only [Option.map_some, List.map_append, List.map_take, List.map_drop]
theorem sndm_popAt : SndM K rPopAt mPopAt := by
  intro S H p xs os vs l os' res Q hp hx hv hf
  match l, hv, hf with
  | [.sh (.int i)], .cons (v := v1) h1 .nil, hf =>
    have hf' : (if 0 ≤ i ∧ i < 1000000 then (match os[i.toNat]? with
      | some (.leaf d) => some (os.take i.toNat ++ os.drop (i.toNat + 1), d)
      | _ => none) else none) = some (os', res) := hf
    by_cases hi : 0 ≤ i ∧ i < 1000000
    · rw [if_pos hi] at hf'
      obtain ⟨n, rfl⟩ := Int.eq_ofNat_of_zero_le hi.1
      rw [Int.toNat_natCast] at hf'
      split at hf'
      · rename_i d e
        cases hf'
        obtain ⟨hlt, e'⟩ := List.getElem?_eq_some_iff.mp e
        have hl := hx.length
        obtain ⟨v, h3, h4⟩ := hx.get e
        cases h1 with
        | sh r =>
          cases r
          refine ⟨⟨[], ?_⟩, fun hq => ?_⟩
          · have eo : Ot.adrs os = Ot.adrs (os.take n) ++ Ot.adrs (os.drop (n + 1)) := by
              conv => lhs; rw [← List.take_append_drop n os, List.drop_eq_getElem_cons hlt, e']
              rw [Ot.adrs_app, Ot.adrs, Ot.adr]
              rfl
            rw [List.append_nil, eo, Ot.adrs_app]
            simp [adrL]
          · cases h4 with
            | leaf r =>
              refine ⟨p, xs, (n : Int), n, v, rfl, rfl, hp, by omega, Int.lt_trans hi.2 (by decide), ?_, h3, ?_⟩
              · have hn : ¬ ((n : Int) < 0) := by omega
                have hb : (decide ((0 : Int) ≤ (n : Int)) && decide ((n : Int) < (xs.length : Int))) = true := by simp; omega
                unfold seqIndex?
                simp only [if_neg hn]
                rw [if_pos hb, Int.toNat_natCast]
              · rw [List.eraseIdx_eq_take_drop_succ]
                exact hq v _ ((hx.take _).append (hx.drop _)) r
      · cases hf'
    · rw [if_neg hi] at hf'; cases hf'
theorem fit_popAt : ∀ os l os' d, mPopAt os l = some (os', d) → ∀ s ∈ l, s.fit := fun os l os' d h s hs => by
  match l, h with
  | [.sh (.int i)], _ => rw [List.mem_singleton.mp hs]; exact trivial
end
end ML

/-! ## M55 -/
set_option Elab.async false
set_option linter.all false
set_option autoImplicit false
set_option maxRecDepth 100000
set_option maxHeartbeats 4000000
namespace ML
open PySem PySem.Spec PyProof.Rows L2
section
variable {X : Cx} {W : Wd} {wx : WX} {K : PySem.W.Frag} {H H' : Hp} {σ : L2.St} {δ δ' : List Sl} {π : List Cell} {a b e : Expr} {es : List Expr} {pos : Pos} {S : Addr → Prop}
/-! ### in a suite: a name, two ints compared -/
def xV (j : Nat) : Exn → VT := fun _ δ Q _ => ∃ d, δ[j]? = some (.sh d) ∧ Q (.sh d) δ
theorem xe_var {i : Nat} (j : Nat) {n : Str} {pn' : Pos} (hN : X.N[j]? = some n := by rfl) (hv : Vis X.env.scope n := by first | exact Or.inl rfl | exact Or.inr (Or.inl rfl) | exact Or.inr (Or.inr rfl)) (hd : (n == ("__debug__" : Str)) = false := by decide) (hcd : (n == ("__classdict__" : Str)) = false := by decide) :
    XE X W i (.Name n pn') (fun x => xV j x) :=
  ⟨fun a oe cls d pn z1 z2 => PE.imp (pe_var hN hv hd hcd) fun σ H Q ⟨δ, π, Qd, x, vs, ρ, s, l, h1, h2, ds, q, k⟩ => by
    obtain ⟨dd, q1, q2⟩ := q
    obtain ⟨S, y⟩ := s.st
    obtain ⟨w, w1, w2⟩ := zipcell (ρ := π ++ shs vs x.vals ++ ρ) s.len q1
    obtain ⟨u, eu, r⟩ := y.sh _ _ _ w2
    subst eu
    exact ⟨u, w1, k _ _ q2 _ _ (s.pushF y r) ds⟩⟩
def xEq (t u : Exn → VT) : Exn → VT := fun x δ Q Xc => t x δ (fun r1 δ1 => u x δ1 (fun r2 δ2 => ∃ i j, r1 = .sh (.int i) ∧ r2 = .sh (.int j) ∧ Q (.sh (.bool (decide (i = j)))) δ2) Xc) Xc
theorem xe_eq {i : Nat} {t u : Exn → VT} (ha : XE X W i a t) (hb : XE X W i b u) (hm : behindInMarks .Eq b = false) : XE X W i (.Compare a [.Eq] [b] pos) (xEq t u) :=
  ⟨fun a' oe cls d pn z1 z2 => PE.imp (pe_cmpR op_eq (ha.run a' oe cls d pn z1 z2) (hb.run a' oe cls d pn z1 z2) hm) fun σ H Q ⟨δ, π, Qd, x, vs, ρ, s, l, h1, h2, ds, q, k⟩ =>
    ⟨δ, π, _, x, vs, ρ, s, l, h1, h2, ds, q, fun r1 δ1 q v H1 s1 ds1 => by
      have s1' := s1
      rw [List.append_assoc (π ++ shs vs x.vals)] at s1'
      refine ⟨δ1, π, _, x, vs, ρ ++ [(some v, r1)], by rw [← List.append_assoc]; exact s1, l, h1, h2, ds1, q, fun r2 δ2 q v2 H2 s2 ds2 => ?_⟩
      obtain ⟨m, n, rfl, rfl, q⟩ := q
      have e2 : v2 = .int n := by
        have z := s2
        rw [← List.append_assoc] at z
        exact SS.int (ρ := []) z
      have e1 : v = .int m := SS.int (ρ := [(some v2, .sh (.int n))]) (π := π ++ shs vs x.vals ++ ρ) (by
        have z := s2
        rw [← List.append_assoc, List.append_assoc] at z
        exact z)
      subst e1 e2
      refine ⟨rfl, ?_⟩
      have ed : decide (V.int m = V.int n) = decide (m = n) := by
        rw [Bool.eq_iff_iff, decide_eq_true_iff, decide_eq_true_iff]
        exact ⟨fun z => by injection z, fun z => by rw [z]⟩
      rw [ed]
      exact k _ _ q _ _ (SS.push (by
        have z := s2.drop
        rw [← List.append_assoc] at z
        exact z.drop) fun _ => .bl _) ds2⟩⟩
/-- isinstance(a, T), T a type of the language -/
def xIsT (T : String) (t : Exn → VT) : Exn → VT := fun x δ Q Xc => t x δ (fun rv δ' => ∃ d b, rv = .sh d ∧ isB T d = some b ∧ Q (.sh (.bool b)) δ') Xc
theorem xe_isT {i : Nat} {t : Exn → VT} {T : String} {x : Str} {px pT : Pos} (hm : X.mg "isinstance" = none) (hx : X.mg x = none) (hb : bootBuiltins x = some (.type T)) (ha : XE X W i a t) (hg : Gl X "isinstance" := by rfl) (hgx : Gl X x := by rfl) (hnx : x ≠ "__name__" := by decide) (hdx : (x == ("__debug__" : Str)) = false := by decide)
    (he : starEach [a, .Name x pT] X.env = (false, eval a X.env) :: starEach [.Name x pT] X.env := by rfl) (he2 : starEach [.Name x pT] X.env = (false, eval (.Name x pT) X.env) :: starEach [] X.env := by rfl) (hpl : (backTo pos (starEach [.Name x pT] X.env)).any (·.1) = false := by rfl) :
    XE X W i (.Call (.Name "isinstance" px) [a, .Name x pT] [] pos) (xIsT T t) :=
  ⟨fun a' oe cls d pn z1 z2 => PE.imp (pe_callB call_isi hg hm (by decide +kernel) (pa_cons (ha.run a' oe cls d pn z1 z2) (pa_cons (pe_bltn (v := .ty T) hgx hx hb rfl hnx hdx) pa_nil he2) he) (by decide) (by decide) he hpl) fun σ H Q ⟨δ, π, Qd, x, vs, ρ, s, l, h1, h2, ds, q, k⟩ =>
    ⟨δ, π, _, x, vs, ρ, s, l, h1, h2, ds, q, fun r1 δ1 q v H1 s1 ds1 => by
      obtain ⟨d, b, rfl, hi, q⟩ := q
      obtain ⟨S, y⟩ := s1.st
      rw [← List.append_assoc] at y
      obtain ⟨u, eu, r⟩ := y.sh _ _ _ snoc_last
      cases eu
      unfold isB at hi
      cases e : tyD d with
      | none => rw [e] at hi; cases hi
      | some a =>
        rw [e] at hi
        have e2 : kitB a T = some b := hi
        exact ⟨_, .ty T, .type a, .type T, b, rfl, .ty T, RqA.ty (K := X.K) (S := S) (.inl r) e, kit_ty e2, k _ _ q _ _ (s1.drop.push fun _ => .bl b) ds1⟩⟩⟩
end
end ML

/-! ## M56 -/
set_option Elab.async false
set_option linter.all false
set_option autoImplicit false
set_option maxRecDepth 100000
set_option maxHeartbeats 4000000
namespace ML
open PySem PySem.Spec PyProof.Rows L2
section
variable {X : Cx} {W : Wd} {wx : WX} {K : PySem.W.Frag} {H H' : Hp} {σ : L2.St} {δ δ' : List Sl} {π : List Cell} {a b e : Expr} {t u : VT} {p pos : Pos} {S : Addr → Prop}
/-! ### zip of two tuples -/
theorem itok_zipT {a b : Addr} {ds es : List D} : ItOk K W (RZ.ItzT K a b) (zipD ds es) [(some (.ref a), .sh (.tuple ds)), (some (.ref b), .sh (.tuple es))] where
  stop := fun σ δ H π ρ i s hi => by
    obtain ⟨S, x, r⟩ := s.at
    have s2 : SS K W H σ δ ((π ++ [(some (.ref a), Sl.sh (.tuple ds))]) ++ (some (.ref b), Sl.sh (.tuple es)) :: [] ++ ρ) := by
      rw [List.append_assoc π]
      exact s
    obtain ⟨S2, x2, r2⟩ := s2.at
    rw [zipD_length] at hi
    cases r with
    | tup h1 h2 =>
      cases r2 with
      | tup h3 h4 =>
        refine ⟨_, _, h1.sq, h3.sq, ?_⟩
        rw [h2.length, h4.length]
        omega
  go := fun σ δ H π ρ i d s hd => by
    obtain ⟨S, x, r⟩ := s.at
    have e2 : (σ.zip δ ++ (π ++ [(some (V.ref a), Sl.sh (.tuple ds)), (some (V.ref b), Sl.sh (.tuple es))] ++ ρ))[(σ.zip δ).length + (π.length + 1)]? = some (some (V.ref b), Sl.sh (.tuple es)) := by
      rw [List.getElem?_append_right (by omega), Nat.add_sub_cancel_left, List.append_assoc, List.getElem?_append_right (by omega), Nat.add_sub_cancel_left]
      rfl
    obtain ⟨u, eu, r2⟩ := x.sh _ _ _ e2
    cases eu
    obtain ⟨y, z, hy, hz, rfl⟩ := zipD_get hd
    cases r with
    | tup h1 h2 =>
      cases r2 with
      | tup h3 h4 =>
        obtain ⟨v, hv, rv⟩ := h2.get hy
        obtain ⟨v2, hv2, rv2⟩ := h4.get hz
        refine ⟨⟨_, _, v, v2, h1.sq, h3.sq, hv, hv2⟩, fun z H' hq => ?_⟩
        obtain ⟨T, w1, w2, rfl, hT, rfl, hz1, hz2⟩ := hq
        rw [hz1 _ h1.sq] at hv
        rw [hz2 _ h3.sq] at hv2
        cases hv
        cases hv2
        obtain ⟨_, z⟩ := s.new x (.tup hT (.cons rv (.cons rv2 .nil)))
        exact z
def iZpT (t u : VT) : VTs := fun δ Q Xc => vCons t (vCons u vNil) δ (fun ds δ' => ∃ es fs, ds = [.tuple es, .tuple fs] ∧ Q (zipD es fs) δ') Xc
theorem vi_zipT {elts : List Expr} {kk : Nat} {tpos : Pos} (hm : X.mg "zip" = none) (he : VE X W wx a t) (hf : VE X W wx b u) (hg : Gl X "zip" := by rfl) (hs : starEach [a, b] X.env = (false, eval a X.env) :: starEach [b] X.env := by rfl)
    (hs2 : starEach [b] X.env = (false, eval b X.env) :: starEach [] X.env := by rfl) (hpl : (backTo pos (starEach [b] X.env)).any (·.1) = false := by rfl) : VI X W wx (.Tuple elts kk tpos) (.Call (.Name "zip" p) [a, b] [] pos) (iZpT t u) :=
  ⟨PI.imp (RZ.pi_zipA hg hm (va_cons he (va_cons hf va_nil hs2) hs).pa hs hpl) fun σ H R ⟨δ, π, Qd, Xd, s, h, k, xr⟩ => ⟨δ, π, _, Xd, s, h, fun ds δ' q vs H' l n s' => by
    obtain ⟨es, fs, rfl, q⟩ := q
    obtain ⟨v, v2, rfl⟩ := len2 l
    rw [shs_cons, shs_cons, shs_nil] at s'
    have s1 : SS X.K W H' σ δ' (π ++ [(some v, Sl.sh (.tuple es))]) := by
      rw [List.append_cons] at s'
      exact s'.drop
    have s2 : SS X.K W H' σ δ' ((π ++ [(some v, Sl.sh (.tuple es))]) ++ [(some v2, Sl.sh (.tuple fs))]) := by rw [← List.append_cons]; exact s'
    obtain ⟨a', xs, rfl, hl⟩ := s1.tuple
    obtain ⟨b', ys, rfl, hl2⟩ := s2.tuple
    exact ⟨a', b', xs, ys, rfl, .inr ⟨hl, hl2, k _ _ q _ _ _ s' itok_zipT⟩⟩, xr⟩⟩
end
end ML

/-! ## M57 -/
set_option Elab.async false
set_option linter.all false
set_option autoImplicit false
set_option maxRecDepth 100000
set_option maxHeartbeats 4000000
namespace ML
open PySem PySem.Spec PyProof.Rows L2
section
variable {X : Cx} {W : Wd} {wx : WX} {K : PySem.W.Frag} {H H' : Hp} {σ : L2.St} {δ δ' : List Sl} {π : List Cell} {a b e : Expr} {es : List Expr} {pos : Pos} {S : Addr → Prop}
/-! ### (e, ..), items as they are: a tuple of one's own -/
theorem SS.gatherT {vs : List V} {l : List Sl} {os : List Ot} {p : Addr} (s : SS K W H σ δ (π ++ cells vs l)) (lv : vs.length = l.length) (ho : ots l = some os) (hp : H p = none) : SS K W (upd H p (.tup vs)) σ δ (π ++ [(some (.ref p), .ow (.nod (.tup p) os))]) := by
  have s1 := s.gather lv ho hp
  obtain ⟨S1, x1⟩ := s1.st
  have e0 : (σ.zip δ ++ (π ++ [(some (V.ref p), Sl.ow (.nod (.lst p) os))]))[(σ.zip δ ++ π).length]? = some (some (V.ref p), Sl.ow (.nod (.lst p) os)) := by
    rw [← List.append_assoc]; exact snoc_last
  obtain ⟨xs, g1, g2, g3, g4, g5, g6⟩ := x1.mutAt (π := []) (s := .lst p) (os := os) e0 rfl
  have ex : xs = vs := by
    have z : upd H p (HO.lst vs) p = some (.lst xs) := g1
    rw [upd_same] at z
    injection z with z
    injection z with z
    exact z.symm
  subst ex
  have kp : ∀ b, b ∉ (Sh.lst p).own → upd H p (.tup xs) b = upd H p (.lst xs) b := fun b hb => by
    have hne : b ≠ p := fun z => hb (by rw [z]; exact List.mem_cons_self)
    rw [upd_ne hne, upd_ne hne]
  have ow2 : Ows K S1 (upd H p (.tup xs)) xs os := Ows.ev (g5 _ kp) _ _ (fun b hb u q => by
    rw [kp b (fun z => g4 b z hb)]
    exact q) g2
  have nd : (Ot.adrs os).Nodup := by
    have := x1.nd _ _ _ e0
    rw [Ot.adr] at this
    exact (List.nodup_append.mp this).2.1
  have z := g6 (.tup p) xs os (upd H p (.tup xs)) (fun _ => False) (σ.zip δ ++ (π ++ [(some (.ref p), Sl.ow (.nod (.tup p) os))])) rfl rfl kp upd_same ow2 nd (fun b hb => .inl hb)
    (by rw [← List.append_assoc]; exact snoc_last)
    (fun j c hj hc => by
      refine .inr ⟨?_, fun q => q⟩
      rw [← List.append_assoc] at hc ⊢
      by_cases h1 : j < (σ.zip δ ++ π).length
      · rw [List.getElem?_append_left h1] at hc ⊢
        exact hc
      · exfalso
        have := (List.getElem?_eq_some_iff.mp hc).1
        rw [List.length_append, List.length_singleton] at this
        omega)
  exact ⟨s.len, S1, z⟩
def vTupO (as : List VT) : VT := fun δ Q Xc => mvEv as δ (fun l δ' => ∃ os, ots l = some os ∧ ∀ p, Q (.ow (.nod (.tup p) os)) δ') Xc
theorem ve_tupO {k : Nat} {as : List VT} (h : VMv X W wx es as) (hl : es.length ≤ 1000) (he : es.length = as.length := by rfl) (hs : starEach es X.env = starEach es X.env := by rfl) : VE X W wx (.Tuple es k pos) (vTupO as) :=
  ⟨PE.imp (pe_tup h.pa) fun σ H Q ⟨δ, π, Qd, Xd, s, h, kk, xr⟩ => ⟨δ, π, _, Xd, s, h, fun l δ' q vs H' lv ll s' => by
    refine ⟨Nat.le_of_lt (small1000 (by omega)), fun p hp => ?_⟩
    obtain ⟨os, ho, q⟩ := q
    exact kk _ _ (q p) _ _ (s'.gatherT (by rw [lv, ll]) ho hp), xr⟩⟩
end
end ML

/-! ## M58 -/
set_option Elab.async false
set_option linter.all false
set_option autoImplicit false
set_option maxRecDepth 100000
set_option maxHeartbeats 4000000
namespace ML
open PySem PySem.Spec PyProof.Rows L2
/-! ### pairs of a text and an int in order -/
def kySI (p : Str × Int) : List (Int ⊕ List Nat) := [.inr p.1.cps.toList, .inl p.2]
abbrev OrdSI : KeyOrd := listOrd itemOrd
def leSI (p q : Str × Int) : Bool := !OrdSI.blt (kySI q) (kySI p)
theorem leSI_kle {p q : Str × Int} : leSI p q = true ↔ OrdSI.kle (kySI p) (kySI q) := by
  unfold leSI KeyOrd.kle
  cases OrdSI.blt (kySI q) (kySI p) <;> simp
theorem kySI_inj {p q : Str × Int} (h : kySI p = kySI q) : p = q := by
  obtain ⟨⟨a⟩, i⟩ := p
  obtain ⟨⟨b⟩, j⟩ := q
  unfold kySI at h
  injection h with h1 h2
  injection h2 with h2 _
  injection h1 with h1
  injection h2 with h2
  have h1' : a.toList = b.toList := h1
  have h3 : a = b := Array.toList_inj.mp h1'
  subst h3 h2
  rfl
theorem leSI_trans {p q r : Str × Int} (h1 : leSI p q = true) (h2 : leSI q r = true) : leSI p r = true :=
  leSI_kle.mpr (KeyOrd.kle_trans (leSI_kle.mp h1) (leSI_kle.mp h2))
theorem leSI_anti {p q : Str × Int} (h1 : leSI p q = true) (h2 : leSI q p = true) : p = q :=
  kySI_inj (KeyOrd.kle_antisymm (leSI_kle.mp h1) (leSI_kle.mp h2))
theorem leSI_total (p q : Str × Int) : leSI p q = true ∨ leSI q p = true := by
  rcases Classical.em (OrdSI.klt (kySI q) (kySI p)) with h | h
  · exact .inr (leSI_kle.mpr (KeyOrd.kle_of_klt h))
  · exact .inl (leSI_kle.mpr (KeyOrd.kle_of_not_klt h))
def insSI (x : Str × Int) : List (Str × Int) → List (Str × Int)
  | [] => [x]
  | y :: r => if leSI x y then x :: y :: r else y :: insSI x r
def srtSI : List (Str × Int) → List (Str × Int)
  | [] => []
  | x :: r => insSI x (srtSI r)
theorem insSI_perm (x : Str × Int) : ∀ l : List (Str × Int), (insSI x l).Perm (x :: l)
  | [] => List.Perm.refl _
  | y :: r => by
    unfold insSI
    split
    · exact List.Perm.refl _
    · exact ((insSI_perm x r).cons y).trans (List.Perm.swap x y r)
theorem srtSI_perm : ∀ l : List (Str × Int), (srtSI l).Perm l
  | [] => List.Perm.refl _
  | x :: r => (insSI_perm x _).trans ((srtSI_perm r).cons x)
abbrev SrtSI (l : List (Str × Int)) : Prop := l.Pairwise fun x y => leSI x y = true
theorem insSI_srt {x : Str × Int} : ∀ {l : List (Str × Int)}, SrtSI l → SrtSI (insSI x l)
  | [], _ => by unfold insSI; simp
  | y :: r, h => by
    have h1 := List.pairwise_cons.mp h
    unfold insSI
    split
    · rename_i c
      refine List.pairwise_cons.mpr ⟨fun z hz => ?_, h⟩
      rcases List.mem_cons.mp hz with rfl | hz
      · exact c
      · exact leSI_trans c (h1.1 z hz)
    · rename_i c
      refine List.pairwise_cons.mpr ⟨fun z hz => ?_, insSI_srt h1.2⟩
      rcases List.mem_cons.mp ((insSI_perm x r).mem_iff.mp hz) with rfl | hz
      · exact (leSI_total z y).elim (fun q => absurd q c) id
      · exact h1.1 z hz
theorem srtSI_srt : ∀ l : List (Str × Int), SrtSI (srtSI l)
  | [] => List.Pairwise.nil
  | x :: r => insSI_srt (srtSI_srt r)
theorem srtSI_uniq : ∀ {l m : List (Str × Int)}, l.Perm m → SrtSI l → SrtSI m → l = m
  | [], m, h, _, _ => by rw [List.nil_perm.mp h]
  | a :: l, [], h, _, _ => by have := h.length_eq; simp at this
  | a :: l, b :: m, h, h1, h2 => by
    have p1 := List.pairwise_cons.mp h1
    have p2 := List.pairwise_cons.mp h2
    have e : a = b := by
      rcases List.mem_cons.mp (h.mem_iff.mpr List.mem_cons_self : b ∈ a :: l) with e | e1
      · exact e.symm
      · rcases List.mem_cons.mp (h.mem_iff.mp List.mem_cons_self : a ∈ b :: m) with e | e2
        · exact e
        · exact leSI_anti (p1.1 b e1) (p2.1 a e2)
    subst e
    rw [srtSI_uniq h.cons_inv p1.2 p2.2]
theorem srtSI_of {l m : List (Str × Int)} (h : m.Perm l) (hs : SrtSI m) : m = srtSI l := srtSI_uniq (h.trans (srtSI_perm l).symm) hs (srtSI_srt l)
def siD (p : Str × Int) : D := .tuple [.str p.1, .int p.2]
def si? : List D → Option (List (Str × Int))
  | [] => some []
  | .tuple [.str x, .int i] :: r => (si? r).map ((x, i) :: ·)
  | _ => none
theorem si?_map (ps : List (Str × Int)) : si? (ps.map siD) = some ps := by
  induction ps with
  | nil => rfl
  | cons p ps ih => show (si? (ps.map siD)).map (p :: ·) = _; rw [ih]; rfl
theorem si?_of : ∀ {ds : List D} {ps : List (Str × Int)}, si? ds = some ps → ds = ps.map siD
  | [], ps, h => by cases h; rfl
  | x :: r, ps, h => by
    unfold si? at h
    split at h
    · rename_i e; cases e
    · rename_i x' i r' e
      cases e
      obtain ⟨m, h1, h2⟩ := Option.map_eq_some_iff.mp h
      subst h2
      rw [si?_of h1]
      rfl
    · cases h
def fSortSI (d : D) : Option Rs := match d with
  | .list ds => (si? ds).map fun ps => .nw ((srtSI ps).map siD)
  | _ => none
theorem fSortSI_map (ps : List (Str × Int)) : fSortSI (.list (ps.map siD)) = some (.nw ((srtSI ps).map siD)) := by
  show (si? (ps.map siD)).map _ = _
  rw [si?_map]; rfl
/-- sorted(xs), xs a list of such pairs, of any length -/
def rSortSI (K : PySem.W.Frag) : List V → Hp → VK → Prop := fun vs H Q => ∃ (a : Addr) (xs : List V) (k : V → Str × Int), vs = [V.ref a] ∧ SqL K H a xs ∧ (∀ x ∈ xs, ∃ t, x = V.ref t ∧ SqT K H t [.str (k x).1, .int (k x).2]) ∧
  ∀ ys p, ys.Perm xs → SrtSI (ys.map k) → H p = none → Q (.ref p) (upd H p (.lst ys))
def shSI : Nat → Bool := fun i => i == 0
section
variable {X : Cx} {K : PySem.W.Frag}
theorem KK_at {κ : KeyKind} {xs : Array Keyed} {i : Nat} {p : Keyed} {a : κ.α} (h : xs[i]? = some p) (hk : κ.keyOf p.1 = some a) : KK κ xs i = a := by
  unfold KK
  simp [h, hk]
theorem cr_sortSI : CallR X (.builtin "sorted") (rSortSI X.K) := by
  intro pins s σ H vs us Q I r h
  obtain ⟨a, xs, k, rfl, hs, hx, q⟩ := h
  obtain ⟨its, rv, hl, hz⟩ := I.list hs
  rw [Vals.ref1 r]
  obtain ⟨e1, e2⟩ := bkV_refs rv fun x m => by
    obtain ⟨t, e, _⟩ := hx x m
    exact ⟨t, e⟩
  have raw : ∀ v ∈ its, ∃ t o z i n tz ti, v = Value.ref t ∧ k (bkV v) = (z, i) ∧ s.heap.get? t = some o ∧ o.cls = .type "tuple" ∧ o.data = .seq #[Value.str z tz, Value.int i ti] n := fun v hv => by
    obtain ⟨t, rfl⟩ := e2 v hv
    have hm : V.ref t ∈ xs := by rw [e1]; exact List.mem_map.mpr ⟨_, hv, rfl⟩
    obtain ⟨t', e, ht⟩ := hx _ hm
    cases e
    obtain ⟨its2, r2, ⟨o, ho, hc, n, hd⟩, _⟩ := I.tuple ht
    obtain ⟨u1, u2, rfl, ri, rj⟩ := vals2 r2
    obtain ⟨t1, rfl⟩ := ri
    obtain ⟨t2, rfl⟩ := rj
    exact ⟨t, o, _, _, n, t1, t2, rfl, rfl, ho, hc, hd⟩
  have ky : ∀ v ∈ its, G.tupKeyC s.heap shSI v = some (kySI (k (bkV v))) := fun v hv => by
    obtain ⟨t, o, z, i, n, tz, ti, rfl, ek, ho, hc, hd⟩ := raw v hv
    rw [ek]
    exact G.tupKeyC_of ho hc hd rfl
  have hts : ∃ fs, TupsOf s.heap shSI its fs := by
    have : ∀ l : List Value, (∀ v ∈ l, v ∈ its) → ∃ fs, TupsOf s.heap shSI l fs := by
      intro l
      induction l with
      | nil => intro _; exact ⟨[], .nil⟩
      | cons v l ih =>
        intro h
        obtain ⟨fs, hf⟩ := ih fun y hy => h y (List.mem_cons_of_mem _ hy)
        obtain ⟨t, o, z, i, n, tz, ti, rfl, ek, ho, hc, hd⟩ := raw v (h v List.mem_cons_self)
        exact ⟨_, .cons ⟨t, o, _, n, rfl, ho, hc, hd, rfl, fun z => (by cases z), fun _ => ⟨_, _, rfl⟩⟩ hf⟩
    exact this its fun _ h => h
  obtain ⟨fs, hts⟩ := hts
  refine G.sorted_tups (shape := shSI) (fs := fs) hl.isList hts (fun v hv => ⟨_, ky v hv⟩) (by rw [← rv.length]; exact hz) fun st' pm srt _ => ?_
  obtain ⟨ep, he'⟩ := sortedAll_at s.heap its ((arrOf st').map (·.2))
  have hsub : ∀ p ∈ (arrOf st').toList, p.1 = p.2 ∧ p.1 ∈ its := fun p hp => by
    have h0 : p ∈ (pairsOf its).toList := pm.toList.mem_iff.mp hp
    rw [pairsOf_toList] at h0
    have : ∀ (l : List Value), p ∈ l.zip l → p.1 = p.2 ∧ p.1 ∈ l := by
      intro l
      induction l with
      | nil => intro h; cases h
      | cons v l ih =>
        intro h
        rw [List.zip_cons_cons] at h
        rcases List.mem_cons.mp h with rfl | h
        · exact ⟨rfl, List.mem_cons_self⟩
        · exact ⟨(ih h).1, List.mem_cons_of_mem _ (ih h).2⟩
    exact this _ h0
  have hout : ((arrOf st').map (·.2)).toList.Perm its := by
    have h0 := (pm.toList.map (fun p : Keyed => p.2))
    rw [pairsOf_toList] at h0
    rw [Array.toList_map]
    refine h0.trans (List.Perm.of_eq ?_)
    exact List.map_snd_zip (Nat.le_refl _)
  have h3 : ∀ u ∈ ((arrOf st').map (·.2)).toList, ∃ a, u = Value.ref a := fun u hu => e2 u (hout.mem_iff.mp hu)
  have hp : (((arrOf st').map (·.2)).toList.map bkV).Perm xs := by
    rw [e1]
    exact hout.map bkV
  have hlen : (((arrOf st').map (·.2)).toList.map bkV).length ≤ sizeLine := by
    rw [hp.length_eq]
    exact hz
  refine ⟨.ref _, upd H (s.heap.objs.size + 1) (.lst (((arrOf st').map (·.2)).toList.map bkV)), I.laid (t' := s.toks) (fun _ _ => sortedAll_old) (Nat.le_succ _) ⟨hlen, ((arrOf st').map (·.2)).toList, ep, bkV_vals h3, he'⟩, rfl, q _ _ hp ?_ (I.hok.fresh (Nat.le_succ _))⟩
  have hsz : (arrOf st').size = (pairsOf its).size := by
    have := pm.toList.length_eq
    simpa using this
  rw [List.map_map, Array.toList_map, List.map_map]
  refine List.pairwise_map.mpr (List.pairwise_iff_getElem.mpr fun i j hi hj hij => ?_)
  have gi : (arrOf st')[i]? = some (arrOf st').toList[i] := by rw [← Array.getElem?_toList]; exact List.getElem?_eq_getElem hi
  have gj : (arrOf st')[j]? = some (arrOf st').toList[j] := by rw [← Array.getElem?_toList]; exact List.getElem?_eq_getElem hj
  obtain ⟨a1, a2⟩ := hsub _ (List.getElem_mem hi)
  obtain ⟨b1, b2⟩ := hsub _ (List.getElem_mem hj)
  have z := srt i j (Nat.le_of_lt hij) (by rw [← hsz]; simpa using hj)
  rw [KK_at gi (ky _ a2), KK_at gj (ky _ b2), a1, b1] at z
  exact leSI_kle.mpr z
/-- .. by what the pairs are -/
def rSortSD (K : PySem.W.Frag) : List V → Hp → VK → Prop := fun vs H Q => ∃ (a : Addr) (xs : List V) (ps : List (Str × Int)), vs = [V.ref a] ∧ SqL K H a xs ∧ xs.length = ps.length ∧ (∀ (j : Nat) (x : V) (p : Str × Int), xs[j]? = some x → ps[j]? = some p → ∃ t, x = V.ref t ∧ SqT K H t [.str p.1, .int p.2]) ∧
  ∀ (ys : List V) (p : Addr), ys.length = (srtSI ps).length → (∀ (j : Nat) (y : V) (q : Str × Int), ys[j]? = some y → (srtSI ps)[j]? = some q → ∃ i : Nat, xs[i]? = some y ∧ ps[i]? = some q) → H p = none → Q (.ref p) (upd H p (.lst ys))
theorem cr_sortSD : CallR X (.builtin "sorted") (rSortSD X.K) := by
  intro pins s σ H vs us Q I r h
  obtain ⟨a, xs, ps, rfl, hs, hlen, hx, q⟩ := h
  have hk : ∃ k : V → Str × Int, ∀ t z i, SqT X.K H t [.str z, .int i] → k (.ref t) = (z, i) := by
    classical
    refine ⟨fun v => match v with
      | .ref t => if c : ∃ p : Str × Int, SqT X.K H t [.str p.1, .int p.2] then c.choose else ("", 0)
      | _ => ("", 0), fun t z i h => ?_⟩
    have c : ∃ p : Str × Int, SqT X.K H t [.str p.1, .int p.2] := ⟨(z, i), h⟩
    show (if c : ∃ p : Str × Int, SqT X.K H t [.str p.1, .int p.2] then c.choose else ("", 0)) = _
    rw [dif_pos c]
    have e := I.tuple_inj c.choose_spec h
    injection e with e1 e2
    injection e1 with e1
    injection e2 with e2 _
    injection e2 with e2
    exact Prod.ext e1 e2
  obtain ⟨k, hk⟩ := hk
  have hat : ∀ (j : Nat) (x : V) (p : Str × Int), xs[j]? = some x → ps[j]? = some p → k x = p := fun j x p h1 h2 => by
    obtain ⟨t, rfl, ht⟩ := hx j x p h1 h2
    exact hk _ _ _ ht
  have hmap : xs.map k = ps := by
    refine List.ext_getElem? fun j => ?_
    rw [List.getElem?_map]
    cases e : xs[j]? with
    | none =>
      have := List.getElem?_eq_none_iff.mp e
      rw [List.getElem?_eq_none (by omega)]
      rfl
    | some x =>
      have hj := (List.getElem?_eq_some_iff.mp e).1
      have e2 : ps[j]? = some ps[j] := List.getElem?_eq_getElem (by omega)
      rw [Option.map_some, hat j x _ e e2, e2]
  refine cr_sortSI pins s σ H [.ref a] us Q I r ⟨a, xs, k, rfl, hs, fun x hxm => ?_, fun ys p pm srt hp => q ys p ?_ ?_ hp⟩
  · obtain ⟨j, hj⟩ := List.getElem?_of_mem hxm
    have hjl := (List.getElem?_eq_some_iff.mp hj).1
    have e2 : ps[j]? = some ps[j] := List.getElem?_eq_getElem (by omega)
    obtain ⟨t, e, ht⟩ := hx j x _ hj e2
    rw [hat j x _ hj e2]
    exact ⟨t, e, ht⟩
  · have e := srtSI_of (pm.map k) srt
    rw [hmap] at e
    rw [← e, List.length_map]
  · intro j y q' hy hq'
    have e := srtSI_of (pm.map k) srt
    rw [hmap] at e
    rw [← e, List.getElem?_map, hy] at hq'
    cases hq'
    obtain ⟨i, hi⟩ := List.getElem?_of_mem (pm.mem_iff.mp (List.mem_of_getElem? hy))
    have hil := (List.getElem?_eq_some_iff.mp hi).1
    have e2 : ps[i]? = some ps[i] := List.getElem?_eq_getElem (by omega)
    exact ⟨i, hi, by rw [e2, hat i y _ hi e2]⟩
theorem Rps.mkAt {S : Addr → Prop} {H : Hp} : ∀ {vs : List V} {ds : List D}, vs.length = ds.length → (∀ (j : Nat) (v : V) (d : D), vs[j]? = some v → ds[j]? = some d → Rp K S H v d) → Rps K S H vs ds
  | [], [], _, _ => .nil
  | [], _ :: _, h, _ => by simp at h
  | _ :: _, [], h, _ => by simp at h
  | v :: vs, d :: ds, h, g => .cons (g 0 v d rfl rfl) (Rps.mkAt (by simpa using h) fun j v' d' h1 h2 => g (j + 1) v' d' (by simpa using h1) (by simpa using h2))
theorem snd_sortSI : Snd1 K (fun v H Q => rSortSD K [v] H Q) fSortSI := by
  intro S H x d res Q hx hf hq
  cases d with
  | list ds =>
    have hf' : (si? ds).map (fun ps => Rs.nw ((srtSI ps).map siD)) = some res := hf
    obtain ⟨ps, h1, rfl⟩ := Option.map_eq_some_iff.mp hf'
    have e := si?_of h1
    subst e
    obtain ⟨p, xs, rfl, h2, h3⟩ := Rq.list hx
    refine ⟨p, xs, ps, rfl, h2, by rw [Rps.length h3, List.length_map], fun j x p h4 h5 => ?_, fun ys q h4 h5 h6 => hq _ _ (.lst h6 (Rps.mkAt (by rw [List.length_map]; exact h4) fun j v d h7 h8 => ?_))⟩
    · have e2 : (ps.map siD)[j]? = some (siD p) := by rw [List.getElem?_map, h5]; rfl
      obtain ⟨v, q1, q2⟩ := Rps.get h3 e2
      rw [h4] at q1
      cases q1
      cases q2 with
      | tup g1 g2 =>
        cases g2 with
        | cons g3 g4 =>
          cases g3
          cases g4 with
          | cons g5 g6 =>
            cases g5
            cases g6
            exact ⟨_, rfl, g1.sq⟩
    · rw [List.getElem?_map] at h8
      obtain ⟨q', h9, rfl⟩ := Option.map_eq_some_iff.mp h8
      obtain ⟨i, g1, g2⟩ := h5 j v q' h7 h9
      have e2 : (ps.map siD)[i]? = some (siD q') := by rw [List.getElem?_map, g2]; rfl
      obtain ⟨v', q1, q2⟩ := Rps.get h3 e2
      rw [g1] at q1
      cases q1
      exact q2
  | _ => cases hf
end
end ML

/-! ## M59 -/
set_option Elab.async false
set_option linter.all false
set_option autoImplicit false
set_option maxRecDepth 100000
set_option maxHeartbeats 4000000
namespace ML
open PySem PySem.Spec PyProof.Rows L2
/-! ### d.get(k, x), where k may be None -/
def DGetN (H : Hp) (a : Addr) (y : V) (o : Option V) : Prop := DGet H a y o ∨ (y = .non ∧ o = none ∧ ∃ kvs, Rd H a (.dK kvs))
section
variable {X : Cx} {pins : List (Addr × Obj)} {σ : L2.St} {H : Hp} {s : Shared} {a : Addr} {y z : V} {u r : Value} {o : Option V} {A : Around} {E : Value → Shared → Prop}
theorem d_get2N {Q : Value → Shared → Prop} (hu : A.units + 1 < cLine) (I : Inv X pins σ H s) (g : DGetN H a y o) (ry : RelV y u) (rz : RelV z r) (hq : ∀ v' s', Inv X pins σ H s' → RelV (o.getD z) v' → Q v' s') :
    wpAny (model X.prog X.w) A (call (.builtin "dict.get") [.ref a, u, r]) Q E s := by
  rcases g with g | ⟨ey, eo, kvs, e⟩
  · exact d_get2 hu I g ry rz hq
  · subst ey eo
    have eu : u = .none := ry
    subst eu
    obtain ⟨_, hd, _, _, dd⟩ := dk_rd I.hok e
    obtain ⟨f, hm, hf⟩ := none_map dd
    refine call_meetsIn PySem.F.slot_dict_get dd.typeIs PySem.F.entry_dict_get (PySem.F.args_dict_get_3 _ _ _)
      (meets_dict_get_default (noneKind X.prog X.w) a (k := none) rfl hd r) ⟨f, hm, ?_⟩
    rw [hf]
    exact hq _ _ (I.tok _) rz
end
section
variable {X : Cx} {W : Wd} {wx : WX} {K : PySem.W.Frag} {H H' : Hp} {σ : L2.St} {δ δ' : List Sl} {π : List Cell} {e f ov : Expr} {t u : VT} {pos apos cpos : Pos} {S : Addr → Prop}
def tGetN (td ty tx : TE) : TE := fun σ H Q => td σ H fun x H1 => ∃ a, x = .ref a ∧ IsD H1 a ∧ ty σ H1 fun y H2 => tx σ H2 fun z H3 => ∃ o, DGetN H3 a y o ∧ Q (o.getD z) H3
theorem pe_getN {td ty tx : TE} (hu : X.A.units + 1 < cLine) (ho : PE X ov td) (he : PE X e ty) (hf : PE X f tx) (m : M2 X ov "get" apos e f cpos) : PE X (.Call (.Attribute ov "get" apos) [e, f] [] cpos) (tGetN td ty tx) := by
  refine ⟨fun pins s σ H Q I h => ?_⟩
  refine wpAny_Call_method m.base m.few m.line PySem.F.plainAttrs_dict PySem.F.slot_dict_get PySem.F.type_dict_get
    (thn (ho.run pins s σ H _ I h) fun v s1 ⟨x, H1, I1, rx, a, ex, hd, h1⟩ => ?_)
  subst ex
  have ev : v = Value.ref a := rx
  subst ev
  refine ⟨(isD_at I1 hd).1, (isD_at I1 hd).2.1, ?_⟩
  rw [m.trees]
  refine Calls.callWith_builtin rfl (Calls.evalArgs_plain (Calls.spliced_cons
    (thn (he.run pins s1 σ H1 _ I1 h1) fun iv s2 ⟨y, H2, I2, ry, h2⟩ => Calls.spliced_cons
      (thn (hf.run pins s2 σ H2 _ I2 h2) fun fv s3 ⟨z, H3, I3, rz, o, g, h3⟩ => Calls.spliced_nil ?_))))
  exact d_get2N hu I3 g ry rz fun v' s4 I4 rv => ⟨_, H3, I4, rv, h3⟩
def getDN (d k x : D) : Option D := match k with
  | .none => if isDictD d = true then some x else none
  | k => getD2 d k x
def vGet2N (o : Opr) (t u : VT) : VT := fun δ Q Xc => o.ev δ (fun ra δ1 => (∃ d, o.fin true ra δ1 = some d ∧ isDictD d = true) ∧ vS t δ1 (fun rk δ2 => ∃ dk, rk = .sh dk ∧ vS u δ2 (fun rx δ3 => ∃ dx d r, rx = .sh dx ∧ o.fin false ra δ3 = some d ∧ getDN d dk dx = some r ∧ Q (.sh r) δ3) Xc) Xc) Xc
theorem get_ofN {v y z : V} {d k x r : D} (h : Rq K S H v d) (hy : Rp K S H y k) (hz : Rp K S H z x) (e : getDN d k x = some r) : ∃ a o, v = .ref a ∧ DGetN H a y o ∧ Rp K S H (o.getD z) r := by
  have main : getD2 d k x = some r → ∃ a o, v = .ref a ∧ DGetN H a y o ∧ Rp K S H (o.getD z) r := fun e => by
    obtain ⟨a, o, h1, h2, h3⟩ := get_of h hy hz e
    exact ⟨a, o, h1, .inl h2, h3⟩
  cases k with
  | none =>
    have e' : (if isDictD d = true then some x else none) = some r := e
    by_cases c : isDictD d = true
    · rw [if_pos c] at e'
      cases e'
      cases d with
      | dict kvs =>
        obtain ⟨a, ks, xs, ds, rfl, _, h1, _⟩ := Rq.dictI h c
        cases hy
        exact ⟨a, none, rfl, .inr ⟨rfl, rfl, _, h1⟩, hz⟩
      | _ => cases c
    · rw [if_neg c] at e'; cases e'
  | _ => exact main e
theorem ve_get2N {o : Opr} (hu : X.A.units + 1 < cLine) (ha : VO X W wx ov o) (he : VE X W wx e t) (hf : VE X W wx f u) (m : M2 X ov "get" apos e f cpos) : VE X W wx (.Call (.Attribute ov "get" apos) [e, f] [] cpos) (vGet2N o t u) := by
  obtain ⟨ta, A⟩ := ha
  refine ⟨PE.imp (pe_getN hu A.pe (ve_sh he).pe (ve_sh hf).pe m) fun σ H Q h => ?_⟩
  obtain ⟨δ, π, Qd, Xd, s, h, k, xr⟩ := h
  refine A.run σ H δ π _ Xd _ s h xr fun ra δ1 q v H1 s1 i1 => ?_
  obtain ⟨⟨d0, hd0, hd1⟩, q⟩ := q
  have hv : ∃ a, v = .ref a ∧ IsD H1 a := by
    obtain ⟨S, x⟩ := s1.st
    exact isD_of (Opr.read (ρ := []) (m := true) s1.len x i1 hd0) hd1
  obtain ⟨p, rfl, hD⟩ := hv
  refine ⟨p, rfl, hD, ?_⟩
  refine ⟨δ1, _, _, Xd, s1, q, fun rk δ2 q y H2 s2 => ?_, xr.more⟩
  obtain ⟨dk, rfl, q⟩ := q
  refine ⟨δ2, _, _, Xd, s2, q, fun rx δ3 q z H3 s3 => ?_, xr.more.more⟩
  obtain ⟨dx, d, r, rfl, e1, e2, q3⟩ := q
  obtain ⟨S, x⟩ := s3.st
  have x1 : StF X.K W H3 (σ.zip δ3 ++ (π ++ ((some (V.ref p), ra) :: [(some y, .sh dk), (some z, .sh dx)]))) S := by
    have e : π ++ ((some (V.ref p), ra) :: [(some y, Sl.sh dk), (some z, .sh dx)]) = π ++ [(some (V.ref p), ra)] ++ [(some y, Sl.sh dk)] ++ [(some z, Sl.sh dx)] := by simp
    rw [e]
    exact x
  have rv := Opr.read (m := false) s3.len x1 i1 e1
  have rz : Rp X.K S H3 z dx := by
    obtain ⟨u', eu, r⟩ := x.sh (σ.zip δ3 ++ (π ++ [(some (V.ref p), ra)] ++ [(some y, Sl.sh dk)])).length (some z) dx (by rw [← List.append_assoc]; exact snoc_last)
    cases eu
    exact r
  have ry : Rp X.K S H3 y dk := by
    have x' := SS.restrict x
    obtain ⟨u', eu, r⟩ := x'.sh (σ.zip δ3 ++ (π ++ [(some (V.ref p), ra)])).length (some y) dk (by rw [← List.append_assoc]; exact snoc_last)
    cases eu
    exact r
  obtain ⟨a', o', e', g, rr⟩ := get_ofN rv ry rz e2
  cases e'
  exact ⟨o', g, k _ _ q3 _ _ (s3.drop.drop.drop.pushF (SS.restrict (SS.restrict (SS.restrict x))) rr)⟩
end
end ML

/-! ## M60 -/
set_option Elab.async false
set_option linter.all false
set_option autoImplicit false
set_option maxRecDepth 100000
set_option maxHeartbeats 4000000
namespace ML
open PySem PySem.Spec PyProof.Rows L2
/-! ### a text as a constant of the module -/
theorem glc_str {K : PySem.W.Frag} {mg : Str → Option Value} {x z : Str} {t : Tok} (hm : mg x = some (.str z t)) (hz : okS z = true) : GlC K mg x (.str z) := ⟨_, .str z, hm, ⟨t, rfl⟩, fun _ _ => .str z hz⟩
end ML

/-! ## M61 -/
set_option Elab.async false
set_option linter.all false
set_option autoImplicit false
set_option maxRecDepth 100000
set_option maxHeartbeats 4000000
namespace ML
open PySem PySem.Spec PyProof.Rows L2
/-! ### targets that change the heap: name.f in a tuple of targets -/
theorem assignAttr {M : Model} {A : Around} {E : Value → Shared → Prop} {s : Shared} {env : Env} {o : Expr} {f : Str} {p : Pos} {v : Value} {Q : Unit → Shared → Prop}
    (h : wpAny M A (eval o env) (fun ov s1 => wpAny M A (setAttr ov f v) (fun _ s2 => Q () s2) E s1) E s) : wpAny M A (assign (.Attribute o f p) env v) Q E s := fun Γ q hΓ => by
  simp only [assign_Attribute, Sem.wp_bind', Sem.wp_holding, Sem.wp_cmd_standAt, Sem.wp_release, Sem.wp_pure']
  exact Sem.wp_mono M Γ _ (fun ov _ s1 h1 => h1 Γ _ hΓ) (fun _ _ _ h' => h') _ _ (h Γ _ hΓ)
def lG2 (K : PySem.W.Frag) (W : Wd) (g : D → List Sl → Option (List Sl)) : TG := fun x σ H k => ∃ (δ : List Sl) (π : List Cell) (d : D) (j : Nat) (δ' : List Sl),
  π[j]? = some (some x, Sl.sh d) ∧ SS K W H σ δ π ∧ g d δ = some δ' ∧ ∀ σ' H', SS K W H' σ' δ' π → k σ' H'
structure VG2 (X : Cx) (W : Wd) (tg : Expr) (g : D → List Sl → Option (List Sl)) : Prop where
  pg : PG X tg (lG2 X.K W g)
def lGs2 (K : PySem.W.Frag) (W : Wd) (g : List D → List Sl → Option (List Sl)) : TGs := fun xs σ H k => ∃ (δ : List Sl) (π : List Cell) (ds : List D) (j : Nat) (δ' : List Sl),
  (∀ (i : Nat) x, xs[i]? = some x → ∃ d, ds[i]? = some d ∧ π[j + i]? = some (some x, Sl.sh d)) ∧ xs.length = ds.length ∧ SS K W H σ δ π ∧ g ds δ = some δ' ∧ ∀ σ' H', SS K W H' σ' δ' π → k σ' H'
structure VGs2 (X : Cx) (W : Wd) (tgs : List Expr) (g : List D → List Sl → Option (List Sl)) : Prop where
  pg : PGs X tgs (lGs2 X.K W g)
/-- a field of the instance in a slot -/
def bFld (C : Addr) (i : Nat) (f : Str) : D → List Sl → Option (List Sl) := fun d δ => match δ[i]? with
  | some (.ow (.nod s os)) => (storeF C s os f (.leaf d)).map fun r => δ.set i (.ow (.nod r.1 r.2))
  | _ => none
section
variable {X : Cx} {W : Wd} {wx : WX} {K : PySem.W.Frag} {H H' : Hp} {σ : L2.St} {δ δ' : List Sl} {π : List Cell} {e a : Expr} {tg : Expr} {tgs : List Expr} {t : VT} {pos : Pos} {C : Addr}
theorem vg2_of {ws : List Nat} {g : D → List Sl → Option (List Sl)} (h : VG X W tg ws g) : VG2 X W tg g :=
  ⟨⟨fun pins sh σ H v u Q I r ⟨δ, π, d, j, δ', e, s, hg, k⟩ => h.pg.run pins sh σ H v u Q I r ⟨δ, π, d, j, δ', e, s, hg, fun σ' _ s2 => k σ' H s2⟩⟩⟩
theorem vg2_fld {i : Nat} {x f : Str} {p1 p2 : Pos} (cl : Cls X.K C) (na : NoAttr X.K C f) (hN : X.N[i]? = some x := by rfl) (hv : Vis X.env.scope x := by first | exact Or.inl rfl | exact Or.inr (Or.inl rfl) | exact Or.inr (Or.inr rfl))
    (hd : (x == ("__debug__" : Str)) = false := by decide) (hcd : (x == ("__classdict__" : Str)) = false := by decide) : VG2 X W (.Attribute (.Name x p1) f p2) (bFld C i f) := by
  refine ⟨⟨fun pins sh σ H v u Q I rv h => ?_⟩⟩
  obtain ⟨δ, π, d, j, δ', e, s, hg, k⟩ := h
  unfold bFld at hg
  split at hg
  · rename_i sp os eo
    obtain ⟨⟨s', os'⟩, q4, rfl⟩ := Option.map_eq_some_iff.mp hg
    have s2 := s.copy e
    obtain ⟨S, z⟩ := s2.st
    obtain ⟨w, w1, w2⟩ := zipcell (ρ := π ++ [(some v, Sl.sh d)]) s2.len eo
    obtain ⟨o, ew, wo⟩ := z.ow _ _ _ w2
    subst ew
    have er : o = .ref sp.root := by
      cases wo with
      | nod _ _ => rfl
    subst er
    have hi := (List.getElem?_eq_some_iff.mp eo).1
    obtain ⟨xs, g1, g2, g3⟩ := z.mutL (L := ⟨i, .nod sp os, [], sp, os⟩) s2.len eo (by unfold Ot.at; rfl)
    have ev : (σ.zip δ ++ (π ++ [(some v, Sl.sh d)]))[(σ.zip δ ++ π).length]? = some (some v, Sl.sh d) := by
      rw [← List.append_assoc]; exact snoc_last
    obtain ⟨u', eu, rr⟩ := z.sh _ _ _ ev
    cases eu
    have wo2 : Ow X.K S H v (.leaf d) := .leaf rr
    obtain ⟨r1, r2, pm, xs', fs, dx, e1, e2, kp, hh, ho'⟩ := storeF_ok (v := v) q4 g1 g2 wo2
    obtain ⟨y, _⟩ := g3 s' xs' os' _ [] r1 r2 kp hh ho' (by
      rw [List.append_nil]
      have e0 : adrC [(some v, Sl.sh d)] = Ot.adr (.leaf d) := by simp [adrC, Ot.adr]
      rw [e0]
      exact pm)
    refine assignAttr (thn ((pe_var hN hv hd hcd).run pins sh σ H (fun y H1 => y = .ref sp.root ∧ H1 = H) I ⟨.ref sp.root, w1, rfl, rfl⟩) fun ov s1 ⟨y0, H1, I1, ry, ey, eH⟩ => ?_)
    subst ey eH
    obtain rfl : ov = Value.ref sp.root := ry
    exact setattr_ok I1 e1 cl na e2 rv fun s3 I3 => ⟨σ, _, I3, k σ _ ⟨by rw [List.length_set]; exact s.len, S, by
      have : (⟨i, .nod sp os, [], sp, os⟩ : Nde).set δ s' os' = δ.set i (.ow (.nod s' os')) := by
        unfold Nde.set
        simp only
        unfold Ot.put
        rfl
      rw [this] at y
      exact y⟩⟩
  · cases hg
theorem vgs2_nil : VGs2 X W [] bNil := ⟨⟨fun pins sh σ H vs us Q I r h => pgs_nil.run pins sh σ H vs us Q I r (by
    obtain ⟨δ, π, ds, j, δ', e, l, s, g, k⟩ := h
    cases ds with
    | nil =>
      cases g
      exact ⟨List.length_eq_zero_iff.mp (by simpa using l), k σ H s⟩
    | cons d r => cases g)⟩⟩
theorem vgs2_cons {g : D → List Sl → Option (List Sl)} {gs : List D → List Sl → Option (List Sl)} (h1 : VG2 X W tg g) (h2 : VGs2 X W tgs gs)
    (hs : (assignEach (tg :: tgs) X.env).map (·.2) = assign tg X.env :: (assignEach tgs X.env).map (·.2) := by rfl) : VGs2 X W (tg :: tgs) (bCons g gs) :=
  ⟨⟨fun pins sh σ H xs us Q I r h => (pgs_cons h1.pg h2.pg hs).run pins sh σ H xs us Q I r (by
    obtain ⟨δ, π, ds, j, δ', e, l, s, gg, k⟩ := h
    cases ds with
    | nil => cases gg
    | cons d dr =>
      cases xs with
      | nil => simp at l
      | cons x xr =>
        obtain ⟨δ1, g1, g2⟩ := Option.bind_eq_some_iff.mp (show (g d δ).bind (gs dr) = some δ' from gg)
        obtain ⟨d', e1, e2⟩ := e 0 x rfl
        cases e1
        refine ⟨x, xr, rfl, δ, π, d, j, δ1, e2, s, g1, fun σ1 H1 s1 => ?_⟩
        refine ⟨δ1, π, dr, j + 1, δ', fun i y hy => ?_, by simpa using l, s1, g2, k⟩
        obtain ⟨d2, q1, q2⟩ := e (i + 1) y (by simpa using hy)
        exact ⟨d2, by simpa using q1, by rw [← q2]; congr 1; omega⟩)⟩⟩
theorem vg2_tup {k n : Nat} {gs : List D → List Sl → Option (List Sl)} (hc : X.calm = true) (h : VGs2 X W tgs gs)
    (hn : (assignEach tgs X.env).length = n := by rfl) (hst : (assignEach tgs X.env).findIdx? (·.1) = none := by rfl) : VG2 X W (.Tuple tgs k pos) (bTup n gs) :=
  ⟨⟨fun pins sh σ H v u Q I r hh => (pg_tup (pos := pos) (k := k) hc h.pg hn hst).run pins sh σ H v u Q I r (by
    obtain ⟨δ, π, d, j, δ', e, s, g, kk⟩ := hh
    cases d with
    | tuple ds =>
      have g' : (if ds.length = n then gs ds δ else none) = some δ' := g
      by_cases hl : ds.length = n
      · rw [if_pos hl] at g'
        have s2 := s.copy e
        obtain ⟨S, y⟩ := s2.st
        rw [← List.append_assoc] at y
        obtain ⟨u', eu, rr⟩ := y.sh _ _ _ snoc_last
        cases eu
        cases rr with
        | @tup a0 xs0 _ h1 h2 =>
          refine ⟨_, _, rfl, h1.sq, by rw [h2.length]; exact hl, δ, π ++ shs xs0 ds, ds, π.length, δ', fun i x hx => ?_, h2.length, ?_, g', fun σ' H' s3 => kk σ' H' s3.drop⟩
          · obtain ⟨d2, q1, _⟩ := Rps.get' h2 hx
            refine ⟨d2, q1, ?_⟩
            rw [List.getElem?_append_right (by omega), Nat.add_sub_cancel_left]
            exact shs_at hx q1
          · have y3 : StF X.K W H (σ.zip δ ++ π) S := y.re (fun i => i) (fun i c q => .inr (snoc_old q)) (fun i j n q => absurd q n)
            exact ⟨s.len, S, by rw [← List.append_assoc]; exact y3.pushs h2⟩
      · rw [if_neg hl] at g'
        cases g'
    | _ => cases g)⟩⟩
theorem vs_asg2 {g : D → List Sl → Option (List Sl)} (he : VE X W wx e t) (hg : VG2 X W tg g) (hs : swapsWithSole [tg] e pos.line X.env = pure false := by rfl) (hw : swappedStores [tg] e X.env = pure none := by rfl)
    (h1 : (assignEach [tg] X.env).map (·.2) = [assign tg X.env] := by rfl) : VS X W wx (.Assign [tg] e pos) (vAsg t g) :=
  ⟨PS.imp (ps_asg he.pe hg.pg hs hw h1) fun Dd σ H ⟨δ, π, E, s, h, k⟩ => ⟨δ, π, _, _, s, h, fun rv δ' z v H' s' => by
    obtain ⟨z1, δ2, z2, z3⟩ := z
    exact ⟨δ', π ++ [(some v, .sh rv.get)], rv.get, π.length, δ2, snoc_last, s'.shr z1, z2, fun σ' H2 s2 => k.nx _ z3 _ _ s2.drop⟩, k.ex σ⟩⟩
/-! ### a field of an instance that was given away -/
theorem zkpos {f : Str} {d : D} : ∀ {ks ks' : List Str} {ds ds' : List D} {n : Nat}, (ks.map PyData.str).zip ds = (ks'.map PyData.str).zip ds' → ks'.length = ds'.length → kpos ks f = some n → ds[n]? = some d → ∃ n', kpos ks' f = some n' ∧ ds'[n']? = some d
  | [], _, _, _, _, _, _, h, _ => by cases h
  | _ :: _, _, [], _, n, _, _, _, h => by simp at h
  | k :: ks, [], e :: ds, _, n, h, _, _, _ => by simp at h
  | k :: ks, k' :: ks', e :: ds, [], n, _, h, _, _ => by simp at h
  | k :: ks, k' :: ks', e :: ds, e' :: ds', n, h, hl, h1, h2 => by
    rw [List.map_cons, List.map_cons, List.zip_cons_cons, List.zip_cons_cons] at h
    injection h with ha hb
    injection ha with hc hd
    injection hc with hc
    subst hc hd
    unfold kpos at h1 ⊢
    by_cases c : k = f
    · rw [if_pos c] at h1 ⊢
      cases h1
      exact ⟨0, rfl, h2⟩
    · rw [if_neg c] at h1 ⊢
      obtain ⟨m, q1, rfl⟩ := Option.map_eq_some_iff.mp h1
      obtain ⟨m', q2, q3⟩ := zkpos hb (by simpa using hl) q1 (by simpa using h2)
      exact ⟨m' + 1, by rw [q2]; rfl, by simpa using q3⟩
theorem Rp.objI {S : Addr → Prop} {v : V} {ks : List Str} {ds : List D} {f : Str} {n : Nat} {d : D} (h : Rp K S H v (objD C ks ds)) (hn : kpos ks f = some n) (hd : ds[n]? = some d) :
    ∃ (a dx : Addr) (fs : List (Str × V)) (y : V), v = .ref a ∧ H a = some (.ins C dx fs) ∧ fs.lookup f = some y ∧ Rp K S H y d := by
  have key : ∀ t, RpX K S H t → ∀ v, t = .one v (objD C ks ds) → ∃ (a dx : Addr) (fs : List (Str × V)) (y : V), v = .ref a ∧ H a = some (.ins C dx fs) ∧ fs.lookup f = some y ∧ Rp K S H y d := by
    intro t ht v e
    cases ht with
    | @obj a dx C' ks' xs ds' h1 h2 h3 h4 h5 h6 =>
      injection e with e1 e2
      unfold objD at e2
      injection e2 with e2
      injection e2 with ea eb
      injection ea with _ ea
      injection ea with ea
      have eC : C' = C := by exact_mod_cast ea
      subst e1 eC
      have l6 := Rps.length h6
      obtain ⟨m, q1, q2⟩ := zkpos eb.symm (by rw [h5, l6]) hn hd
      obtain ⟨y, q3, q4⟩ := Rps.get h6 q2
      exact ⟨a, dx, _, y, rfl, h1, lookup_at q1 q3, q4⟩
    | @dct a ks' xs es h1 h2 h3 h4 h5 h6 =>
      exfalso
      injection e with e1 e2
      unfold objD dctD at e2
      injection e2 with e2
      cases ks' with
      | nil => cases e2
      | cons k ks' =>
        cases es with
        | nil => cases e2
        | cons d es => cases k <;> cases e2
    | lck h1 h2 =>
      exfalso
      injection e with e1 e2
      unfold objD lkD at e2
      injection e2 with e2
      injection e2 with e2 _
      cases e2
    | rng h1 h2 =>
      exfalso
      injection e with e1 e2
      unfold objD rgD at e2
      injection e2 with e2
      injection e2 with e2 _
      cases e2
    | nil => cases e
    | cons _ _ => cases e
    | _ => injection e with e1 e2; cases e2
  exact key _ h _ rfl
def vFdZ (C : Addr) (t : VT) (f : Str) : VT := fun δ Q Xc => t δ (fun rv δ1 => ∃ ks ds d, rv = .sh (objD C ks ds) ∧ (∃ n, kpos ks f = some n ∧ ds[n]? = some d) ∧ Q (.sh d) δ1) Xc
theorem ve_fdZ {f : Str} (cl : Cls X.K C) (na : NoAttr X.K C f) (ha : VE X W wx a t) (hb : attributeBase a f X.env (eval a X.env) = eval a X.env := by rfl) : VE X W wx (.Attribute a f pos) (vFdZ C t f) := by
  refine ⟨PE.imp (pe_fld ha.pe hb) fun σ H Q h => ?_⟩
  obtain ⟨δ, π, Qd, Xd, s, h, k, xr⟩ := h
  refine ⟨δ, π, _, Xd, s, h, fun rv δ1 q v H1 s1 => ?_, xr⟩
  obtain ⟨ks, ds, d, rfl, ⟨n, hn, hd⟩, q⟩ := q
  obtain ⟨S, z⟩ := s1.st
  rw [← List.append_assoc] at z
  obtain ⟨u', eu, rr⟩ := z.sh _ _ _ snoc_last
  cases eu
  obtain ⟨p, dx, fs, y, rfl, h1, h2, h3⟩ := Rp.objI rr hn hd
  rw [List.append_assoc] at z
  exact ⟨p, C, dx, fs, y, rfl, h1, cl, na, h2, k _ _ q _ _ (s1.drop.pushF (SS.restrict z) h3)⟩
end
end ML

/-! ## M62 -/
set_option Elab.async false
set_option linter.all false
set_option autoImplicit false
set_option maxRecDepth 100000
set_option maxHeartbeats 4000000
namespace ML
open PySem PySem.Spec PyProof.Rows L2
/-! ### x[i] += e, of a list of one's own -/
section
variable {X : Cx} {W : Wd} {wx : WX} {pos : Pos}
/-- the item of a list, read by its place from the front -/
def rGetF (K : PySem.W.Frag) : V → V → Hp → VK → Prop := fun o i H Q => ∃ (p : Addr) (xs : List V) (n : Nat) (x : V), o = .ref p ∧ i = .int (n : Int) ∧ SqL K H p xs ∧ xs[n]? = some x ∧ Q x H
theorem get_front : PGet X (rGetF X.K) := by
  intro pins s σ H o i ov iv Q I ro ri h
  obtain ⟨p, xs, n, x, rfl, rfl, hq, hx, q⟩ := h
  cases ro
  obtain ⟨t, rfl⟩ := ri
  obtain ⟨its, r, pl, hz⟩ := I.list hq
  obtain ⟨w, ew, rw'⟩ := r.get hx
  have hn : n < xs.length := (List.getElem?_eq_some_iff.mp hx).1
  have big := line63
  exact getItem_listL pl.isList (Int.natCast_nonneg n) (by omega) (by rw [Int.toNat_natCast]; exact ew) ⟨x, H, I, rw', q⟩
def vAugI (c : Opr) (ti te : VT) : VSt := fun E δ => c.ev δ (fun rc δ1 => ti δ1 (fun rk δ2 => ∃ (n : Nat) (x : Int) (L : Nde) (p : Addr), rk = .sh (.int (n : Int)) ∧ c.loc rc δ2 = some L ∧ L.s = .lst p ∧ L.os[n]? = some (.leaf (.int x)) ∧
  te δ2 (fun re δ3 => ∃ (y : Int) (L' : Nde) (s' : Sh) (os' : List Ot), re = .sh (.int y) ∧ c.loc rc δ3 = some L' ∧ storeL L'.s L'.os (.int (n : Int)) (.leaf (.int (x + y))) = some (s', os') ∧ E.nx (L'.set δ3 s' os')) E.ex) E.ex) E.ex
theorem vs_augI {o : Opr} {ov ie e : Expr} {ps : Pos} {ti te : VT} (hu : X.A.units + 1 < cLine) (ho : VO X W wx ov o) (hi : VE X W wx ie ti) (he : VE X W wx e te)
    (ha : ∀ ov iv new, augStore ie ov iv new = (do holding [new, ov, iv] (setItem ov iv new); release [new, ov, iv] []; pure .next) := by intros; rfl) :
    VS X W wx (.AugAssign (.Subscript ov ie ps) .Add e pos) (vAugI o ti te) := by
  obtain ⟨to, A⟩ := ho
  refine ⟨PS.imp (ps_augS A.pe hi.pe get_front he.pe ip_add (PSet.or set_list (set_dict hu)) ha) fun Dd σ H ⟨δ, π, E, s, h, k⟩ => ?_⟩
  refine A.run σ H δ _ _ _ _ s h (k.ex σ) fun rc δ1 z1 cv H1 s1 i1 => ?_
  refine ⟨δ1, _, _, _, s1, z1, fun rk δ2 z2 kv H2 s2 => ?_, (k.ex σ).more⟩
  obtain ⟨n, x, L, p, q1, q2, q3, q4, q5⟩ := z2
  subst q1
  obtain ⟨S, y⟩ := s2.st
  have y1 : StF X.K W H2 (σ.zip δ2 ++ (π ++ ((some cv, rc) :: [(some kv, Sl.sh (.int (n : Int)))]))) S := by
    rw [List.append_assoc π] at y
    exact y
  obtain ⟨h1, h2, h3⟩ := Opr.loc_ok s2.len y1 i1 q2
  obtain ⟨xs, g1, g2, _⟩ := y1.mutL s2.len h1 h2
  have ek : (σ.zip δ2 ++ (π ++ ((some cv, rc) :: [(some kv, Sl.sh (.int (n : Int)))])))[(σ.zip δ2 ++ π).length + 1]? = some (some kv, Sl.sh (.int (n : Int))) := by
    rw [← List.append_assoc, List.getElem?_append_right (by omega), Nat.add_sub_cancel_left]
    rfl
  obtain ⟨u, eu, rk⟩ := y1.sh _ _ _ ek
  cases eu
  have ekv : kv = V.int (n : Int) := by cases rk; rfl
  subst ekv
  obtain ⟨x', ex, wx'⟩ := Ows.get g2 q4
  have hx : x' = .int x := by
    cases wx' with
    | leaf rp => cases rp; rfl
  subst hx
  rw [q3] at g1 h3
  refine ⟨p, xs, n, _, h3, rfl, SqL.of g1, ex, ?_⟩
  refine ⟨δ2, _, _, _, s2, q5, fun re δ3 z3 ev H3 s3 => ?_, (k.ex σ).more.more⟩
  obtain ⟨yy, L', s', os', q6, q7, q8, q9⟩ := z3
  subst q6
  obtain ⟨S3, z⟩ := s3.st
  have x1 : StF X.K W H3 (σ.zip δ3 ++ (π ++ ((some cv, rc) :: [(some (V.int (n : Int)), Sl.sh (.int (n : Int))), (some ev, Sl.sh (.int yy))]))) S3 := by
    rw [List.append_assoc, List.append_assoc] at z
    exact z
  obtain ⟨k1, k2, k3⟩ := Opr.loc_ok s3.len x1 i1 q7
  have ee : (σ.zip δ3 ++ (π ++ ((some cv, rc) :: [(some (V.int (n : Int)), Sl.sh (.int (n : Int))), (some ev, Sl.sh (.int yy))])))[(σ.zip δ3 ++ π).length + 2]? = some (some ev, Sl.sh (.int yy)) := by
    rw [← List.append_assoc, List.getElem?_append_right (by omega), Nat.add_sub_cancel_left]
    rfl
  obtain ⟨u, eu, re⟩ := x1.sh _ _ _ ee
  cases eu
  have eev : ev = V.int yy := by cases re; rfl
  subst eev
  have en : (σ.zip δ3 ++ (π ++ ((some cv, rc) :: [(some (V.int (n : Int)), Sl.sh (.int (n : Int))), (some (V.int yy), Sl.sh (.int yy))])))[(σ.zip δ3 ++ π).length + 1]? = some (some (V.int (n : Int)), Sl.sh (.int (n : Int))) := by
    rw [← List.append_assoc, List.getElem?_append_right (by omega), Nat.add_sub_cancel_left]
    rfl
  obtain ⟨u, eu, rn⟩ := x1.sh _ _ _ en
  cases eu
  obtain ⟨ys, m1, m2, m3⟩ := x1.mutL s3.len k1 k2
  refine ⟨_, _, rfl, rfl, ?_⟩
  obtain ⟨r1, r2, pm, xs', H', kp, hh, ho', fin⟩ := store_ok q8 m1 m2 (.leaf (.int _) : Ow X.K S3 H3 (V.int (x + yy)) (.leaf (.int (x + yy)))) rn
  rw [k3]
  refine fin _ ?_
  obtain ⟨y2, _⟩ := m3 s' xs' os' H' _ r1 r2 kp hh ho' (by
    have e0 : (Ot.leaf (PyData.int (x + yy))).adr = [] := rfl
    rw [e0, List.append_nil] at pm
    exact pm.append_right _)
  exact k.nx _ q9 _ _ ⟨by rw [Nde.set_len]; exact s3.len, S3, y2⟩
end
end ML

/-! ## M63 -/
set_option Elab.async false
set_option linter.all false
set_option autoImplicit false
set_option maxRecDepth 100000
set_option maxHeartbeats 4000000
namespace ML
open PySem PySem.Spec PyProof.Rows L2
/-! ### x[i] = e over anything, of a list of one's own: what stood there is given up -/
section
variable {X : Cx} {W : Wd} {wx : WX} {e : Expr} {pos : Pos} {t ti : VT}
theorem adrs_put_any {os : List Ot} {j : Nat} {o o' : Ot} (h : os[j]? = some o') : (Ot.adrs (os.set j o) ++ o'.adr).Perm (Ot.adrs os ++ o.adr) := by
  obtain ⟨e1, e2⟩ := adrs_split h
  rw [e1, e2]
  have p1 : (Ot.adrs (os.take j) ++ (o.adr ++ Ot.adrs (os.drop (j + 1))) ++ o'.adr).Perm (Ot.adrs (os.take j) ++ (o'.adr ++ Ot.adrs (os.drop (j + 1))) ++ o.adr) := by
    have a1 : ((o.adr ++ Ot.adrs (os.drop (j + 1))) ++ o'.adr).Perm ((o'.adr ++ Ot.adrs (os.drop (j + 1))) ++ o.adr) := by
      refine List.perm_append_comm.trans ?_
      rw [List.append_assoc]
      exact List.Perm.append_left _ List.perm_append_comm
    have a2 := List.Perm.append_left (Ot.adrs (os.take j)) a1
    rw [List.append_assoc (Ot.adrs (os.take j)), List.append_assoc (Ot.adrs (os.take j))]
    exact a2
  exact p1
def vPutX (t : VT) (c : Opr) (ti : VT) : VSt := fun E δ => t δ (fun rv δ1 => rv.isIn = true ∧ c.ev δ1 (fun rc δ2 => ti δ2 (fun rk δ3 => ∃ (o : Ot) (n : Nat) (L : Nde) (p : Addr), rv.ot = some o ∧ rk = .sh (.int (n : Int)) ∧ c.loc rc δ3 = some L ∧ L.s = .lst p ∧ n < L.os.length ∧ E.nx (L.set δ3 (.lst p) (L.os.set n o))) E.ex) E.ex) E.ex
theorem vs_putX {o : Opr} {ov ie : Expr} {ps : Pos} (he : VE X W wx e t) (ho : VO X W wx ov o) (hi : VE X W wx ie ti)
    (ha : ∀ v, assign (.Subscript ov ie ps) X.env v = (do
      let ov' ← holding [v] (eval ov X.env)
      let iv ← holding [v, ov'] (eval ie X.env)
      standAt ps
      holding [v, ov', iv] (setItem ov' iv v)
      release [v, ov', iv] []) := by intro _; rfl)
    (hs : swapsWithSole [.Subscript ov ie ps] e pos.line X.env = pure false := by rfl) (hw : swappedStores [.Subscript ov ie ps] e X.env = pure none := by rfl) (h1 : (assignEach [.Subscript ov ie ps] X.env).map (·.2) = [assign (.Subscript ov ie ps) X.env] := by rfl) :
    VS X W wx (.Assign [.Subscript ov ie ps] e pos) (vPutX t o ti) := by
  obtain ⟨te, A⟩ := ho
  refine ⟨PS.imp (ps_asg he.pe (pg_sub A.pe hi.pe set_list ha) hs hw h1) fun Dd σ H ⟨δ, π, E, s, h, k⟩ => ?_⟩
  refine ⟨δ, π, _, _, s, h, fun rv δ1 z v H1 s1 => ?_, k.ex σ⟩
  obtain ⟨z1, z2⟩ := z
  refine A.run σ H1 δ1 _ _ _ _ s1 z2 (k.ex σ).more fun rc δ2 z3 cv H2 s2 i2 => ?_
  refine ⟨δ2, _, _, _, s2, z3, fun rk δ3 z4 kv H3 s3 => ?_, (k.ex σ).more.more⟩
  obtain ⟨ot, n, L, p, q1, q2, q3, q4, q5, q6⟩ := z4
  subst q2
  obtain ⟨S, x⟩ := s3.st
  have x2 : StF X.K W H3 (σ.zip δ3 ++ (π ++ ((some v, rv) :: (some cv, rc) :: [(some kv, Sl.sh (.int (n : Int)))]))) S := by
    have y := x
    rw [List.append_assoc, List.append_assoc] at y
    exact y
  have x1 : StF X.K W H3 (σ.zip δ3 ++ ((π ++ [(some v, rv)]) ++ ((some cv, rc) :: [(some kv, Sl.sh (.int (n : Int)))]))) S := by
    rw [List.append_assoc π]
    exact x2
  obtain ⟨h1, h2, h3⟩ := Opr.loc_ok s3.len x1 i2 q3
  obtain ⟨xs, g1, g2, g3⟩ := x2.mutL s3.len h1 h2
  have at0 : (σ.zip δ3 ++ (π ++ ((some v, rv) :: (some cv, rc) :: [(some kv, Sl.sh (.int (n : Int)))])))[(σ.zip δ3 ++ π).length]? = some (some v, rv) := by
    rw [← List.append_assoc, List.getElem?_append_right (Nat.le_refl _), Nat.sub_self]
    rfl
  have at2 : (σ.zip δ3 ++ (π ++ ((some v, rv) :: (some cv, rc) :: [(some kv, Sl.sh (.int (n : Int)))])))[(σ.zip δ3 ++ π).length + 2]? = some (some kv, Sl.sh (.int (n : Int))) := by
    rw [← List.append_assoc, List.getElem?_append_right (by omega), Nat.add_sub_cancel_left]
    rfl
  have wo : Ow X.K S H3 v ot := (x2.arg at0 (ot_fit q1)).ot q1
  obtain ⟨u, eu, rk⟩ := x2.sh _ _ _ at2
  cases eu
  have ekv : kv = V.int (n : Int) := by cases rk; rfl
  subst ekv
  have hlen := g2.length
  obtain ⟨old, eold⟩ : ∃ old, L.os[n]? = some old := ⟨_, List.getElem?_eq_getElem q5⟩
  have hh : H3 p = some (.lst xs) := by rw [q4] at g1; exact g1
  have en : ixN xs.length (n : Int) = some n := by
    have b1 : (0 : Int) ≤ (n : Int) := Int.natCast_nonneg n
    have b2 : (n : Int) < (xs.length : Int) := by omega
    unfold L2.ixN
    rw [if_pos b1, if_pos b2, Int.toNat_natCast]
  rw [h3, q4]
  refine ⟨p, xs, _, n, rfl, rfl, hh, en, ?_⟩
  have wset : Ows X.K S H3 (xs.set n v) (L.os.set n ot) := g2.set wo
  have e0 : adrC ((some v, rv) :: (some cv, rc) :: [(some (V.int (n : Int)), Sl.sh (.int (n : Int)))]) = ot.adr ++ adrC ((some cv, rc) :: [(some (V.int (n : Int)), Sl.sh (.int (n : Int)))]) := by
    cases rv with
    | sh d => cases q1; simp [adrC, Ot.adr]
    | ow o => cases q1; simp [adrC]
    | _ => cases q1
  obtain ⟨y2, _⟩ := g3 (.lst p) (xs.set n v) (L.os.set n ot) (upd H3 p (.lst (xs.set n v))) (old.adr ++ adrC ((some cv, rc) :: [(some (V.int (n : Int)), Sl.sh (.int (n : Int)))])) (by rw [q4]) (by rw [q4])
    (fun b hb => upd_ne (fun z => hb (by rw [q4, z]; exact List.mem_cons_self))) upd_same wset (by
      rw [e0, ← List.append_assoc, ← List.append_assoc]
      exact (adrs_put_any eold).append_right _)
  exact k.nx _ q6 _ _ ⟨by rw [Nde.set_len]; exact s3.len, S, y2⟩
end
end ML

/-! ## M64 -/
set_option Elab.async false
set_option linter.all false
set_option autoImplicit false
set_option maxRecDepth 100000
set_option maxHeartbeats 4000000
namespace ML
open PySem PySem.Spec PyProof.Rows L2
/-! ### texts in order -/
def leT (a b : Str) : Prop := ¬ b.cps.toList < a.cps.toList
instance (a b : Str) : Decidable (leT a b) := inferInstanceAs (Decidable (¬ _))
theorem leT_trans {a b c : Str} (h1 : leT a b) (h2 : leT b c) : leT a c := by
  have x1 : a.cps.toList ≤ b.cps.toList := List.not_lt.mp h1
  have x2 : b.cps.toList ≤ c.cps.toList := List.not_lt.mp h2
  exact List.not_lt.mpr (List.le_trans x1 x2)
theorem leT_anti {a b : Str} (h1 : leT a b) (h2 : leT b a) : a = b := by
  have x1 : a.cps.toList ≤ b.cps.toList := List.not_lt.mp h1
  have x2 : b.cps.toList ≤ a.cps.toList := List.not_lt.mp h2
  obtain ⟨a⟩ := a
  obtain ⟨b⟩ := b
  have : a = b := Array.toList_inj.mp (List.le_antisymm x1 x2)
  rw [this]
theorem leT_total (a b : Str) : leT a b ∨ leT b a := by
  rcases List.le_total a.cps.toList b.cps.toList with h | h
  · exact .inl (List.not_lt.mpr h)
  · exact .inr (List.not_lt.mpr h)
def insT (x : Str) : List Str → List Str
  | [] => [x]
  | y :: r => if leT x y then x :: y :: r else y :: insT x r
def srtT : List Str → List Str
  | [] => []
  | x :: r => insT x (srtT r)
theorem insT_perm (x : Str) : ∀ l : List Str, (insT x l).Perm (x :: l)
  | [] => List.Perm.refl _
  | y :: r => by
    unfold insT
    split
    · exact List.Perm.refl _
    · exact ((insT_perm x r).cons y).trans (List.Perm.swap x y r)
theorem srtT_perm : ∀ l : List Str, (srtT l).Perm l
  | [] => List.Perm.refl _
  | x :: r => (insT_perm x _).trans ((srtT_perm r).cons x)
abbrev SrtT (l : List Str) : Prop := l.Pairwise leT
theorem insT_srt {x : Str} : ∀ {l : List Str}, SrtT l → SrtT (insT x l)
  | [], _ => by unfold insT; simp
  | y :: r, h => by
    have h1 := List.pairwise_cons.mp h
    unfold insT
    split
    · rename_i c
      refine List.pairwise_cons.mpr ⟨fun z hz => ?_, h⟩
      rcases List.mem_cons.mp hz with rfl | hz
      · exact c
      · exact leT_trans c (h1.1 z hz)
    · rename_i c
      refine List.pairwise_cons.mpr ⟨fun z hz => ?_, insT_srt h1.2⟩
      rcases List.mem_cons.mp ((insT_perm x r).mem_iff.mp hz) with rfl | hz
      · exact (leT_total z y).elim (fun q => absurd q c) id
      · exact h1.1 z hz
theorem srtT_srt : ∀ l : List Str, SrtT (srtT l)
  | [] => List.Pairwise.nil
  | x :: r => insT_srt (srtT_srt r)
theorem srtT_uniq : ∀ {l m : List Str}, l.Perm m → SrtT l → SrtT m → l = m
  | [], m, h, _, _ => by rw [List.nil_perm.mp h]
  | a :: l, [], h, _, _ => by have := h.length_eq; simp at this
  | a :: l, b :: m, h, h1, h2 => by
    have p1 := List.pairwise_cons.mp h1
    have p2 := List.pairwise_cons.mp h2
    have e : a = b := by
      rcases List.mem_cons.mp (h.mem_iff.mpr List.mem_cons_self : b ∈ a :: l) with e | e1
      · exact e.symm
      · rcases List.mem_cons.mp (h.mem_iff.mp List.mem_cons_self : a ∈ b :: m) with e | e2
        · exact e
        · exact leT_anti (p1.1 b e1) (p2.1 a e2)
    subst e
    rw [srtT_uniq h.cons_inv p1.2 p2.2]
theorem rising_srt : ∀ {r : List Str} {x : Str}, risingS x r = true → SrtT (x :: r)
  | [], x, _ => by simp
  | y :: r, x, h => by
    unfold risingS at h
    rw [Bool.and_eq_true, ltCps_eq] at h
    have h1 : leT x y := by
      have := h.1
      unfold leT
      simpa using this
    have h2 := rising_srt h.2
    refine List.pairwise_cons.mpr ⟨fun z hz => ?_, h2⟩
    rcases List.mem_cons.mp hz with rfl | hz
    · exact h1
    · exact leT_trans h1 ((List.pairwise_cons.mp h2).1 z hz)
theorem srtT_of {l m : List Str} (h : m.Perm l) (hs : sortedS m = true) : m = srtT l := by
  refine srtT_uniq (h.trans (srtT_perm l).symm) ?_ (srtT_srt l)
  cases m with
  | nil => exact List.Pairwise.nil
  | cons x r => exact rising_srt hs
def txs? : List D → Option (List Str)
  | [] => some []
  | .str x :: r => (txs? r).map (x :: ·)
  | _ => none
theorem txs?_map (xs : List Str) : txs? (xs.map .str) = some xs := by
  induction xs with
  | nil => rfl
  | cons x xs ih => show (txs? (xs.map .str)).map (x :: ·) = _; rw [ih]; rfl
theorem txs?_of : ∀ {ds : List D} {xs : List Str}, txs? ds = some xs → ds = xs.map .str
  | [], xs, h => by cases h; rfl
  | d :: r, xs, h => by
    cases d with
    | str x =>
      obtain ⟨m, h1, h2⟩ := Option.map_eq_some_iff.mp (show (txs? r).map (x :: ·) = some xs from h)
      subst h2
      rw [txs?_of h1]
      rfl
    | _ => cases h
/-- sorted(xs), xs a list of fewer than 64 texts -/
def fSortT (d : D) : Option Rs := match d with
  | .list ds => (txs? ds).bind fun xs => if xs.length < 64 then some (.nw ((srtT xs).map .str)) else none
  | _ => none
theorem fSortT_map {xs : List Str} (h : xs.length < 64) : fSortT (.list (xs.map .str)) = some (.nw ((srtT xs).map .str)) := by
  show (txs? (xs.map .str)).bind _ = _
  rw [txs?_map]
  exact if_pos h
section
variable {K : PySem.W.Frag}
theorem snd_sortT : Snd1 K (fun v H Q => rSortedS K [v] H Q) fSortT := by
  intro S H x d res Q hx hf hq
  cases d with
  | list ds =>
    have hf' : (txs? ds).bind (fun xs => if xs.length < 64 then some (Rs.nw ((srtT xs).map .str)) else none) = some res := hf
    obtain ⟨ns, h1, h2⟩ := Option.bind_eq_some_iff.mp hf'
    by_cases hl : ns.length < 64
    · rw [if_pos hl] at h2
      cases h2
      have e := txs?_of h1
      subst e
      obtain ⟨p, xs, rfl, h2, h3⟩ := Rq.list hx
      have hok := Rps.strs_ok h3
      rw [Rps.strs_v h3] at h2
      refine ⟨p, ns, rfl, h2, hl, fun ys q pm srt hn => ?_⟩
      rw [srtT_of pm srt]
      exact hq _ _ (.lst hn (Rps.strs _ fun x hx => hok x ((srtT_perm ns).mem_iff.mp hx)))
    · rw [if_neg hl] at h2; cases h2
  | _ => cases hf
/-! ### sorted(d), d a dict with fewer than 64 texts as keys -/
def keysT : List (D × D) → Option (List Str)
  | [] => some []
  | (.str i, _) :: r => (keysT r).map (i :: ·)
  | _ => none
theorem keysT_of : ∀ {ks : List Key} {xs : List V} {ds : List D} {ns : List Str}, ks.length = xs.length → xs.length = ds.length → keysT ((ks.map kD).zip ds) = some ns → (ks.zip xs).map (·.1) = ns.map Sum.inr
  | [], [], [], ns, _, _, h => by cases h; rfl
  | [], [], _ :: _, _, _, h, _ => by simp at h
  | [], _ :: _, _, _, h, _, _ => by simp at h
  | _ :: _, [], _, _, h, _, _ => by simp at h
  | _ :: _, _ :: _, [], _, _, h, _ => by simp at h
  | k :: ks, x :: xs, d :: ds, ns, h1, h2, h => by
    cases k with
    | inr i =>
      obtain ⟨m, q1, q2⟩ := Option.map_eq_some_iff.mp (show (keysT ((ks.map kD).zip ds)).map (i :: ·) = some ns from h)
      subst q2
      rw [List.zip_cons_cons, List.map_cons, keysT_of (by simpa using h1) (by simpa using h2) q1]
      rfl
    | inl z => cases h
theorem keysT_dct : ∀ {ns : List Str} {ds : List D}, ns.length = ds.length → keysT (((ns.map Sum.inr).map kD).zip ds) = some ns
  | [], [], _ => rfl
  | [], _ :: _, h => by simp at h
  | _ :: _, [], h => by simp at h
  | n :: ns, d :: ds, h => by
    show (keysT (((ns.map Sum.inr).map kD).zip ds)).map (n :: ·) = _
    rw [keysT_dct (by simpa using h)]
    rfl
def fSortTD (d : D) : Option Rs := match d with
  | .dict kvs => if isDct kvs = true then (keysT kvs).bind fun ns => if ns.length < 64 then some (.nw ((srtT ns).map .str)) else none else none
  | _ => none
theorem fSortTD_dct {ns : List Str} {ds : List D} (h : ns.length = ds.length) (hl : ns.length < 64) : fSortTD (dctD (ns.map Sum.inr) ds) = some (.nw ((srtT ns).map .str)) := by
  show (if isDct _ = true then _ else _) = _
  rw [if_pos isDct_of, keysT_dct h]
  show (if ns.length < 64 then _ else _) = _
  rw [if_pos hl]
theorem snd_sortTD : SndN1 true K (fun v H Q => ∃ (a : Addr) (kvs : List (Key × V)) (ks : List Str), [v] = [.ref a] ∧ Rd H a (.dK kvs) ∧ kvs.map (·.1) = ks.map Sum.inr ∧ ks.length < 64 ∧
    ∀ (ys : List Str) (p : Addr), ys.Perm ks → sortedS ys = true → H p = none → Q (.ref p) (upd H p (.lst (ys.map V.str)))) fSortTD := by
  intro S H x d res Q hx hf hq
  cases d with
  | dict kvs =>
    have hf' : (if isDct kvs = true then (keysT kvs).bind fun ns => if ns.length < 64 then some (Rs.nw ((srtT ns).map .str)) else none else none) = some res := hf
    by_cases hd : isDct kvs = true
    · rw [if_pos hd] at hf'
      obtain ⟨ns, h1, h2⟩ := Option.bind_eq_some_iff.mp hf'
      by_cases hl : ns.length < 64
      · rw [if_pos hl] at h2
        cases h2
        obtain ⟨p, ks, xs, ds, rfl, rfl, g1, g2, g3, g4, g5⟩ := RqA.dictI hx hd
        have hk := keysT_of g2 g3 h1
        refine ⟨p, _, ns, rfl, g1, hk, hl, fun ys q pm srt hn => ?_⟩
        rw [srtT_of pm srt]
        refine hq _ _ (.lst hn (Rps.strs _ fun y hy => ?_))
        have hy2 : (Sum.inr y : Key) ∈ (ks.zip xs).map (·.1) := by
          rw [hk]
          exact List.mem_map.mpr ⟨y, (srtT_perm ns).mem_iff.mp hy, rfl⟩
        obtain ⟨z, hz, e⟩ := List.mem_map.mp hy2
        have := g5 _ (List.of_mem_zip hz).1
        rw [e] at this
        exact this
      · rw [if_neg hl] at h2; cases h2
    · rw [if_neg hd] at hf'; cases hf'
  | _ => cases hf
end
end ML

/-! ## M65 -/
set_option Elab.async false
set_option linter.all false
set_option autoImplicit false
set_option maxRecDepth 100000
set_option maxHeartbeats 4000000
namespace ML
open PySem PySem.Spec PyProof.Rows L2
/-! ### a dict comprehension of two fors: its turns -/
section
variable {P : Program} {w : World} {A : Around} {R : Result → Shared → Prop} {s : Shared} {kx vx ta ia tb ib : Expr} {fa fb : List Expr} {sc : Scope} {pos : Pos} {it acc : Value} {D : Addr} {env : Env}
/-- the tests of a clause, by the language -/
abbrev askAll (env : Env) (cs : List Expr) : Sem Bool := forIn cs true fun c r => if r = true then do let ok ← isTrue c env (eval c env); pure (ForInStep.yield ok) else pure (ForInStep.yield r)
abbrev dc2E (kx vx ta ia tb ib : Expr) (fa fb : List Expr) (sc : Scope) (pos : Pos) : Expr := .DictComp kx vx [⟨ta, ia, fa, 0⟩, ⟨tb, ib, fb, 0⟩] sc pos
/-- what errors come to in a block -/
abbrev badC (P : Program) (w : World) (A : Around) (env : Env) (R : Result → Shared → Prop) : Value → Shared → Prop := notedBy (model P w) A env fun x t => R (.error x) t
theorem d2_outer (hfold : ∀ x, foldedSetIterable ib env x = pure x) (J : Nat → Shared → Prop)
    (go : ∀ n t, J n t → wpAny (model P w) A (pyNext it) (fun r t1 => match r with
      | none => R (.ok .next) t1
      | some v => wpAny (model P w) A (letOwnedTupleGo ta it v) (fun _ t2 => wpAny (model P w) A (assign ta env v) (fun _ t3 => wpAny (model P w) A (askAll env fa) (fun yes t4 =>
          if yes = true then wpAny (model P w) A (eval ib env) (fun x t5 => wpAny (model P w) A (pyIter x) (fun it2 t6 =>
            codeAny (model P w) A (.compStart (dc2E kx vx ta ia tb ib fa fb sc pos) 1 it2 acc env) (fun z t7 => match z with
              | .ok _ => ∃ k, k < n ∧ J k t7
              | .error _ => False) t6) (badC P w A env R) t5) (badC P w A env R) t4
          else ∃ k, k < n ∧ J k t4) (badC P w A env R) t3) (badC P w A env R) t2) (badC P w A env R) t1) (badC P w A env R) t)
    (n : Nat) (h0 : J n s) : codeAny (model P w) A (.compLoop (dc2E kx vx ta ia tb ib fa fb sc pos) 0 it acc env) R s := by
  refine codeAny_loop rfl J (fun k t hj => ?_) n h0
  refine wpAny_noted (m := compTurn (dc2E kx vx ta ia tb ib fa fb sc pos) 0 it acc env) ?_
  show wpAny _ A (standAt ia.pos >>= _) _ _ t
  have g1 := go k t hj
  refine wpAny_bind (wpAny_standAt (wpAny_bind (wpAny_mono g1 (fun r t1 g2 => ?_) fun _ _ z => z)))
  match r, g2 with
  | none, g2 => exact wpAny_pure g2
  | some v, g2 =>
    refine wpAny_bind (wpAny_mono g2 (fun _ t2 g3 => wpAny_bind (wpAny_mono g3 (fun _ t3 g4 => ?_) fun _ _ z => z)) fun _ _ z => z)
    refine wpAny_bind (wpAny_mono g4 (fun yes t4 g5 => ?_) fun _ _ z => z)
    match yes, g5 with
    | false, g5 => exact wpAny_pure ⟨rfl, g5⟩
    | true, g5 =>
      refine wpAny_bind (wpAny_mono (if_pos rfl ▸ g5) (fun x t5 g6 => wpAny_bind (wpAny_standAt ?_)) fun _ _ z => z)
      refine wpAny_bind (wpAny_of_eq (hfold x) (wpAny_bind (wpAny_holding (wpAny_mono g6 (fun it2 t6 g7 => ?_) fun _ _ z => z))))
      refine wpAny_bind (wpAny_runOwn ?_)
      rw [Around.mark_none]
      refine codeAny_mono g7 fun z t7 g8 => ?_
      match z, g8 with
      | .ok _, g8 => first
          | exact wpAny_pure ⟨rfl, g8⟩
          | exact wpAny_bind (wpAny_pure (wpAny_pure ⟨rfl, g8⟩))
      | .error _, g8 => exact False.elim g8
/-- the inner clause's turns -/
theorem d2_inner (J : Nat → Shared → Prop)
    (go : ∀ n t, J n t → wpAny (model P w) A (pyNext it) (fun r t1 => match r with
      | none => R (.ok .next) t1
      | some v => wpAny (model P w) A (letOwnedTupleGo tb it v) (fun _ t2 => wpAny (model P w) A (assign tb env v) (fun _ t3 => wpAny (model P w) A (askAll env fb) (fun yes t4 =>
          if yes = true then wpAny (model P w) A (eval kx env) (fun y t5 => wpAny (model P w) A (eval vx env) (fun z t6 => wpAny (model P w) A (dictSet D y z) (fun _ t7 => ∃ k, k < n ∧ J k t7) (badC P w A env R) t6) (badC P w A env R) t5) (badC P w A env R) t4
          else ∃ k, k < n ∧ J k t4) (badC P w A env R) t3) (badC P w A env R) t2) (badC P w A env R) t1) (badC P w A env R) t)
    (n : Nat) (h0 : J n s) : codeAny (model P w) A (.compLoop (dc2E kx vx ta ia tb ib fa fb sc pos) 1 it (.ref D) env) R s := by
  refine codeAny_loop rfl J (fun k t hj => ?_) n h0
  refine wpAny_noted (m := compTurn (dc2E kx vx ta ia tb ib fa fb sc pos) 1 it (.ref D) env) ?_
  show wpAny _ A (standAt ib.pos >>= _) _ _ t
  have g1 := go k t hj
  refine wpAny_bind (wpAny_standAt (wpAny_bind (wpAny_mono g1 (fun r t1 g2 => ?_) fun _ _ z => z)))
  match r, g2 with
  | none, g2 => exact wpAny_pure g2
  | some v, g2 =>
    refine wpAny_bind (wpAny_mono g2 (fun _ t2 g3 => wpAny_bind (wpAny_mono g3 (fun _ t3 g4 => ?_) fun _ _ z => z)) fun _ _ z => z)
    refine wpAny_bind (wpAny_mono g4 (fun yes t4 g5 => ?_) fun _ _ z => z)
    match yes, g5 with
    | false, g5 => exact wpAny_pure ⟨rfl, g5⟩
    | true, g5 =>
      refine wpAny_bind (wpAny_bind (wpAny_mono (if_pos rfl ▸ g5) (fun y t5 g6 => ?_) fun _ _ z => z))
      refine wpAny_bind (wpAny_holding (wpAny_mono g6 (fun z t6 g7 => ?_) fun _ _ z => z))
      exact wpAny_bind (wpAny_standAt (wpAny_holding (wpAny_mono g7 (fun _ t7 g8 => wpAny_pure ⟨rfl, g8⟩) fun _ _ z => z)))
/-- the inner clause starts -/
theorem d2_start (now : codeAny (model P w) A (.compLoop (dc2E kx vx ta ia tb ib fa fb sc pos) 1 it acc env) R s)
    (again : wpAny (model P w) A (pyIter it) (fun it2 t => codeAny (model P w) A (.compLoop (dc2E kx vx ta ia tb ib fa fb sc pos) 1 it2 acc env) R t) (badC P w A env R) s) :
    codeAny (model P w) A (.compStart (dc2E kx vx ta ia tb ib fa fb sc pos) 1 it acc env) R s := by
  apply codeAny_of_tree
  refine wpAny_notedAt (m := compStart (dc2E kx vx ta ia tb ib fa fb sc pos) 1 it acc env) ?_
  show wpAny _ A (ask >>= _) _ _ s
  refine wpAny_bind (wpAny_askSetting (wpAny_ite ?_))
  split
  · first
      | exact wpAny_pure ⟨rfl, now⟩
      | exact wpAny_bind (wpAny_pure (wpAny_pure ⟨rfl, now⟩))
  · first
      | exact wpAny_bind (wpAny_rule (wpAny_bind (wpAny_standAt (wpAny_bind (wpAny_mono again (fun it2 t g => wpAny_pure ⟨rfl, g⟩) fun _ _ z => z)))))
      | (refine wpAny_bind (wpAny_rule ?_)
         show wpAny _ A (standAt ib.pos >>= _) _ _ s
         exact wpAny_bind (wpAny_standAt (wpAny_bind (wpAny_mono again (fun it2 t g => wpAny_pure ⟨rfl, g⟩) fun _ _ z => z))))
end
/-- {k: v for tg in iter if .. for tg1 in iter1 if ..}: D the new dict; Nx: behind a turn of the outer clause, Nx1: of the inner one -/
def tDc2 (wi : TI) (g : TG) (tt : TT) (wi1 : TI) (g1 : TG) (tt1 : TT) (tk tv : TE) (vs vs1 : List Nat) : TE := fun σ H Q => wi σ H fun J Ha => ∀ D, Ha D = none →
  ∃ W : Nat → Nat → Hp → Prop, (∃ m, W 0 m (upd Ha D (.dK []))) ∧ ∀ i m Hb, W i m Hb → (J.stop i Hb ∧ Q (.ref D) Hb) ∨ (J.go i Hb ∧ ∃ Nx : Hp → Prop,
    (∀ Hn, Nx Hn → ∃ m2, m2 < m ∧ W (i + 1) m2 Hn) ∧ ∀ x Hc, J.yld i Hb x Hc → g x (wipe σ vs) Hc fun σ2 Hd => wipe σ2 vs = wipe σ vs ∧ tt σ2 Hd fun yes He =>
      if yes = true then wi1 σ2 He fun J1 Hf => ∃ W1 : Nat → Nat → Hp → Prop, (∃ m, W1 0 m Hf) ∧ ∀ j k Hg, W1 j k Hg → (J1.stop j Hg ∧ Nx Hg) ∨ (J1.go j Hg ∧ ∃ Nx1 : Hp → Prop,
        (∀ Hn, Nx1 Hn → ∃ k2, k2 < k ∧ W1 (j + 1) k2 Hn) ∧ ∀ x Hh, J1.yld j Hg x Hh → g1 x (wipe σ2 vs1) Hh fun σ3 Hi => wipe σ3 vs1 = wipe σ2 vs1 ∧ tt1 σ3 Hi fun yes Hj =>
          if yes = true then tk σ3 Hj fun y Hk => tv σ3 Hk fun z Hl => ∃ kvs key, y = kV key ∧ Hl D = some (.dK kvs) ∧ kvs.length < sizeLine ∧ Nx1 (upd Hl D (.dK (putK kvs key z))) else Nx1 Hj)
      else Nx He)
section
variable {X : Cx}
abbrev InBlk (X : Cx) (sc : Scope) (T : Cx → Prop) : Prop := ∀ (s : Shared) (H : Hp) (C : Addr) (cl : List (Str × Addr)) (fp : List Addr), T (X.blk s H sc (compEnvC sc cl C X.env) fp)
theorem dc2_core {pins : List (Addr × Obj)} {s : Shared} {σ : L2.St} {H : Hp} {Q : VK} {kx vx tg iter tg1 iter1 : Expr} {ifs ifs1 : List Expr} {sc : Scope} {own : List (Str × Nat)} {vs1 : List Nat} {pos pos' : Pos} {wi wi1 : TI} {g g1 : TG} {tt tt1 : TT} {tk tv : TE} {use : Option (Value → Sem Unit)} {Qf : Value → Shared → Prop}
    (hc : X.calm = true) (hN : X.N.Nodup) (I : Inv X pins σ H s) (hi : PI X tg iter wi) (ok : BlkOk X.N X.env.scope sc own) (hv : ∀ i ∈ vs1, i ∈ own.map (·.2))
    (hg : InBlk X sc fun B => PG B tg g) (ht : InBlk X sc fun B => PTs B ifs tt) (hi1 : InBlk X sc fun B => PI B tg1 iter1 wi1) (hg1 : InBlk X sc fun B => PG B tg1 g1) (ht1 : InBlk X sc fun B => PTs B ifs1 tt1)
    (hk : InBlk X sc fun B => PE B kx tk) (he : InBlk X sc fun B => PE B vx tv) (hs : ∀ x, foldedSetIterable iter X.env x = pure x) (hs1 : ∀ env x, foldedSetIterable iter1 env x = pure x)
    (h : tDc2 wi g tt wi1 g1 tt1 tk tv (own.map (·.2)) vs1 σ H Q)
    (post : ∀ D C t m H', Inv X pins σ H' t → Q (.ref D) H' → t.heap.Ns C m → FpOk X pins H' C → compPost (model X.prog X.w) X.A X.xe use Qf (.ref D) C (.ok .next) t) :
    wpAny (model X.prog X.w) X.A (comprehension (dc2E kx vx tg iter tg1 iter1 ifs ifs1 sc pos) sc X.env pos' newDict false (eval iter X.env) use) Qf X.xe s := by
  have hclo : ∀ y ∈ sc.names, y.2 = .free → ∃ c, X.env.cells.lookup y.1 = some c := fun y hy e => (ok.free y hy e).elim (fun z => I.ok.has _ (.inl z)) fun z => I.ok.has _ (.inr z)
  refine wpAny_comprehension_free (use := use) (e := dc2E kx vx tg iter tg1 iter1 ifs ifs1 sc pos) rfl hs (closure_ok hclo) ok.kind (fun y hy e => (ok.uniq y hy).trans (by rw [e])) (thn (hi.run pins s σ H _ I h) fun xv t1 gx => thn gx fun iv t2 hx => ?_)
  obtain ⟨it, fp, tn, J, Ha, rfl, Ia, T, hta, hfa, q⟩ := hx
  refine wpAny_newObj_type (newEnv_comp ?_)
  generalize eD : t2.heap.objs.size = D
  have noD : Ha D = none := Ia.hok.fresh (Nat.le_of_eq eD)
  obtain ⟨W, ⟨m0, w0⟩, turn⟩ := q D noD
  -- behind the new dict
  generalize e3 : ({ t2 with heap := t2.heap.push { cls := .type "dict", data := .dict #[] } } : Shared) = t3
  have hp3 : t3.heap = t2.heap.push { cls := .type "dict", data := .dict #[] } := by rw [← e3]
  have up3 : ∀ (b : Addr) (o : Obj), t2.heap.get? b = some o → t3.heap.get? b = some o := fun b o e => by rw [hp3]; exact Heap.get?_push_of_some _ e
  have Ib : Inv X pins σ (upd Ha D (.dK [])) t3 := by
    rw [← e3]
    exact Ia.laid (t' := t2.toks) (fun b o e => Heap.get?_push_of_some _ e) (Nat.le_of_eq eD) (eD ▸ dk_empty t2.heap Ia.big)
  have ltD : ∀ b ∈ fp, b < t2.heap.objs.size := fun b hb => (T.obj _ _ hta b hb).elim fun o z => Heap.lt_size z.1
  have hfb : ∀ b ∈ fp, FpOk X pins (upd Ha D (.dK [])) b ∧ b < t3.heap.objs.size := fun b hb => by
    have l := ltD b hb
    have ne : b ≠ D := fun z => Nat.lt_irrefl _ (by rw [← eD] at z; rw [z] at l; exact l)
    refine ⟨⟨by rw [upd_ne ne]; exact (hfa b hb).1, (hfa b hb).2⟩, ?_⟩
    rw [hp3, Heap.size_push]
    exact Nat.lt_succ_of_lt l
  have sb3 : tn 0 t3.heap := T.keep _ _ _ hta fun b _ o e => up3 b o e
  have B0 := block_start Ib ok hN hfb
  -- the block's rules at this place
  generalize eH : upd Ha D (.dK []) = Hb at Ib B0 hfb w0
  have cg := hg t3 Hb t3.heap.objs.size (cellsFrom (t3.heap.objs.size + 1) sc.names (cloFrom X.env.cells sc.names [])) fp
  have ct := ht t3 Hb t3.heap.objs.size (cellsFrom (t3.heap.objs.size + 1) sc.names (cloFrom X.env.cells sc.names [])) fp
  have ci1 := hi1 t3 Hb t3.heap.objs.size (cellsFrom (t3.heap.objs.size + 1) sc.names (cloFrom X.env.cells sc.names [])) fp
  have cg1 := hg1 t3 Hb t3.heap.objs.size (cellsFrom (t3.heap.objs.size + 1) sc.names (cloFrom X.env.cells sc.names [])) fp
  have ct1 := ht1 t3 Hb t3.heap.objs.size (cellsFrom (t3.heap.objs.size + 1) sc.names (cloFrom X.env.cells sc.names [])) fp
  have ck := hk t3 Hb t3.heap.objs.size (cellsFrom (t3.heap.objs.size + 1) sc.names (cloFrom X.env.cells sc.names [])) fp
  have cv := he t3 Hb t3.heap.objs.size (cellsFrom (t3.heap.objs.size + 1) sc.names (cloFrom X.env.cells sc.names [])) fp
  show codeAny _ _ (.compStart (dc2E kx vx tg iter tg1 iter1 ifs ifs1 sc pos) 0 (.ref it) (.ref D) (compEnvC sc (cellsFrom (t3.heap.objs.size + 1) sc.names (cloFrom X.env.cells sc.names [])) t3.heap.objs.size X.env)) _ { t3 with heap := pushCells (t3.heap.push { cls := .type "dict", data := .dict #[] }) sc.names }
  generalize eC : compEnvC sc (cellsFrom (t3.heap.objs.size + 1) sc.names (cloFrom X.env.cells sc.names [])) t3.heap.objs.size X.env = ce at B0 cg ct ci1 cg1 ct1 ck cv ⊢
  have loc : ce.locals = t3.heap.objs.size := by rw [← eC]; rfl
  generalize e4 : ({ t3 with heap := pushCells (t3.heap.push { cls := .type "dict", data := .dict #[] }) sc.names } : Shared) = t4 at B0 ⊢
  have sb4 : tn 0 t4.heap := T.keep _ _ _ sb3 fun b _ o e => by rw [← e4]; exact pushCells_keeps _ _ _ _ (Heap.get?_push_of_some _ e)
  -- the iterator stands still while the block runs
  have still : ∀ {σ' : L2.St} {H' : Hp} {t : Shared}, Inv (X.blk t3 Hb sc ce fp) [] σ' H' t → (∀ b ∈ fp, H' b = none) → ∀ b ∈ fp, FpOk (X.blk t3 Hb sc ce fp) [] H' b := fun {σ' H' t} Iz z b hb =>
    ⟨z b hb, (Iz.ok.exf b hb).1, Iz.ok.exfs b hb, .inl hb, fun x c e => (Iz.ok.exf b hb).2 x c e, fun p hp => nomatch (show p ∈ ([] : List (Addr × Obj)) ++ [] from hp)⟩
  -- where the outer loop stands
  let JO : Nat → Shared → Prop := fun n t => ∃ i H', Inv (X.blk t3 Hb sc ce fp) [] (wipe σ (own.map (·.2))) H' t ∧ tn i t.heap ∧ (∀ b ∈ fp, H' b = none) ∧ W i n H'
  have loop : codeAny (model X.prog X.w) X.A (.compLoop (dc2E kx vx tg iter tg1 iter1 ifs ifs1 sc pos) 0 (.ref it) (.ref D) ce) (compPost (model X.prog X.w) X.A X.xe use Qf (.ref D) t3.heap.objs.size) t4 := by
    refine d2_outer (hs1 ce) JO ?_ m0 ⟨0, Hb, B0, sb4, fun b hb => (hfb b hb).1.1, w0⟩
    rintro n t5 ⟨i, H5, I5, s5, n5, w5⟩
    rcases turn i n H5 w5 with ⟨fin, qq⟩ | ⟨on, Nx, back, step⟩
    · -- nothing is left: back in the def
      refine thnF (T.done (X.blk t3 Hb sc ce fp) rfl rfl rfl hc i [] t5 _ H5 (fun _ _ => False) I5 (still I5 n5) s5 fin) fun r t6 ⟨er, I6⟩ => ?_
      subst er
      have I7 : Inv X pins σ H5 t6 := Ib.call' (ch := fp) I6.os I6.base I6.hok I6.bare fun b hb => let z := (hfb b hb).1.2; ⟨z.2.2.1, z.1, z.2.2.2.1, z.2.2.2.2⟩
      have nl : H5 t3.heap.objs.size = none := loc ▸ (show H5 ce.locals = none from I6.free)
      obtain ⟨m, hm, _⟩ := I6.loc
      have hm2 : t6.heap.Ns t3.heap.objs.size m := loc ▸ (show t6.heap.Ns ce.locals m from hm)
      exact post D t3.heap.objs.size t6 m H5 I7 qq hm2 (Ib.fpOk (Nat.le_refl _) nl)
    · -- one thing more of the outer clause
      refine thnF (T.item (X.blk t3 Hb sc ce fp) rfl rfl rfl hc i [] t5 _ H5 (fun _ _ => False) I5 (still I5 n5) s5 on) fun r t6 ⟨u, er, more⟩ => ?_
      subst er
      refine thnF more fun _ t7 ⟨x, H7, I7, r7, y7, s7, n7⟩ => ?_
      have I7p := I7.pinned (still I7 n7) (T.obj _ _ s7)
      refine thnF (cg.run _ t7 _ H7 x u _ I7p r7 (step x H7 y7)) fun _ t8 ⟨σ8, H8, I8, wp8, q8⟩ => ?_
      refine thnF (ct.run _ t8 σ8 H8 _ I8 q8) fun yes t9 ⟨H9, I9, q9⟩ => ?_
      have len8 : (wipe σ (own.map (·.2))).length = σ8.length := (congrArg List.length wp8).symm.trans (wipe_length _ _)
      have low8 : ∀ (j : Nat) v, (wipe σ (own.map (·.2)))[j]? = some (some v) → σ8[j]? = some (some v) ∧ j ∉ own.map (·.2) := fun j v e => wipe_some (wp8 ▸ e)
      -- the end of such a turn
      have home : ∀ {σz : L2.St} {t : Shared} {Hz : Hp}, Inv (X.blk t3 Hb sc ce fp) ([] ++ pinsAt fp t7.heap) σz Hz t → σz.length = σ8.length → (∀ (j : Nat) v, σ8[j]? = some (some v) → j ∉ own.map (·.2) → σz[j]? = some (some v)) → Nx Hz → ∃ k, k < n ∧ JO k t := by
        intro σz t Hz Iz lz kz nx
        obtain ⟨k, lt, wk⟩ := back Hz nx
        have pins : ∀ b ∈ fp, ∀ o, t7.heap.get? b = some o → t.heap.get? b = some o ∧ Hz b = none := fun b hb o e =>
          have z := Iz.pin (b, o) (List.mem_append_right _ (List.mem_append_right _ (mem_pinsAt hb e)))
          ⟨z.1, z.2.1⟩
        refine ⟨k, lt, i + 1, Hz, (Iz.unpinned (pins := [])).weak (len8.trans lz.symm) (fun j v e => kz j v (low8 j v e).1 (low8 j v e).2), T.keep _ _ _ s7 fun b hb o e => (pins b hb o e).1, fun b hb => ?_, wk⟩
        obtain ⟨o, e, _⟩ := T.obj _ _ s7 b hb
        exact (pins b hb o e).2
      match yes, q9 with
      | false, q9 => exact home I9 rfl (fun j v e _ => e) q9
      | true, q9 =>
        refine thnF (ci1.run _ t9 σ8 H9 _ I9 (if_pos rfl ▸ q9)) fun xv ta gx => thnF gx fun iv tb gy => ?_
        obtain ⟨itb, fpb, tnb, Jb, Hc, rfl, Ic, Tb, sc0, fc, W1, ⟨m1, w1⟩, turn1⟩ := gy
        have stillb : ∀ {H' : Hp}, (∀ b ∈ fpb, H' b = none) → ∀ b ∈ fpb, FpOk (X.blk t3 Hb sc ce fp) ([] ++ pinsAt fp t7.heap) H' b := fun z b hb => ⟨z b hb, (fc b hb).2⟩
        let JI : Nat → Shared → Prop := fun k t => ∃ j H', Inv (X.blk t3 Hb sc ce fp) ([] ++ pinsAt fp t7.heap) (wipe σ8 vs1) H' t ∧ tnb j t.heap ∧ (∀ b ∈ fpb, H' b = none) ∧ W1 j k H'
        have inner : codeAny (model X.prog X.w) X.A (.compLoop (dc2E kx vx tg iter tg1 iter1 ifs ifs1 sc pos) 1 (.ref itb) (.ref D) ce) (fun z t => match z with
            | .ok _ => ∃ k, k < n ∧ JO k t
            | .error _ => False) tb := by
          refine d2_inner JI ?_ m1 ⟨0, Hc, Ic.weak (wipe_length _ _) (fun j v e => (wipe_some e).1), sc0, fun b hb => (fc b hb).1, w1⟩
          rintro k tc ⟨j, H12, I12, s12, n12, w12⟩
          rcases turn1 j k H12 w12 with ⟨fin1, nx1⟩ | ⟨on1, Nx1, back1, step1⟩
          · refine thnF (Tb.done (X.blk t3 Hb sc ce fp) rfl rfl rfl hc j _ tc (wipe σ8 vs1) H12 (fun _ _ => False) I12 (stillb n12) s12 fin1) fun r td ⟨er, I13⟩ => ?_
            subst er
            refine home I13 (wipe_length σ8 vs1) (fun j v e nin => ?_) nx1
            rw [wipe_out fun z => nin (hv j z)]
            exact e
          · refine thnF (Tb.item (X.blk t3 Hb sc ce fp) rfl rfl rfl hc j _ tc (wipe σ8 vs1) H12 (fun _ _ => False) I12 (stillb n12) s12 on1) fun r td ⟨u1, er, more1⟩ => ?_
            subst er
            refine thnF more1 fun _ te ⟨x1, H14, I14, r14, y14, s14, n14⟩ => ?_
            have I14p := I14.pinned (stillb n14) (Tb.obj _ _ s14)
            refine thnF (cg1.run _ te (wipe σ8 vs1) H14 x1 u1 _ I14p r14 (step1 x1 H14 y14)) fun _ tf ⟨σ15, H15, I15, wp15, q15⟩ => ?_
            refine thnF (ct1.run _ tf σ15 H15 _ I15 q15) fun yes1 tg ⟨H16, I16, q16⟩ => ?_
            have next : ∀ {t : Shared} {Hz : Hp}, Inv (X.blk t3 Hb sc ce fp) (([] ++ pinsAt fp t7.heap) ++ pinsAt fpb te.heap) σ15 Hz t → Nx1 Hz → ∃ l, l < k ∧ JI l t := by
              intro t Hz Iz nx
              obtain ⟨l, lt, wl⟩ := back1 Hz nx
              have pins : ∀ b ∈ fpb, ∀ o, te.heap.get? b = some o → t.heap.get? b = some o ∧ Hz b = none := fun b hb o e =>
                have z := Iz.pin (b, o) (List.mem_append_right _ (List.mem_append_right _ (mem_pinsAt hb e)))
                ⟨z.1, z.2.1⟩
              refine ⟨l, lt, j + 1, Hz, Iz.unpinned.weak ((congrArg List.length wp15).symm.trans (wipe_length _ _)) (fun j v e => (wipe_some (wp15 ▸ e)).1), Tb.keep _ _ _ s14 fun b hb o e => (pins b hb o e).1, fun b hb => ?_, wl⟩
              obtain ⟨o, e, _⟩ := Tb.obj _ _ s14 b hb
              exact (pins b hb o e).2
            match yes1, q16 with
            | false, q16 => exact next I16 q16
            | true, q16 =>
              refine thnF (ck.run _ tg σ15 H16 _ I16 (if_pos rfl ▸ q16)) fun zk th ⟨yk, H17, I17, r17, q17⟩ => ?_
              refine thnF (cv.run _ th σ15 H17 _ I17 q17) fun zv ti ⟨yv, H18, I18, r18, kvs, key, ek, hD, hz, nx⟩ => ?_
              subst ek
              exact d_dictSet (X := X.blk t3 Hb sc ce fp) I18 hD hz r17 r18 fun tj I19 => next I19 nx
        exact d2_start inner (Tb.self X.A 0 _ _ _ sc0 inner)
  exact codeAny_compStart_dict loop (T.self X.A 0 _ _ _ sb4 loop)
theorem pe_dc2 {kx vx tg iter tg1 iter1 : Expr} {ifs ifs1 : List Expr} {sc : Scope} {own : List (Str × Nat)} {vs1 : List Nat} {pos : Pos} {wi wi1 : TI} {g g1 : TG} {tt tt1 : TT} {tk tv : TE}
    (hc : X.calm = true) (hN : X.N.Nodup) (hi : PI X tg iter wi) (ok : BlkOk X.N X.env.scope sc own) (hv : ∀ i ∈ vs1, i ∈ own.map (·.2))
    (hg : InBlk X sc fun B => PG B tg g) (ht : InBlk X sc fun B => PTs B ifs tt) (hi1 : InBlk X sc fun B => PI B tg1 iter1 wi1) (hg1 : InBlk X sc fun B => PG B tg1 g1) (ht1 : InBlk X sc fun B => PTs B ifs1 tt1)
    (hk : InBlk X sc fun B => PE B kx tk) (he : InBlk X sc fun B => PE B vx tv) (hs : ∀ x, foldedSetIterable iter X.env x = pure x := by intro _; rfl) (hs1 : ∀ env x, foldedSetIterable iter1 env x = pure x := by intro _ _; rfl) :
    PE X (.DictComp kx vx [⟨tg, iter, ifs, 0⟩, ⟨tg1, iter1, ifs1, 0⟩] sc pos) (tDc2 wi g tt wi1 g1 tt1 tk tv (own.map (·.2)) vs1) := by
  refine ⟨fun pins s σ H Q I h => ?_⟩
  rw [arm_eval_DictComp]
  refine dc2_core hc hN I hi ok hv hg ht hi1 hg1 ht1 hk he hs hs1 h fun D C t m Hz Iz q ns f => ?_
  obtain ⟨f0, f1, f2, f3, f4, f5⟩ := f
  exact ⟨m, ns, fun h2 same => ⟨.ref D, Hz, Iz.turned (t' := t.toks) (fun b o hb e => (same.2 b hb).trans e) f0 f1 f3 f4 f5, rfl, q⟩⟩
end
end ML

/-! ## M66 -/
set_option Elab.async false
set_option linter.all false
set_option autoImplicit false
set_option maxRecDepth 100000
set_option maxHeartbeats 4000000
namespace ML
open PySem PySem.Spec PyProof.Rows L2
/-! ### {k: v for .. in .. if .. for .. in .. if ..} on data -/
def DC2i (g1 : D → List Sl → Option (List Sl)) (cond1 : VTt) (tk tv : VT) (vs1 : List Nat) (its1 : List D) (ks : List Key) (ds : List D) (δ5 : List Sl) (Qn : List Key → List D → List Sl → Prop) : Prop := ∃ I1 : Nat → List Key → List D → List Sl → Prop, I1 0 ks ds (wipeD δ5 vs1) ∧
  (∀ j d1 ks1 ds1 δ6, its1[j]? = some d1 → ks1.length = ds1.length → I1 j ks1 ds1 δ6 → ∃ δ7, g1 d1 δ6 = some δ7 ∧ cond1 δ7 (fun b1 δ8 => if b1 = true then ks1.length < 1000000 ∧ vS tk δ8 (fun rk δ9 => ∃ dk kk, rk = .sh dk ∧ kidx dk = some kk ∧ vS tv δ9 (fun rv δ10 => ∃ dv, rv = .sh dv ∧ I1 (j + 1) (putKD ks1 ds1 kk dv).1 (putKD ks1 ds1 kk dv).2 (wipeD δ10 vs1)) noX) noX else I1 (j + 1) ks1 ds1 (wipeD δ8 vs1)) noX) ∧
  ∀ ks1 ds1 δ6, ks1.length = ds1.length → I1 its1.length ks1 ds1 δ6 → Qn ks1 ds1 δ6
def DC2 (g : D → List Sl → Option (List Sl)) (cond : VTt) (it1 : VTs) (g1 : D → List Sl → Option (List Sl)) (cond1 : VTt) (tk tv : VT) (vs vs1 : List Nat) (its : List D) (δ1 : List Sl) (Q : Sl → List Sl → Prop) : Prop := ∃ I : Nat → List Key → List D → List Sl → Prop, I 0 [] [] (wipeD δ1 vs) ∧
  (∀ k d ks ds δ2, its[k]? = some d → ks.length = ds.length → I k ks ds δ2 → ∃ δ3, g d δ2 = some δ3 ∧ cond δ3 (fun b δ4 => if b = true then it1 δ4 (fun its1 δ5 => DC2i g1 cond1 tk tv vs1 its1 ks ds δ5 (fun ks1 ds1 δ6 => I (k + 1) ks1 ds1 (wipeD δ6 vs))) noX else I (k + 1) ks ds (wipeD δ4 vs)) noX) ∧
  ∀ ks ds δ2, ks.length = ds.length → I its.length ks ds δ2 → ∀ p, Q (dc p ks ds) δ2
def vDc2 (it : VTs) (g : D → List Sl → Option (List Sl)) (cond : VTt) (it1 : VTs) (g1 : D → List Sl → Option (List Sl)) (cond1 : VTt) (tk tv : VT) (vs vs1 : List Nat) : VT := fun δ Q Xc => it δ (fun its δ1 => DC2 g cond it1 g1 cond1 tk tv vs vs1 its δ1 Q) Xc
theorem vDc2_eq (it : VTs) (g : D → List Sl → Option (List Sl)) (cond : VTt) (it1 : VTs) (g1 : D → List Sl → Option (List Sl)) (cond1 : VTt) (tk tv : VT) (vs vs1 : List Nat) (δ : List Sl) (Q : Sl → List Sl → Prop) (Xc : Exn → List Sl → Prop) : vDc2 it g cond it1 g1 cond1 tk tv vs vs1 δ Q Xc = it δ (fun its δ1 => DC2 g cond it1 g1 cond1 tk tv vs vs1 its δ1 Q) Xc := rfl
theorem DC2i_by {g1 : D → List Sl → Option (List Sl)} {cond1 : VTt} {tk tv : VT} {vs1 : List Nat} {its1 : List D} {ks : List Key} {ds : List D} {δ5 : List Sl} {Qn : List Key → List D → List Sl → Prop} (I1 : Nat → List Key → List D → List Sl → Prop) (h0 : I1 0 ks ds (wipeD δ5 vs1))
    (hs : ∀ j d1 ks1 ds1 δ6, its1[j]? = some d1 → ks1.length = ds1.length → I1 j ks1 ds1 δ6 → ∃ δ7, g1 d1 δ6 = some δ7 ∧ cond1 δ7 (fun b1 δ8 => if b1 = true then ks1.length < 1000000 ∧ vS tk δ8 (fun rk δ9 => ∃ dk kk, rk = .sh dk ∧ kidx dk = some kk ∧ vS tv δ9 (fun rv δ10 => ∃ dv, rv = .sh dv ∧ I1 (j + 1) (putKD ks1 ds1 kk dv).1 (putKD ks1 ds1 kk dv).2 (wipeD δ10 vs1)) noX) noX else I1 (j + 1) ks1 ds1 (wipeD δ8 vs1)) noX)
    (he : ∀ ks1 ds1 δ6, ks1.length = ds1.length → I1 its1.length ks1 ds1 δ6 → Qn ks1 ds1 δ6) : DC2i g1 cond1 tk tv vs1 its1 ks ds δ5 Qn := ⟨I1, h0, hs, he⟩
theorem DC2_by {g : D → List Sl → Option (List Sl)} {cond : VTt} {it1 : VTs} {g1 : D → List Sl → Option (List Sl)} {cond1 : VTt} {tk tv : VT} {vs vs1 : List Nat} {its : List D} {δ1 : List Sl} {Q : Sl → List Sl → Prop} (I : Nat → List Key → List D → List Sl → Prop) (h0 : I 0 [] [] (wipeD δ1 vs))
    (hs : ∀ k d ks ds δ2, its[k]? = some d → ks.length = ds.length → I k ks ds δ2 → ∃ δ3, g d δ2 = some δ3 ∧ cond δ3 (fun b δ4 => if b = true then it1 δ4 (fun its1 δ5 => DC2i g1 cond1 tk tv vs1 its1 ks ds δ5 (fun ks1 ds1 δ6 => I (k + 1) ks1 ds1 (wipeD δ6 vs))) noX else I (k + 1) ks ds (wipeD δ4 vs)) noX)
    (he : ∀ ks ds δ2, ks.length = ds.length → I its.length ks ds δ2 → ∀ p, Q (dc p ks ds) δ2) : DC2 g cond it1 g1 cond1 tk tv vs vs1 its δ1 Q := ⟨I, h0, hs, he⟩
section
variable {X : Cx} {W : Wd} {wx : WX} {H : Hp} {σ : L2.St} {pos : Pos}
theorem dc2_run {it it1 : VTs} {ws ws1 vs vs1 : List Nat} {g g1 : D → List Sl → Option (List Sl)} {tc tc1 : VTt} {tk tv : VT} {Q : VK} (hw : ∀ i ∈ ws, i ∈ vs) (hw1 : ∀ i ∈ ws1, i ∈ vs1) (hv : ∀ i ∈ vs1, i ∈ vs) (h : lE X.K W wx (vDc2 it g tc it1 g1 tc1 tk tv vs vs1) σ H Q) :
    tDc2 (lI X.K W wx it) (lG X.K W ws g) (lT X.K W wx0 tc) (lI X.K W wx0 it1) (lG X.K W ws1 g1) (lT X.K W wx0 tc1) (lE X.K W wx0 (vS tk)) (lE X.K W wx0 (vS tv)) vs vs1 σ H Q := by
  obtain ⟨δ, π, Qd, Xd, s, h, k, xr⟩ := h
  refine ⟨δ, π, _, Xd, s, h, fun its δ1 q J ν H1 s1 iok => ?_, xr⟩
  obtain ⟨I, i0, step, last⟩ := q
  intro Da hD
  have s1w : SS X.K W H1 (L2.wipe σ vs) (wipeD δ1 vs) (π ++ ν) := s1.wipe
  obtain ⟨S1, x1⟩ := s1w.st
  have s2 : SS X.K W (upd H1 Da (.dK [])) (L2.wipe σ vs) (wipeD δ1 vs) (π ++ ν ++ [(some (.ref Da), dc Da [] [])]) := by
    refine ⟨s1w.len, fun b => S1 b ∨ b = Da, ?_⟩
    rw [← List.append_assoc]
    exact x1.newS (u := .dK []) (s := .dct Da []) (xs := []) (ds := []) hD rfl ⟨by rw [upd_same]; rfl, rfl, List.nodup_nil, fun k hk => by cases hk⟩ .nil
  refine ⟨fun i m H' => m = its.length - i ∧ i ≤ its.length ∧ ∃ ks ds δ2, ks.length = ds.length ∧ I i ks ds δ2 ∧ SS X.K W H' (L2.wipe σ vs) δ2 (π ++ ν ++ [(some (.ref Da), dc Da ks ds)]), ⟨_, rfl, Nat.zero_le _, [], [], _, rfl, i0, s2⟩, ?_⟩
  rintro i m H2 ⟨rfl, hi2, ks, ds, δ2, hkd, iv, s2⟩
  by_cases hlt : i < its.length
  · have hd : its[i]? = some its[i] := List.getElem?_eq_getElem hlt
    obtain ⟨go, yld⟩ := iok.go (L2.wipe σ vs) δ2 H2 π [(some (.ref Da), dc Da ks ds)] i _ s2 hd
    obtain ⟨δ3, g3, b3⟩ := step i _ ks ds δ2 hd hkd iv
    refine .inr ⟨go, fun H' => ∃ ks ds δ2, ks.length = ds.length ∧ I (i + 1) ks ds δ2 ∧ SS X.K W H' (L2.wipe σ vs) δ2 (π ++ ν ++ [(some (.ref Da), dc Da ks ds)]), fun H' ⟨ks', ds', δ4, l5, iv4, s4⟩ => ⟨_, by omega, rfl, hlt, ks', ds', δ4, l5, iv4, s4⟩, fun x H' hy => ?_⟩
    have s3 := yld x H' hy
    refine ⟨δ2, _, _, (π ++ ν ++ [(some (V.ref Da), dc Da ks ds)]).length, δ3, snoc_last, s3, g3, fun σ2 w s4 => ?_⟩
    have ew : L2.wipe σ2 vs = L2.wipe σ vs := by rw [wipe_sub w hw, wipe_wipe]
    refine ⟨ew, δ3, _, _, _, s4, b3, fun bb δ4 q H3 s5 => ?_, fun _ _ q => q.elim⟩
    have back : ∀ {H' : Hp} {δ5 : List Sl} {ρ : List Cell}, SS X.K W H' σ2 δ5 ρ → SS X.K W H' (L2.wipe σ vs) (wipeD δ5 vs) ρ := fun {H' δ5 ρ} z => by
      have := z.wipe (vs := vs)
      rw [ew] at this
      exact this
    cases bb with
    | false =>
      have q1 : I (i + 1) ks ds (wipeD δ4 vs) := q
      exact iteF ⟨ks, ds, _, hkd, q1, back s5.drop⟩
    | true =>
      refine iteT ?_
      refine ⟨δ4, _, _, _, s5.drop, q, fun its1 δ5 q5 J1 ν1 H4 s6 iok1 => ?_, fun _ _ q => q.elim⟩
      obtain ⟨I1, i10, step1, last1⟩ := q5
      have s7 : SS X.K W H4 (L2.wipe σ2 vs1) (wipeD δ5 vs1) (π ++ ν ++ ν1 ++ [(some (.ref Da), dc Da ks ds)]) := s6.swap.wipe
      refine ⟨fun j m H' => m = its1.length - j ∧ j ≤ its1.length ∧ ∃ ks1 ds1 δ6, ks1.length = ds1.length ∧ I1 j ks1 ds1 δ6 ∧ SS X.K W H' (L2.wipe σ2 vs1) δ6 (π ++ ν ++ ν1 ++ [(some (.ref Da), dc Da ks1 ds1)]), ⟨_, rfl, Nat.zero_le _, ks, ds, _, hkd, i10, s7⟩, ?_⟩
      rintro j m1 H5 ⟨rfl, hj2, ks1, ds1, δ6, hkd1, iv1, s8⟩
      by_cases hlt1 : j < its1.length
      · have hd1 : its1[j]? = some its1[j] := List.getElem?_eq_getElem hlt1
        obtain ⟨go1, yld1⟩ := iok1.go (L2.wipe σ2 vs1) δ6 H5 (π ++ ν) [(some (.ref Da), dc Da ks1 ds1)] j _ s8 hd1
        obtain ⟨δ7, g7, b7⟩ := step1 j _ ks1 ds1 δ6 hd1 hkd1 iv1
        refine .inr ⟨go1, fun H' => ∃ ks1 ds1 δ6, ks1.length = ds1.length ∧ I1 (j + 1) ks1 ds1 δ6 ∧ SS X.K W H' (L2.wipe σ2 vs1) δ6 (π ++ ν ++ ν1 ++ [(some (.ref Da), dc Da ks1 ds1)]), fun H' ⟨ks', ds', δ4, l5, iv4, s4⟩ => ⟨_, by omega, rfl, hlt1, ks', ds', δ4, l5, iv4, s4⟩, fun x1 H' hy1 => ?_⟩
        have s9 := yld1 x1 H' hy1
        refine ⟨δ6, _, _, (π ++ ν ++ ν1 ++ [(some (V.ref Da), dc Da ks1 ds1)]).length, δ7, snoc_last, s9, g7, fun σ3 w1 s10 => ?_⟩
        have ew1 : L2.wipe σ3 vs1 = L2.wipe σ2 vs1 := by rw [wipe_sub w1 hw1, wipe_wipe]
        refine ⟨ew1, δ7, _, _, _, s10, b7, fun bb1 δ8 q8 H6 s11 => ?_, fun _ _ q => q.elim⟩
        have back1 : ∀ {H' : Hp} {δ5 : List Sl} {ρ : List Cell}, SS X.K W H' σ3 δ5 ρ → SS X.K W H' (L2.wipe σ2 vs1) (wipeD δ5 vs1) ρ := fun {H' δ5 ρ} z => by
          have := z.wipe (vs := vs1)
          rw [ew1] at this
          exact this
        cases bb1 with
        | false =>
          have q1 : I1 (j + 1) ks1 ds1 (wipeD δ8 vs1) := q8
          exact iteF ⟨ks1, ds1, _, hkd1, q1, back1 s11.drop⟩
        | true =>
          have q1 : ks1.length < 1000000 ∧ vS tk δ8 (fun rk δ9 => ∃ dk kk, rk = .sh dk ∧ kidx dk = some kk ∧ vS tv δ9 (fun rv δ10 => ∃ dv, rv = .sh dv ∧ I1 (j + 1) (putKD ks1 ds1 kk dv).1 (putKD ks1 ds1 kk dv).2 (wipeD δ10 vs1)) noX) noX := q8
          refine iteT ?_
          refine ⟨δ8, _, _, _, s11, q1.2, fun rk δ9 q2 y H7 s12 => ?_, fun _ _ q => q.elim⟩
          obtain ⟨dk, kk, rfl, ek, q3⟩ := q2
          refine ⟨δ9, _, _, _, s12, q3, fun rv δ10 q4 z H8 s13 => ?_, fun _ _ q => q.elim⟩
          obtain ⟨dv, rfl, q5⟩ := q4
          obtain ⟨xs, ey, hl, lx, s14⟩ := s13.intoD ek
          refine ⟨_, kk, ey, hl, ?_, _, _, _, (putKD_len hkd1).1, q5, back1 s14⟩
          rw [List.length_zip]
          exact Nat.lt_of_le_of_lt (Nat.min_le_left _ _) (Nat.lt_trans q1.1 (by decide))
      · obtain rfl : j = its1.length := by omega
        refine .inl ⟨iok1.stop (L2.wipe σ2 vs1) δ6 H5 (π ++ ν) _ _ s8 (Nat.le_refl _), ks1, ds1, _, hkd1, last1 _ _ _ hkd1 iv1, ?_⟩
        have := s8.mid.wipe (vs := vs)
        rwa [show L2.wipe (L2.wipe σ2 vs1) vs = L2.wipe σ vs from (wipe_sub (ws := vs1) wipe_wipe hv).trans ew] at this
  · obtain rfl : i = its.length := by omega
    refine .inl ⟨iok.stop (L2.wipe σ vs) δ2 H2 π _ _ s2 (Nat.le_refl _), k _ _ (last _ _ _ hkd iv Da) _ _ ?_⟩
    exact (s2.mid).unwipe
abbrev InV (X : Cx) (sc : Scope) (T : Cx → Prop) : Prop := ∀ (s : Shared) (H : Hp) (C : Addr) (cl : List (Str × Addr)) (fp : List Addr), T (X.blk s H sc (compEnvC sc cl C X.env) fp)
theorem ve_dc2 {kx vx tg iter tg1 iter1 : Expr} {ifs ifs1 : List Expr} {scope : Scope} {own : List (Str × Nat)} {vs1 : List Nat} {it it1 : VTs} {ws ws1 : List Nat} {g g1 : D → List Sl → Option (List Sl)} {tc tc1 : VTt} {tk tv : VT} (hc : X.calm = true) (hN : X.N.Nodup) (hi : VI X W wx tg iter it) (ok : BlkOk X.N X.env.scope scope own) (hv : ∀ i ∈ vs1, i ∈ own.map (·.2))
    (hg : InV X scope fun B => VG B W tg ws g) (ht : InV X scope fun B => VCs B W wx0 ifs tc) (hi1 : InV X scope fun B => VI B W wx0 tg1 iter1 it1) (hg1 : InV X scope fun B => VG B W tg1 ws1 g1) (ht1 : InV X scope fun B => VCs B W wx0 ifs1 tc1)
    (hk : InV X scope fun B => VE B W wx0 kx tk) (he : InV X scope fun B => VE B W wx0 vx tv)
    (hw : ∀ i ∈ ws, i ∈ own.map (·.2)) (hw1 : ∀ i ∈ ws1, i ∈ vs1) (hs : ∀ x, foldedSetIterable iter X.env x = pure x := by intro _; rfl) (hs1 : ∀ env x, foldedSetIterable iter1 env x = pure x := by intro _ _; rfl) :
    VE X W wx (.DictComp kx vx [⟨tg, iter, ifs, 0⟩, ⟨tg1, iter1, ifs1, 0⟩] scope pos) (vDc2 it g tc it1 g1 tc1 tk tv (own.map (·.2)) vs1) :=
  ⟨PE.imp (pe_dc2 (g := lG X.K W ws g) (tt := lT X.K W wx0 tc) (wi1 := lI X.K W wx0 it1) (g1 := lG X.K W ws1 g1) (tt1 := lT X.K W wx0 tc1) hc hN hi.pi ok hv (fun s H C cl fp => (hg s H C cl fp).pg) (fun s H C cl fp => (ht s H C cl fp).pt) (fun s H C cl fp => (hi1 s H C cl fp).pi) (fun s H C cl fp => (hg1 s H C cl fp).pg) (fun s H C cl fp => (ht1 s H C cl fp).pt) (fun s H C cl fp => (ve_sh (hk s H C cl fp)).pe) (fun s H C cl fp => (ve_sh (he s H C cl fp)).pe) hs hs1) fun σ H Q h => dc2_run hw hw1 hv h⟩
theorem vs_setDc2 {i : Nat} {x : Str} {px spos : Pos} {kx vx tg iter tg1 iter1 : Expr} {ifs ifs1 : List Expr} {scope : Scope} {own : List (Str × Nat)} {vs1 : List Nat} {it it1 : VTs} {ws ws1 : List Nat} {g g1 : D → List Sl → Option (List Sl)} {tc tc1 : VTt} {tk tv : VT} (hc : X.calm = true) (hN : X.N.Nodup) (hx : X.N[i]? = some x) (hxl : X.env.scope.names.lookup x = some .local)
    (hsw : swapsWith (.DictComp kx vx [⟨tg, iter, ifs, 0⟩, ⟨tg1, iter1, ifs1, 0⟩] scope pos) (some (.Name x px)) spos.line X.env = pure true) (hi : VI X W wx tg iter it) (ok : BlkOk X.N X.env.scope scope own) (hv : ∀ i ∈ vs1, i ∈ own.map (·.2))
    (hg : InV X scope fun B => VG B W tg ws g) (ht : InV X scope fun B => VCs B W wx0 ifs tc) (hi1 : InV X scope fun B => VI B W wx0 tg1 iter1 it1) (hg1 : InV X scope fun B => VG B W tg1 ws1 g1) (ht1 : InV X scope fun B => VCs B W wx0 ifs1 tc1)
    (hk : InV X scope fun B => VE B W wx0 kx tk) (he : InV X scope fun B => VE B W wx0 vx tv)
    (hw : ∀ i ∈ ws, i ∈ own.map (·.2)) (hw1 : ∀ i ∈ ws1, i ∈ vs1) (hs : ∀ x, foldedSetIterable iter X.env x = pure x := by intro _; rfl) (hs1 : ∀ env x, foldedSetIterable iter1 env x = pure x := by intro _ _; rfl) :
    VS X W wx (.Assign [.Name x px] (.DictComp kx vx [⟨tg, iter, ifs, 0⟩, ⟨tg1, iter1, ifs1, 0⟩] scope pos) spos) (vSet i (vDc2 it g tc it1 g1 tc1 tk tv (own.map (·.2)) vs1)) := by
  refine ⟨⟨fun pins s σ H D I h => ?_⟩⟩
  obtain ⟨δ, π, E, st, h, k⟩ := h
  have h2 : tDc2 (lI X.K W wx it) (lG X.K W ws g) (lT X.K W wx0 tc) (lI X.K W wx0 it1) (lG X.K W ws1 g1) (lT X.K W wx0 tc1) (lE X.K W wx0 (vS tk)) (lE X.K W wx0 (vS tv)) (own.map (·.2)) vs1 σ H (fun x H1 => gName i x σ H1 D.nx) :=
    dc2_run (Q := fun x H1 => gName i x σ H1 D.nx) hw hw1 hv ⟨δ, π, _, _, st, h, fun rv δ' z v H' s' => k.nx _ z.2 _ _ (s'.put z.1), k.ex σ⟩
  rw [exec_Assign_Name_used _ _ _ _ hsw]
  refine wpAny_bind (wpAny_standAt (wpAny_bind ?_))
  show wpAny _ X.A (do let _ ← comprehension (dc2E kx vx tg iter tg1 iter1 ifs ifs1 scope pos) scope X.env (firstIterPos [⟨tg, iter, ifs, 0⟩, ⟨tg1, iter1, ifs1, 0⟩] pos) newDict false (eval iter X.env) (some (assign (.Name x px) X.env))) _ _ s
  refine wpAny_bind (thn (dc2_core (Qf := fun _ s' => SP X pins D .next s') hc hN I hi.pi ok hv (fun s H C cl fp => (hg s H C cl fp).pg) (fun s H C cl fp => (ht s H C cl fp).pt) (fun s H C cl fp => (hi1 s H C cl fp).pi) (fun s H C cl fp => (hg1 s H C cl fp).pg) (fun s H C cl fp => (ht1 s H C cl fp).pt) (fun s H C cl fp => (ve_sh (hk s H C cl fp)).pe) (fun s H C cl fp => (ve_sh (he s H C cl fp)).pe) hs hs1 h2 fun L C s' m H' I' q hn f => ?_) fun _ s' hq => wpAny_pure (wpAny_pure hq))
  show wpAny _ _ (assign (.Name x px) X.env (.ref L)) _ _ _
  refine wpAny_assign_Name (store_ok2 (v := V.ref L) I' hN hx (.inl hxl) rfl (fun s2 I2 ⟨a, sb, ha⟩ => ?_) (.inr hxl))
  obtain ⟨f0, f1, f2, f3, f4, f5⟩ := f
  have haC : C ≠ a := ha.elim (fun z => z ▸ f1) fun z e => f4 x a z e.symm
  exact ⟨m, hn.sameBut sb haC, fun h3 sb3 => ⟨_, H', I2.turned (t' := s2.toks) (fun b o hb e => (sb3.2 b hb).trans e) f0 f1 f3 f4 f5, q⟩⟩
end
end ML

/-! ## LP -/
set_option Elab.async false
set_option linter.all false
set_option autoImplicit false
set_option maxRecDepth 100000
set_option maxHeartbeats 8000000
namespace LP
open PySem PySem.Spec PyProof.Rows L2 ML
/-! ### _law_numbers -/
/- N ['script', 'row', 'cell', 'k', 'seed'] -/
def b101__law_numbers  : VSt :=
  (vSet 2 (v2 fFdv (.pk 2) (.pd (vC (.int 1000)))))
def q1__law_numbers  : VSt :=
  (vSeq (vDrp (vMet (.pk 1) mAppend [(vS (v2 fMod (.pd (v1 fInt (.pk 2))) (.pd (vC (.int 1000)))))]))
    (b101__law_numbers ))
def w1__law_numbers  : VSt :=
  vFor (iR1 (vC (.int 60))) (bName 3) (vIfS (vB (v2 fGt (.pk 2) (.pd (vC (.int 0))))) (q1__law_numbers ) vEnd)
def b105__law_numbers  : VSt :=
  (vDrp (vMet (.pk 1) mAppend [(vS (v2 fMod (.pd (v1 fInt (.pd (v2 fAdd (.pd (v2 fMulV (.pd (v2 fMod (.pd (v1 fInt (.pk 4))) (.pd (vC (.int 1000003))))) (.pd (vC (.int 7919))))) (.pd (v2 fFdv (.pk 4) (.pd (vC (.int 1009))))))))) (.pd (vC (.int 1000)))))]))
def w2__law_numbers  : VSt :=
  vFor (iR1 (vC (.int 9))) (bName 3) (vSeq (vSet 4 (v2 fMod (.pd (v1 fInt (.pd (v2 fAdd (.pd (v2 fAdd (.pd (v2 fMulV (.pk 4) (.pd (vC (.int 69621))))) (.pd (v2 fMulV (.pd (vC (.int 7))) (.pk 3))))) (.pd (vC (.int 1))))))) (.pd (vC (.int 2147483647)))))
    (b105__law_numbers ))
def b107__law_numbers  : VSt :=
  (w2__law_numbers )
def q2__law_numbers  : VSt :=
  (vSeq (vSet 4 (v2 fMod (.pd (v1 fInt (.pd (v2 fAdd (.pd (v2 fMulV (.pk 2) (.pd (vC (.int 48271))))) (.pd (vC (.int 11))))))) (.pd (vC (.int 2147483647)))))
    (b107__law_numbers ))
def w3__law_numbers  : VSt :=
  vFor (iL (v2 fSlU (.pk 0) (.pd (vC (.int 63))))) (bName 2) (vIfS (vB (v2 fGe (.pk 2) (.pd (v2 fPow (.pd (vC (.int 10))) (.pd (vC (.int 18))))))) (w1__law_numbers ) (q2__law_numbers ))
def b4__law_numbers  : VSt :=
  (vRet (vMv 1))
def b3__law_numbers  : VSt :=
  (vSeq (vDrp (vMet (.pk 1) mReverse []))
    (b4__law_numbers ))
def b2__law_numbers  : VSt :=
  (vSeq (vSet 1 (v2 fSlU (.pk 1) (.pd (vC (.int 300)))))
    (b3__law_numbers ))
def b1__law_numbers  : VSt :=
  (vSeq (w3__law_numbers )
    (b2__law_numbers ))
def t__law_numbers  : VSt :=
  (vSeq (vSet 1 (vLst vNil))
    (b1__law_numbers ))
/-! ### _law_pick -/
/- N ['feed', 'many'] -/
def t__law_pick  : VSt :=
  (vSeq (vIfS (vB (w2 fEq (.pd (w1 fLen (.pk 0))) (.pd (vC (.int 0))))) (vRet (vC (.int 0))) vEnd)
    (vRet (v2 fMod (.pd (v1 fInt (.pd (vMet (.pk 0) mPop [])))) (.pk 1))))
/-! ### _law_wrap -/
/- N ['number'] -/
def t__law_wrap  : VSt :=
  (vRet (v2 fSub (.pd (v2 fMod (.pd (v1 fInt (.pd (v2 fAdd (.pk 0) (.pd (vC (.int 2147483648))))))) (.pd (vC (.int 4294967296))))) (.pd (vC (.int 2147483648)))))
/-! ### _law_number -/
/- N ['feed', 'kind', 'edges', 'number'] -/
def t__law_number (s__law_pick : SemG) (s__law_wrap : SemG) : VSt :=
  (vSeq (vSet 1 (vCal s__law_pick [.ln 0, .pd (vC (.int 4))]))
    (vSeq (vIfS (vB (w2 fEq (.pk 1) (.pd (vC (.int 0))))) (vRet (v2 fSub (.pd (vCal s__law_pick [.ln 0, .pd (vC (.int 10))])) (.pd (vC (.int 3))))) vEnd)
    (vSeq (vIfS (vB (w2 fEq (.pk 1) (.pd (vC (.int 1))))) (vSeq (vSet 2 (vLst (vCons (vC (.int 0)) (vCons (vC (.int 1)) (vCons (v1 fNeg (.pd (vC (.int 1)))) (vCons (vC (.int 2147483647)) (vCons (v1 fNeg (.pd (vC (.int 2147483648)))) (vCons (vC (.int 524287)) (vCons (vC (.int 524288)) (vCons (v1 fNeg (.pd (vC (.int 524288)))) (vCons (v1 fNeg (.pd (vC (.int 524289)))) (vCons (vC (.int 65536)) vNil))))))))))))
    (vRet (v2 fIx (.pk 2) (.pd (vCal s__law_pick [.ln 0, .pd (vC (.int 10))]))))) vEnd)
    (vSeq (vSet 3 (v2 fAdd (.pd (vCal s__law_pick [.ln 0, .pd (vC (.int 1000))])) (.pd (v2 fMulV (.pd (vC (.int 1000))) (.pd (vCal s__law_pick [.ln 0, .pd (vC (.int 1000))]))))))
    (vRet (vCal s__law_wrap [.pd (v2 fAdd (.pk 3) (.pd (v2 fMulV (.pd (v2 fPow (.pd (vC (.int 10))) (.pd (vC (.int 6))))) (.pd (v2 fAdd (.pd (vCal s__law_pick [.ln 0, .pd (vC (.int 1000))])) (.pd (v2 fMulV (.pd (vC (.int 1000))) (.pd (vCal s__law_pick [.ln 0, .pd (vC (.int 1000))])))))))))]))))))
/-! ### _law_instruction -/
/- N ['feed', 'pool', 'labels', 'slots', 'kind', 'd', 'a', 'name', 'label'] -/
def q1__law_instruction (s__law_number : SemG) (s__law_pick : SemG) : VSt :=
  (vRet (vTup (vCons (vC (.str (Str.ofString "li"))) (vCons (vV 5) (vCons (vCal s__law_number [.ln 0]) vNil)))))
def q2__law_instruction (s__law_number : SemG) (s__law_pick : SemG) : VSt :=
  (vRet (vTup (vCons (vC (.str (Str.ofString "mov"))) (vCons (vV 5) (vCons (vV 6) vNil)))))
def b103__law_instruction (s__law_number : SemG) (s__law_pick : SemG) : VSt :=
  (vRet (vTup (vCons (vC (.str (Str.ofString "op"))) (vCons (vV 7) (vCons (vV 5) (vCons (vV 6) (vCons (v2 fIx (.pk 1) (.pd (vCal s__law_pick [.ln 0, .pd (w1 fLen (.pk 1))]))) vNil)))))))
def q3__law_instruction (s__law_number : SemG) (s__law_pick : SemG) : VSt :=
  (vSeq (vSet 7 (v2 fIx (.pd (vLst (vCons (vC (.str (Str.ofString "add"))) (vCons (vC (.str (Str.ofString "sub"))) (vCons (vC (.str (Str.ofString "mul"))) (vCons (vC (.str (Str.ofString "less"))) (vCons (vC (.str (Str.ofString "same"))) vNil))))))) (.pd (vCal s__law_pick [.ln 0, .pd (vC (.int 5))]))))
    (b103__law_instruction s__law_number s__law_pick))
def q4__law_instruction (s__law_number : SemG) (s__law_pick : SemG) : VSt :=
  (vRet (vTup (vCons (vC (.str (Str.ofString "ld"))) (vCons (vV 5) (vCons (vCal s__law_pick [.ln 0, .pd (vV 3)]) vNil)))))
def q5__law_instruction (s__law_number : SemG) (s__law_pick : SemG) : VSt :=
  (vRet (vTup (vCons (vC (.str (Str.ofString "st"))) (vCons (vV 6) (vCons (vCal s__law_pick [.ln 0, .pd (vV 3)]) vNil)))))
def q6__law_instruction (s__law_number : SemG) (s__law_pick : SemG) : VSt :=
  (vRet (vTup (vCons (vC (.str (Str.ofString "show"))) (vCons (vV 6) vNil))))
def q7__law_instruction (s__law_number : SemG) (s__law_pick : SemG) : VSt :=
  (vRet (vTup (vCons (vC (.str (Str.ofString "jz"))) (vCons (vV 6) (vCons (vV 8) vNil)))))
def b12__law_instruction (s__law_number : SemG) (s__law_pick : SemG) : VSt :=
  (vRet (vTup (vCons (vC (.str (Str.ofString "jump"))) (vCons (vV 8) vNil))))
def b11__law_instruction (s__law_number : SemG) (s__law_pick : SemG) : VSt :=
  (vSeq (vIfS (vB (w2 fEq (.pd (vCal s__law_pick [.ln 0, .pd (vC (.int 4))])) (.pd (vC (.int 1))))) (vRet (vTup (vCons (vC (.str (Str.ofString "halt"))) vNil))) vEnd)
    (b12__law_instruction s__law_number s__law_pick))
def b10__law_instruction (s__law_number : SemG) (s__law_pick : SemG) : VSt :=
  (vSeq (vIfS (vB (v2 fLt (.pk 4) (.pd (vC (.int 15))))) (q7__law_instruction s__law_number s__law_pick) vEnd)
    (b11__law_instruction s__law_number s__law_pick))
def b9__law_instruction (s__law_number : SemG) (s__law_pick : SemG) : VSt :=
  (vSeq (vSet 8 (v2 fIx (.pk 2) (.pd (vCal s__law_pick [.ln 0, .pd (w1 fLen (.pk 2))]))))
    (b10__law_instruction s__law_number s__law_pick))
def b8__law_instruction (s__law_number : SemG) (s__law_pick : SemG) : VSt :=
  (vSeq (vIfS (vB (v2 fLt (.pk 4) (.pd (vC (.int 13))))) (q6__law_instruction s__law_number s__law_pick) vEnd)
    (b9__law_instruction s__law_number s__law_pick))
def b7__law_instruction (s__law_number : SemG) (s__law_pick : SemG) : VSt :=
  (vSeq (vIfS (vB (w2 fEq (.pk 4) (.pd (vC (.int 10))))) (q5__law_instruction s__law_number s__law_pick) vEnd)
    (b8__law_instruction s__law_number s__law_pick))
def b6__law_instruction (s__law_number : SemG) (s__law_pick : SemG) : VSt :=
  (vSeq (vIfS (vB (w2 fEq (.pk 4) (.pd (vC (.int 9))))) (q4__law_instruction s__law_number s__law_pick) vEnd)
    (b7__law_instruction s__law_number s__law_pick))
def b5__law_instruction (s__law_number : SemG) (s__law_pick : SemG) : VSt :=
  (vSeq (vIfS (vB (v2 fLt (.pk 4) (.pd (vC (.int 9))))) (q3__law_instruction s__law_number s__law_pick) vEnd)
    (b6__law_instruction s__law_number s__law_pick))
def b4__law_instruction (s__law_number : SemG) (s__law_pick : SemG) : VSt :=
  (vSeq (vIfS (vB (v2 fLt (.pk 4) (.pd (vC (.int 5))))) (q2__law_instruction s__law_number s__law_pick) vEnd)
    (b5__law_instruction s__law_number s__law_pick))
def b3__law_instruction (s__law_number : SemG) (s__law_pick : SemG) : VSt :=
  (vSeq (vIfS (vB (v2 fLt (.pk 4) (.pd (vC (.int 3))))) (q1__law_instruction s__law_number s__law_pick) vEnd)
    (b4__law_instruction s__law_number s__law_pick))
def b2__law_instruction (s__law_number : SemG) (s__law_pick : SemG) : VSt :=
  (vSeq (vSet 6 (v2 fIx (.pk 1) (.pd (vCal s__law_pick [.ln 0, .pd (w1 fLen (.pk 1))]))))
    (b3__law_instruction s__law_number s__law_pick))
def b1__law_instruction (s__law_number : SemG) (s__law_pick : SemG) : VSt :=
  (vSeq (vSet 5 (v2 fIx (.pk 1) (.pd (vCal s__law_pick [.ln 0, .pd (w1 fLen (.pk 1))]))))
    (b2__law_instruction s__law_number s__law_pick))
def t__law_instruction (s__law_number : SemG) (s__law_pick : SemG) : VSt :=
  (vSeq (vSet 4 (vCal s__law_pick [.ln 0, .pd (vC (.int 16))]))
    (b1__law_instruction s__law_number s__law_pick))
/-! ### _law_same -/
/- N ['actual', 'due', 'k'] -/
def q1__law_same (s__law_same : SemG) : VSt :=
  (vRet (vAndV (w1 (isT "bool") (.pk 0)) (w2 fEq (.pk 0) (.pk 1))))
def q2__law_same (s__law_same : SemG) : VSt :=
  (vRet (vAndV (w1 (isT "int") (.pk 0)) (vAndV (vNotV (w1 (isT "bool") (.pk 0))) (w2 fEq (.pk 0) (.pk 1)))))
def q3__law_same (s__law_same : SemG) : VSt :=
  (vRet (vAndV (w1 (isT "str") (.pk 0)) (w2 fEq (.pk 0) (.pk 1))))
def w1__law_same (s__law_same : SemG) : VSt :=
  vFor (iR1 (w1 fLen (.pk 1))) (bName 2) (vIfS (vNot (vTru (.pd (vCal s__law_same [.pd (v2 fIx (.pk 0) (.pk 2)), .pd (v2 fIx (.pk 1) (.pk 2))])))) (vRet (vC (.bool false))) vEnd)
def b8__law_same (s__law_same : SemG) : VSt :=
  (vRet (vC (.bool true)))
def b7__law_same (s__law_same : SemG) : VSt :=
  (vSeq (w1__law_same s__law_same)
    (b8__law_same s__law_same))
def b6__law_same (s__law_same : SemG) : VSt :=
  (vSeq (vIfS (vB (w2 fNe (.pd (w1 fLen (.pk 0))) (.pd (w1 fLen (.pk 1))))) (vRet (vC (.bool false))) vEnd)
    (b7__law_same s__law_same))
def b5__law_same (s__law_same : SemG) : VSt :=
  (vSeq (vIfS ((vAnd (vTru (.pd (w1 (isT "tuple") (.pk 1)))) (vNot (vTru (.pd (w1 (isT "tuple") (.pk 0))))))) (vRet (vC (.bool false))) vEnd)
    (b6__law_same s__law_same))
def b4__law_same (s__law_same : SemG) : VSt :=
  (vSeq (vIfS ((vAnd (vTru (.pd (w1 (isT "list") (.pk 1)))) (vNot (vTru (.pd (w1 (isT "list") (.pk 0))))))) (vRet (vC (.bool false))) vEnd)
    (b5__law_same s__law_same))
def b3__law_same (s__law_same : SemG) : VSt :=
  (vSeq (vIfS (vTru (.pd (w1 (isT "str") (.pk 1)))) (q3__law_same s__law_same) vEnd)
    (b4__law_same s__law_same))
def b2__law_same (s__law_same : SemG) : VSt :=
  (vSeq (vIfS (vTru (.pd (w1 (isT "int") (.pk 1)))) (q2__law_same s__law_same) vEnd)
    (b3__law_same s__law_same))
def b1__law_same (s__law_same : SemG) : VSt :=
  (vSeq (vIfS (vTru (.pd (w1 (isT "bool") (.pk 1)))) (q1__law_same s__law_same) vEnd)
    (b2__law_same s__law_same))
def t__law_same (s__law_same : SemG) : VSt :=
  (vSeq (vIfS (vB (w2 fIsN (.pk 1) (.pd (vC .none)))) (vRet (w2 fIsN (.pk 0) (.pd (vC .none)))) vEnd)
    (b1__law_same s__law_same))
end LP

/-! ## LPs -/
set_option Elab.async false
set_option linter.all false
set_option exponentiation.threshold 10000
set_option autoImplicit false
set_option maxRecDepth 100000
set_option maxHeartbeats 8000000
namespace LP
open PySem PySem.Spec PyProof.Rows L2 ML
local macro_rules | `(tactic| simp? [$ls,*]) => `(tactic| simp [-Bool.exists_bool, -List.map_take, -List.map_drop, -List.map_append, vSeq, vAsg, vV, vMv, vS, vIfS, vOr, vAnd, vNot, vB, vv1, vv2, vv3, Opr.ev, Opr.fin, Opr.sl, Opr.base, Sl.read, Sl.rd, Sl.ra, Sl.get, Sl.isIn, Sl.ot, Ot.rd, Ot.get, gets_lv, leaves_lv, Sh.data, Sh.datR, Sh.root, Rs.to, ↓lv_in, -List.map_map, fst_0, fst_s, ini, List.replicate_succ, enG, bTup, bCons, bName, bNil, inAt, vC, vEnd, vBrk, vCnt, vRaise, fLt, fAdd_int, fGt, fGe, fLe, fSub, fMod, fI, fFdv, cPow, fPow, fMin2, fMax2, fInt, fAbs, fNeg, Option.bind, vRet, vSet, vDrp, vCal, agEv, agIn, agIn1, lns_nil, lns_pd, lns_br, lns_ln, bor_nil, bor_pd, bor_ln, bor_br, out_nil, out_pd, out_br, out_ln, lat_nil, lat_pd, lat_br, lat_ln, keep_fd, ex_pair, keepO_sh, lnAtm_no, agOut_no, Sl.atm, atom_i, atom_s, atom_b, atom_n, atom_k, vCons, vNil, vTup, vLst, vIf, vTru, truD, vNotV, vNotT, flat_fd, vAndV, vOrV, fEq_int, fNe_int, fEq_str, fNe_str, fEq_is, fEq_si, vMet, mvEv, Opr.loc, locAt, Ot.at, Ot.put, Nde.set, append_lv, pop_lv, reverse_lv, insert_lv, vLc_eq, vFor_eq, wipeD, vYes, iR1, iL, iK, vAug, fAug_int, slotInt, fLen_list, fIsN, fNotN, vIxN, ixLoc, kidQ, ixN, os_inj, ix0, ix1, ix2, ix3, ix4, lx0, lx1, lx2, lx3, fLen_tup, xAnd, xNot, xIs, vTry, enX, keepO, Ot.root, Ot.rd, fInt, vTry0, isB_n, isB_b, isB_i, isB_s, isB_l, isB_t, isI_n, isI_b, isI_i, isI_s, isI_l, isI_t, isS_n, isS_b, isS_i, isS_s, isS_l, isS_t, isL_n, isL_b, isL_i, isL_s, isL_l, isL_t, isT_n, isT_b, isT_i, isT_s, isT_l, isT_t, nn_n, nn_i, nn_b, nn_s, nn_l, nn_t, vDct0_eq, vGet1, vGet2, vDc_eq, keep_dc, isDictD_dct, getD2_i, getD2_s, fIx_di, fIx_ds, fIn_di, fIn_ds, fNotIn_di, fNotIn_ds, truD_dct, kidx_i, kidx_s, xOr, plc, Sh.pos, Sh.root, vLstO, ML.ots, Ot.gets, vSlB, vChain, vLIx, vRaiseF, xIf, xIsF, xFld, ML.lookup_putD, vPut, vLc2_eq, fRng1, iRg, iR2, iEnT, iEn, vGet2N, vTupO, $ls,*])
/-! ### numbers, picks -/
def sm_pick : SemG := fun ins Qd _ => ∃ p ds m, ins = [fd p ds, .sh (.int m)] ∧ inz ds ∧ 0 < m ∧ ∀ r es, inz es → 0 ≤ r → r < m → Qd (.sh (.int r)) [fd p es, .sh (.int m)]
theorem pick {p : Addr} {ds : List D} {m : Int} {Qd : Sl → List Sl → Prop} {Xd : Exn → List Sl → Prop} (h : inz ds) (hm : 0 < m) (k : ∀ r es, inz es → 0 ≤ r → r < m → Qd (.sh (.int r)) [fd p es, .sh (.int m)]) : sm_pick [fd p ds, .sh (.int m)] Qd Xd := ⟨p, ds, m, rfl, h, hm, k⟩
theorem len_s (es : List D) (x : D) : ¬ (((es ++ [x]).length : Nat) : Int) = 0 := by rw [List.length_append]; simp; omega
theorem s_pick {ins : List Sl} {Qd : Sl → List Sl → Prop} {Xd : Exn → List Sl → Prop} (hl : ins.length = 2) (h : sm_pick ins Qd Xd) : t__law_pick (enG 2 Qd Xd) (ini 2 ins) := by
  obtain ⟨p, ds, m, rfl, hi, hm, h1⟩ := h
  rcases inz_last hi with rfl | ⟨es, i, rfl, he⟩
  · simp? [t__law_pick]
    exact h1 0 [] hi (by omega) hm
  · have h2 := h1 (i % m) es he (Int.emod_nonneg _ (by omega)) (Int.emod_lt_of_pos _ hm)
    have hl0 : ¬ ((es.length : Int) + 1 = 0) := by omega
    simp? [t__law_pick, hl0, hm]
    exact h2
def rg32 (i : Int) : Prop := -2147483648 ≤ i ∧ i ≤ 2147483647
def wr (n : Int) : Int := (n + 2147483648) % 4294967296 - 2147483648
theorem rg_wr (n : Int) : rg32 (wr n) := by unfold rg32 wr; omega
def sm_wrap : SemG := semV fun ds Qd _ => ∃ n, ds = [.int n] ∧ Qd (.sh (.int (wr n)))
theorem s_wrap {ins : List Sl} {Qd : Sl → List Sl → Prop} {Xd : Exn → List Sl → Prop} (hl : ins.length = 1) (h : sm_wrap ins Qd Xd) : t__law_wrap (enG 1 Qd Xd) (ini 1 ins) := by
  obtain ⟨_, rfl, n, rfl, h1⟩ := h
  simp? [t__law_wrap]
  exact h1 _
def sm_num : SemG := fun ins Qd _ => ∃ p ds, ins = [fd p ds] ∧ inz ds ∧ ∀ r es, rg32 r → inz es → Qd (.sh (.int r)) [fd p es]
theorem s_num {ins : List Sl} {Qd : Sl → List Sl → Prop} {Xd : Exn → List Sl → Prop} (hl : ins.length = 1) (h : sm_num ins Qd Xd) : t__law_number sm_pick sm_wrap (enG 1 Qd Xd) (ini 4 ins) := by
  obtain ⟨p, ds, rfl, hi, h1⟩ := h
  have m1 : ∀ b, fMulV (.int 1000) (.int b) = some (.sh (.int (1000 * b))) := fun b => mul_ok _ _ (by decide)
  have m2 : ∀ b, fMulV (.int (10 ^ 6)) (.int b) = some (.sh (.int (10 ^ 6 * b))) := fun b => mul_ok _ _ (by decide)
  have m3 : ∀ b, fMulV (.int 1000000) (.int b) = some (.sh (.int (1000000 * b))) := fun b => mul_ok _ _ (by decide)
  simp? [t__law_number]
  refine pick hi (by omega) fun k d1 i1 k0 k1 => ?_
  simp? []
  by_cases c0 : k = 0
  · subst c0
    simp? []
    refine pick i1 (by omega) fun r d2 i2 r0 r1 => ?_
    simp? []
    exact h1 _ _ (by unfold rg32; omega) i2
  · by_cases c1 : k = 1
    · subst c1
      simp? []
      intro q
      refine pick i1 (by omega) fun r d2 i2 r0 r1 => ?_
      obtain ⟨z, hz, hr⟩ : ∃ z, L2.atI [PyData.int 0, .int 1, .int (-1), .int 2147483647, .int (-2147483648), .int 524287, .int 524288, .int (-524288), .int (-524289), .int 65536] r = some (.int z) ∧ rg32 z := by
        have : r = 0 ∨ r = 1 ∨ r = 2 ∨ r = 3 ∨ r = 4 ∨ r = 5 ∨ r = 6 ∨ r = 7 ∨ r = 8 ∨ r = 9 := by omega
        rcases this with rfl | rfl | rfl | rfl | rfl | rfl | rfl | rfl | rfl | rfl <;> exact ⟨_, rfl, by unfold rg32; omega⟩
      have hx : fIx (.list [.int 0, .int 1, .int (-1), .int 2147483647, .int (-2147483648), .int 524287, .int 524288, .int (-524288), .int (-524289), .int 65536]) (.int r) = some (.sh (.int z)) := by
        show (L2.atI _ r).map Rs.sh = _
        rw [hz]; rfl
      simp? [hx]
      exact h1 _ _ hr i2
    · simp? [c0, c1]
      refine pick i1 (by omega) fun a d2 i2 _ _ => ?_
      simp? []
      refine pick i2 (by omega) fun b d3 i3 _ _ => ?_
      simp? [m1]
      refine pick i3 (by omega) fun c d4 i4 _ _ => ?_
      simp? []
      refine pick i4 (by omega) fun e d5 i5 _ _ => ?_
      simp? [m1, m2, m3]
      refine ⟨_, rfl, _, rfl, fun outs => ?_⟩
      simp? []
      exact h1 _ _ (rg_wr _) i5
theorem cd1000 (a : Int) : cDivD a 1000 = true := by
  unfold cDivD; decide
theorem cd1009 (a : Int) : cDivD a 1009 = true := by
  unfold cDivD; decide
theorem slU_l (ds : List D) (h : Int) : fSlU (.list ds) (.int h) = some (.nw (ML.cutD ds none (some h))) := rfl
theorem slU_k (ds : List D) (h : Int) : fSlU (lkD ds) (.int h) = some (.nw (ML.cutD ds none (some h))) := rfl
theorem lw1 {S x y : Sl} {p : Addr} {ds : List D} {c : Int} {E : En} (hi : inz ds) (hl : ds.length ≤ 100000) (K : ∀ es c' x', inz es → es.length ≤ ds.length + 60 → E.nx [S, fd p es, .sh (.int c'), x', y]) :
    w1__law_numbers E [S, fd p ds, .sh (.int c), x, y] := by
  simp? [w1__law_numbers]
  refine FO_by (fun k δ => ∃ es c' x', inz es ∧ es.length ≤ ds.length + k ∧ δ = [S, fd p es, .sh (.int c'), x', y]) ⟨ds, c, x, hi, by omega, rfl⟩ ?_ ?_
  · rintro k d δ2 hk ⟨es, c', x', h1, h2, rfl⟩
    obtain ⟨hk1, rfl⟩ := rngD_get hk
    have hlt : es.length < 1000000 := by omega
    by_cases hc : 0 < c'
    · simp? [hc, q1__law_numbers, b101__law_numbers, hlt, cd1000]
      exact ⟨_, inz_snoc h1 _, by rw [List.length_append]; simp; omega, rfl⟩
    · simp? [hc]
      exact ⟨_, h1, by omega, rfl⟩
  · rintro δ2 ⟨es, c', x', h1, h2, rfl⟩
    rw [rngD_len] at h2
    exact K _ _ _ h1 h2
theorem lw2 {S x c : Sl} {p : Addr} {ds : List D} {y : Int} {E : En} (hi : inz ds) (hl : ds.length ≤ 100000) (K : ∀ es x' y', inz es → es.length ≤ ds.length + 9 → E.nx [S, fd p es, c, x', y']) :
    w2__law_numbers E [S, fd p ds, c, x, .sh (.int y)] := by
  have m1 : ∀ b, fMulV (.int b) (.int 69621) = some (.sh (.int (b * 69621))) := fun b => mul_ok2 _ _ (by decide)
  have m2 : ∀ b, fMulV (.int 7) (.int b) = some (.sh (.int (7 * b))) := fun b => mul_ok _ _ (by decide)
  have m3 : ∀ b, fMulV (.int b) (.int 7919) = some (.sh (.int (b * 7919))) := fun b => mul_ok2 _ _ (by decide)
  simp? [w2__law_numbers]
  refine FO_by (fun k δ => ∃ es x' y', inz es ∧ es.length ≤ ds.length + k ∧ δ = [S, fd p es, c, x', .sh (.int y')]) ⟨ds, x, y, hi, by omega, rfl⟩ ?_ ?_
  · rintro k d δ2 hk ⟨es, x', y', h1, h2, rfl⟩
    obtain ⟨hk1, rfl⟩ := rngD_get hk
    have hlt : es.length < 1000000 := by omega
    simp? [m1, m2]
    generalize (y' * 69621 + 7 * ↑k + 1) % 2147483647 = v
    simp? [b105__law_numbers, hlt, m3, cd1009]
    exact ⟨_, inz_snoc h1 _, by rw [List.length_append]; simp; omega, rfl⟩
  · rintro δ2 ⟨es, x', y', h1, h2, rfl⟩
    rw [rngD_len] at h2
    exact K _ _ _ h1 h2
theorem lw3 {ns : List D} {x y c : Sl} {p : Addr} {E : En} (hn : inz ns) (K : ∀ es c' x' y', inz es → E.nx [.sh (lkD ns), fd p es, c', x', y']) : w3__law_numbers E [.sh (lkD ns), fd p [], c, x, y] := by
  have m1 : ∀ b, fMulV (.int b) (.int 48271) = some (.sh (.int (b * 48271))) := fun b => mul_ok2 _ _ (by decide)
  have hcut : inz (ML.cutD ns none (some 63)) := inz_cut hn _ _
  have hlen : (ML.cutD ns none (some 63)).length ≤ 63 := cut_len (n := 63)
  simp? [w3__law_numbers, slU_k]
  generalize ML.cutD ns none (some 63) = its at hcut hlen
  obtain ⟨zs, rfl⟩ := hcut
  refine FO_by (fun k δ => ∃ es c' x' y', inz es ∧ es.length ≤ 60 * k ∧ δ = [.sh (lkD ns), fd p es, c', x', y']) ⟨[], c, x, y, inz_nil, by simp, rfl⟩ ?_ ?_
  · rintro k d δ2 hk ⟨es, c', x', y', h1, h2, rfl⟩
    have hk2 : k < 63 := Nat.lt_of_lt_of_le (List.getElem?_eq_some_iff.mp hk).1 hlen
    rw [List.getElem?_map] at hk
    obtain ⟨z, _, rfl⟩ := Option.map_eq_some_iff.mp hk
    by_cases hc : 1000000000000000000 ≤ z
    · simp? [hc]
      exact lw1 h1 (by omega) fun es c' x' h3 h4 => ⟨es, h3, by omega, _, _, _, rfl⟩
    · simp? [hc, q2__law_numbers, b107__law_numbers, m1]
      exact lw2 h1 (by omega) fun es c' x' h3 h4 => ⟨es, h3, by omega, _, _, _, rfl⟩
  · rintro δ2 ⟨es, c', x', y', h1, h2, rfl⟩
    exact K _ _ _ _ h1
def sm_numbers : SemG := semV fun ds Qd _ => ∃ ns, ds = [lkD ns] ∧ inz ns ∧ ∀ p es, inz es → Qd (fd p es)
theorem s_numbers {ins : List Sl} {Qd : Sl → List Sl → Prop} {Xd : Exn → List Sl → Prop} (hl : ins.length = 1) (h : sm_numbers ins Qd Xd) : t__law_numbers (enG 1 Qd Xd) (ini 5 ins) := by
  obtain ⟨_, rfl, ns, rfl, hn, h1⟩ := h
  simp? [t__law_numbers, b1__law_numbers]
  intro p
  refine lw3 hn fun es c' x' y' hi => ?_
  simp? [b2__law_numbers, b3__law_numbers, b4__law_numbers, slU_l]
  intro q
  exact h1 _ _ (inz_rev (inz_cut hi _ _)) _
/-! ### equal data are found the same -/
def sm_same (n : Nat) : SemG := semV fun ds Qd _ => ∃ d, ds = [d, d] ∧ okd n d ∧ Qd (.sh (.bool true))
theorem same_atom {s : SemG} {d : D} {Qd : Sl → List Sl → Prop} {Xd : Exn → List Sl → Prop} (hd : d = .none ∨ (∃ i, d = .int i) ∨ (∃ i, d = .str i) ∨ ∃ i, d = .bool i) (h : ∀ outs, Qd (.sh (.bool true)) outs) : t__law_same s (enG 2 Qd Xd) (ini 3 [.sh d, .sh d]) := by
  rcases hd with rfl | ⟨i, rfl⟩ | ⟨i, rfl⟩ | ⟨i, rfl⟩
  · simp? [t__law_same]
    exact h _
  · simp? [t__law_same, b1__law_same, b2__law_same, q2__law_same]
    exact h _
  · simp? [t__law_same, b1__law_same, b2__law_same, b3__law_same, q3__law_same]
    exact h _
  · simp? [t__law_same, b1__law_same, q1__law_same, fEq_bool]
    exact h _
theorem same_loop {n : Nat} {ds : List D} {d : D} {Qd : Sl → List Sl → Prop} {Xd : Exn → List Sl → Prop} {x : Sl} (hd : d = .list ds ∨ d = .tuple ds) (hl : ds.length ≤ 1000000) (ho : ∀ d ∈ ds, okd n d) (h : ∀ outs, Qd (.sh (.bool true)) outs) :
    b7__law_same (sm_same n) (enG 2 Qd Xd) [.sh d, .sh d, x] := by
  have el : fLen d = some (.sh (.int ds.length)) := by rcases hd with rfl | rfl <;> rfl
  simp? [b7__law_same, w1__law_same, el]
  refine ⟨by omega, ?_⟩
  refine FO_by (fun _ δ => ∃ x, δ = [.sh d, .sh d, x]) ⟨_, rfl⟩ ?_ ?_
  · rintro k e δ2 hk ⟨y, rfl⟩
    obtain ⟨hk1, rfl⟩ := rngD_get hk
    have hk2 : k < ds.length := by omega
    have hx : fIx d (.int (k : Int)) = some (.sh ds[k]) := by rcases hd with rfl | rfl <;> first | exact ixl (List.getElem?_eq_getElem hk2) | exact ixt (List.getElem?_eq_getElem hk2)
    simp? [hx]
    refine ⟨[ds[k], ds[k]], rfl, ds[k], rfl, ho _ (List.getElem_mem hk2), fun outs => ?_⟩
    simp? []
  · rintro δ2 ⟨y, rfl⟩
    simp? [b8__law_same]
    exact h _
theorem s_same0 {ins : List Sl} {Qd : Sl → List Sl → Prop} {Xd : Exn → List Sl → Prop} (hl : ins.length = 2) (h : sm_same 0 ins Qd Xd) : t__law_same semNo (enG 2 Qd Xd) (ini 3 ins) := by
  obtain ⟨_, rfl, d, rfl, ho, h1⟩ := h
  refine same_atom ?_ h1
  cases d <;> first | exact ho.elim | simp
theorem s_same {n : Nat} {ins : List Sl} {Qd : Sl → List Sl → Prop} {Xd : Exn → List Sl → Prop} (hl : ins.length = 2) (h : sm_same (n + 1) ins Qd Xd) : t__law_same (sm_same n) (enG 2 Qd Xd) (ini 3 ins) := by
  obtain ⟨_, rfl, d, rfl, ho, h1⟩ := h
  cases d with
  | list ds =>
    obtain ⟨h2, h3⟩ := ho
    simp? [t__law_same, b1__law_same, b2__law_same, b3__law_same, b4__law_same, b5__law_same, b6__law_same]
    exact same_loop (.inl rfl) h2 h3 h1
  | tuple ds =>
    obtain ⟨h2, h3⟩ := ho
    simp? [t__law_same, b1__law_same, b2__law_same, b3__law_same, b4__law_same, b5__law_same, b6__law_same]
    exact same_loop (.inr rfl) h2 h3 h1
  | none => exact same_atom (.inl rfl) h1
  | int i => exact same_atom (.inr (.inl ⟨i, rfl⟩)) h1
  | str i => exact same_atom (.inr (.inr (.inl ⟨i, rfl⟩))) h1
  | bool i => exact same_atom (.inr (.inr (.inr ⟨i, rfl⟩))) h1
  | _ => exact ho.elim
end LP

/-! ## GK63 -/
set_option Elab.async false
set_option linter.all false
set_option autoImplicit false
set_option maxRecDepth 100000
set_option maxHeartbeats 8000000
namespace K63
open PySem PySem.Spec PyProof.Rows L2 ML
def topS (i : Nat) : Stmt := PySem.Challenge.pw_scribeself_k63_least_pulled_objects.main.body.getD i (.Pass ⟨0, 0, 0, 0⟩)
abbrev st_needed_by : Stmt := topS 1
abbrev st_pulled : Stmt := topS 2
abbrev st__law_numbers : Stmt := topS 4
abbrev st__law_pick : Stmt := topS 5
abbrev st__law_same : Stmt := topS 6
abbrev st__law_one : Stmt := topS 7
abbrev st__law_chain : Stmt := topS 8
abbrev st__law_placer : Stmt := topS 9
abbrev st__law_needed : Stmt := topS 10
abbrev st_law : Stmt := topS 11
/-! ### needed_by -/
-- slots: 0:part 1:_ 2:name
abbrev N_needed_by : List Str := ["part", "_", "name"]
abbrev P_needed_by : List Str := ["part"]
theorem sc_needed_by : FnScope N_needed_by P_needed_by (defScope st_needed_by) := ⟨rfl, rfl, rfl, by decide +kernel, rfl, by decide +kernel, by decide +kernel⟩
def w1_needed_by  : VT :=
  vLc (iL (v2 fIx (.pk 0) (.pd (vC (.int 3))))) (bTup 2 (bCons (bName 1) (bCons (bName 2) bNil))) (vB (w2 fNe (.pk 2) (.pd (vC (.str (Str.ofString "")))))) (vV 2) [1, 2]
def t_needed_by  : VSt :=
  (vRet (w1_needed_by ))
theorem der_needed_by {P : Program} {w : World} {K : PySem.W.Frag} {mg : Str → Option Value} {base : Heap} {f : Addr}   (cdv : Value) (hcd0 : PySem.W.codeIn K cdv (Str.ofString "needed_by") = true) (A : Around) (outer : List Env) (s : Shared) (H : Hp) (E : XK) (W : Wd) (wx : WX) (hr : Room 0 (A.deeper (envOfC (Str.ofString "needed_by") (defScope st_needed_by) s.heap.objs.size f cdv)))
    (tk : Takes (cxOf (L2.CX P w) P w K mg base N_needed_by (Str.ofString "needed_by") (defScope st_needed_by) f cdv A outer s H E) wx) (pso : PassesOwn (model P w) (A.deeper (envOfC (Str.ofString "needed_by") (defScope st_needed_by) s.heap.objs.size f cdv)) (envOfC (Str.ofString "needed_by") (defScope st_needed_by) s.heap.objs.size f cdv) (cxOf (L2.CX P w) P w K mg base N_needed_by (Str.ofString "needed_by") (defScope st_needed_by) f cdv A outer s H E).xe) : VSs (cxOf (L2.CX P w) P w K mg base N_needed_by (Str.ofString "needed_by") (defScope st_needed_by) f cdv A outer s H E) W wx (defBody st_needed_by) (t_needed_by ) := by
  have nd := sc_needed_by.nd
  have hu := hu64 hr
  have hu1 := hu65 hr
  have hcd := kds_of hcd0
  exact (vss_one (vs_ret (ve_lc rfl nd (own := [((Str.ofString "_"), 1), ((Str.ofString "name"), 2)]) (vi_list (ve_ix (m := false) (ix_V (hu2 hr)) snd_ix (vo_pk 0) (vo_pd (ve_int)) (fun _ _ => rfl))) (blkOk_by (N := N_needed_by) (sc := defScope st_needed_by) (by decide +kernel)) (fun _ _ _ _ _ => (vg_tup (n := 2) rfl (vgs_cons (vg_name (i := 1) nd rfl (.inl rfl)) (vgs_cons (vg_name (i := 2) nd rfl (.inl rfl)) (vgs_nil (ws := [])))))) (fun _ _ _ _ _ => (vcs_one (vc_cmp (m := true) (op_neD hu) snd_ne (vo_pk 2) (vo_pd (ve_str)) (nomark _)))) (fun _ _ _ _ _ => (ve_var 2)) (by decide))))
/-! ### pulled -/
-- slots: 0:parts 1:library 2:known 3:first 4:at 5:part 6:name 7:_ 8:found 9:todo
abbrev N_pulled : List Str := ["parts", "library", "known", "first", "at", "part", "name", "_", "found", "todo"]
abbrev P_pulled : List Str := ["parts", "library"]
theorem sc_pulled : FnScope N_pulled P_pulled (defScope st_pulled) := ⟨rfl, rfl, rfl, by decide +kernel, rfl, by decide +kernel, by decide +kernel⟩
def w1_pulled (s_needed_by : SemG) : VT :=
  vDc2 (iL (vV 0)) (bName 5) vYes (iL (v2 fIx (.pk 5) (.pd (vC (.int 2))))) (bTup 2 (bCons (bName 6) (bCons (bName 7) bNil))) vYes (vV 6) (vC (.bool true)) [5, 6, 7] [6, 7]
def w2_pulled (s_needed_by : SemG) : VSt :=
  vFor (iL (v2 fIx (.pk 5) (.pd (vC (.int 2))))) (bTup 2 (bCons (bName 6) (bCons (bName 7) bNil))) (vDrp (vSetd (.pk 3) (vV 6) (vV 4)))
def w3_pulled (s_needed_by : SemG) : VSt :=
  vFor (iEn (vV 1)) (bTup 2 (bCons (bName 4) (bCons (bName 5) bNil))) (w2_pulled s_needed_by)
def b103_pulled (s_needed_by : SemG) : VSt :=
  (vDrp (vMet (.pk 9) mAppend [(vS (v2 fIx (.pk 1) (.pd (v2 fIx (.pk 3) (.pk 6)))))]))
def q1_pulled (s_needed_by : SemG) : VSt :=
  (vSeq (vPut (vS (vC (.bool true))) (.pk 8) (v2 fIx (.pk 3) (.pk 6)))
    (b103_pulled s_needed_by))
def w4_pulled (s_needed_by : SemG) : VSt :=
  vFor (iL (vCal s_needed_by [.pd (vMet (.pk 9) mPop [])])) (bName 6) (vIfS ((vAnd (vB (w2 fNotIn (.pk 6) (.pk 2))) (vAnd (vB (w2 fIn (.pk 6) (.pk 3))) (vB (w2 fNotIn (.pd (v2 fIx (.pk 3) (.pk 6))) (.pk 8)))))) (q1_pulled s_needed_by) vEnd)
def w5_pulled (s_needed_by : SemG) : VSt :=
  vWh (vTru (.pk 9)) (w4_pulled s_needed_by)
def b6_pulled (s_needed_by : SemG) : VSt :=
  (vRet (w1 fSortDX (.pk 8)))
def b5_pulled (s_needed_by : SemG) : VSt :=
  (vSeq (w5_pulled s_needed_by)
    (b6_pulled s_needed_by))
def b4_pulled (s_needed_by : SemG) : VSt :=
  (vSeq (vSet 9 (v1 fList (.pk 0)))
    (b5_pulled s_needed_by))
def b3_pulled (s_needed_by : SemG) : VSt :=
  (vSeq (vSet 8 (vDct0))
    (b4_pulled s_needed_by))
def b2_pulled (s_needed_by : SemG) : VSt :=
  (vSeq (w3_pulled s_needed_by)
    (b3_pulled s_needed_by))
def b1_pulled (s_needed_by : SemG) : VSt :=
  (vSeq (vSet 3 (vDct0))
    (b2_pulled s_needed_by))
def t_pulled (s_needed_by : SemG) : VSt :=
  (vSeq (vSet 2 (w1_pulled s_needed_by))
    (b1_pulled s_needed_by))
theorem der_pulled {P : Program} {w : World} {K : PySem.W.Frag} {mg : Str → Option Value} {base : Heap} {f : Addr} (s_needed_by : SemG) (G_needed_by : FnG P w K mg base 1 (Str.ofString "needed_by") 1 s_needed_by) (m_enumerate : mg (Str.ofString "enumerate") = none) (m_list : mg (Str.ofString "list") = none) (m_sorted : mg (Str.ofString "sorted") = none) (cdv : Value) (hcd0 : PySem.W.codeIn K cdv (Str.ofString "pulled") = true) (A : Around) (outer : List Env) (s : Shared) (H : Hp) (E : XK) (W : Wd) (wx : WX) (hr : Room 1 (A.deeper (envOfC (Str.ofString "pulled") (defScope st_pulled) s.heap.objs.size f cdv)))
    (tk : Takes (cxOf (L2.CX P w) P w K mg base N_pulled (Str.ofString "pulled") (defScope st_pulled) f cdv A outer s H E) wx) (pso : PassesOwn (model P w) (A.deeper (envOfC (Str.ofString "pulled") (defScope st_pulled) s.heap.objs.size f cdv)) (envOfC (Str.ofString "pulled") (defScope st_pulled) s.heap.objs.size f cdv) (cxOf (L2.CX P w) P w K mg base N_pulled (Str.ofString "pulled") (defScope st_pulled) f cdv A outer s H E).xe) : VSs (cxOf (L2.CX P w) P w K mg base N_pulled (Str.ofString "pulled") (defScope st_pulled) f cdv A outer s H E) W wx (defBody st_pulled) (t_pulled s_needed_by) := by
  have nd := sc_pulled.nd
  have hu := hu64 hr
  have hu1 := hu65 hr
  have hcd := kds_of hcd0
  exact (vss_cons (vs_setDc2 (i := 2) rfl nd rfl rfl (sw_trueD rfl rfl rfl (by decide +kernel)) (own := [((Str.ofString "part"), 5), ((Str.ofString "name"), 6), ((Str.ofString "_"), 7)]) (vs1 := [6, 7]) (vi_list (ve_var 0)) (blkOk_by (N := N_pulled) (sc := defScope st_pulled) (by decide +kernel)) (by decide) (fun _ _ _ _ _ => (vg_name (i := 5) nd rfl (.inl rfl))) (fun _ _ _ _ _ => vcs_nil) (fun _ _ _ _ _ => (vi_list (ve_ix (m := false) (ix_V (hu2 hr)) snd_ix (vo_pk 5) (vo_pd (ve_int)) (fun _ _ => rfl)))) (fun _ _ _ _ _ => (vg_tup (n := 2) rfl (vgs_cons (vg_name (i := 6) nd rfl (.inl rfl)) (vgs_cons (vg_name (i := 7) nd rfl (.inl rfl)) (vgs_nil (ws := [])))))) (fun _ _ _ _ _ => vcs_nil) (fun _ _ _ _ _ => (ve_var 6)) (fun _ _ _ _ _ => (ve_bl)) (by decide) (by decide))
    (vss_cons (vs_set (i := 3) nd rfl (.inl rfl) (ve_dct0))
    (vss_cons (vs_for pso rfl (vi_enum m_enumerate (ve_var 1)) (vg_tup (n := 2) rfl (vgs_cons (vg_name (i := 4) nd rfl (.inl rfl)) (vgs_cons (vg_name (i := 5) nd rfl (.inl rfl)) (vgs_nil (ws := []))))) (vss_one (vs_for pso rfl (vi_list (ve_ix (m := false) (ix_V (hu2 hr)) snd_ix (vo_pk 5) (vo_pd (ve_int)) (fun _ _ => rfl))) (vg_tup (n := 2) rfl (vgs_cons (vg_name (i := 6) nd rfl (.inl rfl)) (vgs_cons (vg_name (i := 7) nd rfl (.inl rfl)) (vgs_nil (ws := []))))) (vss_one (vs_expr (ve_setd (vo_pk 3) (ve_var 6) (ve_var 4) ⟨rfl, rfl, rfl, rfl⟩))))))
    (vss_cons (vs_set (i := 8) nd rfl (.inl rfl) (ve_dct0))
    (vss_cons (vs_set (i := 9) nd rfl (.inl rfl) (ve_t1 (m := false) call_list_of snd_list m_list (by decide +kernel) (vo_pk 0)))
    (vss_cons (vs_while pso (vc_tru (vo_pk 9)) (vss_one (vs_for pso rfl (vi_list (ve_cal G_needed_by (hr.mono (by decide)) tk (vg_pd (ve_met0 PySem.F.slot_list_pop PySem.F.type_list_pop mt_pop sndm_pop fit_pop (vo_pk 9)) vg0) rfl (nd_l (l := []) rfl (by decide)))) (vg_name (i := 6) nd rfl (.inl rfl)) (vss_one (vs_if (vc_w (vw_and (vc_cmp (m := true) (op_notInV hu1) snd_notIn (vo_pk 6) (vo_pk 2) (by rfl)) (vw_and (vc_cmp (m := true) (op_inV hu1) snd_in (vo_pk 6) (vo_pk 3) (by rfl)) (vw_and1 (vc_cmp (m := true) (op_notInV hu1) snd_notIn (vo_pd (ve_ix (m := false) (ix_V (hu2 hr)) snd_ix (vo_pk 3) (vo_pk 6) (fun _ _ => rfl))) (vo_pk 8) (by rfl)))))) (vss_cons (vs_put (hu2 hr) (ve_sh (ve_bl)) (vo_pk 8) (ve_ix (m := false) (ix_V (hu2 hr)) snd_ix (vo_pk 3) (vo_pk 6) (fun _ _ => rfl)))
    (vss_one (vs_expr (ve_met PySem.F.slot_list_append PySem.F.type_list_append mt_append sndm_append fit_append (vo_pk 9) (vm1 (ve_sh (ve_ix (m := false) (ix_V (hu2 hr)) snd_ix (vo_pk 1) (vo_pd (ve_ix (m := false) (ix_V (hu2 hr)) snd_ix (vo_pk 3) (vo_pk 6) (fun _ _ => rfl))) (fun _ _ => rfl))) vm0))))) vss_nil)))))
    (vss_one (vs_ret (ve_b1 (m := true) (cr_sortedDI rfl) snd_sortDX m_sorted (by decide +kernel) (vo_pk 8))))))))))
/-! ### _law_numbers -/
-- slots: 0:script 1:row 2:cell 3:k 4:seed
abbrev N__law_numbers : List Str := ["script", "row", "cell", "k", "seed"]
abbrev P__law_numbers : List Str := ["script"]
theorem sc__law_numbers : FnScope N__law_numbers P__law_numbers (defScope st__law_numbers) := ⟨rfl, rfl, rfl, by decide +kernel, rfl, by decide +kernel, by decide +kernel⟩
abbrev t__law_numbers  : VSt := LP.t__law_numbers 
theorem der__law_numbers {P : Program} {w : World} {K : PySem.W.Frag} {mg : Str → Option Value} {base : Heap} {f : Addr}  (m_int : mg (Str.ofString "int") = none) (m_range : mg (Str.ofString "range") = none) (cdv : Value) (hcd0 : PySem.W.codeIn K cdv (Str.ofString "_law_numbers") = true) (A : Around) (outer : List Env) (s : Shared) (H : Hp) (E : XK) (W : Wd) (wx : WX) (hr : Room 0 (A.deeper (envOfC (Str.ofString "_law_numbers") (defScope st__law_numbers) s.heap.objs.size f cdv)))
    (tk : Takes (cxOf (L2.CX P w) P w K mg base N__law_numbers (Str.ofString "_law_numbers") (defScope st__law_numbers) f cdv A outer s H E) wx) (pso : PassesOwn (model P w) (A.deeper (envOfC (Str.ofString "_law_numbers") (defScope st__law_numbers) s.heap.objs.size f cdv)) (envOfC (Str.ofString "_law_numbers") (defScope st__law_numbers) s.heap.objs.size f cdv) (cxOf (L2.CX P w) P w K mg base N__law_numbers (Str.ofString "_law_numbers") (defScope st__law_numbers) f cdv A outer s H E).xe) : VSs (cxOf (L2.CX P w) P w K mg base N__law_numbers (Str.ofString "_law_numbers") (defScope st__law_numbers) f cdv A outer s H E) W wx (defBody st__law_numbers) (t__law_numbers ) := by
  have nd := sc__law_numbers.nd
  have hu := hu64 hr
  have hu1 := hu65 hr
  have hcd := kds_of hcd0
  exact (vss_cons (vs_set (i := 1) nd rfl (.inl rfl) (ve_lst va_nil (by decide)))
    (vss_cons (vs_for pso rfl (vi_list (ve_slU (vo_pk 0) (vo_pd (ve_int)))) (vg_name (i := 2) nd rfl (.inl rfl)) (vss_one (vs_if (vc_cmp (m := false) op_ge snd_ge (vo_pk 2) (vo_pd (ve_op (m := false) op_pow snd_pow (vo_pd (ve_int)) (vo_pd (ve_int)))) (nomark _)) (vss_one (vs_for pso rfl (vi_r1 m_range (ve_int)) (vg_name (i := 3) nd rfl (.inl rfl)) (vss_one (vs_if (vc_cmp (m := false) op_gt snd_gt (vo_pk 2) (vo_pd (ve_int)) (nomark _)) (vss_cons (vs_expr (ve_met PySem.F.slot_list_append PySem.F.type_list_append mt_append sndm_append fit_append (vo_pk 1) (vm1 (ve_sh (ve_op (m := false) op_mod snd_mod (vo_pd (ve_t1 (m := false) call_int1 snd_int m_int (by decide +kernel) (vo_pk 2))) (vo_pd (ve_int)))) vm0)))
    (vss_one (vs_set (i := 2) nd rfl (.inl rfl) (ve_op (m := false) op_fdivW snd_fdv (vo_pk 2) (vo_pd (ve_int)))))) vss_nil)))) (vss_cons (vs_set (i := 4) nd rfl (.inl rfl) (ve_op (m := false) op_mod snd_mod (vo_pd (ve_t1 (m := false) call_int1 snd_int m_int (by decide +kernel) (vo_pd (ve_op (m := false) op_addV snd_add (vo_pd (ve_op (m := false) op_mulV snd_mulV (vo_pk 2) (vo_pd (ve_int)))) (vo_pd (ve_int)))))) (vo_pd (ve_int))))
    (vss_one (vs_for pso rfl (vi_r1 m_range (ve_int)) (vg_name (i := 3) nd rfl (.inl rfl)) (vss_cons (vs_set (i := 4) nd rfl (.inl rfl) (ve_op (m := false) op_mod snd_mod (vo_pd (ve_t1 (m := false) call_int1 snd_int m_int (by decide +kernel) (vo_pd (ve_op (m := false) op_addV snd_add (vo_pd (ve_op (m := false) op_addV snd_add (vo_pd (ve_op (m := false) op_mulV snd_mulV (vo_pk 4) (vo_pd (ve_int)))) (vo_pd (ve_op (m := false) op_mulV snd_mulV (vo_pd (ve_int)) (vo_pk 3))))) (vo_pd (ve_int)))))) (vo_pd (ve_int))))
    (vss_one (vs_expr (ve_met PySem.F.slot_list_append PySem.F.type_list_append mt_append sndm_append fit_append (vo_pk 1) (vm1 (ve_sh (ve_op (m := false) op_mod snd_mod (vo_pd (ve_t1 (m := false) call_int1 snd_int m_int (by decide +kernel) (vo_pd (ve_op (m := false) op_addV snd_add (vo_pd (ve_op (m := false) op_mulV snd_mulV (vo_pd (ve_op (m := false) op_mod snd_mod (vo_pd (ve_t1 (m := false) call_int1 snd_int m_int (by decide +kernel) (vo_pk 4))) (vo_pd (ve_int)))) (vo_pd (ve_int)))) (vo_pd (ve_op (m := false) op_fdivW snd_fdv (vo_pk 4) (vo_pd (ve_int)))))))) (vo_pd (ve_int)))) vm0)))))))))))
    (vss_cons (vs_set (i := 1) nd rfl (.inl rfl) (ve_slU (vo_pk 1) (vo_pd (ve_int))))
    (vss_cons (vs_expr (ve_met0 PySem.F.slot_list_reverse PySem.F.type_list_reverse mt_reverse sndm_reverse fit_reverse (vo_pk 1)))
    (vss_one (vs_ret (ve_mv 1)))))))
/-! ### _law_pick -/
-- slots: 0:feed 1:many
abbrev N__law_pick : List Str := ["feed", "many"]
abbrev P__law_pick : List Str := ["feed", "many"]
theorem sc__law_pick : FnScope N__law_pick P__law_pick (defScope st__law_pick) := ⟨rfl, rfl, rfl, by decide +kernel, rfl, by decide +kernel, by decide +kernel⟩
abbrev t__law_pick  : VSt := LP.t__law_pick 
theorem der__law_pick {P : Program} {w : World} {K : PySem.W.Frag} {mg : Str → Option Value} {base : Heap} {f : Addr}  (m_int : mg (Str.ofString "int") = none) (m_len : mg (Str.ofString "len") = none) (cdv : Value) (hcd0 : PySem.W.codeIn K cdv (Str.ofString "_law_pick") = true) (A : Around) (outer : List Env) (s : Shared) (H : Hp) (E : XK) (W : Wd) (wx : WX) (hr : Room 0 (A.deeper (envOfC (Str.ofString "_law_pick") (defScope st__law_pick) s.heap.objs.size f cdv)))
    (tk : Takes (cxOf (L2.CX P w) P w K mg base N__law_pick (Str.ofString "_law_pick") (defScope st__law_pick) f cdv A outer s H E) wx) (pso : PassesOwn (model P w) (A.deeper (envOfC (Str.ofString "_law_pick") (defScope st__law_pick) s.heap.objs.size f cdv)) (envOfC (Str.ofString "_law_pick") (defScope st__law_pick) s.heap.objs.size f cdv) (cxOf (L2.CX P w) P w K mg base N__law_pick (Str.ofString "_law_pick") (defScope st__law_pick) f cdv A outer s H E).xe) : VSs (cxOf (L2.CX P w) P w K mg base N__law_pick (Str.ofString "_law_pick") (defScope st__law_pick) f cdv A outer s H E) W wx (defBody st__law_pick) (t__law_pick ) := by
  have nd := sc__law_pick.nd
  have hu := hu64 hr
  have hu1 := hu65 hr
  have hcd := kds_of hcd0
  exact (vss_cons (vs_if (vc_cmp (m := true) (op_eqD hu) snd_eq (vo_pd (ve_b1 (m := true) call_lenV snd_len m_len PySem.boot_len (vo_pk 0))) (vo_pd (ve_int)) (nomark _)) (vss_one (vs_ret (ve_int))) vss_nil)
    (vss_one (vs_ret (ve_op (m := false) op_mod snd_mod (vo_pd (ve_t1 (m := false) call_int1 snd_int m_int (by decide +kernel) (vo_pd (ve_met0 PySem.F.slot_list_pop PySem.F.type_list_pop mt_pop sndm_pop fit_pop (vo_pk 0))))) (vo_pk 1)))))
/-! ### _law_same -/
-- slots: 0:actual 1:due 2:k
abbrev N__law_same : List Str := ["actual", "due", "k"]
abbrev P__law_same : List Str := ["actual", "due"]
theorem sc__law_same : FnScope N__law_same P__law_same (defScope st__law_same) := ⟨rfl, rfl, rfl, by decide +kernel, rfl, by decide +kernel, by decide +kernel⟩
abbrev t__law_same (s__law_same : SemG) : VSt := LP.t__law_same s__law_same
theorem der__law_same {P : Program} {w : World} {K : PySem.W.Frag} {mg : Str → Option Value} {base : Heap} {f : Addr} (s__law_same : SemG) {k kf : Nat} (hkf : kf ≤ k) (hkc : 0 ≤ k) (G__law_same : FnG P w K mg base kf (Str.ofString "_law_same") 2 s__law_same) (m_bool : mg (Str.ofString "bool") = none) (m_int : mg (Str.ofString "int") = none) (m_isinstance : mg (Str.ofString "isinstance") = none) (m_len : mg (Str.ofString "len") = none) (m_list : mg (Str.ofString "list") = none) (m_range : mg (Str.ofString "range") = none) (m_str : mg (Str.ofString "str") = none) (m_tuple : mg (Str.ofString "tuple") = none) (cdv : Value) (hcd0 : PySem.W.codeIn K cdv (Str.ofString "_law_same") = true) (A : Around) (outer : List Env) (s : Shared) (H : Hp) (E : XK) (W : Wd) (wx : WX) (hr : Room k (A.deeper (envOfC (Str.ofString "_law_same") (defScope st__law_same) s.heap.objs.size f cdv)))
    (tk : Takes (cxOf (L2.CX P w) P w K mg base N__law_same (Str.ofString "_law_same") (defScope st__law_same) f cdv A outer s H E) wx) (pso : PassesOwn (model P w) (A.deeper (envOfC (Str.ofString "_law_same") (defScope st__law_same) s.heap.objs.size f cdv)) (envOfC (Str.ofString "_law_same") (defScope st__law_same) s.heap.objs.size f cdv) (cxOf (L2.CX P w) P w K mg base N__law_same (Str.ofString "_law_same") (defScope st__law_same) f cdv A outer s H E).xe) : VSs (cxOf (L2.CX P w) P w K mg base N__law_same (Str.ofString "_law_same") (defScope st__law_same) f cdv A outer s H E) W wx (defBody st__law_same) (t__law_same s__law_same) := by
  have nd := sc__law_same.nd
  have hu := hu64 hr
  have hu1 := hu65 hr
  have hcd := kds_of hcd0
  exact (vss_cons (vs_if (vc_cmp (m := true) op_isN1 snd_isN (vo_pk 1) (vo_pd (ve_non)) (nomark _)) (vss_one (vs_ret (ve_cmp (m := true) op_isN1 snd_isN (vo_pk 0) (vo_pd (ve_non)) (nomark _)))) vss_nil)
    (vss_cons (vs_if (vc_tru (vo_pd (ve_isi m_isinstance m_bool (by decide +kernel) (vo_pk 1)))) (vss_one (vs_ret (ve_and (ve_isi m_isinstance m_bool (by decide +kernel) (vo_pk 0)) (ve_one (ve_cmp (m := true) (op_eqD hu) snd_eq (vo_pk 0) (vo_pk 1) (nomark _)))))) vss_nil)
    (vss_cons (vs_if (vc_tru (vo_pd (ve_isi m_isinstance m_int (by decide +kernel) (vo_pk 1)))) (vss_one (vs_ret (ve_and (ve_isi m_isinstance m_int (by decide +kernel) (vo_pk 0)) (ve_and (ve_not (ve_isi m_isinstance m_bool (by decide +kernel) (vo_pk 0))) (ve_one (ve_cmp (m := true) (op_eqD hu) snd_eq (vo_pk 0) (vo_pk 1) (nomark _))))))) vss_nil)
    (vss_cons (vs_if (vc_tru (vo_pd (ve_isi m_isinstance m_str (by decide +kernel) (vo_pk 1)))) (vss_one (vs_ret (ve_and (ve_isi m_isinstance m_str (by decide +kernel) (vo_pk 0)) (ve_one (ve_cmp (m := true) (op_eqD hu) snd_eq (vo_pk 0) (vo_pk 1) (nomark _)))))) vss_nil)
    (vss_cons (vs_if (vc_w (vw_and (vc_tru (vo_pd (ve_isi m_isinstance m_list (by decide +kernel) (vo_pk 1)))) (vw_and1 (vc_not (vc_tru (vo_pd (ve_isi m_isinstance m_list (by decide +kernel) (vo_pk 0)))))))) (vss_one (vs_ret (ve_bl))) vss_nil)
    (vss_cons (vs_if (vc_w (vw_and (vc_tru (vo_pd (ve_isi m_isinstance m_tuple (by decide +kernel) (vo_pk 1)))) (vw_and1 (vc_not (vc_tru (vo_pd (ve_isi m_isinstance m_tuple (by decide +kernel) (vo_pk 0)))))))) (vss_one (vs_ret (ve_bl))) vss_nil)
    (vss_cons (vs_if (vc_cmp (m := true) (op_neD hu) snd_ne (vo_pd (ve_b1 (m := true) call_lenV snd_len m_len PySem.boot_len (vo_pk 0))) (vo_pd (ve_b1 (m := true) call_lenV snd_len m_len PySem.boot_len (vo_pk 1))) (nomark _)) (vss_one (vs_ret (ve_bl))) vss_nil)
    (vss_cons (vs_for pso rfl (vi_r1 m_range (ve_b1 (m := true) call_lenV snd_len m_len PySem.boot_len (vo_pk 1))) (vg_name (i := 2) nd rfl (.inl rfl)) (vss_one (vs_if (vc_not (vc_tru (vo_pd (ve_cal G__law_same (hr.mono (by omega)) tk (vg_pd (ve_ix (m := false) (ix_V (hu2 hr)) snd_ix (vo_pk 0) (vo_pk 2) (fun _ _ => rfl)) (vg_pd (ve_ix (m := false) (ix_V (hu2 hr)) snd_ix (vo_pk 1) (vo_pk 2) (fun _ _ => rfl)) vg0)) rfl (nd_l (l := []) rfl (by decide)))))) (vss_one (vs_ret (ve_bl))) vss_nil)))
    (vss_one (vs_ret (ve_bl)))))))))))
/-! ### _law_one -/
-- slots: 0:feed 1:names 2:moves 3:at 4:symbols 5:share 6:name
abbrev N__law_one : List Str := ["feed", "names", "moves", "at", "symbols", "share", "name"]
abbrev P__law_one : List Str := ["feed", "names"]
theorem sc__law_one : FnScope N__law_one P__law_one (defScope st__law_one) := ⟨rfl, rfl, rfl, by decide +kernel, rfl, by decide +kernel, by decide +kernel⟩
def w1__law_one (s__law_pick : SemG) : VSt :=
  vFor (iR1 (vCal s__law_pick [.ln 0, .pd (vC (.int 4))])) (bName 3) (vDrp (vMet (.pk 2) mAppend [(vS (vTup (vCons (vV 3) (vCons (v2 fIx (.pd (v2 fAdd (.pk 1) (.pd (vLst (vCons (vC (.str (Str.ofString ""))) vNil))))) (.pd (vCal s__law_pick [.ln 0, .pd (v2 fAdd (.pd (w1 fLen (.pk 1))) (.pd (vC (.int 1))))]))) vNil))))]))
def q1__law_one (s__law_pick : SemG) : VSt :=
  (vDrp (vMet (.pk 4) mAppend [(vS (vTup (vCons (vV 6) (vCons (vC (.int 0)) vNil))))]))
def w2__law_one (s__law_pick : SemG) : VSt :=
  vFor (iL (vV 1)) (bName 6) (vIfS (vB (w2 fEq (.pd (vCal s__law_pick [.ln 0, .pd (vV 5)])) (.pd (vC (.int 1))))) (q1__law_one s__law_pick) vEnd)
def b5__law_one (s__law_pick : SemG) : VSt :=
  (vRet (vTup (vCons (vC (.str (Str.ofString "object"))) (vCons (v2 fMulV (.pd (vLst (vCons (vC (.int 218103808)) vNil))) (.pd (vC (.int 4)))) (vCons (vV 4) (vCons (vV 2) vNil))))))
def b4__law_one (s__law_pick : SemG) : VSt :=
  (vSeq (w2__law_one s__law_pick)
    (b5__law_one s__law_pick))
def b3__law_one (s__law_pick : SemG) : VSt :=
  (vSeq (vSet 5 (v2 fAdd (.pd (vC (.int 2))) (.pd (vCal s__law_pick [.ln 0, .pd (vC (.int 12))]))))
    (b4__law_one s__law_pick))
def b2__law_one (s__law_pick : SemG) : VSt :=
  (vSeq (vSet 4 (vLst vNil))
    (b3__law_one s__law_pick))
def b1__law_one (s__law_pick : SemG) : VSt :=
  (vSeq (w1__law_one s__law_pick)
    (b2__law_one s__law_pick))
def t__law_one (s__law_pick : SemG) : VSt :=
  (vSeq (vSet 2 (vLst vNil))
    (b1__law_one s__law_pick))
theorem der__law_one {P : Program} {w : World} {K : PySem.W.Frag} {mg : Str → Option Value} {base : Heap} {f : Addr} (s__law_pick : SemG) (G__law_pick : FnG P w K mg base 1 (Str.ofString "_law_pick") 2 s__law_pick) (m_len : mg (Str.ofString "len") = none) (m_range : mg (Str.ofString "range") = none) (cdv : Value) (hcd0 : PySem.W.codeIn K cdv (Str.ofString "_law_one") = true) (A : Around) (outer : List Env) (s : Shared) (H : Hp) (E : XK) (W : Wd) (wx : WX) (hr : Room 1 (A.deeper (envOfC (Str.ofString "_law_one") (defScope st__law_one) s.heap.objs.size f cdv)))
    (tk : Takes (cxOf (L2.CX P w) P w K mg base N__law_one (Str.ofString "_law_one") (defScope st__law_one) f cdv A outer s H E) wx) (pso : PassesOwn (model P w) (A.deeper (envOfC (Str.ofString "_law_one") (defScope st__law_one) s.heap.objs.size f cdv)) (envOfC (Str.ofString "_law_one") (defScope st__law_one) s.heap.objs.size f cdv) (cxOf (L2.CX P w) P w K mg base N__law_one (Str.ofString "_law_one") (defScope st__law_one) f cdv A outer s H E).xe) : VSs (cxOf (L2.CX P w) P w K mg base N__law_one (Str.ofString "_law_one") (defScope st__law_one) f cdv A outer s H E) W wx (defBody st__law_one) (t__law_one s__law_pick) := by
  have nd := sc__law_one.nd
  have hu := hu64 hr
  have hu1 := hu65 hr
  have hcd := kds_of hcd0
  exact (vss_cons (vs_set (i := 2) nd rfl (.inl rfl) (ve_lst va_nil (by decide)))
    (vss_cons (vs_for pso rfl (vi_r1 m_range (ve_cal G__law_pick (hr.mono (by decide)) tk (vg_ln 0 (vg_pd (ve_int) vg0)) rfl (nd_l (l := [0]) rfl (by decide)))) (vg_name (i := 3) nd rfl (.inl rfl)) (vss_one (vs_expr (ve_met PySem.F.slot_list_append PySem.F.type_list_append mt_append sndm_append fit_append (vo_pk 2) (vm1 (ve_sh (ve_tup (va_cons (ve_var 3) (va_cons (ve_ix (m := false) (ix_V (hu2 hr)) snd_ix (vo_pd (ve_op (m := false) op_addV snd_add (vo_pk 1) (vo_pd (ve_lst (va_cons (ve_str) va_nil) (by decide))))) (vo_pd (ve_cal G__law_pick (hr.mono (by decide)) tk (vg_ln 0 (vg_pd (ve_op (m := false) op_addV snd_add (vo_pd (ve_b1 (m := true) call_lenV snd_len m_len PySem.boot_len (vo_pk 1))) (vo_pd (ve_int))) vg0)) rfl (nd_l (l := [0]) rfl (by decide)))) (fun _ _ => rfl)) va_nil)) (by decide))) vm0)))))
    (vss_cons (vs_set (i := 4) nd rfl (.inl rfl) (ve_lst va_nil (by decide)))
    (vss_cons (vs_set (i := 5) nd rfl (.inl rfl) (ve_op (m := false) op_addV snd_add (vo_pd (ve_int)) (vo_pd (ve_cal G__law_pick (hr.mono (by decide)) tk (vg_ln 0 (vg_pd (ve_int) vg0)) rfl (nd_l (l := [0]) rfl (by decide))))))
    (vss_cons (vs_for pso rfl (vi_list (ve_var 1)) (vg_name (i := 6) nd rfl (.inl rfl)) (vss_one (vs_if (vc_cmp (m := true) (op_eqD hu) snd_eq (vo_pd (ve_cal G__law_pick (hr.mono (by decide)) tk (vg_ln 0 (vg_pd (ve_var 5) vg0)) rfl (nd_l (l := [0]) rfl (by decide)))) (vo_pd (ve_int)) (nomark _)) (vss_one (vs_expr (ve_met PySem.F.slot_list_append PySem.F.type_list_append mt_append sndm_append fit_append (vo_pk 4) (vm1 (ve_sh (ve_tup (va_cons (ve_var 6) (va_cons (ve_int) va_nil)) (by decide))) vm0)))) vss_nil)))
    (vss_one (vs_ret (ve_tup (va_cons (ve_str) (va_cons (ve_op (m := false) op_mulV snd_mulV (vo_pd (ve_lst (va_cons (ve_int) va_nil) (by decide))) (vo_pd (ve_int))) (va_cons (ve_var 4) (va_cons (ve_var 2) va_nil)))) (by decide)))))))))
/-! ### _law_chain -/
-- slots: 0:feed 1:names 2:order 3:k 4:rows
abbrev N__law_chain : List Str := ["feed", "names", "order", "k", "rows"]
abbrev P__law_chain : List Str := ["feed", "names"]
theorem sc__law_chain : FnScope N__law_chain P__law_chain (defScope st__law_chain) := ⟨rfl, rfl, rfl, by decide +kernel, rfl, by decide +kernel, by decide +kernel⟩
def w1__law_chain (s__law_pick : SemG) : VSt :=
  vFor (iR1 (vC (.int 12))) (bName 3) (vDrp (vMet (.pk 2) mInsert [(vS (vCal s__law_pick [.ln 0, .pd (v2 fAdd (.pd (w1 fLen (.pk 2))) (.pd (vC (.int 1))))])), (vS (vV 3))]))
def w2__law_chain (s__law_pick : SemG) : VSt :=
  vFor (iL (vV 2)) (bName 3) (vDrp (vMet (.pk 4) mAppend [(vS (vTup (vCons (vC (.str (Str.ofString "object"))) (vCons (vLst (vCons (vC (.int 218103808)) vNil)) (vCons (vLst (vCons (vTup (vCons (v2 fIx (.pk 1) (.pk 3)) (vCons (vC (.int 0)) vNil))) vNil)) (vCons (vLst (vCons (vTup (vCons (vC (.int 0)) (vCons (v2 fIx (.pd (v2 fAdd (.pk 1) (.pd (vLst (vCons (vC (.str (Str.ofString ""))) vNil))))) (.pd (v2 fAdd (.pk 3) (.pd (vC (.int 1)))))) vNil))) vNil)) vNil))))))]))
def b4__law_chain (s__law_pick : SemG) : VSt :=
  (vRet (vMv 4))
def b3__law_chain (s__law_pick : SemG) : VSt :=
  (vSeq (w2__law_chain s__law_pick)
    (b4__law_chain s__law_pick))
def b2__law_chain (s__law_pick : SemG) : VSt :=
  (vSeq (vSet 4 (vLst vNil))
    (b3__law_chain s__law_pick))
def b1__law_chain (s__law_pick : SemG) : VSt :=
  (vSeq (w1__law_chain s__law_pick)
    (b2__law_chain s__law_pick))
def t__law_chain (s__law_pick : SemG) : VSt :=
  (vSeq (vSet 2 (vLst vNil))
    (b1__law_chain s__law_pick))
theorem der__law_chain {P : Program} {w : World} {K : PySem.W.Frag} {mg : Str → Option Value} {base : Heap} {f : Addr} (s__law_pick : SemG) (G__law_pick : FnG P w K mg base 1 (Str.ofString "_law_pick") 2 s__law_pick) (m_len : mg (Str.ofString "len") = none) (m_range : mg (Str.ofString "range") = none) (cdv : Value) (hcd0 : PySem.W.codeIn K cdv (Str.ofString "_law_chain") = true) (A : Around) (outer : List Env) (s : Shared) (H : Hp) (E : XK) (W : Wd) (wx : WX) (hr : Room 1 (A.deeper (envOfC (Str.ofString "_law_chain") (defScope st__law_chain) s.heap.objs.size f cdv)))
    (tk : Takes (cxOf (L2.CX P w) P w K mg base N__law_chain (Str.ofString "_law_chain") (defScope st__law_chain) f cdv A outer s H E) wx) (pso : PassesOwn (model P w) (A.deeper (envOfC (Str.ofString "_law_chain") (defScope st__law_chain) s.heap.objs.size f cdv)) (envOfC (Str.ofString "_law_chain") (defScope st__law_chain) s.heap.objs.size f cdv) (cxOf (L2.CX P w) P w K mg base N__law_chain (Str.ofString "_law_chain") (defScope st__law_chain) f cdv A outer s H E).xe) : VSs (cxOf (L2.CX P w) P w K mg base N__law_chain (Str.ofString "_law_chain") (defScope st__law_chain) f cdv A outer s H E) W wx (defBody st__law_chain) (t__law_chain s__law_pick) := by
  have nd := sc__law_chain.nd
  have hu := hu64 hr
  have hu1 := hu65 hr
  have hcd := kds_of hcd0
  exact (vss_cons (vs_set (i := 2) nd rfl (.inl rfl) (ve_lst va_nil (by decide)))
    (vss_cons (vs_for pso rfl (vi_r1 m_range (ve_int)) (vg_name (i := 3) nd rfl (.inl rfl)) (vss_one (vs_expr (ve_met PySem.F.slot_list_insert PySem.F.type_list_insert mt_insert sndm_insert fit_insert (vo_pk 2) (vm1 (ve_sh (ve_cal G__law_pick (hr.mono (by decide)) tk (vg_ln 0 (vg_pd (ve_op (m := false) op_addV snd_add (vo_pd (ve_b1 (m := true) call_lenV snd_len m_len PySem.boot_len (vo_pk 2))) (vo_pd (ve_int))) vg0)) rfl (nd_l (l := [0]) rfl (by decide)))) (vm1 (ve_sh (ve_var 3)) vm0))))))
    (vss_cons (vs_set (i := 4) nd rfl (.inl rfl) (ve_lst va_nil (by decide)))
    (vss_cons (vs_for pso rfl (vi_list (ve_var 2)) (vg_name (i := 3) nd rfl (.inl rfl)) (vss_one (vs_expr (ve_met PySem.F.slot_list_append PySem.F.type_list_append mt_append sndm_append fit_append (vo_pk 4) (vm1 (ve_sh (ve_tup (va_cons (ve_str) (va_cons (ve_lst (va_cons (ve_int) va_nil) (by decide)) (va_cons (ve_lst (va_cons (ve_tup (va_cons (ve_ix (m := false) (ix_V (hu2 hr)) snd_ix (vo_pk 1) (vo_pk 3) (fun _ _ => rfl)) (va_cons (ve_int) va_nil)) (by decide)) va_nil) (by decide)) (va_cons (ve_lst (va_cons (ve_tup (va_cons (ve_int) (va_cons (ve_ix (m := false) (ix_V (hu2 hr)) snd_ix (vo_pd (ve_op (m := false) op_addV snd_add (vo_pk 1) (vo_pd (ve_lst (va_cons (ve_str) va_nil) (by decide))))) (vo_pd (ve_op (m := false) op_addV snd_add (vo_pk 3) (vo_pd (ve_int)))) (fun _ _ => rfl)) va_nil)) (by decide)) va_nil) (by decide)) va_nil)))) (by decide))) vm0)))))
    (vss_one (vs_ret (ve_mv 4)))))))
/-! ### _law_placer -/
-- slots: 0:parts 1:name 2:at 3:pair
abbrev N__law_placer : List Str := ["parts", "name", "at", "pair"]
abbrev P__law_placer : List Str := ["parts", "name"]
theorem sc__law_placer : FnScope N__law_placer P__law_placer (defScope st__law_placer) := ⟨rfl, rfl, rfl, by decide +kernel, rfl, by decide +kernel, by decide +kernel⟩
def w1__law_placer  : VSt :=
  vFor (iL (v2 fIx (.pd (v2 fIx (.pk 0) (.pk 2))) (.pd (vC (.int 2))))) (bName 3) (vIfS (vB (w2 fEq (.pd (v2 fIx (.pk 3) (.pd (vC (.int 0))))) (.pk 1))) (vRet (vMv 2)) vEnd)
def w2__law_placer  : VSt :=
  vFor (iR1 (w1 fLen (.pk 0))) (bName 2) (w1__law_placer )
def b1__law_placer  : VSt :=
  (vRet (v1 fNeg (.pd (vC (.int 1)))))
def t__law_placer  : VSt :=
  (vSeq (w2__law_placer )
    (b1__law_placer ))
theorem der__law_placer {P : Program} {w : World} {K : PySem.W.Frag} {mg : Str → Option Value} {base : Heap} {f : Addr}  (m_len : mg (Str.ofString "len") = none) (m_range : mg (Str.ofString "range") = none) (cdv : Value) (hcd0 : PySem.W.codeIn K cdv (Str.ofString "_law_placer") = true) (A : Around) (outer : List Env) (s : Shared) (H : Hp) (E : XK) (W : Wd) (wx : WX) (hr : Room 0 (A.deeper (envOfC (Str.ofString "_law_placer") (defScope st__law_placer) s.heap.objs.size f cdv)))
    (tk : Takes (cxOf (L2.CX P w) P w K mg base N__law_placer (Str.ofString "_law_placer") (defScope st__law_placer) f cdv A outer s H E) wx) (pso : PassesOwn (model P w) (A.deeper (envOfC (Str.ofString "_law_placer") (defScope st__law_placer) s.heap.objs.size f cdv)) (envOfC (Str.ofString "_law_placer") (defScope st__law_placer) s.heap.objs.size f cdv) (cxOf (L2.CX P w) P w K mg base N__law_placer (Str.ofString "_law_placer") (defScope st__law_placer) f cdv A outer s H E).xe) : VSs (cxOf (L2.CX P w) P w K mg base N__law_placer (Str.ofString "_law_placer") (defScope st__law_placer) f cdv A outer s H E) W wx (defBody st__law_placer) (t__law_placer ) := by
  have nd := sc__law_placer.nd
  have hu := hu64 hr
  have hu1 := hu65 hr
  have hcd := kds_of hcd0
  exact (vss_cons (vs_for pso rfl (vi_r1 m_range (ve_b1 (m := true) call_lenV snd_len m_len PySem.boot_len (vo_pk 0))) (vg_name (i := 2) nd rfl (.inl rfl)) (vss_one (vs_for pso rfl (vi_list (ve_ix (m := false) (ix_V (hu2 hr)) snd_ix (vo_pd (ve_ix (m := false) (ix_V (hu2 hr)) snd_ix (vo_pk 0) (vo_pk 2) (fun _ _ => rfl))) (vo_pd (ve_int)) (fun _ _ => rfl))) (vg_name (i := 3) nd rfl (.inl rfl)) (vss_one (vs_if (vc_cmp (m := true) (op_eqD hu) snd_eq (vo_pd (ve_ix (m := false) (ix_V (hu2 hr)) snd_ix (vo_pk 3) (vo_pd (ve_int)) (fun _ _ => rfl))) (vo_pk 1) (nomark _)) (vss_one (vs_ret (ve_mv 2))) vss_nil)))))
    (vss_one (vs_ret (ve_un (m := false) un_neg snd_neg (vo_pd (ve_int))))))
/-! ### _law_needed -/
-- slots: 0:parts 1:library 2:chosen 3:part 4:move 5:at
abbrev N__law_needed : List Str := ["parts", "library", "chosen", "part", "move", "at"]
abbrev P__law_needed : List Str := ["parts", "library", "chosen"]
theorem sc__law_needed : FnScope N__law_needed P__law_needed (defScope st__law_needed) := ⟨rfl, rfl, rfl, by decide +kernel, rfl, by decide +kernel, by decide +kernel⟩
def w1__law_needed (s__law_placer : SemG) : VT :=
  vLc (iL (vV 2)) (bName 5) vYes (v2 fIx (.pk 1) (.pk 5)) [5]
def b102__law_needed (s__law_placer : SemG) : VSt :=
  (vIfS ((vAnd (vB (w2 fNe (.pd (v2 fIx (.pk 4) (.pd (vC (.int 1))))) (.pd (vC (.str (Str.ofString "")))))) (vAnd (vB (v2 fLt (.pd (vCal s__law_placer [.pd (vV 0), .pd (v2 fIx (.pk 4) (.pd (vC (.int 1))))])) (.pd (vC (.int 0))))) (vAnd (vB (v2 fGe (.pk 5) (.pd (vC (.int 0))))) (vB (w2 fNotIn (.pk 5) (.pk 2))))))) (vRet (vMv 5)) vEnd)
def w2__law_needed (s__law_placer : SemG) : VSt :=
  vFor (iL (v2 fIx (.pk 3) (.pd (vC (.int 3))))) (bName 4) (vSeq (vSet 5 (vCal s__law_placer [.pd (vV 1), .pd (v2 fIx (.pk 4) (.pd (vC (.int 1))))]))
    (b102__law_needed s__law_placer))
def w3__law_needed (s__law_placer : SemG) : VSt :=
  vFor (iL (v2 fAdd (.pk 0) (.pd (w1__law_needed s__law_placer)))) (bName 3) (w2__law_needed s__law_placer)
def b1__law_needed (s__law_placer : SemG) : VSt :=
  (vRet (v1 fNeg (.pd (vC (.int 1)))))
def t__law_needed (s__law_placer : SemG) : VSt :=
  (vSeq (w3__law_needed s__law_placer)
    (b1__law_needed s__law_placer))
theorem der__law_needed {P : Program} {w : World} {K : PySem.W.Frag} {mg : Str → Option Value} {base : Heap} {f : Addr} (s__law_placer : SemG) (G__law_placer : FnG P w K mg base 1 (Str.ofString "_law_placer") 2 s__law_placer) (cdv : Value) (hcd0 : PySem.W.codeIn K cdv (Str.ofString "_law_needed") = true) (A : Around) (outer : List Env) (s : Shared) (H : Hp) (E : XK) (W : Wd) (wx : WX) (hr : Room 1 (A.deeper (envOfC (Str.ofString "_law_needed") (defScope st__law_needed) s.heap.objs.size f cdv)))
    (tk : Takes (cxOf (L2.CX P w) P w K mg base N__law_needed (Str.ofString "_law_needed") (defScope st__law_needed) f cdv A outer s H E) wx) (pso : PassesOwn (model P w) (A.deeper (envOfC (Str.ofString "_law_needed") (defScope st__law_needed) s.heap.objs.size f cdv)) (envOfC (Str.ofString "_law_needed") (defScope st__law_needed) s.heap.objs.size f cdv) (cxOf (L2.CX P w) P w K mg base N__law_needed (Str.ofString "_law_needed") (defScope st__law_needed) f cdv A outer s H E).xe) : VSs (cxOf (L2.CX P w) P w K mg base N__law_needed (Str.ofString "_law_needed") (defScope st__law_needed) f cdv A outer s H E) W wx (defBody st__law_needed) (t__law_needed s__law_placer) := by
  have nd := sc__law_needed.nd
  have hu := hu64 hr
  have hu1 := hu65 hr
  have hcd := kds_of hcd0
  exact (vss_cons (vs_for pso rfl (vi_list (ve_op (m := false) op_addV snd_add (vo_pk 0) (vo_pd (ve_lc rfl nd (own := [((Str.ofString "at"), 5)]) (vi_list (ve_var 2)) (blkOk_by (N := N__law_needed) (sc := defScope st__law_needed) (by decide +kernel)) (fun _ _ _ _ _ => (vg_name (i := 5) nd rfl (.inl rfl))) (fun _ _ _ _ _ => vcs_nil) (fun _ _ _ _ _ => (ve_ix (m := false) (ix_V (hu2 hr)) snd_ix (vo_pk 1) (vo_pk 5) (fun _ _ => rfl))) (by decide))))) (vg_name (i := 3) nd rfl (.inl rfl)) (vss_one (vs_for pso rfl (vi_list (ve_ix (m := false) (ix_V (hu2 hr)) snd_ix (vo_pk 3) (vo_pd (ve_int)) (fun _ _ => rfl))) (vg_name (i := 4) nd rfl (.inl rfl)) (vss_cons (vs_set (i := 5) nd rfl (.inl rfl) (ve_cal G__law_placer (hr.mono (by decide)) tk (vg_pd (ve_var 1) (vg_pd (ve_ix (m := false) (ix_V (hu2 hr)) snd_ix (vo_pk 4) (vo_pd (ve_int)) (fun _ _ => rfl)) vg0)) rfl (nd_l (l := []) rfl (by decide))))
    (vss_one (vs_if (vc_w (vw_and (vc_cmp (m := true) (op_neD hu) snd_ne (vo_pd (ve_ix (m := false) (ix_V (hu2 hr)) snd_ix (vo_pk 4) (vo_pd (ve_int)) (fun _ _ => rfl))) (vo_pd (ve_str)) (nomark _)) (vw_and (vc_cmp (m := false) op_lt snd_lt (vo_pd (ve_cal G__law_placer (hr.mono (by decide)) tk (vg_pd (ve_var 0) (vg_pd (ve_ix (m := false) (ix_V (hu2 hr)) snd_ix (vo_pk 4) (vo_pd (ve_int)) (fun _ _ => rfl)) vg0)) rfl (nd_l (l := []) rfl (by decide)))) (vo_pd (ve_int)) (nomark _)) (vw_and (vc_cmp (m := false) op_ge snd_ge (vo_pk 5) (vo_pd (ve_int)) (nomark _)) (vw_and1 (vc_cmp (m := true) (op_notInV hu1) snd_notIn (vo_pk 5) (vo_pk 2) (by rfl))))))) (vss_one (vs_ret (ve_mv 5))) vss_nil))))))
    (vss_one (vs_ret (ve_un (m := false) un_neg snd_neg (vo_pd (ve_int))))))
/-! ### law -/
-- slots: 0:script 1:feed 2:names 3:parts 4:library 5:start 6:kept 7:chosen 8:k 9:at
abbrev N_law : List Str := ["script", "feed", "names", "parts", "library", "start", "kept", "chosen", "k", "at"]
abbrev P_law : List Str := ["script"]
theorem sc_law : FnScope N_law P_law (defScope st_law) := ⟨rfl, rfl, rfl, by decide +kernel, rfl, by decide +kernel, by decide +kernel⟩
def w1_law (s__law_chain : SemG) (s__law_needed : SemG) (s__law_numbers : SemG) (s__law_one : SemG) (s__law_pick : SemG) (s__law_same : SemG) (s_pulled : SemG) : VT :=
  vLc (iR1 (v2 fAdd (.pd (vC (.int 1))) (.pd (vCal s__law_pick [.ln 1, .pd (vC (.int 20))])))) (bName 8) vYes (v2 fAdd (.pd (vC (.str (Str.ofString "n")))) (.pd (v2 fIx (.pd (vC (.str (Str.ofString "abcdefghijklmnopqrst")))) (.pk 8)))) [8]
def w2_law (s__law_chain : SemG) (s__law_needed : SemG) (s__law_numbers : SemG) (s__law_one : SemG) (s__law_pick : SemG) (s__law_same : SemG) (s_pulled : SemG) : VT :=
  vLc (iR1 (vCal s__law_pick [.ln 1, .pd (vC (.int 4))])) (bName 8) vYes (vCal s__law_one [.ln 1, .pd (vV 2)]) [8]
def w3_law (s__law_chain : SemG) (s__law_needed : SemG) (s__law_numbers : SemG) (s__law_one : SemG) (s__law_pick : SemG) (s__law_same : SemG) (s_pulled : SemG) : VT :=
  vLc (iR1 (vCal s__law_pick [.ln 1, .pd (vC (.int 13))])) (bName 8) vYes (vCal s__law_one [.ln 1, .pd (vV 2)]) [8]
def w4_law (s__law_chain : SemG) (s__law_needed : SemG) (s__law_numbers : SemG) (s__law_one : SemG) (s__law_pick : SemG) (s__law_same : SemG) (s_pulled : SemG) : VT :=
  vLc (iR1 (vC (.int 13))) (bName 8) vYes (v2 fAdd (.pd (vC (.str (Str.ofString "n")))) (.pd (v2 fIx (.pd (vC (.str (Str.ofString "abcdefghijklmnopqrst")))) (.pk 8)))) [8]
def b103_law (s__law_chain : SemG) (s__law_needed : SemG) (s__law_numbers : SemG) (s__law_one : SemG) (s__law_pick : SemG) (s__law_same : SemG) (s_pulled : SemG) : VSt :=
  (vDrp (vMet (.pk 3) mAppend [(vS (vTup (vCons (vC (.str (Str.ofString "object"))) (vCons (vLst (vCons (vC (.int 218103808)) vNil)) (vCons (vLst (vCons (vTup (vCons (v2 fIx (.pk 2) (.pk 5)) (vCons (vC (.int 0)) vNil))) vNil)) (vCons (vLst (vCons (vTup (vCons (vC (.int 0)) (vCons (v2 fIx (.pk 2) (.pd (vCal s__law_pick [.ln 1, .pd (vC (.int 13))]))) vNil))) vNil)) vNil))))))]))
def b102_law (s__law_chain : SemG) (s__law_needed : SemG) (s__law_numbers : SemG) (s__law_one : SemG) (s__law_pick : SemG) (s__law_same : SemG) (s_pulled : SemG) : VSt :=
  (vSeq (vSet 5 (vCal s__law_pick [.ln 1, .pd (vC (.int 13))]))
    (b103_law s__law_chain s__law_needed s__law_numbers s__law_one s__law_pick s__law_same s_pulled))
def b101_law (s__law_chain : SemG) (s__law_needed : SemG) (s__law_numbers : SemG) (s__law_one : SemG) (s__law_pick : SemG) (s__law_same : SemG) (s_pulled : SemG) : VSt :=
  (vSeq (vSet 4 (vCal s__law_chain [.ln 1, .pd (vV 2)]))
    (b102_law s__law_chain s__law_needed s__law_numbers s__law_one s__law_pick s__law_same s_pulled))
def b106_law (s__law_chain : SemG) (s__law_needed : SemG) (s__law_numbers : SemG) (s__law_one : SemG) (s__law_pick : SemG) (s__law_same : SemG) (s_pulled : SemG) : VSt :=
  (vIfS (vB (v2 fGe (.pk 9) (.pd (vC (.int 0))))) (vDrp (vMet (.pk 7) mAppend [(vS (vV 9))])) vEnd)
def w5_law (s__law_chain : SemG) (s__law_needed : SemG) (s__law_numbers : SemG) (s__law_one : SemG) (s__law_pick : SemG) (s__law_same : SemG) (s_pulled : SemG) : VSt :=
  vFor (iR1 (w1 fLen (.pk 4))) (bName 8) (vSeq (vSet 9 (vCal s__law_needed [.br (.pk 3), .br (.pk 4), .br (.pk 7)]))
    (b106_law s__law_chain s__law_needed s__law_numbers s__law_one s__law_pick s__law_same s_pulled))
def b9_law (s__law_chain : SemG) (s__law_needed : SemG) (s__law_numbers : SemG) (s__law_one : SemG) (s__law_pick : SemG) (s__law_same : SemG) (s_pulled : SemG) : VSt :=
  (vRet (vCal s__law_same [.br (.pk 6), .pd (vLst (vCons (vV 3) (vCons (vV 4) vNil)))]))
def b8_law (s__law_chain : SemG) (s__law_needed : SemG) (s__law_numbers : SemG) (s__law_one : SemG) (s__law_pick : SemG) (s__law_same : SemG) (s_pulled : SemG) : VSt :=
  (vSeq (vIfS (vNot (vTru (.pd (vCal s__law_same [.pd (vCal s_pulled [.pd (v2 fIx (.pk 6) (.pd (vC (.int 0)))), .pd (v2 fIx (.pk 6) (.pd (vC (.int 1))))]), .pd (v1 fSortI (.pk 7))])))) (vRet (vC (.bool false))) vEnd)
    (b9_law s__law_chain s__law_needed s__law_numbers s__law_one s__law_pick s__law_same s_pulled))
def b7_law (s__law_chain : SemG) (s__law_needed : SemG) (s__law_numbers : SemG) (s__law_one : SemG) (s__law_pick : SemG) (s__law_same : SemG) (s_pulled : SemG) : VSt :=
  (vSeq (w5_law s__law_chain s__law_needed s__law_numbers s__law_one s__law_pick s__law_same s_pulled)
    (b8_law s__law_chain s__law_needed s__law_numbers s__law_one s__law_pick s__law_same s_pulled))
def b6_law (s__law_chain : SemG) (s__law_needed : SemG) (s__law_numbers : SemG) (s__law_one : SemG) (s__law_pick : SemG) (s__law_same : SemG) (s_pulled : SemG) : VSt :=
  (vSeq (vSet 7 (vLst vNil))
    (b7_law s__law_chain s__law_needed s__law_numbers s__law_one s__law_pick s__law_same s_pulled))
def b5_law (s__law_chain : SemG) (s__law_needed : SemG) (s__law_numbers : SemG) (s__law_one : SemG) (s__law_pick : SemG) (s__law_same : SemG) (s_pulled : SemG) : VSt :=
  (vSeq (vSet 6 (vLst (vCons (v1 fList (.pk 3)) (vCons (v1 fList (.pk 4)) vNil))))
    (b6_law s__law_chain s__law_needed s__law_numbers s__law_one s__law_pick s__law_same s_pulled))
def b4_law (s__law_chain : SemG) (s__law_needed : SemG) (s__law_numbers : SemG) (s__law_one : SemG) (s__law_pick : SemG) (s__law_same : SemG) (s_pulled : SemG) : VSt :=
  (vSeq (vIfS (vB (w2 fEq (.pd (vCal s__law_pick [.ln 1, .pd (vC (.int 3))])) (.pd (vC (.int 1))))) (vSeq (vSet 2 (w4_law s__law_chain s__law_needed s__law_numbers s__law_one s__law_pick s__law_same s_pulled))
    (b101_law s__law_chain s__law_needed s__law_numbers s__law_one s__law_pick s__law_same s_pulled)) vEnd)
    (b5_law s__law_chain s__law_needed s__law_numbers s__law_one s__law_pick s__law_same s_pulled))
def b3_law (s__law_chain : SemG) (s__law_needed : SemG) (s__law_numbers : SemG) (s__law_one : SemG) (s__law_pick : SemG) (s__law_same : SemG) (s_pulled : SemG) : VSt :=
  (vSeq (vSet 4 (w3_law s__law_chain s__law_needed s__law_numbers s__law_one s__law_pick s__law_same s_pulled))
    (b4_law s__law_chain s__law_needed s__law_numbers s__law_one s__law_pick s__law_same s_pulled))
def b2_law (s__law_chain : SemG) (s__law_needed : SemG) (s__law_numbers : SemG) (s__law_one : SemG) (s__law_pick : SemG) (s__law_same : SemG) (s_pulled : SemG) : VSt :=
  (vSeq (vSet 3 (w2_law s__law_chain s__law_needed s__law_numbers s__law_one s__law_pick s__law_same s_pulled))
    (b3_law s__law_chain s__law_needed s__law_numbers s__law_one s__law_pick s__law_same s_pulled))
def b1_law (s__law_chain : SemG) (s__law_needed : SemG) (s__law_numbers : SemG) (s__law_one : SemG) (s__law_pick : SemG) (s__law_same : SemG) (s_pulled : SemG) : VSt :=
  (vSeq (vSet 2 (w1_law s__law_chain s__law_needed s__law_numbers s__law_one s__law_pick s__law_same s_pulled))
    (b2_law s__law_chain s__law_needed s__law_numbers s__law_one s__law_pick s__law_same s_pulled))
def t_law (s__law_chain : SemG) (s__law_needed : SemG) (s__law_numbers : SemG) (s__law_one : SemG) (s__law_pick : SemG) (s__law_same : SemG) (s_pulled : SemG) : VSt :=
  (vSeq (vSet 1 (vCal s__law_numbers [.pd (vV 0)]))
    (b1_law s__law_chain s__law_needed s__law_numbers s__law_one s__law_pick s__law_same s_pulled))
theorem der_law {P : Program} {w : World} {K : PySem.W.Frag} {mg : Str → Option Value} {base : Heap} {f : Addr} (s__law_chain : SemG) (s__law_needed : SemG) (s__law_numbers : SemG) (s__law_one : SemG) (s__law_pick : SemG) (s__law_same : SemG) (s_pulled : SemG) (G__law_chain : FnG P w K mg base 2 (Str.ofString "_law_chain") 2 s__law_chain) (G__law_needed : FnG P w K mg base 2 (Str.ofString "_law_needed") 3 s__law_needed) (G__law_numbers : FnG P w K mg base 1 (Str.ofString "_law_numbers") 1 s__law_numbers) (G__law_one : FnG P w K mg base 2 (Str.ofString "_law_one") 2 s__law_one) (G__law_pick : FnG P w K mg base 1 (Str.ofString "_law_pick") 2 s__law_pick) (G__law_same : FnG P w K mg base 31 (Str.ofString "_law_same") 2 s__law_same) (G_pulled : FnG P w K mg base 2 (Str.ofString "pulled") 2 s_pulled) (m_len : mg (Str.ofString "len") = none) (m_list : mg (Str.ofString "list") = none) (m_range : mg (Str.ofString "range") = none) (m_sorted : mg (Str.ofString "sorted") = none) (cdv : Value) (hcd0 : PySem.W.codeIn K cdv (Str.ofString "law") = true) (A : Around) (outer : List Env) (s : Shared) (H : Hp) (E : XK) (W : Wd) (wx : WX) (hr : Room 31 (A.deeper (envOfC (Str.ofString "law") (defScope st_law) s.heap.objs.size f cdv)))
    (tk : Takes (cxOf (L2.CX P w) P w K mg base N_law (Str.ofString "law") (defScope st_law) f cdv A outer s H E) wx) (pso : PassesOwn (model P w) (A.deeper (envOfC (Str.ofString "law") (defScope st_law) s.heap.objs.size f cdv)) (envOfC (Str.ofString "law") (defScope st_law) s.heap.objs.size f cdv) (cxOf (L2.CX P w) P w K mg base N_law (Str.ofString "law") (defScope st_law) f cdv A outer s H E).xe) : VSs (cxOf (L2.CX P w) P w K mg base N_law (Str.ofString "law") (defScope st_law) f cdv A outer s H E) W wx (defBody st_law) (t_law s__law_chain s__law_needed s__law_numbers s__law_one s__law_pick s__law_same s_pulled) := by
  have nd := sc_law.nd
  have hu := hu64 hr
  have hu1 := hu65 hr
  have hcd := kds_of hcd0
  exact (vss_cons (vs_set (i := 1) nd rfl (.inr rfl) (ve_cal G__law_numbers (hr.mono (by decide)) tk (vg_pd (ve_var 0) vg0) rfl (nd_l (l := []) rfl (by decide))))
    (vss_cons (vs_set (i := 2) nd rfl (.inr rfl) (ve_lc rfl nd (own := [((Str.ofString "k"), 8)]) (vi_r1 m_range (ve_op (m := false) op_addV snd_add (vo_pd (ve_int)) (vo_pd (ve_cal G__law_pick (hr.mono (by decide)) tk (vg_ln 1 (vg_pd (ve_int) vg0)) rfl (nd_l (l := [1]) rfl (by decide)))))) (blkOk_by (N := N_law) (sc := defScope st_law) (by decide +kernel)) (fun _ _ _ _ _ => (vg_name (i := 8) nd rfl (.inl rfl))) (fun _ _ _ _ _ => vcs_nil) (fun _ _ _ _ _ => (ve_op (m := false) op_addV snd_add (vo_pd (ve_str)) (vo_pd (ve_ix (m := false) (ix_V (hu2 hr)) snd_ix (vo_pd (ve_str)) (vo_pk 8) (fun _ _ => rfl))))) (by decide)))
    (vss_cons (vs_setLc (i := 3) rfl nd rfl rfl (sw_true rfl rfl rfl (by decide +kernel)) (own := [((Str.ofString "k"), 8)]) (vi_r1 m_range (ve_cal G__law_pick (hr.mono (by decide)) tk (vg_ln 1 (vg_pd (ve_int) vg0)) rfl (nd_l (l := [1]) rfl (by decide)))) (blkOk_by (N := N_law) (sc := defScope st_law) (by decide +kernel)) (fun _ _ _ _ _ => (vg_name (i := 8) nd rfl (.inl rfl))) (fun _ _ _ _ _ => vcs_nil) (fun _ _ _ _ _ => (ve_cal G__law_one (hr.mono (by decide)) takes0 (vg_ln 1 (vg_pd (ve_var 2) vg0)) rfl (nd_l (l := [1]) rfl (by decide)))) (by decide))
    (vss_cons (vs_setLc (i := 4) rfl nd rfl rfl (sw_true rfl rfl rfl (by decide +kernel)) (own := [((Str.ofString "k"), 8)]) (vi_r1 m_range (ve_cal G__law_pick (hr.mono (by decide)) tk (vg_ln 1 (vg_pd (ve_int) vg0)) rfl (nd_l (l := [1]) rfl (by decide)))) (blkOk_by (N := N_law) (sc := defScope st_law) (by decide +kernel)) (fun _ _ _ _ _ => (vg_name (i := 8) nd rfl (.inl rfl))) (fun _ _ _ _ _ => vcs_nil) (fun _ _ _ _ _ => (ve_cal G__law_one (hr.mono (by decide)) takes0 (vg_ln 1 (vg_pd (ve_var 2) vg0)) rfl (nd_l (l := [1]) rfl (by decide)))) (by decide))
    (vss_cons (vs_if (vc_cmp (m := true) (op_eqD hu) snd_eq (vo_pd (ve_cal G__law_pick (hr.mono (by decide)) tk (vg_ln 1 (vg_pd (ve_int) vg0)) rfl (nd_l (l := [1]) rfl (by decide)))) (vo_pd (ve_int)) (nomark _)) (vss_cons (vs_set (i := 2) nd rfl (.inr rfl) (ve_lc rfl nd (own := [((Str.ofString "k"), 8)]) (vi_r1 m_range (ve_int)) (blkOk_by (N := N_law) (sc := defScope st_law) (by decide +kernel)) (fun _ _ _ _ _ => (vg_name (i := 8) nd rfl (.inl rfl))) (fun _ _ _ _ _ => vcs_nil) (fun _ _ _ _ _ => (ve_op (m := false) op_addV snd_add (vo_pd (ve_str)) (vo_pd (ve_ix (m := false) (ix_V (hu2 hr)) snd_ix (vo_pd (ve_str)) (vo_pk 8) (fun _ _ => rfl))))) (by decide)))
    (vss_cons (vs_set (i := 4) nd rfl (.inl rfl) (ve_cal G__law_chain (hr.mono (by decide)) tk (vg_ln 1 (vg_pd (ve_var 2) vg0)) rfl (nd_l (l := [1]) rfl (by decide))))
    (vss_cons (vs_set (i := 5) nd rfl (.inl rfl) (ve_cal G__law_pick (hr.mono (by decide)) tk (vg_ln 1 (vg_pd (ve_int) vg0)) rfl (nd_l (l := [1]) rfl (by decide))))
    (vss_one (vs_expr (ve_met PySem.F.slot_list_append PySem.F.type_list_append mt_append sndm_append fit_append (vo_pk 3) (vm1 (ve_sh (ve_tup (va_cons (ve_str) (va_cons (ve_lst (va_cons (ve_int) va_nil) (by decide)) (va_cons (ve_lst (va_cons (ve_tup (va_cons (ve_ix (m := false) (ix_V (hu2 hr)) snd_ix (vo_pk 2) (vo_pk 5) (fun _ _ => rfl)) (va_cons (ve_int) va_nil)) (by decide)) va_nil) (by decide)) (va_cons (ve_lst (va_cons (ve_tup (va_cons (ve_int) (va_cons (ve_ix (m := false) (ix_V (hu2 hr)) snd_ix (vo_pk 2) (vo_pd (ve_cal G__law_pick (hr.mono (by decide)) tk (vg_ln 1 (vg_pd (ve_int) vg0)) rfl (nd_l (l := [1]) rfl (by decide)))) (fun _ _ => rfl)) va_nil)) (by decide)) va_nil) (by decide)) va_nil)))) (by decide))) vm0))))))) vss_nil)
    (vss_cons (vs_set (i := 6) nd rfl (.inl rfl) (ve_lst (va_cons (ve_t1 (m := false) call_list_of snd_list m_list (by decide +kernel) (vo_pk 3)) (va_cons (ve_t1 (m := false) call_list_of snd_list m_list (by decide +kernel) (vo_pk 4)) va_nil)) (by decide)))
    (vss_cons (vs_set (i := 7) nd rfl (.inl rfl) (ve_lst va_nil (by decide)))
    (vss_cons (vs_for pso rfl (vi_r1 m_range (ve_b1 (m := true) call_lenV snd_len m_len PySem.boot_len (vo_pk 4))) (vg_name (i := 8) nd rfl (.inl rfl)) (vss_cons (vs_set (i := 9) nd rfl (.inl rfl) (ve_cal G__law_needed (hr.mono (by decide)) tk (vg_br (vo_pk 3) (vg_br (vo_pk 4) (vg_br (vo_pk 7) vg0))) rfl (nd_l (l := []) rfl (by decide))))
    (vss_one (vs_if (vc_cmp (m := false) op_ge snd_ge (vo_pk 9) (vo_pd (ve_int)) (nomark _)) (vss_one (vs_expr (ve_met PySem.F.slot_list_append PySem.F.type_list_append mt_append sndm_append fit_append (vo_pk 7) (vm1 (ve_sh (ve_var 9)) vm0)))) vss_nil))))
    (vss_cons (vs_if (vc_not (vc_tru (vo_pd (ve_cal G__law_same (hr.mono (by decide)) tk (vg_pd (ve_cal G_pulled (hr.mono (by decide)) tk (vg_pd (ve_ix (m := false) (ix_V (hu2 hr)) snd_ix (vo_pk 6) (vo_pd (ve_int)) (fun _ _ => rfl)) (vg_pd (ve_ix (m := false) (ix_V (hu2 hr)) snd_ix (vo_pk 6) (vo_pd (ve_int)) (fun _ _ => rfl)) vg0)) rfl (nd_l (l := []) rfl (by decide))) (vg_pd (ve_b1 (m := false) cr_sortedI snd_sortI m_sorted (by decide +kernel) (vo_pk 7)) vg0)) rfl (nd_l (l := []) rfl (by decide)))))) (vss_one (vs_ret (ve_bl))) vss_nil)
    (vss_one (vs_ret (ve_cal G__law_same (hr.mono (by decide)) tk (vg_br (vo_pk 6) (vg_pd (ve_lst (va_cons (ve_var 3) (va_cons (ve_var 4) va_nil)) (by decide)) vg0)) rfl (nd_l (l := []) rfl (by decide))))))))))))))
end K63

/-! ## S63a -/
set_option Elab.async false
set_option linter.all false
set_option exponentiation.threshold 10000
set_option autoImplicit false
set_option maxRecDepth 100000
set_option maxHeartbeats 8000000
namespace K63
open PySem PySem.Spec PyProof.Rows L2 ML
local macro_rules | `(tactic| simp? [$ls,*]) => `(tactic| simp [-Bool.exists_bool, -List.map_take, -List.map_drop, -List.map_append, vSeq, vAsg, vV, vMv, vS, vIfS, vOr, vAnd, vNot, vB, vv1, vv2, vv3, Opr.ev, Opr.fin, Opr.sl, Opr.base, Sl.read, Sl.rd, Sl.ra, Sl.get, Sl.isIn, Sl.ot, Ot.rd, Ot.get, gets_lv, leaves_lv, Sh.data, Sh.datR, Sh.root, Rs.to, ↓lv_in, -List.map_map, fst_0, fst_s, ini, List.replicate_succ, enG, bTup, bCons, bName, bNil, inAt, vC, vEnd, vBrk, vCnt, vRaise, fLt, fAdd_int, fGt, fGe, fLe, fSub, fMod, fI, fFdv, cPow, fPow, fMin2, fMax2, fInt, fAbs, fNeg, Option.bind, vRet, vSet, vDrp, vCal, agEv, agIn, agIn1, lns_nil, lns_pd, lns_br, lns_ln, bor_nil, bor_pd, bor_ln, bor_br, out_nil, out_pd, out_br, out_ln, lat_nil, lat_pd, lat_br, lat_ln, keep_fd, ex_pair, keepO_sh, lnAtm_no, agOut_no, Sl.atm, atom_i, atom_s, atom_b, atom_n, atom_k, vCons, vNil, vTup, vLst, vIf, vTru, truD, vNotV, vNotT, flat_fd, vAndV, vOrV, fEq_int, fNe_int, fEq_str, fNe_str, fEq_is, fEq_si, vMet, mvEv, Opr.loc, locAt, Ot.at, Ot.put, Nde.set, append_lv, pop_lv, reverse_lv, insert_lv, vLc_eq, vFor_eq, wipeD, vYes, iR1, iL, iK, vAug, fAug_int, slotInt, fLen_list, fIsN, fNotN, vIxN, ixLoc, kidQ, ixN, os_inj, ix0, ix1, ix2, ix3, ix4, lx0, lx1, lx2, lx3, fLen_tup, xAnd, xNot, xIs, vTry, enX, keepO, Ot.root, Ot.rd, fInt, vTry0, isB_n, isB_b, isB_i, isB_s, isB_l, isB_t, isI_n, isI_b, isI_i, isI_s, isI_l, isI_t, isS_n, isS_b, isS_i, isS_s, isS_l, isS_t, isL_n, isL_b, isL_i, isL_s, isL_l, isL_t, isT_n, isT_b, isT_i, isT_s, isT_l, isT_t, nn_n, nn_i, nn_b, nn_s, nn_l, nn_t, vDct0_eq, vGet1, vGet2, vDc_eq, keep_dc, isDictD_dct, getD2_i, getD2_s, fIx_di, fIx_ds, fIn_di, fIn_ds, fNotIn_di, fNotIn_ds, truD_dct, kidx_i, kidx_s, xOr, plc, Sh.pos, Sh.root, vLstO, ML.ots, Ot.gets, vSlB, vChain, vLIx, vRaiseF, xIf, xIsF, xFld, ML.lookup_putD, vPut, vLc2_eq, fRng1, iRg, iR2, iEnT, iEn, vGet2N, vTupO, $ls,*])
open LP (sm_pick pick)
/-! ### objects -/
structure Pt where
  ws : List Int
  sy : List (Str × Int)
  mv : List (Int × Str)
def syD (p : Str × Int) : D := .tuple [.str p.1, .int p.2]
def mvD (p : Int × Str) : D := .tuple [.int p.1, .str p.2]
def Pt.d (o : Pt) : D := .tuple [.str "object", .list (zs o.ws), .list (o.sy.map syD), .list (o.mv.map mvD)]
def ptsD (P : List Pt) : D := .list (P.map Pt.d)
def nms (o : Pt) : List Str := o.sy.map (·.1)
def nds (o : Pt) : List Str := (o.mv.map (·.2)).filter fun x => decide (x ≠ Str.ofString "")
/-! ### who places what, who needs whom -/
def No (P : List Pt) (x : Str) : Prop := ∀ o ∈ P, x ∉ nms o
def NoB (L : List Pt) (n : Nat) (x : Str) : Prop := ∀ j o, j < n → L[j]? = some o → x ∉ nms o
def IsP (L : List Pt) (x : Str) (k : Nat) : Prop := (∃ o, L[k]? = some o ∧ x ∈ nms o) ∧ NoB L k x
theorem isP_fn {L : List Pt} {x : Str} {k j : Nat} (h : IsP L x k) (g : IsP L x j) : k = j := by
  obtain ⟨⟨o, h1, h2⟩, h3⟩ := h
  obtain ⟨⟨o', g1, g2⟩, g3⟩ := g
  rcases Nat.lt_trichotomy k j with c | c | c
  · exact absurd h2 (g3 k o c h1)
  · exact c
  · exact absurd g2 (h3 j o' c g1)
theorem isP_no {L : List Pt} {x : Str} {k : Nat} (h : IsP L x k) : ¬ No L x := fun n => by
  obtain ⟨⟨o, h1, h2⟩, _⟩ := h
  exact n o (List.mem_of_getElem? h1) h2
theorem isP_lt {L : List Pt} {x : Str} {k : Nat} (h : IsP L x k) : k < L.length := by
  obtain ⟨⟨o, h1, _⟩, _⟩ := h
  exact (List.getElem?_eq_some_iff.mp h1).1
theorem noB_all {L : List Pt} {x : Str} (h : NoB L L.length x) : No L x := fun o ho => by
  obtain ⟨j, hj, e⟩ := List.mem_iff_getElem.mp ho
  exact h j o hj (by rw [List.getElem?_eq_getElem hj, e])
def Nd (P L : List Pt) (o : Pt) (k : Nat) : Prop := ∃ x ∈ nds o, No P x ∧ IsP L x k
def Src (P L : List Pt) (F : List Nat) (o : Pt) : Prop := o ∈ P ∨ ∃ j ∈ F, L[j]? = some o
def Clo (P L : List Pt) (F : List Nat) (o : Pt) : Prop := ∀ k, Nd P L o k → k ∈ F
inductive Rc (P L : List Pt) : Nat → Prop
  | base {o : Pt} {k : Nat} : o ∈ P → Nd P L o k → Rc P L k
  | step {j : Nat} {o : Pt} {k : Nat} : Rc P L j → L[j]? = some o → Nd P L o k → Rc P L k
theorem Rc.lt {P L : List Pt} {k : Nat} (h : Rc P L k) : k < L.length := by
  cases h with
  | base _ h => obtain ⟨x, _, _, h⟩ := h; exact isP_lt h
  | step _ _ h => obtain ⟨x, _, _, h⟩ := h; exact isP_lt h
theorem rc_in {P L : List Pt} {F : List Nat} (hc : ∀ o, Src P L F o → Clo P L F o) {k : Nat} (h : Rc P L k) : k ∈ F := by
  induction h with
  | base h1 h2 => exact hc _ (.inl h1) _ h2
  | step _ h2 h3 ih => exact hc _ (.inr ⟨_, ih, h2⟩) _ h3
theorem rc_src {P L : List Pt} {F : List Nat} (hr : ∀ k ∈ F, Rc P L k) {o : Pt} (hs : Src P L F o) {k : Nat} (h : Nd P L o k) : Rc P L k := by
  rcases hs with hs | ⟨j, hj, e⟩
  · exact .base hs h
  · exact .step (hr j hj) e h
theorem Src.mono {P L : List Pt} {F G : List Nat} (h : ∀ k ∈ F, k ∈ G) {o : Pt} (hs : Src P L F o) : Src P L G o := by
  rcases hs with hs | ⟨j, hj, e⟩
  · exact .inl hs
  · exact .inr ⟨j, h j hj, e⟩
theorem Clo.mono {P L : List Pt} {F G : List Nat} (h : ∀ k ∈ F, k ∈ G) {o : Pt} (hs : Clo P L F o) : Clo P L G o := fun k hk => h k (hs k hk)
theorem pig : ∀ {n : Nat} {F : List Nat}, F.Nodup → (∀ k ∈ F, k < n) → F.length ≤ n
  | 0, F, _, h => by
    cases F with
    | nil => exact Nat.le_refl _
    | cons a r => exact absurd (h a List.mem_cons_self) (by omega)
  | n + 1, F, nd, h => by
    have ih := pig (n := n) (F := F.erase n) (nd.erase n) fun k hk => by
      obtain ⟨h1, h2⟩ := (nd.mem_erase_iff).mp hk
      have := h k h2
      omega
    have := List.length_erase (a := n) (l := F)
    split at this <;> omega
/-! ### what an object needs -/
def sm_needed_by : SemG := semV fun ds Qd _ => ∃ o : Pt, ds = [o.d] ∧ o.mv.length ≤ 1000 ∧ ∀ p, Qd (fd p ((nds o).map .str))
def J1 (o : Pt) (k : Nat) (acc : List D) (δ : List Sl) : Prop := acc = (((o.mv.take k).map (·.2)).filter fun x => decide (x ≠ Str.ofString "")).map .str ∧ δ = [.sh o.d, .un, .un]
theorem s_needed_by {ins : List Sl} {Qd : Sl → List Sl → Prop} {Xd : Exn → List Sl → Prop} (hl : ins.length = 1) (h : sm_needed_by ins Qd Xd) : t_needed_by (enG 1 Qd Xd) (ini 3 ins) := by
  obtain ⟨_, rfl, o, rfl, hn, hq⟩ := h
  simp? [t_needed_by, w1_needed_by, Pt.d]
  refine LC_by (J1 o) (by rw [List.length_map]; omega) ⟨rfl, rfl⟩ ?_ ?_
  · rintro k d acc δ2 hd - ⟨rfl, rfl⟩
    rw [List.getElem?_map] at hd
    obtain ⟨⟨a, x⟩, hx, rfl⟩ := Option.map_eq_some_iff.mp hd
    have et : (o.mv.take (k + 1)).map (·.2) = (o.mv.take k).map (·.2) ++ [x] := by rw [List.take_add_one, hx, List.map_append]; rfl
    by_cases c : x = ""
    · simp? [mvD, Pt.d, c]
      refine ⟨?_, rfl⟩
      rw [et, List.filter_append, c]
      simp
    · simp? [mvD, Pt.d, c]
      refine ⟨?_, rfl⟩
      rw [et, List.filter_append]
      simp [c]
  · rintro acc δ2 ⟨rfl, rfl⟩ q
    rw [List.length_map, List.take_length]
    exact hq _ _
end K63

/-! ## S63b -/
set_option Elab.async false
set_option linter.all false
set_option exponentiation.threshold 10000
set_option autoImplicit false
set_option maxRecDepth 100000
set_option maxHeartbeats 8000000
namespace K63
open PySem PySem.Spec PyProof.Rows L2 ML
local macro_rules | `(tactic| simp? [$ls,*]) => `(tactic| simp [-Bool.exists_bool, -List.map_take, -List.map_drop, -List.map_append, vSeq, vAsg, vV, vMv, vS, vIfS, vOr, vAnd, vNot, vB, vv1, vv2, vv3, Opr.ev, Opr.fin, Opr.sl, Opr.base, Sl.read, Sl.rd, Sl.ra, Sl.get, Sl.isIn, Sl.ot, Ot.rd, Ot.get, gets_lv, leaves_lv, Sh.data, Sh.datR, Sh.root, Rs.to, ↓lv_in, -List.map_map, fst_0, fst_s, ini, List.replicate_succ, enG, bTup, bCons, bName, bNil, inAt, vC, vEnd, vBrk, vCnt, vRaise, fLt, fAdd_int, fGt, fGe, fLe, fSub, fMod, fI, fFdv, cPow, fPow, fMin2, fMax2, fInt, fAbs, fNeg, Option.bind, vRet, vSet, vDrp, vCal, agEv, agIn, agIn1, lns_nil, lns_pd, lns_br, lns_ln, bor_nil, bor_pd, bor_ln, bor_br, out_nil, out_pd, out_br, out_ln, lat_nil, lat_pd, lat_br, lat_ln, keep_fd, ex_pair, keepO_sh, lnAtm_no, agOut_no, Sl.atm, atom_i, atom_s, atom_b, atom_n, atom_k, vCons, vNil, vTup, vLst, vIf, vTru, truD, vNotV, vNotT, flat_fd, vAndV, vOrV, fEq_int, fNe_int, fEq_str, fNe_str, fEq_is, fEq_si, vMet, mvEv, Opr.loc, locAt, Ot.at, Ot.put, Nde.set, append_lv, pop_lv, reverse_lv, insert_lv, vLc_eq, vFor_eq, wipeD, vYes, iR1, iL, iK, vAug, fAug_int, slotInt, fLen_list, fIsN, fNotN, vIxN, ixLoc, kidQ, ixN, os_inj, ix0, ix1, ix2, ix3, ix4, lx0, lx1, lx2, lx3, fLen_tup, xAnd, xNot, xIs, vTry, enX, keepO, Ot.root, Ot.rd, fInt, vTry0, isB_n, isB_b, isB_i, isB_s, isB_l, isB_t, isI_n, isI_b, isI_i, isI_s, isI_l, isI_t, isS_n, isS_b, isS_i, isS_s, isS_l, isS_t, isL_n, isL_b, isL_i, isL_s, isL_l, isL_t, isT_n, isT_b, isT_i, isT_s, isT_l, isT_t, nn_n, nn_i, nn_b, nn_s, nn_l, nn_t, vDct0_eq, vGet1, vGet2, vDc_eq, keep_dc, isDictD_dct, getD2_i, getD2_s, fIx_di, fIx_ds, fIn_di, fIn_ds, fNotIn_di, fNotIn_ds, truD_dct, kidx_i, kidx_s, xOr, plc, Sh.pos, Sh.root, vLstO, ML.ots, Ot.gets, vSlB, vChain, vLIx, vRaiseF, xIf, xIsF, xFld, ML.lookup_putD, vPut, vLc2_eq, fRng1, iRg, iR2, iEnT, iEn, vGet2N, vTupO, $ls,*])
open LP (sm_pick pick)
/-! ### tables of names -/
def ksK (kn : List (Str × Int)) : List Key := kn.map fun p => Sum.inr p.1
def dsK (kn : List (Str × Int)) : List D := kn.map fun p => .int p.2
def lk : List (Str × Int) → Str → Option Int
  | [], _ => none
  | (y, v) :: r, x => if y = x then some v else lk r x
theorem dgt_kn : ∀ (kn : List (Str × Int)) (x : Str), dgt (ksK kn) (dsK kn) (.inr x) = (lk kn x).map .int
  | [], x => rfl
  | (y, v) :: r, x => by
    have ih := dgt_kn r x
    unfold ksK dsK at ih ⊢
    rw [List.map_cons, List.map_cons, dgt_cons, ih]
    show _ = Option.map PyData.int (if y = x then some v else lk r x)
    by_cases c : y = x
    · rw [if_pos (by rw [c]), if_pos c]; rfl
    · rw [if_neg (fun z => c (Sum.inr.inj z)), if_neg c]
theorem lk_snoc : ∀ (kn : List (Str × Int)) (y : Str) (v : Int) (x : Str), lk (kn ++ [(y, v)]) x = match lk kn x with
    | some w => some w
    | none => if y = x then some v else none
  | [], y, v, x => rfl
  | (z, w) :: r, y, v, x => by
    show (if z = x then some w else lk (r ++ [(y, v)]) x) = match (if z = x then some w else lk r x) with
      | some w => some w
      | none => if y = x then some v else none
    by_cases c : z = x
    · rw [if_pos c, if_pos c]
    · rw [if_neg c, if_neg c]; exact lk_snoc r y v x
theorem kpos_kn : ∀ {kn : List (Str × Int)} {x : Str}, lk kn x = none → kpos (ksK kn) (.inr x) = none
  | [], x, _ => rfl
  | (y, v) :: r, x, h => by
    have h : (if y = x then some v else lk r x) = none := h
    by_cases c : y = x
    · rw [if_pos c] at h; cases h
    · rw [if_neg c] at h
      have ih := kpos_kn h
      unfold ksK at ih ⊢
      rw [List.map_cons]
      unfold ML.kpos
      rw [if_neg (fun z => c (Sum.inr.inj z)), ih]
      rfl
theorem kpos_kn2 : ∀ {kn : List (Str × Int)} {x : Str} {v : Int}, lk kn x = some v → ∃ n, kpos (ksK kn) (.inr x) = some n
  | (y, w) :: r, x, v, h => by
    have h : (if y = x then some w else lk r x) = some v := h
    by_cases c : y = x
    · refine ⟨0, ?_⟩
      unfold ksK
      rw [List.map_cons]
      unfold ML.kpos
      rw [if_pos (by rw [c])]
    · rw [if_neg c] at h
      obtain ⟨n, hn⟩ := kpos_kn2 h
      refine ⟨n + 1, ?_⟩
      unfold ksK at hn ⊢
      rw [List.map_cons]
      unfold ML.kpos
      rw [if_neg (fun z => c (Sum.inr.inj z)), hn]
      rfl
/-! ### the names that the list places -/
def KI (P : List Pt) (k : Nat) (s : List Str) (ks : List Key) (ds : List D) : Prop := ∀ x, (dgt ks ds (.inr x)).isSome = true ↔ (∃ o ∈ P.take k, x ∈ nms o) ∨ x ∈ s
theorem KI.put {P : List Pt} {k : Nat} {s : List Str} {ks : List Key} {ds : List D} (h : KI P k s ks ds) (hl : ks.length = ds.length) (y : Str) (d : D) : KI P k (s ++ [y]) (putKD ks ds (.inr y) d).1 (putKD ks ds (.inr y) d).2 := fun x => by
  rw [dgt_put _ _ _ hl, List.mem_append, List.mem_singleton]
  by_cases c : x = y
  · rw [if_pos (by rw [c])]
    simp [c]
  · rw [if_neg (fun z => c (Sum.inr.inj z)), h x]
    simp [c]
theorem KI.nxt {P : List Pt} {k : Nat} {o : Pt} {ks : List Key} {ds : List D} (h : KI P k (nms o) ks ds) (ho : P[k]? = some o) : KI P (k + 1) [] ks ds := fun x => by
  rw [h x, List.take_add_one, ho]
  constructor
  · rintro (⟨o', h1, h2⟩ | h1)
    · exact .inl ⟨o', List.mem_append.mpr (.inl h1), h2⟩
    · exact .inl ⟨o, List.mem_append.mpr (.inr (by simp)), h1⟩
  · rintro (⟨o', h1, h2⟩ | h1)
    · rcases List.mem_append.mp h1 with h1 | h1
      · exact .inl ⟨o', h1, h2⟩
      · simp at h1
        subst h1
        exact .inr h2
    · cases h1
def JK (P : List Pt) (L : D) (k : Nat) (ks : List Key) (ds : List D) (δ : List Sl) : Prop := KI P k [] ks ds ∧ ks.length ≤ 100 * k ∧ δ = [.sh (ptsD P), .sh L, .un, .un, .un, .un, .un, .un, .un, .un]
def JKi (P : List Pt) (L : D) (k : Nat) (o : Pt) (j : Nat) (ks : List Key) (ds : List D) (δ : List Sl) : Prop := KI P k ((nms o).take j) ks ds ∧ ks.length ≤ 100 * k + j ∧ δ = [.sh (ptsD P), .sh L, .un, .un, .un, .sh o.d, .un, .un, .un, .un]
abbrev PP (f : SemG → VT) : VT := f sm_needed_by
abbrev PS (f : SemG → VSt) : VSt := f sm_needed_by
theorem known {P : List Pt} {L : D} {Q : Sl → List Sl → Prop} {Xc : Exn → List Sl → Prop} (hP : P.length ≤ 1000) (hs : ∀ o ∈ P, o.sy.length ≤ 100)
    (h : ∀ p ks ds, (∀ x, (dgt ks ds (.inr x)).isSome = true ↔ ¬ No P x) → Q (dc p ks ds) [.sh (ptsD P), .sh L, .un, .un, .un, .un, .un, .un, .un, .un]) : PP w1_pulled [.sh (ptsD P), .sh L, .un, .un, .un, .un, .un, .un, .un, .un] Q Xc := by
  simp? [PP, w1_pulled, vDc2_eq]
  refine ⟨P.map Pt.d, rfl, ?_⟩
  refine DC2_by (JK P L) ⟨fun x => by simp [dgt_nil], Nat.le_refl _, rfl⟩ ?_ ?_
  · rintro k d ks ds δ2 hd hl ⟨h1, h2, rfl⟩
    rw [List.getElem?_map] at hd
    obtain ⟨o, ho, rfl⟩ := Option.map_eq_some_iff.mp hd
    have hk := (List.getElem?_eq_some_iff.mp ho).1
    have hso := hs o (List.mem_of_getElem? ho)
    simp? [Pt.d]
    refine DC2i_by (JKi P L k o) ⟨h1, h2, rfl⟩ ?_ ?_
    · rintro j d1 ks1 ds1 δ6 hd1 hl1 ⟨h3, h4, rfl⟩
      rw [List.getElem?_map] at hd1
      obtain ⟨⟨x, a⟩, hx, rfl⟩ := Option.map_eq_some_iff.mp hd1
      have hj := (List.getElem?_eq_some_iff.mp hx).1
      have et : (nms o).take (j + 1) = (nms o).take j ++ [x] := by unfold nms; rw [List.take_add_one, List.getElem?_map, hx]; rfl
      have hkk : kidx (.str x) = some (.inr x) := rfl
      simp? [syD, hkk]
      refine ⟨by omega, ?_, ?_, rfl⟩
      · rw [et]; exact h3.put hl1 x _
      · have := (putKD_len (k := .inr x) (d := PyData.bool true) hl1).2
        omega
    · rintro ks1 ds1 δ6 hl1 ⟨h3, h4, rfl⟩
      rw [List.length_map] at h3 h4
      refine ⟨?_, by omega, rfl⟩
      have e1 : (nms o).take o.sy.length = nms o := by rw [List.take_of_length_le]; unfold nms; rw [List.length_map]; exact Nat.le_refl _
      rw [e1] at h3
      exact h3.nxt ho
  · rintro ks ds δ2 hl ⟨h1, h2, rfl⟩ p
    refine h p ks ds fun x => ?_
    have := h1 x
    rw [List.length_map, List.take_length] at this
    rw [this]
    unfold No
    simp
/-! ### the first that places a name -/
def FI (L : List Pt) (n : Nat) (s : List Str) (fn : List (Str × Int)) : Prop := (∀ x v, lk fn x = some v → ∃ k : Nat, v = k ∧ IsP L x k) ∧ ∀ x, lk fn x = none → NoB L n x ∧ x ∉ s
theorem FI.put {L : List Pt} {n : Nat} {s : List Str} {fn : List (Str × Int)} {y : Str} {o : Pt} (h : FI L n s fn) (ho : L[n]? = some o) (hy : y ∈ nms o) (hn : lk fn y = none) : FI L n (s ++ [y]) (fn ++ [(y, (n : Int))]) := by
  refine ⟨fun x v hv => ?_, fun x hv => ?_⟩
  · rw [lk_snoc] at hv
    cases c : lk fn x with
    | some w =>
      rw [c] at hv
      cases hv
      exact h.1 x _ c
    | none =>
      rw [c] at hv
      by_cases e : y = x
      · subst e
        simp at hv
        exact ⟨n, hv.symm, ⟨o, ho, hy⟩, (h.2 _ hn).1⟩
      · simp [e] at hv
  · rw [lk_snoc] at hv
    cases c : lk fn x with
    | some w => rw [c] at hv; cases hv
    | none =>
      rw [c] at hv
      by_cases e : y = x
      · simp [e] at hv
      · obtain ⟨h1, h2⟩ := h.2 x c
        refine ⟨h1, fun z => ?_⟩
        rcases List.mem_append.mp z with z | z
        · exact h2 z
        · exact e (List.mem_singleton.mp z).symm
theorem FI.skip {L : List Pt} {n : Nat} {s : List Str} {fn : List (Str × Int)} {y : Str} {v : Int} (h : FI L n s fn) (hn : lk fn y = some v) : FI L n (s ++ [y]) fn := by
  refine ⟨h.1, fun x hv => ?_⟩
  obtain ⟨h1, h2⟩ := h.2 x hv
  refine ⟨h1, fun z => ?_⟩
  rcases List.mem_append.mp z with z | z
  · exact h2 z
  · rw [List.mem_singleton.mp z, hn] at hv; cases hv
theorem FI.nxt {L : List Pt} {n : Nat} {o : Pt} {fn : List (Str × Int)} (h : FI L n (nms o) fn) (ho : L[n]? = some o) : FI L (n + 1) [] fn := by
  refine ⟨h.1, fun x hv => ?_⟩
  obtain ⟨h1, h2⟩ := h.2 x hv
  refine ⟨fun j o' hj hj2 => ?_, fun z => nomatch z⟩
  by_cases c : j = n
  · subst c
    rw [ho] at hj2
    cases hj2
    exact h2
  · exact h1 j o' (by omega) hj2
def JF (P L : List Pt) (kx : Sl) (q : Addr) (k : Nat) (δ : List Sl) : Prop := ∃ fn x4 x5 x6 x7, FI L k [] fn ∧ fn.length ≤ 100 * k ∧ δ = [.sh (ptsD P), .sh (ptsD L), kx, dc q (ksK fn) (dsK fn), x4, x5, x6, x7, .un, .un]
def JFi (P L : List Pt) (kx : Sl) (q : Addr) (k : Nat) (o : Pt) (j : Nat) (δ : List Sl) : Prop := ∃ fn x6 x7, FI L k ((nms o).take j) fn ∧ fn.length ≤ 100 * k + j ∧ δ = [.sh (ptsD P), .sh (ptsD L), kx, dc q (ksK fn) (dsK fn), .sh (.int (k : Nat)), .sh o.d, x6, x7, .un, .un]
theorem first {P L : List Pt} {kp q : Addr} {kks : List Key} {kds : List D} {E : En} (hL : L.length ≤ 1000) (hs : ∀ o ∈ L, o.sy.length ≤ 100)
    (h : ∀ fn x4 x5 x6 x7, (∀ x v, lk fn x = some v → ∃ k : Nat, v = k ∧ IsP L x k) → (∀ x, lk fn x = none → No L x) → E.nx [.sh (ptsD P), .sh (ptsD L), dc kp kks kds, dc q (ksK fn) (dsK fn), x4, x5, x6, x7, .un, .un]) :
    PS w3_pulled E [.sh (ptsD P), .sh (ptsD L), dc kp kks kds, dc q [] [], .un, .un, .un, .un, .un, .un] := by
  simp? [PS, w3_pulled, iEn]
  refine ⟨L.map Pt.d, rfl, ?_⟩
  refine FO_by (JF P L (dc kp kks kds) q) ⟨[], _, _, _, _, ⟨fun x v hv => (nomatch hv), fun x _ => ⟨fun j o hj => absurd hj (by omega), fun z => nomatch z⟩⟩, Nat.le_refl _, rfl⟩ ?_ ?_
  · rintro k d δ2 hd ⟨fn, x4, x5, x6, x7, h1, h2, rfl⟩
    obtain ⟨y, hy, rfl⟩ := enumD_get hd
    rw [List.getElem?_map] at hy
    obtain ⟨o, ho, rfl⟩ := Option.map_eq_some_iff.mp hy
    have hk := (List.getElem?_eq_some_iff.mp ho).1
    have hso := hs o (List.mem_of_getElem? ho)
    simp? [Pt.d, w2_pulled]
    refine FO_by (JFi P L (dc kp kks kds) q k o) ⟨fn, _, _, h1, h2, rfl⟩ ?_ ?_
    · rintro j d1 δ6 hd1 ⟨fn1, x6, x7, h3, h4, rfl⟩
      rw [List.getElem?_map] at hd1
      obtain ⟨⟨x, a⟩, hx, rfl⟩ := Option.map_eq_some_iff.mp hd1
      have hj := (List.getElem?_eq_some_iff.mp hx).1
      have et : (nms o).take (j + 1) = (nms o).take j ++ [x] := by unfold nms; rw [List.take_add_one, List.getElem?_map, hx]; rfl
      have hxm : x ∈ nms o := List.mem_map.mpr ⟨_, List.mem_of_getElem? hx, rfl⟩
      have hkk : kidx (.str x) = some (.inr x) := rfl
      have hkl : (ksK fn1).length < 1000000 := by unfold ksK; rw [List.length_map]; omega
      cases c : lk fn1 x with
      | some v =>
        obtain ⟨m, e1⟩ := kpos_kn2 c
        simp? [syD, vSetd, hkk, e1]
        exact ⟨hkl, fn1, _, _, by rw [et]; exact h3.skip c, by omega, rfl⟩
      | none =>
        have e1 := kpos_kn c
        have e2 : ksK fn1 ++ [Sum.inr x] = ksK (fn1 ++ [(x, (k : Int))]) := by unfold ksK; rw [List.map_append]; rfl
        have e3 : lv (dsK fn1) ++ [.leaf (.int (k : Nat))] = lv (dsK (fn1 ++ [(x, (k : Int))])) := by unfold dsK lv; rw [List.map_append, List.map_append]; rfl
        simp? [syD, vSetd, hkk, e1]
        exact ⟨hkl, fn1 ++ [(x, (k : Int))], .sh (.str x), .sh (.int a), by rw [et]; exact h3.put ho hxm c, by rw [List.length_append]; simp; omega, by rw [e2, e3]⟩
    · rintro δ6 ⟨fn1, x6, x7, h3, h4, rfl⟩
      rw [List.length_map] at h3 h4
      have e1 : (nms o).take o.sy.length = nms o := by rw [List.take_of_length_le]; unfold nms; rw [List.length_map]; exact Nat.le_refl _
      rw [e1] at h3
      exact ⟨fn1, _, _, _, _, h3.nxt ho, by omega, rfl⟩
  · rintro δ2 ⟨fn, x4, x5, x6, x7, h1, h2, rfl⟩
    rw [enumD_length, List.length_map] at h1
    exact h fn _ _ _ _ h1.1 fun x hx => noB_all (h1.2 x hx).1
end K63

/-! ## S63c -/
set_option Elab.async false
set_option linter.all false
set_option exponentiation.threshold 10000
set_option autoImplicit false
set_option maxRecDepth 100000
set_option maxHeartbeats 8000000
namespace K63
open PySem PySem.Spec PyProof.Rows L2 ML
local macro_rules | `(tactic| simp? [$ls,*]) => `(tactic| simp [-Bool.exists_bool, -List.map_take, -List.map_drop, -List.map_append, vSeq, vAsg, vV, vMv, vS, vIfS, vOr, vAnd, vNot, vB, vv1, vv2, vv3, Opr.ev, Opr.fin, Opr.sl, Opr.base, Sl.read, Sl.rd, Sl.ra, Sl.get, Sl.isIn, Sl.ot, Ot.rd, Ot.get, gets_lv, leaves_lv, Sh.data, Sh.datR, Sh.root, Rs.to, ↓lv_in, -List.map_map, fst_0, fst_s, ini, List.replicate_succ, enG, bTup, bCons, bName, bNil, inAt, vC, vEnd, vBrk, vCnt, vRaise, fLt, fAdd_int, fGt, fGe, fLe, fSub, fMod, fI, fFdv, cPow, fPow, fMin2, fMax2, fInt, fAbs, fNeg, Option.bind, vRet, vSet, vDrp, vCal, agEv, agIn, agIn1, lns_nil, lns_pd, lns_br, lns_ln, bor_nil, bor_pd, bor_ln, bor_br, out_nil, out_pd, out_br, out_ln, lat_nil, lat_pd, lat_br, lat_ln, keep_fd, ex_pair, keepO_sh, lnAtm_no, agOut_no, Sl.atm, atom_i, atom_s, atom_b, atom_n, atom_k, vCons, vNil, vTup, vLst, vIf, vTru, truD, vNotV, vNotT, flat_fd, vAndV, vOrV, fEq_int, fNe_int, fEq_str, fNe_str, fEq_is, fEq_si, vMet, mvEv, Opr.loc, locAt, Ot.at, Ot.put, Nde.set, append_lv, pop_lv, reverse_lv, insert_lv, vLc_eq, vFor_eq, wipeD, vYes, iR1, iL, iK, vAug, fAug_int, slotInt, fLen_list, fIsN, fNotN, vIxN, ixLoc, kidQ, ixN, os_inj, ix0, ix1, ix2, ix3, ix4, lx0, lx1, lx2, lx3, fLen_tup, xAnd, xNot, xIs, vTry, enX, keepO, Ot.root, Ot.rd, fInt, vTry0, isB_n, isB_b, isB_i, isB_s, isB_l, isB_t, isI_n, isI_b, isI_i, isI_s, isI_l, isI_t, isS_n, isS_b, isS_i, isS_s, isS_l, isS_t, isL_n, isL_b, isL_i, isL_s, isL_l, isL_t, isT_n, isT_b, isT_i, isT_s, isT_l, isT_t, nn_n, nn_i, nn_b, nn_s, nn_l, nn_t, vDct0_eq, vGet1, vGet2, vDc_eq, keep_dc, isDictD_dct, getD2_i, getD2_s, fIx_di, fIx_ds, fIn_di, fIn_ds, fNotIn_di, fNotIn_ds, truD_dct, kidx_i, kidx_s, xOr, plc, Sh.pos, Sh.root, vLstO, ML.ots, Ot.gets, vSlB, vChain, vLIx, vRaiseF, xIf, xIsF, xFld, ML.lookup_putD, vPut, vLc2_eq, fRng1, iRg, iR2, iEnT, iEn, vGet2N, vTupO, $ls,*])
open LP (sm_pick pick)
/-! ### what was found: a dict of places -/
def inz2 (F : List Nat) : List Int := F.map Int.ofNat
def ksF (F : List Nat) : List Key := F.map fun (k : Nat) => Sum.inl (k : Int)
def dsF (F : List Nat) : List D := F.map fun _ => .bool true
theorem dgt_F : ∀ (F : List Nat) (k : Nat), (dgt (ksF F) (dsF F) (.inl (k : Int))).isSome = decide (k ∈ F)
  | [], k => rfl
  | a :: r, k => by
    have ih := dgt_F r k
    unfold ksF dsF at ih ⊢
    rw [List.map_cons, List.map_cons, dgt_cons]
    by_cases c : a = k
    · rw [if_pos (by rw [c])]; simp [c]
    · rw [if_neg (fun z => c (by have := Sum.inl.inj z; omega)), ih]
      simp [Ne.symm c]
theorem kpos_F : ∀ {F : List Nat} {k : Nat}, k ∉ F → kpos (ksF F) (.inl (k : Int)) = none
  | [], k, _ => rfl
  | a :: r, k, h => by
    have ih := kpos_F (F := r) (k := k) fun z => h (List.mem_cons_of_mem _ z)
    unfold ksF at ih ⊢
    rw [List.map_cons]
    unfold ML.kpos
    rw [if_neg (fun z => h (by have := Sum.inl.inj z; have : a = k := by omega
                               rw [this]; exact List.mem_cons_self)), ih]
    rfl
theorem store_F (p : Addr) {F : List Nat} {k : Nat} (h : k ∉ F) (hl : F.length < 1000000) : storeL (.dct p (ksF F)) (lv (dsF F)) (.int (k : Nat)) (.leaf (.bool true)) = some (.dct p (ksF (F ++ [k])), lv (dsF (F ++ [k]))) := by
  have e1 : putKey (ksF F) (lv (dsF F)) (.inl (k : Int)) (.leaf (.bool true)) = some (ksF (F ++ [k]), lv (dsF (F ++ [k]))) := by
    unfold ML.putKey
    rw [if_pos (by unfold ksF; rw [List.length_map]; exact hl), kpos_F h]
    unfold ksF dsF lv
    rw [List.map_append, List.map_append, List.map_append]
    rfl
  show (putKey (ksF F) (lv (dsF F)) (.inl (k : Int)) (.leaf (.bool true))).map (fun r => (Sh.dct p r.1, r.2)) = _
  rw [e1]; rfl
/-! ### the list that is still to be looked at -/
structure InvO (P L : List Pt) (T : List Pt) (F : List Nat) : Prop where
  nd : F.Nodup
  rc : ∀ k ∈ F, Rc P L k
  src : ∀ o ∈ T, Src P L F o
  clo : ∀ o, Src P L F o → o ∈ T ∨ Clo P L F o
structure InvI (P L : List Pt) (m0 : Nat) (o : Pt) (s : List Str) (T : List Pt) (F : List Nat) : Prop where
  nd : F.Nodup
  rc : ∀ k ∈ F, Rc P L k
  so : Src P L F o
  src : ∀ o ∈ T, Src P L F o
  clo : ∀ o', Src P L F o' → o' ∈ T ∨ o' = o ∨ Clo P L F o'
  ms : T.length + 2 * (L.length - F.length) ≤ m0
  dn : ∀ x ∈ s, ∀ k, No P x → IsP L x k → k ∈ F
theorem InvI.le {P L : List Pt} {m0 : Nat} {o : Pt} {s : List Str} {T : List Pt} {F : List Nat} (h : InvI P L m0 o s T F) : F.length ≤ L.length := pig h.nd fun k hk => (h.rc k hk).lt
theorem InvO.le {P L : List Pt} {T : List Pt} {F : List Nat} (h : InvO P L T F) : F.length ≤ L.length := pig h.nd fun k hk => (h.rc k hk).lt
theorem InvO.pop {P L : List Pt} {T : List Pt} {o : Pt} {F : List Nat} (h : InvO P L (T ++ [o]) F) : InvI P L (T.length + 2 * (L.length - F.length)) o [] T F where
  nd := h.nd
  rc := h.rc
  so := h.src o (by simp)
  src := fun o' ho => h.src o' (List.mem_append.mpr (.inl ho))
  clo := fun o' ho => by
    rcases h.clo o' ho with z | z
    · rcases List.mem_append.mp z with z | z
      · exact .inl z
      · exact .inr (.inl (List.mem_singleton.mp z))
    · exact .inr (.inr z)
  ms := Nat.le_refl _
  dn := fun x hx => nomatch hx
theorem InvI.skip {P L : List Pt} {m0 : Nat} {o : Pt} {s : List Str} {T : List Pt} {F : List Nat} {x : Str} (h : InvI P L m0 o s T F) (hx : ∀ k, No P x → IsP L x k → k ∈ F) : InvI P L m0 o (s ++ [x]) T F :=
  ⟨h.nd, h.rc, h.so, h.src, h.clo, h.ms, fun y hy k => by
    rcases List.mem_append.mp hy with z | z
    · exact h.dn y z k
    · rw [List.mem_singleton.mp z]; exact hx k⟩
theorem InvI.add {P L : List Pt} {m0 : Nat} {o o2 : Pt} {s : List Str} {T : List Pt} {F : List Nat} {x : Str} {k : Nat} (h : InvI P L m0 o s T F) (hx : x ∈ nds o) (hn : No P x) (hk : IsP L x k) (hf : k ∉ F) (ho : L[k]? = some o2) : InvI P L m0 o (s ++ [x]) (T ++ [o2]) (F ++ [k]) where
  nd := by
    rw [List.nodup_append]
    refine ⟨h.nd, by simp, fun a ha b hb e => ?_⟩
    rw [List.mem_singleton.mp hb] at e
    rw [e] at ha
    exact hf ha
  rc := fun j hj => by
    rcases List.mem_append.mp hj with z | z
    · exact h.rc j z
    · rw [List.mem_singleton.mp z]
      exact rc_src h.rc h.so ⟨x, hx, hn, hk⟩
  so := h.so.mono fun j hj => List.mem_append.mpr (.inl hj)
  src := fun o' ho' => by
    rcases List.mem_append.mp ho' with z | z
    · exact (h.src o' z).mono fun j hj => List.mem_append.mpr (.inl hj)
    · rw [List.mem_singleton.mp z]
      exact .inr ⟨k, by simp, ho⟩
  clo := fun o' ho' => by
    have key : Src P L F o' ∨ o' = o2 := by
      rcases ho' with z | ⟨j, hj, e⟩
      · exact .inl (.inl z)
      · rcases List.mem_append.mp hj with z | z
        · exact .inl (.inr ⟨j, z, e⟩)
        · rw [List.mem_singleton.mp z, ho] at e
          exact .inr (Option.some.inj e).symm
    rcases key with z | z
    · rcases h.clo o' z with c | c | c
      · exact .inl (List.mem_append.mpr (.inl c))
      · exact .inr (.inl c)
      · exact .inr (.inr (c.mono fun j hj => List.mem_append.mpr (.inl hj)))
    · exact .inl (by rw [z]; simp)
  ms := by
    have h1 := h.ms
    have h2 := isP_lt hk
    have h3 : (F ++ [k]).length ≤ L.length := by
      refine pig ?_ fun j hj => ?_
      · rw [List.nodup_append]
        refine ⟨h.nd, by simp, fun a ha b hb e => ?_⟩
        rw [List.mem_singleton.mp hb] at e
        rw [e] at ha
        exact hf ha
      · rcases List.mem_append.mp hj with z | z
        · exact (h.rc j z).lt
        · rw [List.mem_singleton.mp z]; exact h2
    rw [List.length_append] at h3 ⊢
    rw [List.length_append]
    simp only [List.length_cons, List.length_nil] at h3 ⊢
    omega
  dn := fun y hy j hn2 hj => by
    rcases List.mem_append.mp hy with z | z
    · exact List.mem_append.mpr (.inl (h.dn y z j hn2 hj))
    · rw [List.mem_singleton.mp z] at hj
      rw [isP_fn hj hk]
      simp
theorem InvI.out {P L : List Pt} {m0 : Nat} {o : Pt} {T : List Pt} {F : List Nat} (h : InvI P L m0 o (nds o) T F) : InvO P L T F where
  nd := h.nd
  rc := h.rc
  src := h.src
  clo := fun o' ho => by
    rcases h.clo o' ho with z | z | z
    · exact .inl z
    · subst z
      exact .inr fun k ⟨x, h1, h2, h3⟩ => h.dn x h1 k h2 h3
    · exact .inr z
/-! ### the walk -/
def JW (P L : List Pt) (kx fx : Sl) (x4 x5 x7 : Sl) (pf pt : Addr) (m : Nat) (δ : List Sl) : Prop := ∃ T F x6, InvO P L T F ∧ m = T.length + 2 * (L.length - F.length) ∧ T.length + 2 * (L.length - F.length) ≤ 4000 ∧
  δ = [.sh (ptsD P), .sh (ptsD L), kx, fx, x4, x5, x6, x7, dc pf (ksF F) (dsF F), fd pt (T.map Pt.d)]
def JV (P L : List Pt) (kx fx : Sl) (x4 x5 x7 : Sl) (pf pt : Addr) (m0 : Nat) (o : Pt) (k : Nat) (δ : List Sl) : Prop := ∃ T F x6, InvI P L m0 o ((nds o).take k) T F ∧ 
  δ = [.sh (ptsD P), .sh (ptsD L), kx, fx, x4, x5, x6, x7, dc pf (ksF F) (dsF F), fd pt (T.map Pt.d)]
theorem walk {P L : List Pt} {kp fp pf pt : Addr} {kks : List Key} {kds : List D} {fn : List (Str × Int)} {x4 x5 x6 x7 : Sl} {E : En} (hP : P.length ≤ 1000) (hL : L.length ≤ 1000) (hPm : ∀ o ∈ P, o.mv.length ≤ 1000) (hLm : ∀ o ∈ L, o.mv.length ≤ 1000)
    (hk : ∀ x, (dgt kks kds (.inr x)).isSome = true ↔ ¬ No P x) (h1 : ∀ x v, lk fn x = some v → ∃ k : Nat, v = k ∧ IsP L x k) (h2 : ∀ x, lk fn x = none → No L x)
    (h : ∀ F x6 y, F.Nodup → (∀ k, k ∈ F ↔ Rc P L k) → E.nx [.sh (ptsD P), .sh (ptsD L), dc kp kks kds, dc fp (ksK fn) (dsK fn), x4, x5, x6, x7, dc pf (ksF F) (dsF F), y]) :
    PS w5_pulled E [.sh (ptsD P), .sh (ptsD L), dc kp kks kds, dc fp (ksK fn) (dsK fn), x4, x5, x6, x7, dc pf [] [], fd pt (P.map Pt.d)] := by
  unfold PS w5_pulled
  refine WH_by (JW P L (dc kp kks kds) (dc fp (ksK fn) (dsK fn)) x4 x5 x7 pf pt) ⟨P, [], _, ⟨List.nodup_nil, fun k hk => (nomatch hk), fun o ho => .inl ho, fun o ho => ?_⟩, rfl, by simp only [List.length_nil]; omega, rfl⟩ ?_
  · rcases ho with ho | ⟨j, hj, _⟩
    · exact .inl ho
    · cases hj
  rintro n1 δ1 ⟨T, F, x6, I, rfl, hT, rfl⟩ nx hnx
  have htd : T = [] ∨ ∃ T0 z, T = T0 ++ [z] := by
    rcases List.eq_nil_or_concat T with h | ⟨T0, z, h⟩
    · exact .inl h
    · exact .inr ⟨T0, z, by rw [h, List.concat_eq_append]⟩
  rcases htd with rfl | ⟨T0, o, rfl⟩
  · simp? []
    refine h F _ _ I.nd fun k => ⟨I.rc k, fun hk => rc_in (fun o ho => ?_) hk⟩
    rcases I.clo o ho with z | z
    · cases z
    · exact z
  · have I0 := I.pop
    have hom : o.mv.length ≤ 1000 := by
      rcases I0.so with z | ⟨j, _, z⟩
      · exact hPm o z
      · exact hLm o (List.mem_of_getElem? z)
    have e7 : ((T0 ++ [o]).map Pt.d).isEmpty = false := by simp
    have e8 : mPop (lv ((T0 ++ [o]).map Pt.d)) [] = some (lv (T0.map Pt.d), o.d) := by
      rw [List.map_append]
      exact pop_lv _ _
    simp? [e7, e8, w4_pulled]
    refine ⟨_, rfl, o, rfl, hom, fun q outs => ?_⟩
    simp? []
    refine FO_by (JV P L (dc kp kks kds) (dc fp (ksK fn) (dsK fn)) x4 x5 x7 pf pt (T0.length + 2 * (L.length - F.length)) o) ⟨T0, F, _, I0, rfl⟩ ?_ ?_
    · rintro k d δ2 hd ⟨T1, F1, y6, I1, rfl⟩
      rw [List.getElem?_map] at hd
      obtain ⟨x, hx, rfl⟩ := Option.map_eq_some_iff.mp hd
      have hxm : x ∈ nds o := List.mem_of_getElem? hx
      have et : (nds o).take (k + 1) = (nds o).take k ++ [x] := by rw [List.take_add_one, hx]; rfl
      have hF1 := I1.le
      have e1 := fNotIn_ds kks kds x
      have e2 : fIn (.str x) (dctD (ksK fn) (dsK fn)) = some (.sh (.bool (lk fn x).isSome)) := by
        rw [fIn_ds, dgt_kn]
        cases lk fn x <;> rfl
      by_cases c1 : No P x
      · have c1' : (dgt kks kds (.inr x)).isSome = false := by
          cases q : (dgt kks kds (.inr x)).isSome with
          | true => exact absurd c1 ((hk x).mp q)
          | false => rfl
        rw [c1'] at e1
        cases c2 : lk fn x with
        | none =>
          rw [c2] at e2
          simp? [e1, e2]
          exact ⟨T1, F1, _, by rw [et]; exact I1.skip fun k _ z => absurd (h2 x c2) (isP_no z), rfl⟩
        | some v =>
          obtain ⟨j, rfl, hj⟩ := h1 x v c2
          rw [c2] at e2
          have e3 : fIx (dctD (ksK fn) (dsK fn)) (.str x) = some (.sh (.int (j : Nat))) := by rw [fIx_ds, dgt_kn, c2]; rfl
          have e4 : fNotIn (.int (j : Nat)) (dctD (ksF F1) (dsF F1)) = some (.sh (.bool (!decide (j ∈ F1)))) := by rw [fNotIn_di, dgt_F]
          by_cases c3 : j ∈ F1
          · rw [decide_eq_true c3] at e4
            simp? [e1, e2, e3, e4]
            exact ⟨T1, F1, _, by rw [et]; exact I1.skip fun k _ z => by rw [isP_fn z hj]; exact c3, rfl⟩
          · rw [decide_eq_false c3] at e4
            obtain ⟨o2, ho2⟩ : ∃ o2, L[j]? = some o2 := ⟨_, List.getElem?_eq_getElem (isP_lt hj)⟩
            have e5 : fIx (ptsD L) (.int (j : Nat)) = some (.sh o2.d) := by
              unfold ptsD
              exact ixl (by rw [List.getElem?_map, ho2]; rfl)
            have I2 := I1.add hxm c1 hj c3 ho2
            have hTl := I1.ms
            rw [List.length_append] at hT
            have e6 := store_F pf c3 (by omega)
            simp? [e1, e2, e3, e4, e5, q1_pulled, b103_pulled, vPut]
            refine ⟨_, _, e6, _, ⟨by omega, rfl⟩, T1 ++ [o2], F1 ++ [j], _, by rw [et]; exact I2, by rw [List.map_append]; rfl⟩
      · have c1' : (dgt kks kds (.inr x)).isSome = true := (hk x).mpr c1
        rw [c1'] at e1
        simp? [e1]
        exact ⟨T1, F1, _, by rw [et]; exact I1.skip fun k z _ => absurd z c1, rfl⟩
    · rintro δ2 ⟨T1, F1, y6, I1, rfl⟩
      rw [List.length_map, List.take_length] at I1
      have hm := I1.ms
      rw [List.length_append] at hT
      simp only [List.length_cons, List.length_nil] at hT
      refine hnx _ _ ?_ ⟨T1, F1, _, I1.out, rfl, by omega, rfl⟩
      rw [List.length_append]
      simp only [List.length_cons, List.length_nil]
      omega
def sm_pulled : SemG := semV fun ds Qd _ => ∃ P L : List Pt, ds = [ptsD P, ptsD L] ∧ P.length ≤ 1000 ∧ L.length ≤ 1000 ∧ (∀ o ∈ P, o.sy.length ≤ 100 ∧ o.mv.length ≤ 1000) ∧ (∀ o ∈ L, o.sy.length ≤ 100 ∧ o.mv.length ≤ 1000) ∧
  ∀ F : List Nat, F.Nodup → (∀ k, k ∈ F ↔ Rc P L k) → ∀ p, Qd (fd p (zs (srtI (inz2 F))))
theorem s_pulled {ins : List Sl} {Qd : Sl → List Sl → Prop} {Xd : Exn → List Sl → Prop} (hl : ins.length = 2) (h : sm_pulled ins Qd Xd) : t_pulled sm_needed_by (enG 2 Qd Xd) (ini 10 ins) := by
  obtain ⟨_, rfl, P, L, rfl, hP, hL, hPs, hLs, hq⟩ := h
  simp? [t_pulled]
  refine known hP (fun o ho => (hPs o ho).1) fun p ks ds hk => ?_
  simp? [b1_pulled, b2_pulled]
  intro p3
  refine first hL (fun o ho => (hLs o ho).1) fun fn x4 x5 x6 x7 h1 h2 => ?_
  simp? [b3_pulled, b4_pulled]
  intro p8
  refine ⟨_, rfl, fun q => ?_⟩
  simp? [b5_pulled]
  refine walk hP hL (fun o ho => (hPs o ho).2) (fun o ho => (hLs o ho).2) hk h1 h2 fun F y6 y nd hF => ?_
  have e1 : fSortDX (dctD (ksF F) (dsF F)) = some (.nw (zs (srtI (inz2 F)))) := by
    have e2 : ksF F = (inz2 F).map Sum.inl := by unfold ksF inz2; rw [List.map_map]; rfl
    rw [e2]
    exact fSortDX_dct (by unfold inz2 dsF; rw [List.length_map, List.length_map])
  simp? [b6_pulled, e1]
  intro p9
  exact hq F nd hF _ _
end K63

/-! ## S63d -/
set_option Elab.async false
set_option linter.all false
set_option exponentiation.threshold 10000
set_option autoImplicit false
set_option maxRecDepth 100000
set_option maxHeartbeats 8000000
namespace K63
open PySem PySem.Spec PyProof.Rows L2 ML
local macro_rules | `(tactic| simp? [$ls,*]) => `(tactic| simp [-Bool.exists_bool, -List.map_take, -List.map_drop, -List.map_append, vSeq, vAsg, vV, vMv, vS, vIfS, vOr, vAnd, vNot, vB, vv1, vv2, vv3, Opr.ev, Opr.fin, Opr.sl, Opr.base, Sl.read, Sl.rd, Sl.ra, Sl.get, Sl.isIn, Sl.ot, Ot.rd, Ot.get, gets_lv, leaves_lv, Sh.data, Sh.datR, Sh.root, Rs.to, ↓lv_in, -List.map_map, fst_0, fst_s, ini, List.replicate_succ, enG, bTup, bCons, bName, bNil, inAt, vC, vEnd, vBrk, vCnt, vRaise, fLt, fAdd_int, fGt, fGe, fLe, fSub, fMod, fI, fFdv, cPow, fPow, fMin2, fMax2, fInt, fAbs, fNeg, Option.bind, vRet, vSet, vDrp, vCal, agEv, agIn, agIn1, lns_nil, lns_pd, lns_br, lns_ln, bor_nil, bor_pd, bor_ln, bor_br, out_nil, out_pd, out_br, out_ln, lat_nil, lat_pd, lat_br, lat_ln, keep_fd, ex_pair, keepO_sh, lnAtm_no, agOut_no, Sl.atm, atom_i, atom_s, atom_b, atom_n, atom_k, vCons, vNil, vTup, vLst, vIf, vTru, truD, vNotV, vNotT, flat_fd, vAndV, vOrV, fEq_int, fNe_int, fEq_str, fNe_str, fEq_is, fEq_si, vMet, mvEv, Opr.loc, locAt, Ot.at, Ot.put, Nde.set, append_lv, pop_lv, reverse_lv, insert_lv, vLc_eq, vFor_eq, wipeD, vYes, iR1, iL, iK, vAug, fAug_int, slotInt, fLen_list, fIsN, fNotN, vIxN, ixLoc, kidQ, ixN, os_inj, ix0, ix1, ix2, ix3, ix4, lx0, lx1, lx2, lx3, fLen_tup, xAnd, xNot, xIs, vTry, enX, keepO, Ot.root, Ot.rd, fInt, vTry0, isB_n, isB_b, isB_i, isB_s, isB_l, isB_t, isI_n, isI_b, isI_i, isI_s, isI_l, isI_t, isS_n, isS_b, isS_i, isS_s, isS_l, isS_t, isL_n, isL_b, isL_i, isL_s, isL_l, isL_t, isT_n, isT_b, isT_i, isT_s, isT_l, isT_t, nn_n, nn_i, nn_b, nn_s, nn_l, nn_t, vDct0_eq, vGet1, vGet2, vDc_eq, keep_dc, isDictD_dct, getD2_i, getD2_s, fIx_di, fIx_ds, fIn_di, fIn_ds, fNotIn_di, fNotIn_ds, truD_dct, kidx_i, kidx_s, xOr, plc, Sh.pos, Sh.root, vLstO, ML.ots, Ot.gets, vSlB, vChain, vLIx, vRaiseF, xIf, xIsF, xFld, ML.lookup_putD, vPut, vLc2_eq, fRng1, iRg, iR2, iEnT, iEn, vGet2N, vTupO, $ls,*])
open LP (sm_pick pick)
structure PtOk (o : Pt) : Prop where
  ws : o.ws.length ≤ 1000
  sy : o.sy.length ≤ 100
  mv : o.mv.length ≤ 1000
/-! ### an object is drawn -/
abbrev QS (f : SemG → VSt) : VSt := f sm_pick
def nmD (NM : List Str) : D := .list (NM.map .str)
def sm_one : SemG := fun ins Qd _ => ∃ (p : Addr) (ds : List D) (NM : List Str), ins = [fd p ds, .sh (nmD NM)] ∧ inz ds ∧ NM.length ≤ 100 ∧ ∀ (o : Pt) es, PtOk o → inz es → Qd (.sh o.d) [fd p es, .sh (nmD NM)]
def J2 (p q : Addr) (N : D) (n k : Nat) (δ : List Sl) : Prop := ∃ es x3, ∃ mv : List (Int × Str), inz es ∧ mv.length = k ∧ δ = [fd p es, .sh N, fd q (mv.map mvD), x3, .un, .un, .un]
def J3 (p q q4 : Addr) (N m : D) (x2 x3 : Sl) (k : Nat) (δ : List Sl) : Prop := ∃ es x6, ∃ sy : List (Str × Int), inz es ∧ sy.length ≤ k ∧ δ = [fd p es, .sh N, x2, x3, fd q4 (sy.map syD), .sh m, x6]
theorem nm_add (NM : List Str) (h : NM.length ≤ 100) : fAdd (.list (NM.map .str)) (.list [.str (Str.ofString "")]) = some (.nw ((NM ++ [Str.ofString ""]).map .str)) := by
  rw [List.map_append]
  exact if_pos (by rw [List.length_map]; show _ + 1 ≤ 1000000; omega)
theorem s_one {ins : List Sl} {Qd : Sl → List Sl → Prop} {Xd : Exn → List Sl → Prop} (hl : ins.length = 2) (h : sm_one ins Qd Xd) : QS t__law_one (enG 2 Qd Xd) (ini 7 ins) := by
  obtain ⟨p, ds, NM, rfl, hi, hn, hq⟩ := h
  have ea := nm_add NM hn
  simp? [QS, t__law_one, nmD]
  intro q
  simp? [b1__law_one, w1__law_one]
  refine pick hi (by omega) fun r d1 i1 r0 r1 => ?_
  obtain ⟨n, rfl⟩ := nat_of r0
  simp? []
  refine ⟨by omega, ?_⟩
  refine FO_by (J2 p q (.list (NM.map .str)) n) ⟨d1, _, [], i1, rfl, rfl⟩ ?_ ?_
  · rintro k d δ2 hd ⟨es, x3, mv, h1, h2, rfl⟩
    obtain ⟨hk1, rfl⟩ := rngD_get hd
    simp? [ea]
    refine pick h1 (by omega) fun r d2 i2 r0 r1 => ?_
    obtain ⟨j, rfl⟩ := nat_of r0
    have hj : j < (NM ++ [Str.ofString ""]).length := by rw [List.length_append]; simp only [List.length_cons, List.length_nil]; omega
    have e1 : fIx (.list ((NM ++ [Str.ofString ""]).map .str)) (.int (j : Nat)) = some (.sh (.str (NM ++ [Str.ofString ""])[j])) := ixl (by rw [List.getElem?_map, List.getElem?_eq_getElem hj]; rfl)
    have hml : mv.length < 1000000 := by omega
    simp? [e1, hml]
    exact ⟨d2, _, mv ++ [((k : Int), (NM ++ [Str.ofString ""])[j])], i2, by simp [h2], by rw [List.map_append]; rfl⟩
  · rintro δ2 ⟨es, x3, mv, h1, h2, rfl⟩
    rw [rngD_len] at h2
    simp? [b2__law_one]
    intro q4
    simp? [b3__law_one]
    refine pick h1 (by omega) fun r d3 i3 r0 r1 => ?_
    simp? [b4__law_one, w2__law_one]
    refine FO_by (J3 p q q4 (.list (NM.map .str)) (.int (2 + r)) (fd q (mv.map mvD)) x3) ⟨d3, _, [], i3, Nat.le_refl _, rfl⟩ ?_ ?_
    · rintro k d δ2 hd ⟨es, x6, sy, h3, h4, rfl⟩
      have hk := (List.getElem?_eq_some_iff.mp hd).1
      rw [List.length_map] at hk
      rw [List.getElem?_map] at hd
      obtain ⟨x, hx, rfl⟩ := Option.map_eq_some_iff.mp hd
      simp? []
      refine pick h3 (by omega) fun r2 d2 i2 r20 r21 => ?_
      have hml : sy.length < 1000000 := by omega
      by_cases c : r2 = 1
      · simp? [c, q1__law_one, hml]
        exact ⟨d2, _, sy ++ [(x, 0)], i2, by simp; omega, by rw [List.map_append]; rfl⟩
      · simp? [c]
        exact ⟨d2, _, sy, i2, by omega, rfl⟩
    · rintro δ2 ⟨es, x6, sy, h3, h4, rfl⟩
      rw [List.length_map] at h4
      have e4 : fMulV (.list [.int 218103808]) (.int 4) = some (.nw (zs [218103808, 218103808, 218103808, 218103808])) := rfl
      simp? [b5__law_one, e4]
      exact hq ⟨[218103808, 218103808, 218103808, 218103808], sy, mv⟩ es ⟨by show 4 ≤ 1000; decide, by show sy.length ≤ 100; omega, by show mv.length ≤ 1000; omega⟩ h3
/-! ### a chain is drawn -/
def sm_chain : SemG := fun ins Qd _ => ∃ (p : Addr) (ds : List D) (NM : List Str), ins = [fd p ds, .sh (nmD NM)] ∧ inz ds ∧ NM.length = 13 ∧ ∀ (OS : List Pt) es q, OS.length ≤ 12 → (∀ o ∈ OS, PtOk o) → inz es → Qd (fd q (OS.map Pt.d)) [fd p es, .sh (nmD NM)]
def J4 (p q : Addr) (N : D) (k : Nat) (δ : List Sl) : Prop := ∃ es x3 ord, inz es ∧ ord.length = k ∧ (∀ z ∈ ord, 0 ≤ z ∧ z < 12) ∧ δ = [fd p es, .sh N, fd q (zs ord), x3, .un]
def J5 (q4 : Addr) (x0 x1 x2 : Sl) (k : Nat) (δ : List Sl) : Prop := ∃ x3, ∃ OS : List Pt, OS.length = k ∧ (∀ o ∈ OS, PtOk o) ∧ δ = [x0, x1, x2, x3, fd q4 (OS.map Pt.d)]
theorem ins_zs (ord : List Int) (n : Nat) (z : Int) : (zs ord).take n ++ (.int z :: (zs ord).drop n) = zs (ord.take n ++ ([z] ++ ord.drop n)) := by
  unfold zs
  rw [List.map_append, List.map_append, List.map_take, List.map_drop]
  rfl
theorem s_chain {ins : List Sl} {Qd : Sl → List Sl → Prop} {Xd : Exn → List Sl → Prop} (hl : ins.length = 2) (h : sm_chain ins Qd Xd) : QS t__law_chain (enG 2 Qd Xd) (ini 5 ins) := by
  obtain ⟨p, ds, NM, rfl, hi, hn, hq⟩ := h
  have ea := nm_add NM (by omega)
  simp? [QS, t__law_chain, nmD]
  intro q
  simp? [b1__law_chain, w1__law_chain]
  refine FO_by (J4 p q (.list (NM.map .str))) ⟨ds, _, [], hi, rfl, fun z hz => (nomatch hz), rfl⟩ ?_ ?_
  · rintro k d δ2 hd ⟨es, x3, ord, h1, h2, h3, rfl⟩
    obtain ⟨hk1, rfl⟩ := rngD_get hd
    simp? []
    refine pick h1 (by omega) fun r d2 i2 r0 r1 => ?_
    have hlt : ord.length < 1000000 := by omega
    have hi6 : r < 1000000 := by omega
    simp? [hlt, r0, hi6]
    refine ⟨d2, _, ord.take r.toNat ++ ([(k : Int)] ++ ord.drop r.toNat), i2, by simp [h2]; omega, fun z hz => ?_, by rw [← ins_zs]⟩
    rcases List.mem_append.mp hz with hz | hz
    · exact h3 z (List.mem_of_mem_take hz)
    · rcases List.mem_append.mp hz with hz | hz
      · rw [List.mem_singleton.mp hz]; omega
      · exact h3 z (List.mem_of_mem_drop hz)
  · rintro δ2 ⟨es, x3, ord, h1, h2, h3, rfl⟩
    rw [rngD_len] at h2
    simp? [b2__law_chain]
    intro q4
    simp? [b3__law_chain, w2__law_chain]
    refine FO_by (J5 q4 (fd p es) (.sh (.list (NM.map .str))) (.sh (.list (zs ord)))) ⟨_, [], rfl, fun o ho => (nomatch ho), rfl⟩ ?_ ?_
    · rintro k d δ2 hd ⟨x3, OS, h4, h5, rfl⟩
      have hk := (List.getElem?_eq_some_iff.mp hd).1
      rw [zs_len] at hk
      have hd' : (ord.map PyData.int)[k]? = some d := hd
      rw [List.getElem?_map] at hd'
      obtain ⟨z, hz, rfl⟩ := Option.map_eq_some_iff.mp hd'
      have hzb := h3 z (List.mem_of_getElem? hz)
      obtain ⟨j, rfl⟩ := nat_of hzb.1
      have hj : j < NM.length := by omega
      have hj1 : j + 1 < (NM ++ [Str.ofString ""]).length := by rw [List.length_append]; omega
      have e1 : fIx (.list (NM.map .str)) (.int (j : Nat)) = some (.sh (.str NM[j])) := ixl (by rw [List.getElem?_map, List.getElem?_eq_getElem hj]; rfl)
      have e2 : fIx (.list ((NM ++ [Str.ofString ""]).map .str)) (.int ((j : Nat) + 1)) = some (.sh (.str (NM ++ [Str.ofString ""])[j + 1])) := ixl (k := j + 1) (by rw [List.getElem?_map, List.getElem?_eq_getElem hj1]; rfl)
      have hml : OS.length < 1000000 := by omega
      simp? [e1, ea, e2, hml]
      refine ⟨_, OS ++ [⟨[218103808], [(NM[j], 0)], [(0, (NM ++ [Str.ofString ""])[j + 1])]⟩], by simp [h4], fun o ho => ?_, by rw [List.map_append]; rfl⟩
      rcases List.mem_append.mp ho with ho | ho
      · exact h5 o ho
      · rw [List.mem_singleton.mp ho]
        exact ⟨by show 1 ≤ 1000; decide, by show 1 ≤ 100; decide, by show 1 ≤ 1000; decide⟩
    · rintro δ2 ⟨x3, OS, h4, h5, rfl⟩
      rw [zs_len] at h4
      simp? [b4__law_chain]
      exact hq OS es q4 (by omega) h5 h1
end K63

/-! ## S63e -/
set_option Elab.async false
set_option linter.all false
set_option exponentiation.threshold 10000
set_option autoImplicit false
set_option maxRecDepth 100000
set_option maxHeartbeats 8000000
namespace K63
open PySem PySem.Spec PyProof.Rows L2 ML
local macro_rules | `(tactic| simp? [$ls,*]) => `(tactic| simp [-Bool.exists_bool, -List.map_take, -List.map_drop, -List.map_append, vSeq, vAsg, vV, vMv, vS, vIfS, vOr, vAnd, vNot, vB, vv1, vv2, vv3, Opr.ev, Opr.fin, Opr.sl, Opr.base, Sl.read, Sl.rd, Sl.ra, Sl.get, Sl.isIn, Sl.ot, Ot.rd, Ot.get, gets_lv, leaves_lv, Sh.data, Sh.datR, Sh.root, Rs.to, ↓lv_in, -List.map_map, fst_0, fst_s, ini, List.replicate_succ, enG, bTup, bCons, bName, bNil, inAt, vC, vEnd, vBrk, vCnt, vRaise, fLt, fAdd_int, fGt, fGe, fLe, fSub, fMod, fI, fFdv, cPow, fPow, fMin2, fMax2, fInt, fAbs, fNeg, Option.bind, vRet, vSet, vDrp, vCal, agEv, agIn, agIn1, lns_nil, lns_pd, lns_br, lns_ln, bor_nil, bor_pd, bor_ln, bor_br, out_nil, out_pd, out_br, out_ln, lat_nil, lat_pd, lat_br, lat_ln, keep_fd, ex_pair, keepO_sh, lnAtm_no, agOut_no, Sl.atm, atom_i, atom_s, atom_b, atom_n, atom_k, vCons, vNil, vTup, vLst, vIf, vTru, truD, vNotV, vNotT, flat_fd, vAndV, vOrV, fEq_int, fNe_int, fEq_str, fNe_str, fEq_is, fEq_si, vMet, mvEv, Opr.loc, locAt, Ot.at, Ot.put, Nde.set, append_lv, pop_lv, reverse_lv, insert_lv, vLc_eq, vFor_eq, wipeD, vYes, iR1, iL, iK, vAug, fAug_int, slotInt, fLen_list, fIsN, fNotN, vIxN, ixLoc, kidQ, ixN, os_inj, ix0, ix1, ix2, ix3, ix4, lx0, lx1, lx2, lx3, fLen_tup, xAnd, xNot, xIs, vTry, enX, keepO, Ot.root, Ot.rd, fInt, vTry0, isB_n, isB_b, isB_i, isB_s, isB_l, isB_t, isI_n, isI_b, isI_i, isI_s, isI_l, isI_t, isS_n, isS_b, isS_i, isS_s, isS_l, isS_t, isL_n, isL_b, isL_i, isL_s, isL_l, isL_t, isT_n, isT_b, isT_i, isT_s, isT_l, isT_t, nn_n, nn_i, nn_b, nn_s, nn_l, nn_t, vDct0_eq, vGet1, vGet2, vDc_eq, keep_dc, isDictD_dct, getD2_i, getD2_s, fIx_di, fIx_ds, fIn_di, fIn_ds, fNotIn_di, fNotIn_ds, truD_dct, kidx_i, kidx_s, xOr, plc, Sh.pos, Sh.root, vLstO, ML.ots, Ot.gets, vSlB, vChain, vLIx, vRaiseF, xIf, xIsF, xFld, ML.lookup_putD, vPut, vLc2_eq, fRng1, iRg, iR2, iEnT, iEn, vGet2N, vTupO, $ls,*])
open LP (sm_pick pick)
/-! ### who places a name -/
theorem isP_or (L : List Pt) (x : Str) : (∃ k, IsP L x k) ∨ No L x := by
  by_cases c : ∃ (k : Nat) (o : Pt), L[k]? = some o ∧ x ∈ nms o
  · obtain ⟨k, hk⟩ := c
    obtain ⟨m, h1, h2⟩ := least (P := fun (k : Nat) => ∃ o, L[k]? = some o ∧ x ∈ nms o) hk
    refine .inl ⟨m, h1, fun j o hj e z => ?_⟩
    have := h2 j ⟨o, e, z⟩
    omega
  · refine .inr fun o ho z => c ?_
    obtain ⟨j, hj⟩ := List.mem_iff_getElem?.mp ho
    exact ⟨j, o, hj, z⟩
def Plv (P : List Pt) (x : Str) (v : Int) : Prop := (∃ k : Nat, v = k ∧ IsP P x k) ∨ (v = -1 ∧ No P x)
def sm_placer : SemG := semV fun ds Qd _ => ∃ (P : List Pt) (x : Str), ds = [ptsD P, .str x] ∧ P.length ≤ 1000 ∧ ∀ v, Plv P x v → Qd (.sh (.int v))
def J6 (P : List Pt) (x : Str) (k : Nat) (δ : List Sl) : Prop := ∃ x2 x3, NoB P k x ∧ δ = [.sh (ptsD P), .sh (.str x), x2, x3]
def J7 (P : List Pt) (x : Str) (n : Nat) (o : Pt) (k : Nat) (δ : List Sl) : Prop := ∃ x3, x ∉ (nms o).take k ∧ δ = [.sh (ptsD P), .sh (.str x), .sh (.int (n : Nat)), x3]
theorem s_placer {ins : List Sl} {Qd : Sl → List Sl → Prop} {Xd : Exn → List Sl → Prop} (hl : ins.length = 2) (h : sm_placer ins Qd Xd) : t__law_placer (enG 2 Qd Xd) (ini 4 ins) := by
  obtain ⟨_, rfl, P, x, rfl, hP, hq⟩ := h
  have el : fLen (ptsD P) = some (.sh (.int (P.length : Nat))) := by
    show fLen (.list (P.map Pt.d)) = _
    rw [fLen_list, List.length_map]
  simp? [t__law_placer, w2__law_placer, el]
  refine ⟨by omega, ?_⟩
  refine FO_by (J6 P x) ⟨_, _, fun j o hj => absurd hj (by omega), rfl⟩ ?_ ?_
  · rintro k d δ2 hd ⟨x2, x3, h1, rfl⟩
    obtain ⟨hk, rfl⟩ := rngD_get hd
    have hk : k < P.length := hk
    obtain ⟨o, ho⟩ : ∃ o, P[k]? = some o := ⟨_, List.getElem?_eq_getElem hk⟩
    have e1 : fIx (ptsD P) (.int (k : Nat)) = some (.sh o.d) := ixl (by rw [List.getElem?_map, ho]; rfl)
    simp? [w1__law_placer, e1, Pt.d]
    refine FO_by (J7 P x k o) ⟨_, by simp, rfl⟩ ?_ ?_
    · rintro j d1 δ6 hd1 ⟨x3, h3, rfl⟩
      rw [List.getElem?_map] at hd1
      obtain ⟨⟨y, a⟩, hx, rfl⟩ := Option.map_eq_some_iff.mp hd1
      have et : (nms o).take (j + 1) = (nms o).take j ++ [y] := by unfold nms; rw [List.take_add_one, List.getElem?_map, hx]; rfl
      have hym : y ∈ nms o := List.mem_map.mpr ⟨_, List.mem_of_getElem? hx, rfl⟩
      by_cases c : y = x
      · subst c
        simp? [syD]
        exact hq _ (.inl ⟨k, rfl, ⟨o, ho, hym⟩, h1⟩) _
      · simp? [syD, c]
        refine ⟨_, fun z => ?_, rfl⟩
        rw [et] at z
        rcases List.mem_append.mp z with z | z
        · exact h3 z
        · exact c (List.mem_singleton.mp z).symm
    · rintro δ6 ⟨x3, h3, rfl⟩
      rw [List.length_map] at h3
      have e1 : (nms o).take o.sy.length = nms o := by rw [List.take_of_length_le]; unfold nms; rw [List.length_map]; exact Nat.le_refl _
      rw [e1] at h3
      refine ⟨_, _, fun j o' hj hj2 => ?_, rfl⟩
      by_cases c : j = k
      · subst c
        rw [ho] at hj2
        cases hj2
        exact h3
      · exact h1 j o' (by omega) hj2
  · rintro δ2 ⟨x2, x3, h1, rfl⟩
    rw [rngD_len] at h1
    simp? [b1__law_placer]
    exact hq _ (.inr ⟨rfl, noB_all h1⟩) _
/-! ### what is needed yet -/
abbrev QN {α : Type} (f : SemG → α) : α := f sm_placer
def sm_needed : SemG := semV fun ds Qd _ => ∃ (P L : List Pt) (C : List Nat), ds = [ptsD P, ptsD L, .list (zs (inz2 C))] ∧ P.length ≤ 1000 ∧ L.length ≤ 1000 ∧ C.length ≤ 1000 ∧ (∀ c ∈ C, c < L.length) ∧
  (∀ o k, Src P L C o → Nd P L o k → k ∉ C → Qd (.sh (.int (k : Nat)))) ∧ ((∀ o, Src P L C o → Clo P L C o) → Qd (.sh (.int (-1))))
def J8 (P L : List Pt) (C : List Nat) (k : Nat) (acc : List D) (δ : List Sl) : Prop := ∃ SL : List Pt, acc = SL.map Pt.d ∧ SL.length = k ∧ (∀ o ∈ SL, ∃ c ∈ C, L[c]? = some o) ∧ (∀ c ∈ C.take k, ∀ o, L[c]? = some o → o ∈ SL) ∧
  δ = [.sh (ptsD P), .sh (ptsD L), .sh (.list (zs (inz2 C))), .un, .un, .un]
def J9 (P L SL : List Pt) (C : List Nat) (k : Nat) (δ : List Sl) : Prop := ∃ x3 x4 x5, (∀ o ∈ (P ++ SL).take k, Clo P L C o) ∧ δ = [.sh (ptsD P), .sh (ptsD L), .sh (.list (zs (inz2 C))), x3, x4, x5]
def J10 (P L : List Pt) (C : List Nat) (o : Pt) (k : Nat) (δ : List Sl) : Prop := ∃ x4 x5, (∀ x ∈ (o.mv.take k).map (·.2), x ≠ Str.ofString "" → No P x → ∀ j, IsP L x j → j ∈ C) ∧ δ = [.sh (ptsD P), .sh (ptsD L), .sh (.list (zs (inz2 C))), .sh o.d, x4, x5]
theorem mem_inz {C : List Nat} {k : Nat} : ((k : Int) ∈ inz2 C) ↔ k ∈ C := by
  unfold inz2
  rw [List.mem_map]
  constructor
  · rintro ⟨a, ha, e⟩
    have : a = k := by have e : (a : Int) = k := e; omega
    rwa [this] at ha
  · intro h; exact ⟨k, h, rfl⟩
theorem ninC (x : Int) (b : List Int) (h : b.length ≤ 100000) : fNotIn (.int x) (.list (zs b)) = some (.sh (.bool (!decide (x ∈ b)))) := by
  have e : inD (.int x) (.list (zs b)) = some (decide (x ∈ b)) := by
    have h1 : dep (.int x) = true := dep_okd (okd_int 0 x) (by omega)
    have h2 : dep (.list (zs b)) = true := dep_zl b (by omega)
    have e : ((zs b).any fun z => PyData.eqv z (.int x)) = decide (x ∈ b) := by
      rw [List.any_map, Bool.eq_iff_iff]
      simp [eqv_int]
    rw [show inD (.int x) (.list (zs b)) = (if (dep (.int x) && dep (.list (zs b))) = true then some ((zs b).any fun z => PyData.eqv z (.int x)) else none) from rfl, h1, h2, e]
    rfl
  unfold fNotIn
  rw [e]; rfl
theorem s_needed {ins : List Sl} {Qd : Sl → List Sl → Prop} {Xd : Exn → List Sl → Prop} (hl : ins.length = 3) (h : sm_needed ins Qd Xd) : QN t__law_needed (enG 3 Qd Xd) (ini 6 ins) := by
  obtain ⟨_, rfl, P, L, C, rfl, hP, hL, hC, hcl, hq, hq2⟩ := h
  simp? [QN, t__law_needed, w3__law_needed, w1__law_needed]
  refine LC_by (J8 P L C) (by rw [zs_len]; unfold inz2; rw [List.length_map]; omega) ⟨[], rfl, rfl, fun o ho => (nomatch ho), fun c hc => by simp at hc, rfl⟩ ?_ ?_
  · rintro k d acc δ2 hd - ⟨SL, rfl, h1, h2, h3, rfl⟩
    have hd' : ((C.map Int.ofNat).map PyData.int)[k]? = some d := hd
    rw [List.getElem?_map, List.getElem?_map] at hd'
    obtain ⟨z, hz, rfl⟩ := Option.map_eq_some_iff.mp hd'
    obtain ⟨c, hc, rfl⟩ := Option.map_eq_some_iff.mp hz
    have hcm := List.mem_of_getElem? hc
    obtain ⟨o, ho⟩ : ∃ o, L[c]? = some o := ⟨_, List.getElem?_eq_getElem (hcl c hcm)⟩
    have e1 : fIx (ptsD L) (.int ((c : Nat) : Int)) = some (.sh o.d) := ixl (by rw [List.getElem?_map, ho]; rfl)
    have et : C.take (k + 1) = C.take k ++ [c] := by rw [List.take_add_one, hc]; rfl
    simp? [e1]
    refine ⟨SL ++ [o], by rw [List.map_append]; rfl, by simp [h1], fun o' ho' => ?_, fun c' hc' o' ho' => ?_, rfl⟩
    · rcases List.mem_append.mp ho' with z | z
      · exact h2 o' z
      · rw [List.mem_singleton.mp z]; exact ⟨c, hcm, ho⟩
    · rw [et] at hc'
      rcases List.mem_append.mp hc' with z | z
      · exact List.mem_append.mpr (.inl (h3 c' z o' ho'))
      · rw [List.mem_singleton.mp z, ho] at ho'
        cases ho'
        simp
  · rintro acc δ2 ⟨SL, rfl, h1, h2, h3, rfl⟩ q
    rw [zs_len] at h1 h3
    have hCl : (inz2 C).length = C.length := by unfold inz2; rw [List.length_map]
    rw [hCl] at h1 h3
    rw [List.take_length] at h3
    have e1 : fAdd (ptsD P) (.list (SL.map Pt.d)) = some (.nw ((P ++ SL).map Pt.d)) := by
      rw [List.map_append]
      exact if_pos (by rw [List.length_map, List.length_map]; omega)
    have hsrc : ∀ o, Src P L C o ↔ o ∈ P ++ SL := fun o => by
      rw [List.mem_append]
      constructor
      · rintro (z | ⟨j, hj, e⟩)
        · exact .inl z
        · exact .inr (h3 j hj o e)
      · rintro (z | z)
        · exact .inl z
        · obtain ⟨c, hc, e⟩ := h2 o z
          exact .inr ⟨c, hc, e⟩
    simp? [e1]
    refine FO_by (J9 P L SL C) ⟨_, _, _, by simp, rfl⟩ ?_ ?_
    · rintro k d δ2 hd ⟨x3, x4, x5, h4, rfl⟩
      rw [List.getElem?_map] at hd
      obtain ⟨o, ho, rfl⟩ := Option.map_eq_some_iff.mp hd
      have hso := (hsrc o).mpr (List.mem_of_getElem? ho)
      simp? [Pt.d, w2__law_needed]
      refine FO_by (J10 P L C o) ⟨_, _, by simp, rfl⟩ ?_ ?_
      · rintro j d1 δ6 hd1 ⟨x4, x5, h5, rfl⟩
        rw [List.getElem?_map] at hd1
        obtain ⟨⟨a, x⟩, hx, rfl⟩ := Option.map_eq_some_iff.mp hd1
        have et : (o.mv.take (j + 1)).map (·.2) = (o.mv.take j).map (·.2) ++ [x] := by rw [List.take_add_one, hx, List.map_append]; rfl
        have stp : ∀ x5 : Sl, (x ≠ Str.ofString "" → No P x → ∀ j, IsP L x j → j ∈ C) → J10 P L C o (j + 1) [.sh (ptsD P), .sh (ptsD L), .sh (.list (zs (inz2 C))), .sh o.d, .sh (mvD (a, x)), x5] := fun x5 hh => ⟨_, _, fun y hy => by
          rw [et] at hy
          rcases List.mem_append.mp hy with z | z
          · exact h5 y z
          · rw [List.mem_singleton.mp z]; exact hh, rfl⟩
        simp? [mvD]
        refine ⟨_, rfl, L, x, rfl, hL, fun v hv outs => ?_⟩
        by_cases c0 : x = Str.ofString ""
        · simp? [b102__law_needed, c0]
          have := stp (.sh (.int v)) fun z => absurd c0 z
          rw [c0] at this
          exact this
        · simp? [b102__law_needed, c0]
          refine ⟨_, rfl, P, x, rfl, hP, fun w hw outs => ?_⟩
          rcases hw with ⟨m, rfl, hm⟩ | ⟨rfl, hno⟩
          · simp? []
            exact stp _ fun _ z => absurd z (isP_no hm)
          · rcases hv with ⟨m, rfl, hm⟩ | ⟨rfl, hno2⟩
            · have e3 : fNotIn (.int (m : Nat)) (.list (zs (inz2 C))) = some (.sh (.bool (!decide (m ∈ C)))) := by
                rw [ninC _ _ (by rw [hCl]; omega)]
                simp only [mem_inz]
              by_cases c2 : m ∈ C
              · rw [decide_eq_true c2] at e3
                simp? [e3]
                exact stp _ fun _ _ j hj => by rw [isP_fn hj hm]; exact c2
              · rw [decide_eq_false c2] at e3
                simp? [e3]
                refine hq o m hso ⟨x, ?_, hno, hm⟩ c2 _
                unfold nds
                rw [List.mem_filter]
                exact ⟨List.mem_map.mpr ⟨_, List.mem_of_getElem? hx, rfl⟩, decide_eq_true c0⟩
            · simp? []
              exact stp _ fun _ _ j hj => absurd hno2 (isP_no hj)
      · rintro δ6 ⟨x4, x5, h5, rfl⟩
        rw [List.length_map, List.take_length] at h5
        refine ⟨_, _, _, fun o' ho' => ?_, rfl⟩
        rw [List.take_add_one, ho] at ho'
        rcases List.mem_append.mp ho' with z | z
        · exact h4 o' z
        · simp at z
          subst z
          rintro k' ⟨x, hx1, hx2, hx3⟩
          unfold nds at hx1
          rw [List.mem_filter] at hx1
          exact h5 x hx1.1 (of_decide_eq_true hx1.2) hx2 k' hx3
    · rintro δ2 ⟨x3, x4, x5, h4, rfl⟩
      rw [List.length_map, List.take_length] at h4
      simp? [b1__law_needed]
      exact hq2 (fun o ho => h4 o ((hsrc o).mp ho)) _
end K63

/-! ## S63 -/
set_option Elab.async false
set_option linter.all false
set_option exponentiation.threshold 10000
set_option autoImplicit false
set_option maxRecDepth 100000
set_option maxHeartbeats 8000000
namespace K63
open PySem PySem.Spec PyProof.Rows L2 ML
local macro_rules | `(tactic| simp? [$ls,*]) => `(tactic| simp [-Bool.exists_bool, -List.map_take, -List.map_drop, -List.map_append, vSeq, vAsg, vV, vMv, vS, vIfS, vOr, vAnd, vNot, vB, vv1, vv2, vv3, Opr.ev, Opr.fin, Opr.sl, Opr.base, Sl.read, Sl.rd, Sl.ra, Sl.get, Sl.isIn, Sl.ot, Ot.rd, Ot.get, gets_lv, leaves_lv, Sh.data, Sh.datR, Sh.root, Rs.to, ↓lv_in, -List.map_map, fst_0, fst_s, ini, List.replicate_succ, enG, bTup, bCons, bName, bNil, inAt, vC, vEnd, vBrk, vCnt, vRaise, fLt, fAdd_int, fGt, fGe, fLe, fSub, fMod, fI, fFdv, cPow, fPow, fMin2, fMax2, fInt, fAbs, fNeg, Option.bind, vRet, vSet, vDrp, vCal, agEv, agIn, agIn1, lns_nil, lns_pd, lns_br, lns_ln, bor_nil, bor_pd, bor_ln, bor_br, out_nil, out_pd, out_br, out_ln, lat_nil, lat_pd, lat_br, lat_ln, keep_fd, ex_pair, keepO_sh, lnAtm_no, agOut_no, Sl.atm, atom_i, atom_s, atom_b, atom_n, atom_k, vCons, vNil, vTup, vLst, vIf, vTru, truD, vNotV, vNotT, flat_fd, vAndV, vOrV, fEq_int, fNe_int, fEq_str, fNe_str, fEq_is, fEq_si, vMet, mvEv, Opr.loc, locAt, Ot.at, Ot.put, Nde.set, append_lv, pop_lv, reverse_lv, insert_lv, vLc_eq, vFor_eq, wipeD, vYes, iR1, iL, iK, vAug, fAug_int, slotInt, fLen_list, fIsN, fNotN, vIxN, ixLoc, kidQ, ixN, os_inj, ix0, ix1, ix2, ix3, ix4, lx0, lx1, lx2, lx3, fLen_tup, xAnd, xNot, xIs, vTry, enX, keepO, Ot.root, Ot.rd, fInt, vTry0, isB_n, isB_b, isB_i, isB_s, isB_l, isB_t, isI_n, isI_b, isI_i, isI_s, isI_l, isI_t, isS_n, isS_b, isS_i, isS_s, isS_l, isS_t, isL_n, isL_b, isL_i, isL_s, isL_l, isL_t, isT_n, isT_b, isT_i, isT_s, isT_l, isT_t, nn_n, nn_i, nn_b, nn_s, nn_l, nn_t, vDct0_eq, vGet1, vGet2, vDc_eq, keep_dc, isDictD_dct, getD2_i, getD2_s, fIx_di, fIx_ds, fIn_di, fIn_ds, fNotIn_di, fNotIn_ds, truD_dct, kidx_i, kidx_s, xOr, plc, Sh.pos, Sh.root, vLstO, ML.ots, Ot.gets, vSlB, vChain, vLIx, vRaiseF, xIf, xIsF, xFld, ML.lookup_putD, vPut, vLc2_eq, fRng1, iRg, iR2, iEnT, iEn, vGet2N, vTupO, $ls,*])
open LP (sm_pick pick)
/-! ### the names -/
theorem add_s (a b : Str) (h : a.length + b.length ≤ 1000000) : fAdd (.str a) (.str b) = some (.sh (.str (a ++ b))) := if_pos h
theorem abc (k : Nat) (h : k < 20) : ∃ y z : Str, fIx (.str (Str.ofString "abcdefghijklmnopqrst")) (.int (k : Nat)) = some (.sh (.str y)) ∧ fAdd (.str (Str.ofString "n")) (.str y) = some (.sh (.str z)) := by
  have : k = 0 ∨ k = 1 ∨ k = 2 ∨ k = 3 ∨ k = 4 ∨ k = 5 ∨ k = 6 ∨ k = 7 ∨ k = 8 ∨ k = 9 ∨ k = 10 ∨ k = 11 ∨ k = 12 ∨ k = 13 ∨ k = 14 ∨ k = 15 ∨ k = 16 ∨ k = 17 ∨ k = 18 ∨ k = 19 := by omega
  rcases this with rfl | rfl | rfl | rfl | rfl | rfl | rfl | rfl | rfl | rfl | rfl | rfl | rfl | rfl | rfl | rfl | rfl | rfl | rfl | rfl <;> exact ⟨_, _, rfl, add_s _ _ (by decide +kernel)⟩
abbrev PL {α : Type} (f : SemG → SemG → SemG → SemG → SemG → SemG → SemG → α) : α := f sm_chain sm_needed LP.sm_numbers sm_one sm_pick (LP.sm_same 30) sm_pulled
def JN (s0 s1 s2 s3 s4 : Sl) (k : Nat) (acc : List D) (δ : List Sl) : Prop := ∃ NM : List Str, acc = NM.map .str ∧ NM.length = k ∧ δ = [s0, s1, s2, s3, s4, .un, .un, .un, .un, .un]
def sL (NM : List Str) (s : Sl) : Prop := s = .sh (nmD NM) ∨ ∃ q, s = fd q (NM.map .str)
def JP (p : Addr) (s0 : Sl) (NM : List Str) (s3 : Sl) (k : Nat) (acc : List D) (δ : List Sl) : Prop := ∃ es s2, ∃ P : List Pt, sL NM s2 ∧ inz es ∧ acc = P.map Pt.d ∧ P.length = k ∧ (∀ o ∈ P, PtOk o) ∧ δ = [s0, fd p es, s2, s3, .un, .un, .un, .un, .un, .un]
/-! ### the law's own turns -/
structure Ch (P L : List Pt) (k : Nat) (C : List Nat) : Prop where
  nd : C.Nodup
  rc : ∀ c ∈ C, Rc P L c
  ln : C.length ≤ k
  go : C.length = k ∨ ∀ o, Src P L C o → Clo P L C o
theorem Ch.all {P L : List Pt} {C : List Nat} (h : Ch P L L.length C) (k : Nat) : k ∈ C ↔ Rc P L k := by
  refine ⟨h.rc k, fun hk => ?_⟩
  rcases h.go with e | hc
  · refine Classical.byContradiction fun z => ?_
    have := pig (n := L.length) (F := C ++ [k]) (by
      rw [List.nodup_append]
      refine ⟨h.nd, by simp, fun a ha b hb e => ?_⟩
      rw [List.mem_singleton.mp hb] at e
      rw [e] at ha
      exact z ha) fun j hj => by
      rcases List.mem_append.mp hj with y | y
      · exact (h.rc j y).lt
      · rw [List.mem_singleton.mp y]; exact hk.lt
    rw [List.length_append] at this
    simp only [List.length_cons, List.length_nil] at this
    omega
  · exact rc_in hc hk
theorem srt_eq {F C : List Nat} {P L : List Pt} (nF : F.Nodup) (nC : C.Nodup) (hF : ∀ k, k ∈ F ↔ Rc P L k) (hC : ∀ k, k ∈ C ↔ Rc P L k) : srtI (inz2 F) = srtI (inz2 C) := by
  have p : F.Perm C := (List.perm_ext_iff_of_nodup nF nC).mpr fun a => (hF a).trans (hC a).symm
  have p2 : (inz2 F).Perm (inz2 C) := p.map _
  exact srtI_of ((srtI_perm _).trans p2) (srtI_srt _)
def JC (P L : List Pt) (s0 s1 s2 s3 s4 s5 s6 : Sl) (q : Addr) (k : Nat) (δ : List Sl) : Prop := ∃ C x8 x9, Ch P L k C ∧ δ = [s0, s1, s2, s3, s4, s5, s6, fd q (zs (inz2 C)), x8, x9]
theorem turns {P L : List Pt} {s0 s1 s2 s5 s6 x8 x9 : Sl} {p3 p4 q : Addr} {E : En} (hP : P.length ≤ 1000) (hL : L.length ≤ 1000)
    (h : ∀ C x8 x9, Ch P L L.length C → E.nx [s0, s1, s2, fd p3 (P.map Pt.d), fd p4 (L.map Pt.d), s5, s6, fd q (zs (inz2 C)), x8, x9]) :
    PL w5_law E [s0, s1, s2, fd p3 (P.map Pt.d), fd p4 (L.map Pt.d), s5, s6, fd q [], x8, x9] := by
  simp? [PL, w5_law]
  refine ⟨by omega, ?_⟩
  refine FO_by (JC P L s0 s1 s2 (fd p3 (P.map Pt.d)) (fd p4 (L.map Pt.d)) s5 s6 q) ⟨[], _, _, ⟨List.nodup_nil, fun c hc => (nomatch hc), Nat.le_refl _, .inl rfl⟩, rfl⟩ ?_ ?_
  · rintro k d δ2 hd ⟨C, x8, x9, hc, rfl⟩
    obtain ⟨hk, rfl⟩ := rngD_get hd
    have hk : k < L.length := hk
    have hcl := hc.ln
    simp? []
    refine ⟨_, rfl, P, L, C, rfl, hP, hL, by omega, fun c z => (hc.rc c z).lt, fun o n hs hn hnc outs => ?_, fun hcl2 outs => ?_⟩
    · have hlt : (zs (inz2 C)).length < 1000000 := by rw [zs_len]; unfold inz2; rw [List.length_map]; omega
      have hn0 : (0 : Int) ≤ (n : Nat) := by omega
      simp? [b106_law, hlt]
      refine ⟨_, ⟨by unfold inz2; rw [List.length_map]; omega, rfl⟩, C ++ [n], .sh (.int (k : Nat)), .sh (.int (n : Nat)), ⟨?_, fun c hcm => ?_, by rw [List.length_append]; simp only [List.length_cons, List.length_nil]; omega, ?_⟩, by unfold inz2; rw [List.map_append, ← zs_app]; rfl⟩
      · rw [List.nodup_append]
        refine ⟨hc.nd, by simp, fun a ha b hb e => ?_⟩
        rw [List.mem_singleton.mp hb] at e
        rw [e] at ha
        exact hnc ha
      · rcases List.mem_append.mp hcm with z | z
        · exact hc.rc c z
        · rw [List.mem_singleton.mp z]; exact rc_src hc.rc hs hn
      · rcases hc.go with e | e
        · left; rw [List.length_append, e]; rfl
        · exact absurd (e o hs n hn) hnc
    · simp? [b106_law]
      exact ⟨C, _, _, ⟨hc.nd, hc.rc, by omega, .inr hcl2⟩, rfl⟩
  · rintro δ2 ⟨C, x8, x9, hc, rfl⟩
    rw [rngD_len] at hc
    exact h C _ _ hc
def sm_law : SemG := semV fun ds Qd _ => ∃ ns : List Int, ds = [lkD (ns.map .int)] ∧ ns.length ≤ 63 ∧ Qd (.sh (.bool true))
theorem okPt {o : Pt} {n : Nat} (h : PtOk o) : okd (n + 4) o.d := by
  refine okd_tup (by show 4 ≤ 1000000; decide) (allc (okd_str _ _) (allc (okd_list (by rw [zs_len]; have := h.ws; omega) (okd_zs _)) (allc (okd_list (by rw [List.length_map]; have := h.sy; omega) (okd_map fun x _ => okd_tup (by show 2 ≤ 1000000; decide) (allc (okd_str _ _) (ML.all1 (okd_int _ _))))) (ML.all1 (okd_list (by rw [List.length_map]; have := h.mv; omega) (okd_map fun x _ => okd_tup (by show 2 ≤ 1000000; decide) (allc (okd_int _ _) (ML.all1 (okd_str _ _)))))))))
theorem okPts {P : List Pt} {n : Nat} (hl : P.length ≤ 1000) (h : ∀ o ∈ P, PtOk o) : okd (n + 5) (ptsD P) := okd_list (by rw [List.length_map]; omega) (okd_map fun o ho => okPt (h o ho))
theorem oks_same {d : D} {Qd : Sl → List Sl → Prop} {Xd : Exn → List Sl → Prop} (ho : okd 30 d) (h : ∀ outs, Qd (.sh (.bool true)) outs) : LP.sm_same 30 [.sh d, .sh d] Qd Xd := ⟨_, rfl, d, rfl, ho, h⟩
theorem tail {P L : List Pt} {s0 s1 s2 s5 : Sl} {p3 p4 : Addr} {Qd : Sl → List Sl → Prop} {Xd : Exn → List Sl → Prop} (hP : P.length ≤ 1000) (hL : L.length ≤ 1000) (oP : ∀ o ∈ P, PtOk o) (oL : ∀ o ∈ L, PtOk o) (h : ∀ outs, Qd (.sh (.bool true)) outs) :
    PL b5_law (enG 1 Qd Xd) [s0, s1, s2, fd p3 (P.map Pt.d), fd p4 (L.map Pt.d), s5, .un, .un, .un, .un] := by
  simp? [PL, b5_law, b6_law]
  refine ⟨_, rfl, fun q => ⟨rfl, _, rfl, fun q1 => ⟨rfl, fun q2 q3 => ?_⟩⟩⟩
  simp? [b7_law]
  refine turns hP hL fun C x8 x9 hC => ?_
  simp? [b8_law]
  refine ⟨_, rfl, P, L, rfl, hP, hL, fun o ho => ⟨(oP o ho).sy, (oP o ho).mv⟩, fun o ho => ⟨(oL o ho).sy, (oL o ho).mv⟩, fun F nF hF p5 outs => ?_⟩
  rw [srt_eq nF hC.nd hF hC.all]
  simp? [fSortI_zs]
  refine oks_same (okd_list (by rw [zs_len, srtI_len]; unfold inz2; rw [List.length_map]; have := hC.ln; omega) (okd_zs _)) fun outs => ?_
  simp? [b9_law]
  refine oks_same (okd_list (by show 2 ≤ 1000000; decide) (allc (okPts hP oP) (ML.all1 (okPts hL oL)))) fun outs => ?_
  simp? []
  exact h _
abbrev TN : VT := v2 fAdd (.pd (vC (.str (Str.ofString "n")))) (.pd (v2 fIx (.pd (vC (.str (Str.ofString "abcdefghijklmnopqrst")))) (.pk 8)))
theorem names {s0 s1 s2 s3 s4 : Sl} {n : Nat} {Q : Sl → List Sl → Prop} (hn : n ≤ 20) (h : ∀ NM : List Str, NM.length = n → ∀ q, Q (fd q (NM.map .str)) [s0, s1, s2, s3, s4, .un, .un, .un, .un, .un]) :
    LC (bName 8) vYes TN [8] (rngD 0 n) [s0, s1, s2, s3, s4, .un, .un, .un, .un, .un] Q := by
  refine LC_by (JN s0 s1 s2 s3 s4) (by rw [rngD_len]; omega) ⟨[], rfl, rfl, rfl⟩ ?_ ?_
  · rintro k d acc δ2 hd - ⟨NM, rfl, h2, rfl⟩
    obtain ⟨hk, rfl⟩ := rngD_get hd
    have hk : k < n := hk
    obtain ⟨y, z, hy, e3⟩ := abc k (by omega)
    simp? [TN, hy, e3]
    exact ⟨NM ++ [z], by rw [List.map_append]; rfl, by simp [h2], rfl⟩
  · rintro acc δ2 ⟨NM, rfl, h2, rfl⟩ q
    rw [rngD_len] at h2
    exact h NM h2 q
theorem objs {p : Addr} {s0 s2 s3 : Sl} {es : List D} {NM : List Str} {n : Nat} {Q : Sl → List Sl → Prop} (hi : inz es) (hN : NM.length ≤ 100) (hn : n ≤ 1000) (h2s : sL NM s2)
    (h : ∀ P : List Pt, P.length = n → (∀ o ∈ P, PtOk o) → ∀ es s2 q, inz es → sL NM s2 → Q (fd q (P.map Pt.d)) [s0, fd p es, s2, s3, .un, .un, .un, .un, .un, .un]) :
    LC (bName 8) vYes (vCal sm_one [.ln 1, .pd (vV 2)]) [8] (rngD 0 n) [s0, fd p es, s2, s3, .un, .un, .un, .un, .un, .un] Q := by
  refine LC_by (JP p s0 NM s3) (by rw [rngD_len]; omega) ⟨es, s2, [], h2s, hi, rfl, rfl, fun o ho => (nomatch ho), rfl⟩ ?_ ?_
  · rintro k d acc δ2 hd - ⟨es, s2, P, hs2, h1, rfl, h2, h3, rfl⟩
    rcases hs2 with rfl | ⟨q, rfl⟩
    · simp? []
      refine ⟨p, es, NM, rfl, h1, hN, fun o es2 ho h4 => ?_⟩
      simp? []
      refine ⟨es2, _, P ++ [o], .inl rfl, h4, by rw [List.map_append]; rfl, by simp [h2], fun o' ho' => ?_, rfl⟩
      rcases List.mem_append.mp ho' with z | z
      · exact h3 o' z
      · rw [List.mem_singleton.mp z]; exact ho
    · simp? []
      refine ⟨p, es, NM, rfl, h1, hN, fun o es2 ho h4 => ?_⟩
      simp? []
      refine ⟨es2, _, P ++ [o], .inl rfl, h4, by rw [List.map_append]; rfl, by simp [h2], fun o' ho' => ?_, rfl⟩
      rcases List.mem_append.mp ho' with z | z
      · exact h3 o' z
      · rw [List.mem_singleton.mp z]; exact ho
  · rintro acc δ2 ⟨es, s2, P, hs2, h1, rfl, h2, h3, rfl⟩ q
    rw [rngD_len] at h2
    exact h P h2 h3 es s2 q h1 hs2
theorem s_law {ins : List Sl} {Qd : Sl → List Sl → Prop} {Xd : Exn → List Sl → Prop} (hl : ins.length = 1) (h : sm_law ins Qd Xd) : PL t_law (enG 1 Qd Xd) (ini 10 ins) := by
  obtain ⟨_, rfl, ns, rfl, hn, hq⟩ := h
  simp? [PL, t_law]
  refine ⟨[lkD (ns.map .int)], rfl, _, rfl, ⟨ns, rfl⟩, fun p ds i0 outs => ?_⟩
  simp? [b1_law, w1_law]
  refine pick i0 (by omega) fun r d1 i1 r0 r1 => ?_
  obtain ⟨N, hN⟩ := nat_of (show 0 ≤ 1 + r by omega)
  simp? [hN]
  refine ⟨by omega, names (by omega) fun NM hNM q2 => ?_⟩
  simp? [b2_law, w2_law]
  refine pick i1 (by omega) fun r d2 i2 r0 r1 => ?_
  obtain ⟨n, rfl⟩ := nat_of r0
  simp? []
  refine ⟨by omega, objs i2 (by omega) (by omega) (.inr ⟨_, rfl⟩) fun P hP oP es3 s3 q3 i3 l3 => ?_⟩
  simp? [b3_law, w3_law]
  refine pick i3 (by omega) fun r d4 i4 r0 r1 => ?_
  obtain ⟨m, rfl⟩ := nat_of r0
  simp? []
  refine ⟨by omega, objs i4 (by omega) (by omega) l3 fun L hL oL es5 s5 q5 i5 l5 => ?_⟩
  simp? [b4_law]
  refine pick i5 (by omega) fun r d6 i6 r0 r1 => ?_
  by_cases c : r = 1
  · simp? [c, w4_law]
    refine names (n := 13) (by omega) fun NM hNM q2 => ?_
    simp? [b101_law]
    refine ⟨p, d6, NM, rfl, i6, hNM, fun OS es7 q7 hOS oOS i7 => ?_⟩
    simp? [b102_law]
    refine pick (m := 13) i7 (by omega) fun r d8 i8 r0 r1 => ?_
    obtain ⟨a, rfl⟩ := nat_of r0
    have ha : a < NM.length := by omega
    have e1 : fIx (.list (NM.map .str)) (.int (a : Nat)) = some (.sh (.str NM[a])) := ixl (by rw [List.getElem?_map, List.getElem?_eq_getElem ha]; rfl)
    simp? [b103_law, e1]
    refine pick i8 (by omega) fun r d9 i9 r0 r1 => ?_
    obtain ⟨b, rfl⟩ := nat_of r0
    have hb : b < NM.length := by omega
    have e2 : fIx (.list (NM.map .str)) (.int (b : Nat)) = some (.sh (.str NM[b])) := ixl (by rw [List.getElem?_map, List.getElem?_eq_getElem hb]; rfl)
    have hPl : P.length < 1000000 := by omega
    simp? [e2, hPl]
    have t := tail (P := P ++ [⟨[218103808], [(NM[a], 0)], [(0, NM[b])]⟩]) (L := OS) (s0 := .sh (lkD (ns.map .int))) (s1 := fd p d9) (s2 := .sh (.list (NM.map .str))) (s5 := .sh (.int (a : Nat))) (p3 := q3) (p4 := q7) (Qd := Qd) (Xd := Xd)
      (by rw [List.length_append]; simp only [List.length_cons, List.length_nil]; omega) (by omega) (fun o ho => by
        rcases List.mem_append.mp ho with z | z
        · exact oP o z
        · rw [List.mem_singleton.mp z]
          exact ⟨by show 1 ≤ 1000; decide, by show 1 ≤ 100; decide, by show 1 ≤ 1000; decide⟩) oOS hq
    rw [List.map_append] at t
    exact t
  · simp? [c]
    exact tail (by omega) (by omega) oP oL hq
theorem law_start (ns : List Int) (hl : ns.length ≤ 63) : sm_law [.sh (lkD (ns.map .int))] (fun rv _ => rv = .sh (.bool true)) (fun _ _ => False) := ⟨_, rfl, ns, rfl, hl, fun _ => rfl⟩
end K63

/-! ## E63_mk -/
set_option Elab.async false
set_option linter.all false
set_option autoImplicit false
set_option maxRecDepth 100000
set_option maxHeartbeats 8000000
namespace K63
open PySem PySem.Spec PyProof.Rows L2 ML
theorem all_mk {l : PySem.W.OpenLaw} {w : World} {K : PySem.W.Frag} {h : Heap} {mg : Str → Option Value} {fa f0 f1 f2 f3 f4 f5 f6 f7 f8 f9   : Addr} {od0 an0 : Option Addr} {sl0 : Array (Option Value)} {oc0 kV0 dc0 pm0 cd0 ct0 : Value} {od1 an1 : Option Addr} {sl1 : Array (Option Value)} {oc1 kV1 dc1 pm1 cd1 ct1 : Value} {od2 an2 : Option Addr} {sl2 : Array (Option Value)} {oc2 kV2 dc2 pm2 cd2 ct2 : Value} {od3 an3 : Option Addr} {sl3 : Array (Option Value)} {oc3 kV3 dc3 pm3 cd3 ct3 : Value} {od4 an4 : Option Addr} {sl4 : Array (Option Value)} {oc4 kV4 dc4 pm4 cd4 ct4 : Value} {od5 an5 : Option Addr} {sl5 : Array (Option Value)} {oc5 kV5 dc5 pm5 cd5 ct5 : Value} {od6 an6 : Option Addr} {sl6 : Array (Option Value)} {oc6 kV6 dc6 pm6 cd6 ct6 : Value} {od7 an7 : Option Addr} {sl7 : Array (Option Value)} {oc7 kV7 dc7 pm7 cd7 ct7 : Value} {od8 an8 : Option Addr} {sl8 : Array (Option Value)} {oc8 kV8 dc8 pm8 cd8 ct8 : Value} {od9 an9 : Option Addr} {sl9 : Array (Option Value)} {oc9 kV9 dc9 pm9 cd9 ct9 : Value} (X : K.In h) (G : h.Ns mainGlobals mg) (hfa : mg "law" = some (.ref fa))
    (a0 : PySem.W.nsIn K mainGlobals "needed_by" = some (some (.ref f0)))
    (l0 : K.lookup f0 = some ⟨oc0, od0, .func (PySem.W.fnOf "needed_by" "needed_by" (defArgs st_needed_by) (defBody st_needed_by) (defScope st_needed_by) .none kV0 dc0 pm0 an0 cd0 ct0), sl0⟩)
    (e0 : PySem.W.codeIn K cd0 "needed_by" = true)
    (k0 : PySem.W.keepIn K (.ref f0) = true)
    (a1 : PySem.W.nsIn K mainGlobals "pulled" = some (some (.ref f1)))
    (l1 : K.lookup f1 = some ⟨oc1, od1, .func (PySem.W.fnOf "pulled" "pulled" (defArgs st_pulled) (defBody st_pulled) (defScope st_pulled) .none kV1 dc1 pm1 an1 cd1 ct1), sl1⟩)
    (e1 : PySem.W.codeIn K cd1 "pulled" = true)
    (k1 : PySem.W.keepIn K (.ref f1) = true)
    (a2 : PySem.W.nsIn K mainGlobals "_law_numbers" = some (some (.ref f2)))
    (l2 : K.lookup f2 = some ⟨oc2, od2, .func (PySem.W.fnOf "_law_numbers" "_law_numbers" (defArgs st__law_numbers) (defBody st__law_numbers) (defScope st__law_numbers) .none kV2 dc2 pm2 an2 cd2 ct2), sl2⟩)
    (e2 : PySem.W.codeIn K cd2 "_law_numbers" = true)
    (k2 : PySem.W.keepIn K (.ref f2) = true)
    (a3 : PySem.W.nsIn K mainGlobals "_law_pick" = some (some (.ref f3)))
    (l3 : K.lookup f3 = some ⟨oc3, od3, .func (PySem.W.fnOf "_law_pick" "_law_pick" (defArgs st__law_pick) (defBody st__law_pick) (defScope st__law_pick) .none kV3 dc3 pm3 an3 cd3 ct3), sl3⟩)
    (e3 : PySem.W.codeIn K cd3 "_law_pick" = true)
    (k3 : PySem.W.keepIn K (.ref f3) = true)
    (a4 : PySem.W.nsIn K mainGlobals "_law_same" = some (some (.ref f4)))
    (l4 : K.lookup f4 = some ⟨oc4, od4, .func (PySem.W.fnOf "_law_same" "_law_same" (defArgs st__law_same) (defBody st__law_same) (defScope st__law_same) .none kV4 dc4 pm4 an4 cd4 ct4), sl4⟩)
    (e4 : PySem.W.codeIn K cd4 "_law_same" = true)
    (k4 : PySem.W.keepIn K (.ref f4) = true)
    (a5 : PySem.W.nsIn K mainGlobals "_law_one" = some (some (.ref f5)))
    (l5 : K.lookup f5 = some ⟨oc5, od5, .func (PySem.W.fnOf "_law_one" "_law_one" (defArgs st__law_one) (defBody st__law_one) (defScope st__law_one) .none kV5 dc5 pm5 an5 cd5 ct5), sl5⟩)
    (e5 : PySem.W.codeIn K cd5 "_law_one" = true)
    (k5 : PySem.W.keepIn K (.ref f5) = true)
    (a6 : PySem.W.nsIn K mainGlobals "_law_chain" = some (some (.ref f6)))
    (l6 : K.lookup f6 = some ⟨oc6, od6, .func (PySem.W.fnOf "_law_chain" "_law_chain" (defArgs st__law_chain) (defBody st__law_chain) (defScope st__law_chain) .none kV6 dc6 pm6 an6 cd6 ct6), sl6⟩)
    (e6 : PySem.W.codeIn K cd6 "_law_chain" = true)
    (k6 : PySem.W.keepIn K (.ref f6) = true)
    (a7 : PySem.W.nsIn K mainGlobals "_law_placer" = some (some (.ref f7)))
    (l7 : K.lookup f7 = some ⟨oc7, od7, .func (PySem.W.fnOf "_law_placer" "_law_placer" (defArgs st__law_placer) (defBody st__law_placer) (defScope st__law_placer) .none kV7 dc7 pm7 an7 cd7 ct7), sl7⟩)
    (e7 : PySem.W.codeIn K cd7 "_law_placer" = true)
    (k7 : PySem.W.keepIn K (.ref f7) = true)
    (a8 : PySem.W.nsIn K mainGlobals "_law_needed" = some (some (.ref f8)))
    (l8 : K.lookup f8 = some ⟨oc8, od8, .func (PySem.W.fnOf "_law_needed" "_law_needed" (defArgs st__law_needed) (defBody st__law_needed) (defScope st__law_needed) .none kV8 dc8 pm8 an8 cd8 ct8), sl8⟩)
    (e8 : PySem.W.codeIn K cd8 "_law_needed" = true)
    (k8 : PySem.W.keepIn K (.ref f8) = true)
    (a9 : PySem.W.nsIn K mainGlobals "law" = some (some (.ref f9)))
    (l9 : K.lookup f9 = some ⟨oc9, od9, .func (PySem.W.fnOf "law" "law" (defArgs st_law) (defBody st_law) (defScope st_law) .none kV9 dc9 pm9 an9 cd9 ct9), sl9⟩)
    (e9 : PySem.W.codeIn K cd9 "law" = true)
    (k9 : PySem.W.keepIn K (.ref f9) = true)
    (z_bool : PySem.W.nsIn K mainGlobals "bool" = some none)
    (z_enumerate : PySem.W.nsIn K mainGlobals "enumerate" = some none)
    (z_int : PySem.W.nsIn K mainGlobals "int" = some none)
    (z_isinstance : PySem.W.nsIn K mainGlobals "isinstance" = some none)
    (z_len : PySem.W.nsIn K mainGlobals "len" = some none)
    (z_list : PySem.W.nsIn K mainGlobals "list" = some none)
    (z_range : PySem.W.nsIn K mainGlobals "range" = some none)
    (z_sorted : PySem.W.nsIn K mainGlobals "sorted" = some none)
    (z_str : PySem.W.nsIn K mainGlobals "str" = some none)
    (z_tuple : PySem.W.nsIn K mainGlobals "tuple" = some none) :
    ∃ fd : FuncData, (∀ (s : Shared) (v : Value), BindsTo s fd ⟨[v], []⟩ [("script", v)]) ∧ ∀ base : Heap, K.In base → base.Ns mainGlobals mg → FnOk l.prog w K mg base (L2.CX l.prog w) 32 fa fd ["script"] (spG K 1 sm_law) := by
  have e := hfa.symm.trans (PySem.W.mg_of X G a9)
  cases e
  have m_bool := PySem.W.mg_none_of X G z_bool
  have m_enumerate := PySem.W.mg_none_of X G z_enumerate
  have m_int := PySem.W.mg_none_of X G z_int
  have m_isinstance := PySem.W.mg_none_of X G z_isinstance
  have m_len := PySem.W.mg_none_of X G z_len
  have m_list := PySem.W.mg_none_of X G z_list
  have m_range := PySem.W.mg_none_of X G z_range
  have m_sorted := PySem.W.mg_none_of X G z_sorted
  have m_str := PySem.W.mg_none_of X G z_str
  have m_tuple := PySem.W.mg_none_of X G z_tuple
  have F0 := fun_mk (st := st_needed_by) l0 e0 k0
  have b0 := F0.binds (ps := ["part"]) fun _ _ _ _ _ _ us hl => match us, hl with | [_], _ => rfl
  have F1 := fun_mk (st := st_pulled) l1 e1 k1
  have b1 := F1.binds (ps := ["parts", "library"]) fun _ _ _ _ _ _ us hl => match us, hl with | [_, _], _ => rfl
  have F2 := fun_mk (st := st__law_numbers) l2 e2 k2
  have b2 := F2.binds (ps := ["script"]) fun _ _ _ _ _ _ us hl => match us, hl with | [_], _ => rfl
  have F3 := fun_mk (st := st__law_pick) l3 e3 k3
  have b3 := F3.binds (ps := ["feed", "many"]) fun _ _ _ _ _ _ us hl => match us, hl with | [_, _], _ => rfl
  have F4 := fun_mk (st := st__law_same) l4 e4 k4
  have b4 := F4.binds (ps := ["actual", "due"]) fun _ _ _ _ _ _ us hl => match us, hl with | [_, _], _ => rfl
  have F5 := fun_mk (st := st__law_one) l5 e5 k5
  have b5 := F5.binds (ps := ["feed", "names"]) fun _ _ _ _ _ _ us hl => match us, hl with | [_, _], _ => rfl
  have F6 := fun_mk (st := st__law_chain) l6 e6 k6
  have b6 := F6.binds (ps := ["feed", "names"]) fun _ _ _ _ _ _ us hl => match us, hl with | [_, _], _ => rfl
  have F7 := fun_mk (st := st__law_placer) l7 e7 k7
  have b7 := F7.binds (ps := ["parts", "name"]) fun _ _ _ _ _ _ us hl => match us, hl with | [_, _], _ => rfl
  have F8 := fun_mk (st := st__law_needed) l8 e8 k8
  have b8 := F8.binds (ps := ["parts", "library", "chosen"]) fun _ _ _ _ _ _ us hl => match us, hl with | [_, _, _], _ => rfl
  have F9 := fun_mk (st := st_law) l9 e9 k9
  have b9 := F9.binds (ps := ["script"]) fun _ _ _ _ _ _ us hl => match us, hl with | [_], _ => rfl
  have all : ∀ base : Heap, FnOk l.prog w K mg base (L2.CX l.prog w) 32 fa (PySem.W.fnOf "law" "law" (defArgs st_law) (defBody st_law) (defScope st_law) .none kV9 dc9 pm9 an9 cd9 ct9) ["script"] (spG K 1 sm_law) := by
    intro base
    have G0 : FnG l.prog w K mg base 1 "needed_by" 1 sm_needed_by := ⟨⟨_, _, _, fn_g F0 sc_needed_by rfl (fun cdv hcd0 A outer s H E W wx hr tk pso => der_needed_by  cdv hcd0 A outer s H E W wx hr tk pso) (fun ins Qd Xd hl h => s_needed_by hl h), PySem.W.mg_of X G a0, k0, b0⟩⟩
    have G1 : FnG l.prog w K mg base 2 "pulled" 2 sm_pulled := ⟨⟨_, _, _, fn_g F1 sc_pulled rfl (fun cdv hcd0 A outer s H E W wx hr tk pso => der_pulled sm_needed_by G0 m_enumerate m_list m_sorted cdv hcd0 A outer s H E W wx hr tk pso) (fun ins Qd Xd hl h => s_pulled hl h), PySem.W.mg_of X G a1, k1, b1⟩⟩
    have G2 : FnG l.prog w K mg base 1 "_law_numbers" 1 LP.sm_numbers := ⟨⟨_, _, _, fn_g F2 sc__law_numbers rfl (fun cdv hcd0 A outer s H E W wx hr tk pso => der__law_numbers m_int m_range cdv hcd0 A outer s H E W wx hr tk pso) (fun ins Qd Xd hl h => LP.s_numbers hl h), PySem.W.mg_of X G a2, k2, b2⟩⟩
    have G3 : FnG l.prog w K mg base 1 "_law_pick" 2 LP.sm_pick := ⟨⟨_, _, _, fn_g F3 sc__law_pick rfl (fun cdv hcd0 A outer s H E W wx hr tk pso => der__law_pick m_int m_len cdv hcd0 A outer s H E W wx hr tk pso) (fun ins Qd Xd hl h => LP.s_pick hl h), PySem.W.mg_of X G a3, k3, b3⟩⟩
    have R4 : ∀ m : Nat, FnG l.prog w K mg base (m + 1) "_law_same" 2 (LP.sm_same m) := by
      intro m
      induction m with
      | zero => exact ⟨⟨_, _, _, fn_g (k := 0) F4 sc__law_same rfl (fun cdv hcd0 A outer s H E W wx hr tk pso => der__law_same (k := 0) (kf := 0) semNo (Nat.le_refl _) (by omega) (FnG.mono ⟨⟨_, _, _, fn_no (f := f4), PySem.W.mg_of X G a4, k4, b4⟩⟩ (Nat.zero_le _)) m_bool m_int m_isinstance m_len m_list m_range m_str m_tuple cdv hcd0 A outer s H E W wx hr tk pso) (fun ins Qd Xd hl h => LP.s_same0 hl h), PySem.W.mg_of X G a4, k4, b4⟩⟩
      | succ m ih => exact ⟨⟨_, _, _, fn_g (k := m + 1) F4 sc__law_same rfl (fun cdv hcd0 A outer s H E W wx hr tk pso => der__law_same (k := m + 1) (kf := m + 1) (LP.sm_same m) (Nat.le_refl _) (by omega) ih m_bool m_int m_isinstance m_len m_list m_range m_str m_tuple cdv hcd0 A outer s H E W wx hr tk pso) (fun ins Qd Xd hl h => LP.s_same hl h), PySem.W.mg_of X G a4, k4, b4⟩⟩
    have G4 : FnG l.prog w K mg base 31 "_law_same" 2 (LP.sm_same 30) := R4 30
    have G5 : FnG l.prog w K mg base 2 "_law_one" 2 sm_one := ⟨⟨_, _, _, fn_g F5 sc__law_one rfl (fun cdv hcd0 A outer s H E W wx hr tk pso => der__law_one LP.sm_pick G3 m_len m_range cdv hcd0 A outer s H E W wx hr tk pso) (fun ins Qd Xd hl h => s_one hl h), PySem.W.mg_of X G a5, k5, b5⟩⟩
    have G6 : FnG l.prog w K mg base 2 "_law_chain" 2 sm_chain := ⟨⟨_, _, _, fn_g F6 sc__law_chain rfl (fun cdv hcd0 A outer s H E W wx hr tk pso => der__law_chain LP.sm_pick G3 m_len m_range cdv hcd0 A outer s H E W wx hr tk pso) (fun ins Qd Xd hl h => s_chain hl h), PySem.W.mg_of X G a6, k6, b6⟩⟩
    have G7 : FnG l.prog w K mg base 1 "_law_placer" 2 sm_placer := ⟨⟨_, _, _, fn_g F7 sc__law_placer rfl (fun cdv hcd0 A outer s H E W wx hr tk pso => der__law_placer m_len m_range cdv hcd0 A outer s H E W wx hr tk pso) (fun ins Qd Xd hl h => s_placer hl h), PySem.W.mg_of X G a7, k7, b7⟩⟩
    have G8 : FnG l.prog w K mg base 2 "_law_needed" 3 sm_needed := ⟨⟨_, _, _, fn_g F8 sc__law_needed rfl (fun cdv hcd0 A outer s H E W wx hr tk pso => der__law_needed sm_placer G7 cdv hcd0 A outer s H E W wx hr tk pso) (fun ins Qd Xd hl h => s_needed hl h), PySem.W.mg_of X G a8, k8, b8⟩⟩
    exact fn_g F9 sc_law rfl (fun cdv hcd0 A outer s H E W wx hr tk pso => der_law sm_chain sm_needed LP.sm_numbers sm_one LP.sm_pick (LP.sm_same 30) sm_pulled G6 G8 G2 G5 G3 G4 G1 m_len m_list m_range m_sorted cdv hcd0 A outer s H E W wx hr tk pso) (fun ins Qd Xd hl h => s_law hl h)
  exact ⟨_, fun s v => .of_eq rfl, fun base _ _ => all base⟩
end K63

/-! ## E63_end -/
open PySem PySem.W PyProof.Rows
set_option maxHeartbeats 0 in
theorem PySem.Challenge.cw_scribeself_k63_least_pulled_objects_holds : PySem.Challenge.rw_scribeself_k63_least_pulled_objects.Holds := by
  w_on; o_law; k_head; (case hw => w_witness2)
  k_fill
  refine L2.walk_of (l := PySem.Challenge.rw_scribeself_k63_least_pulled_objects) (n := 63) (k := 32) (x := "script") (CX := L2.CX PySem.Challenge.rw_scribeself_k63_least_pulled_objects.prog) (sp := fun w => ML.spG _ 1 K63.sm_law) rfl (by decide) rfl ⟨rfl, by decide, by decide⟩ (fun w h Y => PySem.W.kIn_of Y) ?F (fun w H a ns hl _ hS => ML.law_in hS (K63.law_start ns hl)) (fun _ _ _ _ _ h => ML.cx_no h)
  case F =>
    intro w mg fa h KX G hmg
    refine' K63.all_mk KX G hmg ?a0 ?l0 ?e0 ?k0 ?a1 ?l1 ?e1 ?k1 ?a2 ?l2 ?e2 ?k2 ?a3 ?l3 ?e3 ?k3 ?a4 ?l4 ?e4 ?k4 ?a5 ?l5 ?e5 ?k5 ?a6 ?l6 ?e6 ?k6 ?a7 ?l7 ?e7 ?k7 ?a8 ?l8 ?e8 ?k8 ?a9 ?l9 ?e9 ?k9 ?z_bool ?z_enumerate ?z_int ?z_isinstance ?z_len ?z_list ?z_range ?z_sorted ?z_str ?z_tuple
    (case a0 => k_is); (case l0 => k_is); (case e0 => k_is); (case k0 => k_is); (case a1 => k_is); (case l1 => k_is)
    (case e1 => k_is); (case k1 => k_is); (case a2 => k_is); (case l2 => k_is); (case e2 => k_is); (case k2 => k_is)
    (case a3 => k_is); (case l3 => k_is); (case e3 => k_is); (case k3 => k_is); (case a4 => k_is); (case l4 => k_is)
    (case e4 => k_is); (case k4 => k_is); (case a5 => k_is); (case l5 => k_is); (case e5 => k_is); (case k5 => k_is)
    (case a6 => k_is); (case l6 => k_is); (case e6 => k_is); (case k6 => k_is); (case a7 => k_is); (case l7 => k_is)
    (case e7 => k_is); (case k7 => k_is); (case a8 => k_is); (case l8 => k_is); (case e8 => k_is); (case k8 => k_is)
    (case a9 => k_is); (case l9 => k_is); (case e9 => k_is); (case k9 => k_is); (case z_bool => k_is); (case z_enumerate => k_is)
    (case z_int => k_is); (case z_isinstance => k_is); (case z_len => k_is); (case z_list => k_is); (case z_range => k_is); (case z_sorted => k_is)
    (case z_str => k_is); (case z_tuple => k_is)
