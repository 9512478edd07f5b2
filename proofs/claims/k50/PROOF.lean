import PyProof.Rows.All
import Wide.All
import OpenK.AllK
import Wide.FinOn
import HandS.ForMost
import HandS.ForExc
import HandS.Exc
import HandS.ExcOwn
import HandS.WordsExc
import HandS.Deep
import HandS.TupAny
import HandS.Text
import HandS.Codes
import HandS.Wide
import HandS.Steps
import HandS.Style
import HandS.More
import HandS.TryOnly
import HandS.ExcIs
import HandS.ExcField
import PyProof.WalksEnum
import HandS.Conv
import HandS.IsInst
import HandS.Flt
import HandS.WideBits
import HandS.EndBits
import PySem.Challenge.RW_scribeself_k50_wrapped_operations
/-! ## VL1 -/
set_option Elab.async false
set_option linter.all false
set_option autoImplicit false
set_option maxRecDepth 100000
set_option maxHeartbeats 4000000
namespace VL
open PySem PySem.Spec PyProof.Rows L2

abbrev D := PyData

/-- the heap without anything that is tracked: what is read off it stands in the written part -/
def H00 : Hp := fun _ => none
def LsR (K : PySem.W.Frag) (S : Addr → Prop) (H : Hp) (a : Addr) (xs : List V) : Prop := (Rd H a (.lst xs) ∧ ¬ S a) ∨ SqL K H00 a xs
def TsR (K : PySem.W.Frag) (S : Addr → Prop) (H : Hp) (a : Addr) (xs : List V) : Prop := (Rd H a (.tup xs) ∧ ¬ S a) ∨ SqT K H00 a xs

section
variable {K : PySem.W.Frag} {S S' : Addr → Prop} {H H' : Hp} {a : Addr} {xs : List V}
theorem Rd.no {u : HO} (h : Rd H00 a u) : False := by
  rcases h with h | ⟨o, h⟩ <;> cases h
theorem LsR.sq (h : LsR K S H a xs) : SqL K H a xs := by
  rcases h with h | h | h
  · exact .inl h.1
  · exact (Rd.no h).elim
  · exact .inr h
theorem TsR.sq (h : TsR K S H a xs) : SqT K H a xs := by
  rcases h with h | h | h
  · exact .inl h.1
  · exact (Rd.no h).elim
  · exact .inr h
/-- what is kept of the heap, and of the addresses to stay away from -/
structure Ev (S : Addr → Prop) (H : Hp) (S' : Addr → Prop) (H' : Hp) : Prop where
  kp : ∀ b o, H b = some o → ¬ S b → H' b = some o
  nw : ∀ b, S' b → S b ∨ H b = none
theorem Rd.ev (e : Ev S H S' H') {u : HO} (h : Rd H a u) (n : ¬ S a) : Rd H' a u ∧ ¬ S' a := by
  rcases h with h | ⟨o, h⟩
  · exact ⟨.inl (e.kp _ _ h n), fun q => (e.nw _ q).elim n fun z => by rw [h] at z; cases z⟩
  · exact ⟨.inr ⟨o, e.kp _ _ h n⟩, fun q => (e.nw _ q).elim n fun z => by rw [h] at z; cases z⟩
theorem LsR.ev (e : Ev S H S' H') (h : LsR K S H a xs) : LsR K S' H' a xs := by
  rcases h with h | h
  · exact .inl (Rd.ev e h.1 h.2)
  · exact .inr h
theorem TsR.ev (e : Ev S H S' H') (h : TsR K S H a xs) : TsR K S' H' a xs := by
  rcases h with h | h
  · exact .inl (Rd.ev e h.1 h.2)
  · exact .inr h
end

/-- a text of the model: no stray signs, within the line -/
def okS (x : Str) : Bool := PyData.strOk x && decide (x.length ≤ sizeLine)
mutual
/-- the value v reads as the data d, over nothing that S names -/
inductive Rp (K : PySem.W.Frag) (S : Addr → Prop) (H : Hp) : V → D → Prop
  | non : Rp K S H .non .none
  | bl (b : Bool) : Rp K S H (.bl b) (.bool b)
  | int (i : Int) : Rp K S H (.int i) (.int i)
  | str (x : Str) : okS x = true → Rp K S H (.str x) (.str x)
  | lst {a : Addr} {xs : List V} {ds : List D} : LsR K S H a xs → Rps K S H xs ds → Rp K S H (.ref a) (.list ds)
  | tup {a : Addr} {xs : List V} {ds : List D} : TsR K S H a xs → Rps K S H xs ds → Rp K S H (.ref a) (.tuple ds)
inductive Rps (K : PySem.W.Frag) (S : Addr → Prop) (H : Hp) : List V → List D → Prop
  | nil : Rps K S H [] []
  | cons {v : V} {vs : List V} {d : D} {ds : List D} : Rp K S H v d → Rps K S H vs ds → Rps K S H (v :: vs) (d :: ds)
end

section
variable {K : PySem.W.Frag} {S S' : Addr → Prop} {H H' : Hp}
mutual
theorem Rp.ev (e : Ev S H S' H') : ∀ (d : D) (v : V), Rp K S H v d → Rp K S' H' v d
  | .none, _, h => by cases h; exact .non
  | .bool _, _, h => by cases h; exact .bl _
  | .int _, _, h => by cases h; exact .int _
  | .str _, _, h => by cases h with | str _ h => exact .str _ h
  | .list ds, _, h => by
    cases h with
    | lst h1 h2 => exact .lst (h1.ev e) (Rps.ev e ds _ h2)
  | .tuple ds, _, h => by
    cases h with
    | tup h1 h2 => exact .tup (h1.ev e) (Rps.ev e ds _ h2)
  | .dict _, _, h => by cases h
theorem Rps.ev (e : Ev S H S' H') : ∀ (ds : List D) (vs : List V), Rps K S H vs ds → Rps K S' H' vs ds
  | [], _, h => by cases h; exact .nil
  | d :: ds, _, h => by
    cases h with
    | cons h1 h2 => exact .cons (Rp.ev e d _ h1) (Rps.ev e ds _ h2)
end
mutual
theorem Rp.dp : ∀ (d : D) (v : V), Rp K S H v d → Dp K H v d
  | .none, _, h => by cases h; exact .non
  | .bool _, _, h => by cases h; exact .bl _
  | .int _, _, h => by cases h; exact .int _
  | .str _, _, h => by cases h; exact .str _
  | .list ds, _, h => by
    cases h with
    | lst h1 h2 => exact .lst h1.sq (Rps.dp ds _ h2)
  | .tuple ds, _, h => by
    cases h with
    | tup h1 h2 => exact .tup h1.sq (Rps.dp ds _ h2)
  | .dict _, _, h => by cases h
theorem Rps.dp : ∀ (ds : List D) (vs : List V), Rps K S H vs ds → DpAll K H vs ds
  | [], _, h => by cases h; exact .nil
  | d :: ds, _, h => by
    cases h with
    | cons h1 h2 => exact .cons (Rp.dp d _ h1) (Rps.dp ds _ h2)
end
theorem Rps.length : ∀ {vs : List V} {ds : List D}, Rps K S H vs ds → vs.length = ds.length
  | _, [], h => by cases h; rfl
  | _, d :: ds, h => by
    cases h with
    | cons h1 h2 => rw [List.length_cons, List.length_cons, Rps.length h2]
theorem Rps.get : ∀ {vs : List V} {ds : List D} {i : Nat} {d : D}, Rps K S H vs ds → ds[i]? = some d → ∃ v, vs[i]? = some v ∧ Rp K S H v d
  | _, [], _, _, h, e => by simp at e
  | _, d :: ds, 0, _, h, e => by
    cases h with
    | cons h1 h2 => simp at e; subst e; exact ⟨_, rfl, h1⟩
  | _, d :: ds, i + 1, _, h, e => by
    cases h with
    | cons h1 h2 =>
      obtain ⟨v, q, r⟩ := Rps.get (i := i) h2 (by simpa using e)
      exact ⟨v, by simpa using q, r⟩
theorem Rps.get' : ∀ {vs : List V} {ds : List D} {i : Nat} {v : V}, Rps K S H vs ds → vs[i]? = some v → ∃ d, ds[i]? = some d ∧ Rp K S H v d
  | [], _, _, _, h, e => by simp at e
  | v :: vs, _, 0, _, h, e => by
    cases h with
    | cons h1 h2 => simp at e; subst e; exact ⟨_, rfl, h1⟩
  | v :: vs, _, i + 1, _, h, e => by
    cases h with
    | cons h1 h2 =>
      obtain ⟨d, q, r⟩ := Rps.get' (i := i) h2 (by simpa using e)
      exact ⟨d, by simpa using q, r⟩
theorem Rps.append : ∀ {vs us : List V} {ds es : List D}, Rps K S H vs ds → Rps K S H us es → Rps K S H (vs ++ us) (ds ++ es)
  | _, _, [], _, h, q => by cases h; exact q
  | _, _, d :: ds, _, h, q => by
    cases h with
    | cons h1 h2 => exact .cons h1 (Rps.append h2 q)
theorem Rps.set : ∀ {vs : List V} {ds : List D} {i : Nat} {v : V} {d : D}, Rps K S H vs ds → Rp K S H v d → Rps K S H (vs.set i v) (ds.set i d)
  | _, [], _, _, _, h, q => by cases h; exact .nil
  | _, d :: ds, 0, _, _, h, q => by
    cases h with
    | cons h1 h2 => exact .cons q h2
  | _, d :: ds, i + 1, _, _, h, q => by
    cases h with
    | cons h1 h2 => exact .cons h1 (Rps.set h2 q)
theorem Rps.take : ∀ {vs : List V} {ds : List D} (n : Nat), Rps K S H vs ds → Rps K S H (vs.take n) (ds.take n)
  | _, _, 0, h => by simp; exact .nil
  | _, [], n + 1, h => by cases h; exact .nil
  | _, d :: ds, n + 1, h => by
    cases h with
    | cons h1 h2 => exact .cons h1 (Rps.take n h2)
theorem Rps.drop : ∀ {vs : List V} {ds : List D} (n : Nat), Rps K S H vs ds → Rps K S H (vs.drop n) (ds.drop n)
  | _, _, 0, h => h
  | _, [], n + 1, h => by cases h; exact .nil
  | _, d :: ds, n + 1, h => by
    cases h with
    | cons h1 h2 => exact Rps.drop n h2
theorem Rps.reverse : ∀ {vs : List V} {ds : List D}, Rps K S H vs ds → Rps K S H vs.reverse ds.reverse
  | _, [], h => by cases h; exact .nil
  | _, d :: ds, h => by
    cases h with
    | cons h1 h2 =>
      rw [List.reverse_cons, List.reverse_cons]
      exact Rps.append (Rps.reverse h2) (.cons h1 .nil)
theorem Rps.ints : ∀ (ns : List Int), Rps K S H (ns.map V.int) (ns.map PyData.int)
  | [] => .nil
  | n :: ns => .cons (.int n) (Rps.ints ns)
theorem Rps.strs : ∀ (ns : List Str), (∀ x ∈ ns, okS x = true) → Rps K S H (ns.map V.str) (ns.map PyData.str)
  | [], _ => .nil
  | n :: ns, h => .cons (.str n (h n List.mem_cons_self)) (Rps.strs ns fun x hx => h x (List.mem_cons_of_mem _ hx))
theorem Rps.strs_ok : ∀ {vs : List V} {ns : List Str}, Rps K S H vs (ns.map PyData.str) → ∀ x ∈ ns, okS x = true
  | _, [], _, x, hx => by cases hx
  | _, n :: ns, h, x, hx => by
    cases h with
    | cons h1 h2 =>
      cases h1 with
      | str _ h1 =>
        rcases List.mem_cons.mp hx with rfl | hx
        · exact h1
        · exact Rps.strs_ok h2 x hx
theorem Rps.ints_v : ∀ {vs : List V} {ns : List Int}, Rps K S H vs (ns.map PyData.int) → vs = ns.map V.int
  | _, [], h => by cases h; rfl
  | _, n :: ns, h => by
    cases h with
    | cons h1 h2 => cases h1; rw [Rps.ints_v h2]; rfl
theorem Rps.strs_v : ∀ {vs : List V} {ns : List Str}, Rps K S H vs (ns.map PyData.str) → vs = ns.map V.str
  | _, [], h => by cases h; rfl
  | _, n :: ns, h => by
    cases h with
    | cons h1 h2 => cases h1; rw [Rps.strs_v h2]; rfl
theorem Rps.bools_v : ∀ {vs : List V} {ns : List Bool}, Rps K S H vs (ns.map PyData.bool) → vs = ns.map V.bl
  | _, [], h => by cases h; rfl
  | _, n :: ns, h => by
    cases h with
    | cons h1 h2 => cases h1; rw [Rps.bools_v h2]; rfl
end

/-! ### what is owned -/
inductive Ot where
  | leaf (d : D)
  | lst (os : List Ot)

mutual
def Ot.get : Ot → D
  | .leaf d => d
  | .lst os => .list (Ot.gets os)
def Ot.gets : List Ot → List D
  | [] => []
  | o :: os => o.get :: Ot.gets os
end
abbrev Ot.flat (ds : List D) : Ot := .lst (ds.map .leaf)
theorem Ot.gets_leaf : ∀ ds : List D, Ot.gets (ds.map .leaf) = ds
  | [] => rfl
  | d :: ds => by rw [List.map_cons, Ot.gets, Ot.get, Ot.gets_leaf ds]
theorem Ot.get_flat (ds : List D) : (Ot.flat ds).get = .list ds := by rw [Ot.get, Ot.gets_leaf]

mutual
inductive Ow (K : PySem.W.Frag) (S : Addr → Prop) (H : Hp) : V → Ot → List Addr → Prop
  | leaf {v : V} {d : D} : Rp K S H v d → Ow K S H v (.leaf d) []
  | lst {p : Addr} {xs : List V} {os : List Ot} {F : List Addr} : H p = some (.lst xs) → Ows K S H xs os F → p ∉ F → Ow K S H (.ref p) (.lst os) (p :: F)
inductive Ows (K : PySem.W.Frag) (S : Addr → Prop) (H : Hp) : List V → List Ot → List Addr → Prop
  | nil : Ows K S H [] [] []
  | cons {x : V} {xs : List V} {o : Ot} {os : List Ot} {F G : List Addr} : Ow K S H x o F → Ows K S H xs os G → (∀ b ∈ F, b ∉ G) → Ows K S H (x :: xs) (o :: os) (F ++ G)
end

section
variable {K : PySem.W.Frag} {S S' : Addr → Prop} {H H' : Hp}
/-! owned things stay: what is shared by Ev, what is owned as it is -/
mutual
theorem Ow.ev (e : Ev S H S' H') : ∀ (o : Ot) (v : V) (F : List Addr), (∀ b ∈ F, ∀ u, H b = some u → H' b = some u) → Ow K S H v o F → Ow K S' H' v o F
  | .leaf d, _, _, _, h => by cases h with | leaf h => exact .leaf (Rp.ev e d _ h)
  | .lst os, _, _, k, h => by
    cases h with
    | lst h1 h2 h3 => exact .lst (k _ (List.mem_cons_self) _ h1) (Ows.ev e os _ _ (fun b hb => k b (List.mem_cons_of_mem _ hb)) h2) h3
theorem Ows.ev (e : Ev S H S' H') : ∀ (os : List Ot) (vs : List V) (F : List Addr), (∀ b ∈ F, ∀ u, H b = some u → H' b = some u) → Ows K S H vs os F → Ows K S' H' vs os F
  | [], _, _, _, h => by cases h; exact .nil
  | o :: os, _, _, k, h => by
    cases h with
    | cons h1 h2 h3 => exact .cons (Ow.ev e o _ _ (fun b hb => k b (List.mem_append_left _ hb)) h1) (Ows.ev e os _ _ (fun b hb => k b (List.mem_append_right _ hb)) h2) h3
end
/-! what is owned is given away -/
mutual
theorem Ow.rp {T : Addr → Prop} : ∀ (o : Ot) (v : V) (F : List Addr), (∀ b ∈ F, ¬ T b) → (∀ b, T b → S b) → Ow K S H v o F → Rp K T H v o.get
  | .leaf d, _, _, _, s, h => by
    cases h with
    | leaf h =>
      rw [Ot.get]
      exact Rp.ev ⟨fun _ _ q _ => q, fun b hb => .inl (s b hb)⟩ d _ h
  | .lst os, _, _, k, s, h => by
    cases h with
    | lst h1 h2 h3 =>
      rw [Ot.get]
      exact .lst (.inl ⟨.inl h1, k _ (List.mem_cons_self)⟩) (Ows.rp os _ _ (fun b hb => k b (List.mem_cons_of_mem _ hb)) s h2)
theorem Ows.rp {T : Addr → Prop} : ∀ (os : List Ot) (vs : List V) (F : List Addr), (∀ b ∈ F, ¬ T b) → (∀ b, T b → S b) → Ows K S H vs os F → Rps K T H vs (Ot.gets os)
  | [], _, _, _, _, h => by cases h; rw [Ot.gets]; exact .nil
  | o :: os, _, _, k, s, h => by
    cases h with
    | cons h1 h2 h3 =>
      rw [Ot.gets]
      exact .cons (Ow.rp o _ _ (fun b hb => k b (List.mem_append_left _ hb)) s h1) (Ows.rp os _ _ (fun b hb => k b (List.mem_append_right _ hb)) s h2)
end
theorem Ows.leaves : ∀ {vs : List V} {ds : List D}, Rps K S H vs ds → Ows K S H vs (ds.map .leaf) []
  | _, [], h => by cases h; exact .nil
  | _, d :: ds, h => by
    cases h with
    | cons h1 h2 => exact .cons (F := []) (G := []) (.leaf h1) (Ows.leaves h2) (fun b hb => by cases hb)
theorem Ows.of_leaves : ∀ {vs : List V} {ds : List D} {F : List Addr}, Ows K S H vs (ds.map .leaf) F → Rps K S H vs ds ∧ F = []
  | _, [], _, h => by cases h; exact ⟨.nil, rfl⟩
  | _, d :: ds, _, h => by
    cases h with
    | cons h1 h2 h3 =>
      cases h1 with
      | leaf h1 =>
        obtain ⟨q, r⟩ := Ows.of_leaves h2
        rw [r]
        exact ⟨.cons h1 q, rfl⟩
theorem Ow.of_flat {v : V} {ds : List D} {F : List Addr} (h : Ow K S H v (Ot.flat ds) F) : ∃ p xs, v = .ref p ∧ F = [p] ∧ H p = some (.lst xs) ∧ Rps K S H xs ds := by
  cases h with
  | lst h1 h2 h3 =>
    obtain ⟨q, r⟩ := Ows.of_leaves h2
    rw [r]
    exact ⟨_, _, rfl, rfl, h1, q⟩
theorem Ow.flat {p : Addr} {xs : List V} {ds : List D} (h : H p = some (.lst xs)) (r : Rps K S H xs ds) : Ow K S H (.ref p) (Ot.flat ds) [p] :=
  .lst h (Ows.leaves r) (fun h => by cases h)
end
end VL

/-! ## VL2 -/
set_option Elab.async false
set_option linter.all false
set_option autoImplicit false
set_option maxRecDepth 100000
set_option maxHeartbeats 4000000
namespace VL
open PySem PySem.Spec PyProof.Rows L2

/-- what a place (a slot of a def, a value that waits) holds: nothing that is known; a shared value; a value of its own -/
inductive Sl where
  | un
  | sh (d : D)
  | ow (o : Ot)

def Ot.leaves? : List Ot → Option (List D)
  | [] => some []
  | .leaf d :: os => (Ot.leaves? os).map (d :: ·)
  | .lst _ :: _ => none
/-- the data that may be read piece by piece -/
def Sl.rd : Sl → Option D
  | .un => none
  | .sh d => some d
  | .ow (.leaf d) => some d
  | .ow (.lst os) => (Ot.leaves? os).map .list
def Sl.get : Sl → D
  | .un => .none
  | .sh d => d
  | .ow o => o.get
def Sl.isIn : Sl → Bool
  | .un => false
  | _ => true
theorem leaves_map : ∀ ds : List D, Ot.leaves? (ds.map .leaf) = some ds
  | [] => rfl
  | d :: ds => by rw [List.map_cons, Ot.leaves?, leaves_map ds]; rfl
theorem of_leaves? : ∀ {os : List Ot} {ds : List D}, Ot.leaves? os = some ds → os = ds.map .leaf
  | [], ds, h => by
    rw [Ot.leaves?] at h
    cases h
    rfl
  | .leaf d :: os, ds, h => by
    rw [Ot.leaves?] at h
    obtain ⟨es, h1, h2⟩ := Option.map_eq_some_iff.mp h
    subst h2
    rw [of_leaves? h1]
    rfl
  | .lst _ :: os, ds, h => by
    rw [Ot.leaves?] at h
    cases h

abbrev Cell := Option V × Sl
/-- the world at a def's entry: the heap, what it may change, what it stays away from, its in-and-out argument -/
structure Wd where
  H0 : Hp
  F0 : List Addr
  A : Addr → Prop
  io : Option V

structure StF (K : PySem.W.Frag) (W : Wd) (H : Hp) (cs : List Cell) (S : Addr → Prop) (F : Nat → List Addr) : Prop where
  aw : ∀ b, W.A b → W.H0 b ≠ none ∧ b ∉ W.F0
  trk : ∀ b, S b → H b ≠ none
  sub : ∀ b, W.A b → S b
  kp : ∀ b o, W.H0 b = some o → b ∉ W.F0 → H b = some o
  th : ∀ b, W.H0 b ≠ none → H b ≠ none
  sh : ∀ (i : Nat) v d, cs[i]? = some (v, Sl.sh d) → ∃ u, v = some u ∧ Rp K S H u d
  ow : ∀ (i : Nat) v o, cs[i]? = some (v, Sl.ow o) → ∃ u, v = some u ∧ Ow K S H u o (F i)
  fp : ∀ (i : Nat) v o b, cs[i]? = some (v, Sl.ow o) → b ∈ F i → S b ∧ (b ∈ W.F0 ∨ W.H0 b = none)
  dj : ∀ (i j : Nat) v o w p b, i ≠ j → cs[i]? = some (v, Sl.ow o) → cs[j]? = some (w, Sl.ow p) → b ∈ F i → b ∉ F j
def St (K : PySem.W.Frag) (W : Wd) (H : Hp) (cs : List Cell) : Prop := ∃ S F, StF K W H cs S F

section
variable {K : PySem.W.Frag} {W : Wd} {H H' : Hp} {cs cs' : List Cell} {S : Addr → Prop} {F : Nat → List Addr}
/-- the places in another order, some forgotten -/
theorem StF.re (x : StF K W H cs S F) (f : Nat → Nat) (h : ∀ (i : Nat) c, cs'[i]? = some c → c.2 = .un ∨ cs[f i]? = some c) (inj : ∀ i j, i ≠ j → f i = f j → ∀ v o w p, cs'[i]? = some (v, Sl.ow o) → cs'[j]? = some (w, Sl.ow p) → False) :
    StF K W H cs' S (fun i => F (f i)) where
  aw := x.aw
  trk := x.trk
  sub := x.sub
  kp := x.kp
  th := x.th
  sh := fun i v d e => (h i _ e).elim (fun z => nomatch z) fun z => x.sh _ v d z
  ow := fun i v d e => (h i _ e).elim (fun z => nomatch z) fun z => x.ow _ v d z
  fp := fun i v o b e hb => (h i _ e).elim (fun z => nomatch z) fun z => x.fp _ v o b z hb
  dj := fun i j v o w p b ne e1 e2 hb => (h i _ e1).elim (fun z => nomatch z) fun z1 => (h j _ e2).elim (fun z => nomatch z) fun z2 =>
    x.dj _ _ v o w p b (fun q => inj i j ne q v o w p e1 e2) z1 z2 hb
theorem St.drop {ds : List Cell} (x : St K W H (cs ++ ds)) : St K W H cs := by
  obtain ⟨S, F, x⟩ := x
  refine ⟨S, F, x.re (fun i => i) (fun i c e => .inr ?_) (fun i j n q => absurd q n)⟩
  have hi : i < cs.length := (List.getElem?_eq_some_iff.mp e).1
  rw [List.getElem?_append_left hi]
  exact e
theorem getElem?_snoc {α : Type} {l : List α} {x c : α} {i : Nat} : (l ++ [x])[i]? = some c → (i < l.length ∧ l[i]? = some c) ∨ (i = l.length ∧ c = x) := fun h => by
  by_cases hi : i < l.length
  · rw [List.getElem?_append_left hi] at h
    exact .inl ⟨hi, h⟩
  · have h1 : i < (l ++ [x]).length := (List.getElem?_eq_some_iff.mp h).1
    rw [List.length_append, List.length_cons, List.length_nil] at h1
    have e : i = l.length := by omega
    subst e
    rw [List.getElem?_append_right (Nat.le_refl _), Nat.sub_self] at h
    exact .inr ⟨rfl, (Option.some.inj h).symm⟩
theorem snoc_last {α : Type} {l : List α} {x : α} : (l ++ [x])[l.length]? = some x := by
  rw [List.getElem?_append_right (Nat.le_refl _), Nat.sub_self]
  rfl
theorem snoc_old {α : Type} {l : List α} {x c : α} {i : Nat} (h : l[i]? = some c) : (l ++ [x])[i]? = some c := by
  rw [List.getElem?_append_left (List.getElem?_eq_some_iff.mp h).1]
  exact h
/-- one more shared value -/
theorem StF.push (x : StF K W H cs S F) {v : V} {d : D} (r : Rp K S H v d) : StF K W H (cs ++ [(some v, .sh d)]) S F where
  aw := x.aw
  trk := x.trk
  sub := x.sub
  kp := x.kp
  th := x.th
  sh := fun i w e q => by
    rcases getElem?_snoc q with ⟨_, q⟩ | ⟨_, q⟩
    · exact x.sh i w e q
    · cases q; exact ⟨_, rfl, r⟩
  ow := fun i w e q => by
    rcases getElem?_snoc q with ⟨_, q⟩ | ⟨_, q⟩
    · exact x.ow i w e q
    · cases q
  fp := fun i w o b q hb => by
    rcases getElem?_snoc q with ⟨_, q⟩ | ⟨_, q⟩
    · exact x.fp i w o b q hb
    · cases q
  dj := fun i j v o w p b ne e1 e2 hb => by
    rcases getElem?_snoc e1 with ⟨_, e1⟩ | ⟨_, e1⟩
    · rcases getElem?_snoc e2 with ⟨_, e2⟩ | ⟨_, e2⟩
      · exact x.dj i j v o w p b ne e1 e2 hb
      · cases e2
    · cases e1
/-- a value of which nothing is said -/
theorem StF.blank (x : StF K W H cs S F) {v : Option V} : StF K W H (cs ++ [(v, .un)]) S F where
  aw := x.aw
  trk := x.trk
  sub := x.sub
  kp := x.kp
  th := x.th
  sh := fun i w e q => by
    rcases getElem?_snoc q with ⟨_, q⟩ | ⟨_, q⟩
    · exact x.sh i w e q
    · cases q
  ow := fun i w e q => by
    rcases getElem?_snoc q with ⟨_, q⟩ | ⟨_, q⟩
    · exact x.ow i w e q
    · cases q
  fp := fun i w o b q hb => by
    rcases getElem?_snoc q with ⟨_, q⟩ | ⟨_, q⟩
    · exact x.fp i w o b q hb
    · cases q
  dj := fun i j v o w p b ne e1 e2 hb => by
    rcases getElem?_snoc e1 with ⟨_, e1⟩ | ⟨_, e1⟩
    · rcases getElem?_snoc e2 with ⟨_, e2⟩ | ⟨_, e2⟩
      · exact x.dj i j v o w p b ne e1 e2 hb
      · cases e2
    · cases e1
/-- a place's own value is given away -/
theorem StF.frz (x : StF K W H cs S F) {i : Nat} {v : Option V} {o : Ot} (e : cs[i]? = some (v, .ow o)) : StF K W H (cs.set i (v, .sh o.get)) (fun b => S b ∧ b ∉ F i) F := by
  have hi : i < cs.length := (List.getElem?_eq_some_iff.mp e).1
  have old : ∀ {j : Nat} {w : Option V} {p : Ot}, (cs.set i (v, .sh o.get))[j]? = some (w, .ow p) → j ≠ i ∧ cs[j]? = some (w, .ow p) := fun {j w p} q => by
    by_cases hj : i = j
    · subst hj
      rw [List.getElem?_set_self hi] at q
      cases q
    · rw [List.getElem?_set_ne hj] at q
      exact ⟨fun z => hj z.symm, q⟩
  have ev : Ev S H (fun b => S b ∧ b ∉ F i) H := ⟨fun _ _ q _ => q, fun b hb => .inl hb.1⟩
  refine ⟨x.aw, fun b hb => x.trk b hb.1, fun b hb => ⟨x.sub b hb, fun hf => ?_⟩, x.kp, x.th, fun j w d q => ?_, fun j w p q => ?_, fun j w p b q hb => ?_, fun j k w p u r b ne q1 q2 hb => x.dj j k w p u r b ne (old q1).2 (old q2).2 hb⟩
  · obtain ⟨_, h1⟩ := x.fp i v o b e hf
    rcases h1 with h1 | h1
    · exact (x.aw b hb).2 h1
    · exact (x.aw b hb).1 h1
  · by_cases hj : i = j
    · subst hj
      rw [List.getElem?_set_self hi] at q
      cases q
      obtain ⟨u, rfl, h⟩ := x.ow i v o e
      exact ⟨u, rfl, Ow.rp o u _ (fun b hb z => z.2 hb) (fun b z => z.1) h⟩
    · rw [List.getElem?_set_ne hj] at q
      obtain ⟨u, rfl, h⟩ := x.sh j w d q
      exact ⟨u, rfl, Rp.ev ev d u h⟩
  · obtain ⟨hj, q⟩ := old q
    obtain ⟨u, rfl, h⟩ := x.ow j w p q
    exact ⟨u, rfl, Ow.ev ev p u _ (fun _ _ _ z => z) h⟩
  · obtain ⟨hj, q⟩ := old q
    obtain ⟨h1, h2⟩ := x.fp j w p b q hb
    exact ⟨⟨h1, fun z => x.dj i j v o w p b (fun q => hj q.symm) e q z hb⟩, h2⟩
/-- a new object is tracked -/
theorem StF.more (x : StF K W H cs S F) {p : Addr} {o : HO} (hp : H p = none) : StF K W (upd H p o) cs S F := by
  have ne : ∀ b, H b ≠ none → b ≠ p := fun b hb z => hb (z ▸ hp)
  have ev : Ev S H S (upd H p o) := ⟨fun b u q _ => by rw [upd_ne (ne b (by rw [q]; exact fun z => nomatch z))]; exact q, fun b hb => .inl hb⟩
  refine ⟨x.aw, fun b hb => ?_, x.sub, fun b u q n => ?_, fun b hb => ?_, fun i v d q => ?_, fun i v o q => ?_, x.fp, x.dj⟩
  · rw [upd_ne (ne b (x.trk b hb))]; exact x.trk b hb
  · have z := x.kp b u q n
    rw [upd_ne (ne b (by rw [z]; exact fun z => nomatch z))]
    exact z
  · rw [upd_ne (ne b (x.th b hb))]; exact x.th b hb
  · obtain ⟨u, rfl, h⟩ := x.sh i v d q
    exact ⟨u, rfl, Rp.ev ev d u h⟩
  · obtain ⟨u, rfl, h⟩ := x.ow i v o q
    exact ⟨u, rfl, Ow.ev ev o u _ (fun b hb w z => by rw [upd_ne (ne b (by rw [z]; exact fun z => nomatch z))]; exact z) h⟩
/-- .. and owned: Fv is what the new value is made of -/
theorem StF.own (x : StF K W H cs S F) {v : V} {o : Ot} {Fv : List Addr} {S' : Addr → Prop} (hS : ∀ b, S' b ↔ S b ∨ b ∈ Fv) (hn : ∀ b ∈ Fv, W.H0 b = none ∧ ¬ S b ∧ H b ≠ none) (hr : ∀ (i : Nat) w d, cs[i]? = some (w, Sl.sh d) → ∀ u, w = some u → Rp K S' H u d)
    (ho : ∀ (i : Nat) w d, cs[i]? = some (w, Sl.ow d) → ∀ u, w = some u → Ow K S' H u d (F i)) (h : Ow K S' H v o Fv) :
    StF K W H (cs ++ [(some v, .ow o)]) S' (fun i => if i = cs.length then Fv else F i) := by
  have lt : ∀ {i : Nat} {c : Cell}, cs[i]? = some c → i ≠ cs.length := fun {i c} e z => by
    have := (List.getElem?_eq_some_iff.mp e).1
    omega
  refine ⟨x.aw, fun b hb => ?_, fun b hb => (hS b).mpr (.inl (x.sub b hb)), x.kp, x.th, fun i w d q => ?_, fun i w d q => ?_, fun i w d b q hb => ?_, fun i j w d u p b ne q1 q2 hb => ?_⟩
  · rcases (hS b).mp hb with z | z
    · exact x.trk b z
    · exact (hn b z).2.2
  · rcases getElem?_snoc q with ⟨_, q⟩ | ⟨_, q⟩
    · obtain ⟨u, rfl, _⟩ := x.sh i w d q
      exact ⟨u, rfl, hr i _ d q u rfl⟩
    · cases q
  · rcases getElem?_snoc q with ⟨_, q⟩ | ⟨e, q⟩
    · obtain ⟨u, rfl, _⟩ := x.ow i w d q
      rw [if_neg (lt q)]
      exact ⟨u, rfl, ho i _ d q u rfl⟩
    · cases q
      rw [if_pos e]
      exact ⟨v, rfl, h⟩
  · rcases getElem?_snoc q with ⟨_, q⟩ | ⟨e, q⟩
    · rw [if_neg (lt q)] at hb
      obtain ⟨h1, h2⟩ := x.fp i w d b q hb
      exact ⟨(hS b).mpr (.inl h1), h2⟩
    · rw [if_pos e] at hb
      exact ⟨(hS b).mpr (.inr hb), .inr (hn b hb).1⟩
  · rcases getElem?_snoc q1 with ⟨_, q1⟩ | ⟨e1, q1⟩
    · rw [if_neg (lt q1)] at hb
      rcases getElem?_snoc q2 with ⟨_, q2⟩ | ⟨e2, q2⟩
      · rw [if_neg (lt q2)]
        exact x.dj i j w d u p b ne q1 q2 hb
      · rw [if_pos e2]
        exact fun z => (hn b z).2.1 (x.fp i w d b q1 hb).1
    · rw [if_pos e1] at hb
      rcases getElem?_snoc q2 with ⟨_, q2⟩ | ⟨e2, q2⟩
      · rw [if_neg (lt q2)]
        exact fun z => (hn b hb).2.1 (x.fp j u p b q2 z).1
      · exact absurd (e1.trans e2.symm) ne
/-- a new list, owned -/
theorem StF.newL (x : StF K W H cs S F) {p : Addr} {xs : List V} {ds : List D} (hp : H p = none) (r : Rps K S H xs ds) :
    StF K W (upd H p (.lst xs)) (cs ++ [(some (.ref p), .ow (Ot.flat ds))]) (fun b => S b ∨ b = p) (fun i => if i = cs.length then [p] else F i) := by
  have y := x.more (o := .lst xs) hp
  have ne : ∀ b, H b ≠ none → b ≠ p := fun b hb z => hb (z ▸ hp)
  have ev : Ev S H (fun b => S b ∨ b = p) (upd H p (.lst xs)) := ⟨fun b u q _ => by rw [upd_ne (ne b (by rw [q]; exact fun z => nomatch z))]; exact q, fun b hb => hb.elim .inl fun z => .inr (by rw [z]; exact hp)⟩
  refine y.own (Fv := [p]) (fun b => by rw [List.mem_singleton]) (fun b hb => ?_) (fun i w d q u e => ?_) (fun i w d q u e => ?_) (Ow.flat upd_same (Rps.ev ev ds xs r))
  · rw [List.mem_singleton] at hb
    subst hb
    refine ⟨?_, fun z => x.trk _ z hp, by rw [upd_same]; exact fun z => nomatch z⟩
    cases q : W.H0 b with
    | none => rfl
    | some o => exact absurd hp (x.th b (by rw [q]; exact fun z => nomatch z))
  · obtain ⟨u', e', h⟩ := x.sh i w d q
    rw [e] at e'; cases e'
    exact Rp.ev ev d u h
  · obtain ⟨u', e', h⟩ := x.ow i w d q
    rw [e] at e'; cases e'
    exact Ow.ev ev d u _ (fun b _ o z => by rw [upd_ne (ne b (by rw [z]; exact fun z => nomatch z))]; exact z) h
/-- a new tuple -/
theorem StF.newT (x : StF K W H cs S F) {p : Addr} {xs : List V} {ds : List D} (hp : H p = none) (r : Rps K S H xs ds) :
    StF K W (upd H p (.tup xs)) (cs ++ [(some (.ref p), .sh (.tuple ds))]) S F := by
  have y := x.more (o := .tup xs) hp
  have ne : ∀ b, H b ≠ none → b ≠ p := fun b hb z => hb (z ▸ hp)
  have ev : Ev S H S (upd H p (.tup xs)) := ⟨fun b u q _ => by rw [upd_ne (ne b (by rw [q]; exact fun z => nomatch z))]; exact q, fun b hb => .inl hb⟩
  exact y.push (.tup (.inl ⟨.inl upd_same, fun z => x.trk _ z hp⟩) (Rps.ev ev ds xs r))
/-- an owned flat list is changed -/
theorem StF.mut (x : StF K W H cs S F) {i : Nat} {v : Option V} {ds : List D} (e : cs[i]? = some (v, .ow (Ot.flat ds))) :
    ∃ p xs, v = some (.ref p) ∧ H p = some (.lst xs) ∧ Rps K S H xs ds ∧ ∀ xs' ds', Rps K S H xs' ds' → StF K W (upd H p (.lst xs')) (cs.set i (v, .ow (Ot.flat ds'))) S F := by
  obtain ⟨u, rfl, h⟩ := x.ow i v _ e
  obtain ⟨p, xs, rfl, hF, hl, hr⟩ := h.of_flat
  refine ⟨p, xs, rfl, hl, hr, fun xs' ds' r' => ?_⟩
  have hi : i < cs.length := (List.getElem?_eq_some_iff.mp e).1
  have hpF : p ∈ F i := by rw [hF]; exact List.mem_singleton.mpr rfl
  obtain ⟨hS, hW⟩ := x.fp i _ _ p e hpF
  have ev : Ev S H S (upd H p (.lst xs')) := ⟨fun b u q n => by rw [upd_ne (fun z : b = p => n (by rw [z]; exact hS))]; exact q, fun b hb => .inl hb⟩
  have other : ∀ {j : Nat} {c : Cell}, j ≠ i → (cs.set i (some (.ref p), .ow (Ot.flat ds')))[j]? = some c → cs[j]? = some c := fun {j c} n q => by
    rw [List.getElem?_set_ne (Ne.symm n)] at q
    exact q
  have self : ∀ {c : Cell}, (cs.set i (some (.ref p), .ow (Ot.flat ds')))[i]? = some c → c = (some (.ref p), .ow (Ot.flat ds')) := fun {c} q => by
    rw [List.getElem?_set_self hi] at q
    exact (Option.some.inj q).symm
  have ownd : ∀ {j : Nat} {w : Option V} {o : Ot}, (cs.set i (some (.ref p), .ow (Ot.flat ds')))[j]? = some (w, .ow o) → ∃ o', cs[j]? = some (w, .ow o') := fun {j w o} q => by
    by_cases hj : j = i
    · subst hj
      cases self q
      exact ⟨_, e⟩
    · exact ⟨o, other hj q⟩
  refine ⟨x.aw, fun b hb => ?_, x.sub, fun b o q n => ?_, fun b hb => ?_, fun j w d q => ?_, fun j w o q => ?_, fun j w o b q hb => ?_, fun j k w o u o2 b ne q1 q2 hb => ?_⟩
  · by_cases z : b = p
    · rw [z, upd_same]; exact fun z => nomatch z
    · rw [upd_ne z]; exact x.trk b hb
  · rw [upd_ne]
    · exact x.kp b o q n
    · rintro rfl
      rcases hW with z | z
      · exact n z
      · rw [q] at z; cases z
  · by_cases z : b = p
    · rw [z, upd_same]; exact fun z => nomatch z
    · rw [upd_ne z]; exact x.th b hb
  · by_cases hj : j = i
    · subst hj; cases self q
    · obtain ⟨u, rfl, h⟩ := x.sh j w d (other hj q)
      exact ⟨u, rfl, Rp.ev ev d u h⟩
  · by_cases hj : j = i
    · subst hj
      cases self q
      rw [hF]
      exact ⟨_, rfl, Ow.flat upd_same (Rps.ev ev ds' xs' r')⟩
    · have q' := other hj q
      obtain ⟨u, rfl, h⟩ := x.ow j w o q'
      exact ⟨u, rfl, Ow.ev ev o u _ (fun b hb z hz => by rw [upd_ne (fun y : b = p => x.dj j i _ _ _ _ p hj q' e (by rw [← y]; exact hb) hpF)]; exact hz) h⟩
  · obtain ⟨o', q'⟩ := ownd q
    exact x.fp j w o' b q' hb
  · obtain ⟨o1, q1⟩ := ownd q1
    obtain ⟨o3, q2⟩ := ownd q2
    exact x.dj j k w o1 u o3 b ne q1 q2 hb
end
end VL

/-! ## VL3 -/
set_option Elab.async false
set_option linter.all false
set_option autoImplicit false
set_option maxRecDepth 100000
set_option maxHeartbeats 4000000
namespace VL
open PySem PySem.Spec PyProof.Rows L2

/-- an exception: its class, the names and the data of its fields -/
structure Exn where
  cls : Addr
  names : List Str
  vals : List D

abbrev VT := List Sl → (Sl → List Sl → Prop) → (Exn → List Sl → Prop) → Prop

def shs (vs : List V) (ds : List D) : List Cell := (vs.map some).zip (ds.map Sl.sh)
def DS (H : Hp) (d : Option Addr) (names : List Str) (vs : List V) : Prop := vs.length = names.length ∧ ((names = [] ∧ d = none) ∨ ∃ a, d = some a ∧ names ≠ [] ∧ H a = some (.xd (names.zip vs)))

structure SS (K : PySem.W.Frag) (W : Wd) (H : Hp) (σ : L2.St) (δ : List Sl) (π : List Cell) : Prop where
  len : σ.length = δ.length
  io : ∀ u, W.io = some u → σ[0]? = some (some u)
  st : VL.St K W H (σ.zip δ ++ π)

def XR (K : PySem.W.Frag) (W : Wd) (wx : WX) (σ : L2.St) (π : List Cell) (Xd : Exn → List Sl → Prop) : Prop :=
  ∀ x δ', Xd x δ' → ∀ (d : Option Addr) (H' : Hp) (vs : List V), SS K W H' σ δ' (π ++ shs vs x.vals) → vs.length = x.vals.length → DS H' d x.names vs → wx (.ref x.cls) d σ H'

def lE (K : PySem.W.Frag) (W : Wd) (wx : WX) (t : VT) : TE := fun σ H Q => ∃ δ π Qd Xd, SS K W H σ δ π ∧ t δ Qd Xd ∧
  (∀ rv δ', Qd rv δ' → ∀ v H', SS K W H' σ δ' (π ++ [(some v, rv)]) → Q v H') ∧ XR K W wx σ π Xd

structure VE (X : Cx) (W : Wd) (wx : WX) (e : Expr) (t : VT) : Prop where
  pe : PE X e (lE X.K W wx t)

section
variable {X : Cx} {W : Wd} {wx : WX} {K : PySem.W.Frag} {H H' : Hp} {σ : L2.St} {δ δ' : List Sl} {π : List Cell}
theorem PE.imp {e : Expr} {t t' : TE} (h : PE X e t) (i : ∀ σ H Q, t' σ H Q → t σ H Q) : PE X e t' := ⟨fun pins s σ H Q I q => h.run pins s σ H Q I (i σ H Q q)⟩
theorem PT.imp {e : Expr} {t t' : TT} (h : PT X e t) (i : ∀ σ H Q, t' σ H Q → t σ H Q) : PT X e t' := ⟨fun pins s σ H Q I q => h.run pins s σ H Q I (i σ H Q q)⟩
theorem PA.imp {e : List Expr} {t t' : TA} (h : PA X e t) (i : ∀ σ H Q, t' σ H Q → t σ H Q) : PA X e t' := ⟨fun pos pins s σ H Q I q => h.run pos pins s σ H Q I (i σ H Q q)⟩
theorem PS.imp {e : Stmt} {t t' : TS} (h : PS X e t) (i : ∀ D σ H, t' D σ H → t D σ H) : PS X e t' := ⟨fun pins s σ H D I q => h.run pins s σ H D I (i D σ H q)⟩
theorem PSs.imp {e : List Stmt} {t t' : TS} (h : PSs X e t) (i : ∀ D σ H, t' D σ H → t D σ H) : PSs X e t' := ⟨fun pins s σ H D I q => h.run pins s σ H D I (i D σ H q)⟩

theorem SS.drop {ρ : List Cell} (s : SS K W H σ δ (π ++ ρ)) : SS K W H σ δ π := ⟨s.len, s.io, VL.St.drop (ds := ρ) (by rw [List.append_assoc]; exact s.st)⟩
theorem zip_get : ∀ {σ : L2.St} {δ : List Sl} {i : Nat} {sl : Sl}, σ.length = δ.length → δ[i]? = some sl → ∃ w, σ[i]? = some w ∧ (σ.zip δ)[i]? = some (w, sl)
  | [], [], _, _, _, h => by simp at h
  | [], _ :: _, _, _, h, _ => by simp at h
  | _ :: _, [], _, _, h, _ => by simp at h
  | w :: σ, d :: δ, 0, sl, _, h => by
    simp at h
    subst h
    exact ⟨w, rfl, rfl⟩
  | w :: σ, d :: δ, i + 1, sl, l, h => by
    obtain ⟨u, h1, h2⟩ := zip_get (σ := σ) (δ := δ) (i := i) (sl := sl) (by simpa using l) (by simpa using h)
    exact ⟨u, by simpa using h1, by simpa using h2⟩
theorem zip_set : ∀ {σ : L2.St} {δ : List Sl} {i : Nat} {w : Option V} {sl : Sl}, σ[i]? = some w → (σ.zip δ).set i (w, sl) = σ.zip (δ.set i sl)
  | [], _, _, _, _, h => by simp at h
  | _ :: _, [], _, _, _, _ => by simp
  | w :: σ, d :: δ, 0, u, sl, h => by
    simp at h
    subst h
    rfl
  | w :: σ, d :: δ, i + 1, u, sl, h => by
    have := zip_set (σ := σ) (δ := δ) (i := i) (w := u) (sl := sl) (by simpa using h)
    simp [this]
theorem zip_length {σ : L2.St} {δ : List Sl} (h : σ.length = δ.length) : (σ.zip δ).length = δ.length := by rw [List.length_zip, h, Nat.min_self]
theorem SS.cell (s : SS K W H σ δ π) {i : Nat} {sl : Sl} (h : δ[i]? = some sl) : ∃ w, σ[i]? = some w ∧ (σ.zip δ ++ π)[i]? = some (w, sl) := by
  obtain ⟨w, h1, h2⟩ := zip_get s.len h
  refine ⟨w, h1, ?_⟩
  rw [List.getElem?_append_left (List.getElem?_eq_some_iff.mp h2).1]
  exact h2
theorem SS.pushF {S : Addr → Prop} {F : Nat → List Addr} (s : SS K W H σ δ π) (x : StF K W H (σ.zip δ ++ π) S F) {v : V} {d : D} (r : Rp K S H v d) : SS K W H σ δ (π ++ [(some v, .sh d)]) :=
  ⟨s.len, s.io, S, F, by rw [← List.append_assoc]; exact x.push r⟩
theorem SS.push (s : SS K W H σ δ π) {v : V} {d : D} (r : ∀ S, Rp K S H v d) : SS K W H σ δ (π ++ [(some v, .sh d)]) := by
  obtain ⟨S, F, x⟩ := s.st
  exact s.pushF x (r S)
theorem SS.blank (s : SS K W H σ δ π) {v : Option V} : SS K W H σ δ (π ++ [(v, .un)]) := by
  obtain ⟨S, F, x⟩ := s.st
  exact ⟨s.len, s.io, S, F, by rw [← List.append_assoc]; exact x.blank⟩
/-- what waits last is shared -/
theorem SS.shr {v : V} {sl : Sl} (s : SS K W H σ δ (π ++ [(some v, sl)])) (h : sl.isIn = true) : SS K W H σ δ (π ++ [(some v, .sh sl.get)]) := by
  cases sl with
  | un => cases h
  | sh d => exact s
  | ow o =>
    obtain ⟨S, F, x⟩ := s.st
    rw [← List.append_assoc] at x
    have y := x.frz (i := (σ.zip δ ++ π).length) (v := some v) (o := o) snoc_last
    rw [List.set_append_right _ _ (Nat.le_refl _), Nat.sub_self] at y
    exact ⟨s.len, s.io, _, F, by rw [← List.append_assoc]; exact y⟩
/-- a slot's own value is shared -/
theorem SS.frz (s : SS K W H σ δ π) {i : Nat} {o : Ot} (h : δ[i]? = some (.ow o)) : SS K W H σ (δ.set i (.sh o.get)) π := by
  obtain ⟨w, h1, h2⟩ := s.cell h
  obtain ⟨S, F, x⟩ := s.st
  have y := x.frz h2
  have hi : i < (σ.zip δ).length := by rw [zip_length s.len]; exact (List.getElem?_eq_some_iff.mp h).1
  rw [List.set_append_left _ _ hi, zip_set h1] at y
  exact ⟨by rw [List.length_set]; exact s.len, s.io, _, F, y⟩
theorem SS.shv (s : SS K W H σ δ π) {i : Nat} {d : D} (h : δ[i]? = some (.sh d)) : ∃ v, σ[i]? = some (some v) ∧ SS K W H σ δ (π ++ [(some v, .sh d)]) := by
  obtain ⟨w, h1, h2⟩ := s.cell h
  obtain ⟨S, F, x⟩ := s.st
  obtain ⟨v, rfl, r⟩ := x.sh i w d h2
  exact ⟨v, h1, s.pushF x r⟩

/-! ### constants and names -/
def vC (d : D) : VT := fun δ Q _ => Q (.sh d) δ
theorem ve_int {i j pos} : VE X W wx (.Constant (.int i) j pos) (vC (.int i)) := ⟨PE.imp pe_int fun σ H Q ⟨δ, π, Qd, Xd, s, h, k, _⟩ => k _ _ h _ _ (s.push fun _ => .int i)⟩
theorem ve_bl {b j pos} : VE X W wx (.Constant (.bool b) j pos) (vC (.bool b)) := ⟨PE.imp pe_bl fun σ H Q ⟨δ, π, Qd, Xd, s, h, k, _⟩ => k _ _ h _ _ (s.push fun _ => .bl b)⟩
theorem ve_non {j pos} : VE X W wx (.Constant .none j pos) (vC .none) := ⟨PE.imp pe_non fun σ H Q ⟨δ, π, Qd, Xd, s, h, k, _⟩ => k _ _ h _ _ (s.push fun _ => .non)⟩
theorem ve_str {x j pos} (hx : okS x = true := by decide +kernel) : VE X W wx (.Constant (.str x) j pos) (vC (.str x)) := ⟨PE.imp pe_str fun σ H Q ⟨δ, π, Qd, Xd, s, h, k, _⟩ => k _ _ h _ _ (s.push fun _ => .str x hx)⟩
/-- a name's value, from then on shared -/
def vV (i : Nat) : VT := fun δ Q _ => match δ[i]? with
  | some (.sh d) => Q (.sh d) δ
  | some (.ow o) => Q (.sh o.get) (δ.set i (.sh o.get))
  | _ => False
theorem vV_run {i : Nat} {Q : VK} (h : lE K W wx (vV i) σ H Q) : tVar i σ H Q := by
  obtain ⟨δ, π, Qd, Xd, s, h, k, _⟩ := h
  have h0 : (match δ[i]? with | some (.sh d) => Qd (.sh d) δ | some (.ow o) => Qd (.sh o.get) (δ.set i (.sh o.get)) | _ => False) := h
  cases e : δ[i]? with
  | none => rw [e] at h0; exact h0.elim
  | some sl =>
    rw [e] at h0
    cases sl with
    | un => exact h0.elim
    | sh d =>
      obtain ⟨v, h1, s1⟩ := s.shv e
      exact ⟨v, h1, k _ _ h0 _ _ s1⟩
    | ow o =>
      have s1 := s.frz e
      obtain ⟨v, h1, s2⟩ := s1.shv (i := i) (d := o.get) (by rw [List.getElem?_set_self (List.getElem?_eq_some_iff.mp e).1])
      exact ⟨v, h1, k _ _ h0 _ _ s2⟩
theorem ve_var (i : Nat) {x : Str} {pos : Pos} (hN : X.N[i]? = some x := by rfl) (hv : Vis X.env.scope x := by first | exact Or.inl rfl | exact Or.inr (Or.inl rfl) | exact Or.inr (Or.inr rfl)) (hd : (x == ("__debug__" : Str)) = false := by decide)
    (hcd : (x == ("__classdict__" : Str)) = false := by decide) : VE X W wx (.Name x pos) (vV i) := ⟨PE.imp (pe_var hN hv hd hcd) fun _ _ _ h => vV_run h⟩
/-- a module's constant -/
theorem ve_glob {x : Str} {u : Value} {pos : Pos} {v : V} {d : D} (hm : X.mg x = some u) (r : RelV v u) (hr : ∀ S H, Rp X.K S H v d) (hg : Gl X x := by rfl) (hd : (x == ("__debug__" : Str)) = false := by decide) : VE X W wx (.Name x pos) (vC d) :=
  ⟨PE.imp (pe_glob hg hm r hd) fun σ H Q ⟨δ, π, Qd, Xd, s, h, k, _⟩ => k _ _ h _ _ (s.push fun S => hr S H)⟩
/-- the value is shared from then on -/
def vS (t : VT) : VT := fun δ Q Xc => t δ (fun rv δ' => rv.isIn = true ∧ Q (.sh rv.get) δ') Xc
theorem ve_sh {e : Expr} {t : VT} (h : VE X W wx e t) : VE X W wx e (vS t) := ⟨PE.imp h.pe fun σ H Q ⟨δ, π, Qd, Xd, s, h, k, xr⟩ =>
  ⟨δ, π, _, Xd, s, h, fun rv δ' q v H' s' => k _ _ q.2 v H' (s'.shr q.1), xr⟩⟩

/-! ### operands -/
/-- an operand: a value that is reckoned; a name, looked at when the operation is done -/
inductive Opr where
  | pd (t : VT)
  | pk (i : Nat)
def inAt (δ : List Sl) (i : Nat) : Prop := match δ[i]? with
  | some (.sh _) => True
  | some (.ow _) => True
  | _ => False
def Opr.ev : Opr → VT
  | .pd t => t
  | .pk i => fun δ Q _ => inAt δ i ∧ Q .un δ
def Opr.fin : Opr → Sl → List Sl → Option D
  | .pd _, r, _ => r.rd
  | .pk i, _, δ => (δ[i]?).bind Sl.rd
def Opr.is : Opr → L2.St → V → Prop
  | .pd _, _, _ => True
  | .pk i, σ, v => σ[i]? = some (some v)

structure VOt (X : Cx) (W : Wd) (wx : WX) (e : Expr) (o : Opr) (te : TE) : Prop where
  pe : PE X e te
  run : ∀ σ H δ π Qd Xd (Q : VK), SS X.K W H σ δ π → o.ev δ Qd Xd → XR X.K W wx σ π Xd → (∀ rv δ', Qd rv δ' → ∀ v H', SS X.K W H' σ δ' (π ++ [(some v, rv)]) → o.is σ v → Q v H') → te σ H Q
def VO (X : Cx) (W : Wd) (wx : WX) (e : Expr) (o : Opr) : Prop := ∃ te, VOt X W wx e o te
theorem vo_pd {e : Expr} {t : VT} (h : VE X W wx e t) : VO X W wx e (.pd t) :=
  ⟨_, h.pe, fun σ H δ π Qd Xd Q s q xr k => ⟨δ, π, Qd, Xd, s, q, fun rv δ' q' v H' s' => k rv δ' q' v H' s' trivial, xr⟩⟩
theorem vo_pk (i : Nat) {x : Str} {pos : Pos} (hN : X.N[i]? = some x := by rfl) (hv : Vis X.env.scope x := by first | exact Or.inl rfl | exact Or.inr (Or.inl rfl) | exact Or.inr (Or.inr rfl)) (hd : (x == ("__debug__" : Str)) = false := by decide)
    (hcd : (x == ("__classdict__" : Str)) = false := by decide) : VO X W wx (.Name x pos) (.pk i) := by
  refine ⟨_, pe_var hN hv hd hcd, fun σ H δ π Qd Xd Q s q xr k => ?_⟩
  obtain ⟨q1, q2⟩ := q
  have q1' : (match δ[i]? with | some (.sh _) => True | some (.ow _) => True | _ => False) := q1
  cases e : δ[i]? with
  | none => rw [e] at q1'; exact q1'.elim
  | some sl =>
    rw [e] at q1'
    obtain ⟨w, h1, h2⟩ := s.cell e
    obtain ⟨S, F, x⟩ := s.st
    cases sl with
    | un => exact q1'.elim
    | sh d =>
      obtain ⟨v, rfl, r⟩ := x.sh i w d h2
      exact ⟨v, h1, k _ _ q2 _ _ s.blank h1⟩
    | ow o =>
      obtain ⟨v, rfl, r⟩ := x.ow i w o h2
      exact ⟨v, h1, k _ _ q2 _ _ s.blank h1⟩

/-- a value that is read now: shared, or a list of one's own with shared items -/
def Rq (K : PySem.W.Frag) (S : Addr → Prop) (H : Hp) (v : V) (d : D) : Prop :=
  Rp K S H v d ∨ ∃ p xs ds, v = .ref p ∧ d = .list ds ∧ H p = some (.lst xs) ∧ Rps K S H xs ds
theorem StF.rq {cs : List Cell} {S : Addr → Prop} {F : Nat → List Addr} (x : StF K W H cs S F) {i : Nat} {v : V} {sl : Sl} {d : D} (e : cs[i]? = some (some v, sl)) (h : sl.rd = some d) : Rq K S H v d := by
  cases sl with
  | un => cases h
  | sh d' =>
    cases h
    obtain ⟨u, eu, r⟩ := x.sh i _ _ e
    cases eu
    exact .inl r
  | ow o =>
    obtain ⟨u, eu, r⟩ := x.ow i _ _ e
    cases eu
    generalize F i = G at r
    cases o with
    | leaf d' =>
      cases h
      cases r with
      | leaf r => exact .inl r
    | lst os =>
      have h' : (Ot.leaves? os).map PyData.list = some d := h
      obtain ⟨ds, h1, rfl⟩ := Option.map_eq_some_iff.mp h'
      have e1 := of_leaves? h1
      subst e1
      obtain ⟨p, xs, rfl, _, hl, hr⟩ := Ow.of_flat r
      exact .inr ⟨p, xs, ds, rfl, rfl, hl, hr⟩
theorem Rq.dp {S : Addr → Prop} {v : V} {d : D} (h : Rq K S H v d) : Dp K H v d := by
  rcases h with h | ⟨p, xs, ds, rfl, rfl, h1, h2⟩
  · exact Rp.dp d v h
  · exact .lst (SqL.of h1) (Rps.dp ds xs h2)
theorem Rq.list {S : Addr → Prop} {v : V} {ds : List D} (h : Rq K S H v (.list ds)) : ∃ p xs, v = .ref p ∧ SqL K H p xs ∧ Rps K S H xs ds := by
  rcases h with h | ⟨p, xs, es, rfl, e, h1, h2⟩
  · cases h with
    | lst h1 h2 => exact ⟨_, _, rfl, h1.sq, h2⟩
  · cases e
    exact ⟨p, xs, rfl, SqL.of h1, h2⟩
theorem Rq.tup {S : Addr → Prop} {v : V} {ds : List D} (h : Rq K S H v (.tuple ds)) : ∃ p xs, v = .ref p ∧ SqT K H p xs ∧ Rps K S H xs ds := by
  rcases h with h | ⟨p, xs, es, rfl, e, h1, h2⟩
  · cases h with
    | tup h1 h2 => exact ⟨_, _, rfl, h1.sq, h2⟩
  · cases e
theorem Rq.int {S : Addr → Prop} {v : V} {i : Int} (h : Rq K S H v (.int i)) : v = .int i := by
  rcases h with h | ⟨p, xs, es, rfl, e, h1, h2⟩
  · cases h; rfl
  · cases e
theorem Rq.bool {S : Addr → Prop} {v : V} {i : Bool} (h : Rq K S H v (.bool i)) : v = .bl i := by
  rcases h with h | ⟨p, xs, es, rfl, e, h1, h2⟩
  · cases h; rfl
  · cases e
theorem Rq.str {S : Addr → Prop} {v : V} {i : Str} (h : Rq K S H v (.str i)) : v = .str i := by
  rcases h with h | ⟨p, xs, es, rfl, e, h1, h2⟩
  · cases h; rfl
  · cases e
theorem Rq.okS {S : Addr → Prop} {v : V} {i : Str} (h : Rq K S H v (.str i)) : okS i = true := by
  rcases h with h | ⟨p, xs, es, rfl, e, h1, h2⟩
  · cases h with | str _ h => exact h
  · cases e
theorem Rq.none {S : Addr → Prop} {v : V} (h : Rq K S H v .none) : v = .non := by
  rcases h with h | ⟨p, xs, es, rfl, e, h1, h2⟩
  · cases h; rfl
  · cases e
theorem Rq.dict {S : Addr → Prop} {v : V} {kvs} (h : Rq K S H v (.dict kvs)) : False := by
  rcases h with h | ⟨p, xs, es, rfl, e, h1, h2⟩
  · cases h
  · cases e

/-- what an operation hands back: something that is there, a new list, a new tuple -/
inductive NewV (K : PySem.W.Frag) (S : Addr → Prop) (H : Hp) : V → Hp → Sl → Prop
  | old {v : V} {d : D} : Rp K S H v d → NewV K S H v H (.sh d)
  | lst {p : Addr} {xs : List V} {ds : List D} : H p = none → Rps K S H xs ds → NewV K S H (.ref p) (upd H p (.lst xs)) (.ow (Ot.flat ds))
  | tup {p : Addr} {xs : List V} {ds : List D} : H p = none → Rps K S H xs ds → NewV K S H (.ref p) (upd H p (.tup xs)) (.sh (.tuple ds))
theorem SS.new {S : Addr → Prop} {F : Nat → List Addr} (s : SS K W H σ δ π) (x : StF K W H (σ.zip δ ++ π) S F) {v : V} {sl : Sl} (h : NewV K S H v H' sl) : SS K W H' σ δ (π ++ [(some v, sl)]) := by
  cases h with
  | old r => exact s.pushF x r
  | lst hp r => exact ⟨s.len, s.io, _, _, by rw [← List.append_assoc]; exact x.newL hp r⟩
  | tup hp r => exact ⟨s.len, s.io, _, _, by rw [← List.append_assoc]; exact x.newT hp r⟩
theorem SS.restrict {ρ : List Cell} {S : Addr → Prop} {F : Nat → List Addr} (x : StF K W H (σ.zip δ ++ (π ++ ρ)) S F) : StF K W H (σ.zip δ ++ π) S F :=
  x.re (fun i => i) (fun i c e => .inr (by
    have hi : i < (σ.zip δ ++ π).length := (List.getElem?_eq_some_iff.mp e).1
    rw [← List.append_assoc, List.getElem?_append_left hi]
    exact e)) (fun i j n q => absurd q n)
/-- an operand's data, at the operation -/
theorem Opr.read {o : Opr} {S : Addr → Prop} {F : Nat → List Addr} {rv : Sl} {v : V} {d : D} {ρ : List Cell} (len : σ.length = δ.length) (x : StF K W H (σ.zip δ ++ (π ++ ((some v, rv) :: ρ))) S F) (hi : o.is σ v) (h : o.fin rv δ = some d) : Rq K S H v d := by
  cases o with
  | pd t =>
    refine x.rq (i := (σ.zip δ ++ π).length) (sl := rv) ?_ h
    rw [← List.append_assoc, List.getElem?_append_right (Nat.le_refl _), Nat.sub_self]
    rfl
  | pk i =>
    have hi' : σ[i]? = some (some v) := hi
    have h' : (δ[i]?).bind Sl.rd = some d := h
    obtain ⟨sl, e1, e2⟩ := Option.bind_eq_some_iff.mp h'
    obtain ⟨w, q1, q2⟩ := zip_get len e1
    rw [hi'] at q1
    cases q1
    refine x.rq (i := i) (sl := sl) ?_ e2
    rw [List.getElem?_append_left (List.getElem?_eq_some_iff.mp q2).1]
    exact q2

/-! ### operations of one, two and three operands, by values -/
def v1 (f : D → Option Sl) (a : Opr) : VT := fun δ Q Xc => a.ev δ (fun ra δ1 => ∃ x r, a.fin ra δ1 = some x ∧ f x = some r ∧ Q r δ1) Xc
def v2 (f : D → D → Option Sl) (a b : Opr) : VT := fun δ Q Xc => a.ev δ (fun ra δ1 => b.ev δ1 (fun rb δ2 => ∃ x y r, a.fin ra δ2 = some x ∧ b.fin rb δ2 = some y ∧ f x y = some r ∧ Q r δ2) Xc) Xc
def v3 (f : D → D → D → Option Sl) (a b c : Opr) : VT := fun δ Q Xc => a.ev δ (fun ra δ1 => b.ev δ1 (fun rb δ2 => c.ev δ2 (fun rc δ3 => ∃ x y z r, a.fin ra δ3 = some x ∧ b.fin rb δ3 = some y ∧ c.fin rc δ3 = some z ∧ f x y z = some r ∧ Q r δ3) Xc) Xc) Xc
def Snd1 (K : PySem.W.Frag) (r : V → Hp → VK → Prop) (f : D → Option Sl) : Prop := ∀ S H x d res (Q : VK), Rq K S H x d → f d = some res → (∀ v H', NewV K S H v H' res → Q v H') → r x H Q
def Snd2 (K : PySem.W.Frag) (r : R2) (f : D → D → Option Sl) : Prop := ∀ S H x y d e res (Q : VK), Rq K S H x d → Rq K S H y e → f d e = some res → (∀ v H', NewV K S H v H' res → Q v H') → r x y H Q
def Snd3 (K : PySem.W.Frag) (r : V → V → V → Hp → VK → Prop) (f : D → D → D → Option Sl) : Prop := ∀ S H x y z d e g res (Q : VK), Rq K S H x d → Rq K S H y e → Rq K S H z g → f d e g = some res → (∀ v H', NewV K S H v H' res → Q v H') → r x y z H Q
theorem XR.more {ρ : List Cell} {Xd : Exn → List Sl → Prop} (h : XR K W wx σ π Xd) : XR K W wx σ (π ++ ρ) Xd := fun x δ' q d H' vs s l e => by
  refine h x δ' q d H' vs ⟨s.len, s.io, ?_⟩ l e
  obtain ⟨S, F, y⟩ := s.st
  refine ⟨S, _, y.re (fun i => if i < (σ.zip δ' ++ π).length then i else i + ρ.length) (fun i c q => .inr ?_) (fun i j n q => ?_)⟩
  · by_cases hi : i < (σ.zip δ' ++ π).length
    · rw [if_pos hi]
      rw [← List.append_assoc, List.getElem?_append_left hi] at q
      rw [List.append_assoc π, ← List.append_assoc, List.getElem?_append_left hi]
      exact q
    · rw [if_neg hi]
      have hi' := Nat.le_of_not_lt hi
      rw [← List.append_assoc, List.getElem?_append_right hi'] at q
      rw [← List.append_assoc, ← List.append_assoc, List.getElem?_append_right (by rw [List.length_append]; omega), List.length_append]
      rw [← q]
      congr 1
      omega
  · by_cases h1 : i < (σ.zip δ' ++ π).length
    · by_cases h2 : j < (σ.zip δ' ++ π).length
      · rw [if_pos h1, if_pos h2] at q; exact absurd q n
      · rw [if_pos h1, if_neg h2] at q; omega
    · by_cases h2 : j < (σ.zip δ' ++ π).length
      · rw [if_neg h1, if_pos h2] at q; omega
      · rw [if_neg h1, if_neg h2] at q; omega
theorem run1 {r : V → Hp → VK → Prop} {f : D → Option Sl} {a : Expr} {oa : Opr} {ta : TE} {Q : VK} (A : VOt X W wx a oa ta) (snd : Snd1 X.K r f) (h : lE X.K W wx (v1 f oa) σ H Q) : ta σ H fun x H1 => r x H1 Q := by
  obtain ⟨δ, π, Qd, Xd, s, h, k, xr⟩ := h
  refine A.run σ H δ π _ Xd _ s h xr fun ra δ1 q v H1 s1 i1 => ?_
  obtain ⟨x, res, e1, e2, q⟩ := q
  obtain ⟨S, F, y⟩ := s1.st
  exact snd S H1 v x res Q (Opr.read (ρ := []) s1.len y i1 e1) e2 fun v' H' nv => k _ _ q _ _ (s1.drop.new (SS.restrict y) nv)
theorem run2 {r : R2} {f : D → D → Option Sl} {a b : Expr} {oa ob : Opr} {ta tb : TE} {Q : VK} (A : VOt X W wx a oa ta) (B : VOt X W wx b ob tb) (snd : Snd2 X.K r f) (h : lE X.K W wx (v2 f oa ob) σ H Q) : ta σ H fun x H1 => tb σ H1 fun y H2 => r x y H2 Q := by
  obtain ⟨δ, π, Qd, Xd, s, h, k, xr⟩ := h
  refine A.run σ H δ π _ Xd _ s h xr fun ra δ1 q v H1 s1 i1 => ?_
  refine B.run σ H1 δ1 _ _ Xd _ s1 q xr.more fun rb δ2 q u H2 s2 i2 => ?_
  obtain ⟨x, y, res, e1, e2, e3, q⟩ := q
  obtain ⟨S, F, z⟩ := s2.st
  have z1 : StF X.K W H2 (σ.zip δ2 ++ (π ++ ((some v, ra) :: [(some u, rb)]))) S F := by
    rw [List.append_assoc] at z
    exact z
  exact snd S H2 v u x y res Q (Opr.read s2.len z1 i1 e1) (Opr.read (ρ := []) s2.len z i2 e2) e3 fun v' H' nv => k _ _ q _ _ (s2.drop.drop.new (SS.restrict (SS.restrict z)) nv)
theorem run3 {r : V → V → V → Hp → VK → Prop} {f : D → D → D → Option Sl} {a b c : Expr} {oa ob oc : Opr} {ta tb tc : TE} {Q : VK} (A : VOt X W wx a oa ta) (B : VOt X W wx b ob tb) (C : VOt X W wx c oc tc) (snd : Snd3 X.K r f)
    (h : lE X.K W wx (v3 f oa ob oc) σ H Q) : ta σ H fun x H1 => tb σ H1 fun y H2 => tc σ H2 fun z H3 => r x y z H3 Q := by
  obtain ⟨δ, π, Qd, Xd, s, h, k, xr⟩ := h
  refine A.run σ H δ π _ Xd _ s h xr fun ra δ1 q v H1 s1 i1 => ?_
  refine B.run σ H1 δ1 _ _ Xd _ s1 q xr.more fun rb δ2 q u H2 s2 i2 => ?_
  refine C.run σ H2 δ2 _ _ Xd _ s2 q xr.more.more fun rc δ3 q w H3 s3 i3 => ?_
  obtain ⟨x, y, z, res, e1, e2, e3, e4, q⟩ := q
  obtain ⟨S, F, zz⟩ := s3.st
  have z2 : StF X.K W H3 (σ.zip δ3 ++ ((π ++ [(some v, ra)]) ++ ((some u, rb) :: [(some w, rc)]))) S F := by
    rw [List.append_assoc (π ++ [(some v, ra)])] at zz
    exact zz
  have z1 : StF X.K W H3 (σ.zip δ3 ++ (π ++ ((some v, ra) :: [(some u, rb), (some w, rc)]))) S F := by
    rw [List.append_assoc π] at z2
    exact z2
  exact snd S H3 v u w x y z res Q (Opr.read s3.len z1 i1 e1) (Opr.read s3.len z2 i2 e2) (Opr.read (ρ := []) s3.len zz i3 e3) e4 fun v' H' nv => k _ _ q _ _ (s3.drop.drop.drop.new (SS.restrict (SS.restrict (SS.restrict zz))) nv)
theorem ve_op {op : Operator} {r : R2} {f : D → D → Option Sl} {a b : Expr} {oa ob : Opr} {pos : Pos} (ho : OpR X (binaryOp op) r) (snd : Snd2 X.K r f) (ha : VO X W wx a oa) (hb : VO X W wx b ob) : VE X W wx (.BinOp a op b pos) (v2 f oa ob) := by
  obtain ⟨ta, A⟩ := ha
  obtain ⟨tb, B⟩ := hb
  exact ⟨PE.imp (pe_op ho A.pe B.pe) fun _ _ _ h => run2 A B snd h⟩
theorem ve_cmp {op : CmpOp} {r : R2} {f : D → D → Option Sl} {a b : Expr} {oa ob : Opr} {pos : Pos} (ho : OpR X (compareOp op) r) (snd : Snd2 X.K r f) (ha : VO X W wx a oa) (hb : VO X W wx b ob) (hm : behindInMarks op b = false) : VE X W wx (.Compare a [op] [b] pos) (v2 f oa ob) := by
  obtain ⟨ta, A⟩ := ha
  obtain ⟨tb, B⟩ := hb
  exact ⟨PE.imp (pe_cmpR ho A.pe B.pe hm) fun _ _ _ h => run2 A B snd h⟩
theorem ve_ix {r : R2} {f : D → D → Option Sl} {a b : Expr} {oa ob : Opr} {pos : Pos} (ho : IxR X r) (snd : Snd2 X.K r f) (ha : VO X W wx a oa) (hb : VO X W wx b ob) (hs : PlainIx b) : VE X W wx (.Subscript a b pos) (v2 f oa ob) := by
  obtain ⟨ta, A⟩ := ha
  obtain ⟨tb, B⟩ := hb
  exact ⟨PE.imp (pe_ix ho A.pe B.pe hs) fun _ _ _ h => run2 A B snd h⟩
theorem ve_un {op : UnaryOp} {r : V → Hp → VK → Prop} {f : D → Option Sl} {a : Expr} {oa : Opr} {pos : Pos} (ho : UnR X (unaryOp op) r) (snd : Snd1 X.K r f) (ha : VO X W wx a oa) : VE X W wx (.UnaryOp op a pos) (v1 f oa) := by
  obtain ⟨ta, A⟩ := ha
  exact ⟨PE.imp (pe_un ho A.pe) fun _ _ _ h => run1 A snd h⟩
/-- a built-in's call with one, two, three values -/
theorem ve_b1 {id : String} {x : Str} {p pos : Pos} {r : List V → Hp → VK → Prop} {f : D → Option Sl} {a : Expr} {oa : Opr} (hc : CallR X (.builtin id) r) (snd : Snd1 X.K (fun v => r [v]) f) (hm : X.mg x = none) (hv : bootBuiltins x = some (.builtin id)) (ha : VO X W wx a oa)
    (hg : Gl X x := by rfl) (hn : x ≠ "__name__" := by decide) (hdb : (x == ("__debug__" : Str)) = false := by decide) (he : starEach [a] X.env = (false, eval a X.env) :: starEach [] X.env := by rfl) : VE X W wx (.Call (.Name x p) [a] [] pos) (v1 f oa) := by
  obtain ⟨ta, A⟩ := ha
  exact ⟨PE.imp (pe_callB hc hg hm hv (pa_cons A.pe pa_nil he) hn hdb he rfl) fun σ H Q h => by
    show ta σ H fun x H1 => r [x] H1 Q
    exact run1 A snd h⟩
theorem ve_t1 {T : String} {x : Str} {p pos : Pos} {r : List V → Hp → VK → Prop} {f : D → Option Sl} {a : Expr} {oa : Opr} (hc : CallR X (.type T) r) (snd : Snd1 X.K (fun v => r [v]) f) (hm : X.mg x = none) (hv : bootBuiltins x = some (.type T)) (ha : VO X W wx a oa)
    (hg : Gl X x := by rfl) (hn : x ≠ "__name__" := by decide) (hdb : (x == ("__debug__" : Str)) = false := by decide) (he : starEach [a] X.env = (false, eval a X.env) :: starEach [] X.env := by rfl) : VE X W wx (.Call (.Name x p) [a] [] pos) (v1 f oa) := by
  obtain ⟨ta, A⟩ := ha
  exact ⟨PE.imp (pe_callTy hc hg hm hv (pa_cons A.pe pa_nil he) hn hdb he rfl) fun σ H Q h => by
    show ta σ H fun x H1 => r [x] H1 Q
    exact run1 A snd h⟩
theorem ve_b2 {id : String} {x : Str} {p pos : Pos} {r : List V → Hp → VK → Prop} {f : D → D → Option Sl} {a b : Expr} {oa ob : Opr} (hc : CallR X (.builtin id) r) (snd : Snd2 X.K (fun v u => r [v, u]) f) (hm : X.mg x = none) (hv : bootBuiltins x = some (.builtin id)) (ha : VO X W wx a oa) (hb : VO X W wx b ob)
    (hg : Gl X x := by rfl) (hn : x ≠ "__name__" := by decide) (hdb : (x == ("__debug__" : Str)) = false := by decide) (he : starEach [a, b] X.env = (false, eval a X.env) :: starEach [b] X.env := by rfl) (he2 : starEach [b] X.env = (false, eval b X.env) :: starEach [] X.env := by rfl)
    (hpl : (backTo pos (starEach [b] X.env)).any (·.1) = false := by rfl) : VE X W wx (.Call (.Name x p) [a, b] [] pos) (v2 f oa ob) := by
  obtain ⟨ta, A⟩ := ha
  obtain ⟨tb, B⟩ := hb
  exact ⟨PE.imp (pe_callB hc hg hm hv (pa_cons A.pe (pa_cons B.pe pa_nil he2) he) hn hdb he hpl) fun σ H Q h => by
    show ta σ H fun x H1 => tb σ H1 fun y H2 => r [x, y] H2 Q
    exact run2 A B snd h⟩
end
end VL

/-! ## VL4 -/
set_option Elab.async false
set_option linter.all false
set_option autoImplicit false
set_option maxRecDepth 100000
set_option maxHeartbeats 4000000
namespace VL
open PySem PySem.Spec PyProof.Rows L2

abbrev VTs := List Sl → (List D → List Sl → Prop) → (Exn → List Sl → Prop) → Prop
abbrev VTt := List Sl → (Bool → List Sl → Prop) → (Exn → List Sl → Prop) → Prop
def lA (K : PySem.W.Frag) (W : Wd) (wx : WX) (n : Nat) (t : VTs) : TA := fun σ H Q => ∃ δ π Qd Xd, SS K W H σ δ π ∧ t δ Qd Xd ∧
  (∀ ds δ', Qd ds δ' → ∀ vs H', vs.length = ds.length → ds.length = n → SS K W H' σ δ' (π ++ shs vs ds) → Q vs H') ∧ XR K W wx σ π Xd
structure VA (X : Cx) (W : Wd) (wx : WX) (es : List Expr) (t : VTs) : Prop where
  pa : PA X es (lA X.K W wx es.length t)
def lT (K : PySem.W.Frag) (W : Wd) (wx : WX) (t : VTt) : TT := fun σ H Q => ∃ δ π Qd Xd, SS K W H σ δ π ∧ t δ Qd Xd ∧
  (∀ b δ', Qd b δ' → ∀ H', SS K W H' σ δ' π → Q b H') ∧ XR K W wx σ π Xd
structure VC (X : Cx) (W : Wd) (wx : WX) (e : Expr) (t : VTt) : Prop where
  pt : PT X e (lT X.K W wx t)

section
variable {X : Cx} {W : Wd} {wx : WX} {K : PySem.W.Frag} {H H' : Hp} {σ : L2.St} {δ δ' : List Sl} {π : List Cell} {e a b c : Expr} {es : List Expr} {t u : VT} {ts : VTs} {pos : Pos}
def vNil : VTs := fun δ Q _ => Q [] δ
def vCons (t : VT) (ts : VTs) : VTs := fun δ Q Xc => vS t δ (fun rv δ1 => ts δ1 (fun ds δ2 => Q (rv.get :: ds) δ2) Xc) Xc
theorem shs_nil {ds : List D} : shs [] ds = [] := rfl
theorem shs_cons {v : V} {vs : List V} {d : D} {ds : List D} : shs (v :: vs) (d :: ds) = (some v, .sh d) :: shs vs ds := rfl
theorem va_nil : VA X W wx [] vNil := ⟨PA.imp pa_nil fun σ H Q ⟨δ, π, Qd, Xd, s, h, k, xr⟩ => k _ _ h [] H rfl rfl (by rw [shs_nil, List.append_nil]; exact s)⟩
theorem va_cons (he : VE X W wx e t) (hr : VA X W wx es ts) (hs : starEach (e :: es) X.env = (false, eval e X.env) :: starEach es X.env := by rfl) : VA X W wx (e :: es) (vCons t ts) := by
  refine ⟨PA.imp (pa_cons he.pe hr.pa hs) fun σ H Q ⟨δ, π, Qd, Xd, s, h, k, xr⟩ => ?_⟩
  refine ⟨δ, π, _, Xd, s, h, fun rv δ1 q v H1 s1 => ?_, xr⟩
  refine ⟨δ1, π ++ [(some v, .sh rv.get)], _, Xd, s1.shr q.1, q.2, fun ds δ2 q2 vs H2 l2 n2 s2 => ?_, xr.more⟩
  refine k _ _ q2 (v :: vs) H2 (by rw [List.length_cons, List.length_cons, l2]) (by rw [List.length_cons, List.length_cons, n2]) ?_
  rw [show shs (v :: vs) ((Sl.sh rv.get).get :: ds) = (some v, .sh rv.get) :: shs vs ds from rfl, List.append_cons]
  exact s2
theorem shs_get : ∀ {vs : List V} {ds : List D} {i : Nat} {c : Cell}, (shs vs ds)[i]? = some c → ∃ v d, c = (some v, .sh d) ∧ vs[i]? = some v ∧ ds[i]? = some d
  | [], _, _, _, h => by simp [shs] at h
  | _ :: _, [], _, _, h => by simp [shs] at h
  | v :: vs, d :: ds, 0, c, h => by
    rw [shs_cons] at h
    simp at h
    exact ⟨v, d, h.symm, rfl, rfl⟩
  | v :: vs, d :: ds, i + 1, c, h => by
    rw [shs_cons] at h
    obtain ⟨x, y, h1, h2, h3⟩ := shs_get (vs := vs) (ds := ds) (i := i) (c := c) (by simpa using h)
    exact ⟨x, y, h1, by simpa using h2, by simpa using h3⟩
theorem shs_at : ∀ {vs : List V} {ds : List D} {i : Nat} {v : V} {d : D}, vs[i]? = some v → ds[i]? = some d → (shs vs ds)[i]? = some (some v, .sh d)
  | [], _, _, _, _, h, _ => by simp at h
  | _ :: _, [], _, _, _, _, h => by simp at h
  | v :: vs, d :: ds, 0, _, _, h, q => by
    simp at h q
    subst h q
    rfl
  | v :: vs, d :: ds, i + 1, _, _, h, q => by
    rw [shs_cons]
    simpa using shs_at (vs := vs) (ds := ds) (i := i) (by simpa using h) (by simpa using q)
theorem StF.pushs {S : Addr → Prop} {F : Nat → List Addr} : ∀ {vs : List V} {ds : List D} {cs : List Cell}, StF K W H cs S F → Rps K S H vs ds → StF K W H (cs ++ shs vs ds) S F
  | _, [], cs, x, r => by cases r; rw [shs_nil, List.append_nil]; exact x
  | _, d :: ds, cs, x, r => by
    cases r with
    | cons r1 r2 =>
      rw [shs_cons, List.append_cons]
      exact StF.pushs (x.push r1) r2
/-- what waits, read -/
theorem StF.reads {S : Addr → Prop} {F : Nat → List Addr} : ∀ {vs : List V} {ds : List D} {cs : List Cell}, StF K W H (cs ++ shs vs ds) S F → vs.length = ds.length → Rps K S H vs ds
  | [], [], _, _, _ => .nil
  | [], _ :: _, _, _, h => by simp at h
  | _ :: _, [], _, _, h => by simp at h
  | v :: vs, d :: ds, cs, x, h => by
    rw [shs_cons] at x
    have e : (cs ++ (some v, Sl.sh d) :: shs vs ds)[cs.length]? = some (some v, Sl.sh d) := by
      rw [List.getElem?_append_right (Nat.le_refl _), Nat.sub_self]
      rfl
    obtain ⟨u, eu, r⟩ := x.sh _ _ _ e
    cases eu
    rw [List.append_cons] at x
    exact .cons r (StF.reads (cs := cs ++ [(some v, Sl.sh d)]) x (by simpa using h))
theorem SS.reads {S : Addr → Prop} {F : Nat → List Addr} {vs : List V} {ds : List D} (x : StF K W H (σ.zip δ ++ (π ++ shs vs ds)) S F) (h : vs.length = ds.length) : Rps K S H vs ds :=
  StF.reads (cs := σ.zip δ ++ π) (by rw [← List.append_assoc] at x; exact x) h
/-! ### displays -/
def vTup (ts : VTs) : VT := fun δ Q Xc => ts δ (fun ds δ' => Q (.sh (.tuple ds)) δ') Xc
def vLst (ts : VTs) : VT := fun δ Q Xc => ts δ (fun ds δ' => Q (.ow (Ot.flat ds)) δ') Xc
theorem ve_tup {k : Nat} (h : VA X W wx es ts) (hl : es.length ≤ 1000) (hs : starEach es X.env = starEach es X.env := by rfl) : VE X W wx (.Tuple es k pos) (vTup ts) :=
  ⟨PE.imp (pe_tup h.pa) fun σ H Q ⟨δ, π, Qd, Xd, s, h, kk, xr⟩ => ⟨δ, π, _, Xd, s, h, fun ds δ' q vs H' l n s' => by
    refine ⟨Nat.le_of_lt (small1000 (by omega)), fun p hp => ?_⟩
    obtain ⟨S, F, x⟩ := s'.st
    exact kk _ _ q _ _ (s'.drop.new (SS.restrict x) (.tup hp (SS.reads x l))), xr⟩⟩
theorem ve_lst (h : VA X W wx es ts) (hl : es.length ≤ 1000) : VE X W wx (.List es pos) (vLst ts) :=
  ⟨PE.imp (pe_lst h.pa) fun σ H Q ⟨δ, π, Qd, Xd, s, h, kk, xr⟩ => ⟨δ, π, _, Xd, s, h, fun ds δ' q vs H' l n s' => by
    refine ⟨Nat.le_of_lt (small1000 (by omega)), fun p hp => ?_⟩
    obtain ⟨S, F, x⟩ := s'.st
    exact kk _ _ q _ _ (s'.drop.new (SS.restrict x) (.lst hp (SS.reads x l))), xr⟩⟩

/-! ### tests -/
def vB (t : VT) : VTt := fun δ Q Xc => t δ (fun rv δ' => ∃ b, rv = .sh (.bool b) ∧ Q b δ') Xc
theorem SS.bool {v : V} {b : Bool} (s : SS K W H σ δ (π ++ [(some v, .sh (.bool b))])) : v = .bl b := by
  obtain ⟨S, F, x⟩ := s.st
  rw [← List.append_assoc] at x
  obtain ⟨u, e, r⟩ := x.sh _ _ _ snoc_last
  cases e
  cases r
  rfl
theorem vc_val (h : VE X W wx e t) (he : ∀ whole, isTrue e X.env whole = (do let v ← whole; standAt e.pos; holding [v] (truthy v)) := by intro _; rfl) : VC X W wx e (vB t) :=
  ⟨PT.imp (pt_val h.pe he) fun σ H Q ⟨δ, π, Qd, Xd, s, h, k, xr⟩ => ⟨δ, π, _, Xd, s, h, fun rv δ' q v H' s' => by
    obtain ⟨b, rfl, q⟩ := q
    exact ⟨b, s'.bool, k _ _ q _ s'.drop⟩, xr⟩⟩
theorem vc_cmp {op : CmpOp} {r : R2} {f : D → D → Option Sl} {oa ob : Opr} (ho : OpR X (compareOp op) r) (snd : Snd2 X.K r f) (ha : VO X W wx a oa) (hb : VO X W wx b ob) (hm : behindInMarks op b = false) : VC X W wx (.Compare a [op] [b] pos) (vB (v2 f oa ob)) := by
  obtain ⟨ta, A⟩ := ha
  obtain ⟨tb, B⟩ := hb
  refine ⟨PT.imp (pt_cmpR ho A.pe B.pe hm) fun σ H Q ⟨δ, π, Qd, Xd, s, h, k, xr⟩ => ?_⟩
  show tOp r ta tb σ H _
  refine run2 A B snd ⟨δ, π, _, Xd, s, h, fun rv δ' q v H' s' => ?_, xr⟩
  obtain ⟨b, rfl, q⟩ := q
  exact ⟨b, s'.bool, k _ _ q _ s'.drop⟩
def vNot (t : VTt) : VTt := fun δ Q Xc => t δ (fun b δ' => Q (!b) δ') Xc
def vAnd (t u : VTt) : VTt := fun δ Q Xc => t δ (fun b δ' => if b = true then u δ' Q Xc else Q false δ') Xc
def vOr (t u : VTt) : VTt := fun δ Q Xc => t δ (fun b δ' => if b = true then Q true δ' else u δ' Q Xc) Xc
theorem vc_not {t : VTt} (h : VC X W wx a t) : VC X W wx (.UnaryOp .Not a pos) (vNot t) :=
  ⟨PT.imp (pt_not h.pt) fun σ H Q ⟨δ, π, Qd, Xd, s, h, k, xr⟩ => ⟨δ, π, _, Xd, s, h, fun b δ' q H' s' => k _ _ q _ s', xr⟩⟩
structure VW (X : Cx) (W : Wd) (wx : WX) (e : Expr) (t : VTt) : Prop where
  pw : PW X e (lT X.K W wx t)
theorem PW.imp {e : Expr} {t t' : TT} (h : PW X e t) (i : ∀ σ H Q, t' σ H Q → t σ H Q) : PW X e t' := ⟨fun wh pins s σ H Q I q => h.run wh pins s σ H Q I (i σ H Q q)⟩
theorem vw_and1 {t : VTt} (h : VC X W wx a t) : VW X W wx (.BoolOp .And [a] pos) t := ⟨pw_and1 h.pt⟩
theorem vw_or1 {t : VTt} (h : VC X W wx a t) : VW X W wx (.BoolOp .Or [a] pos) t := ⟨pw_or1 h.pt⟩
theorem vw_and {t u : VTt} (ha : VC X W wx a t) (hb : VW X W wx (.BoolOp .And (b :: es) pos) u) : VW X W wx (.BoolOp .And (a :: b :: es) pos) (vAnd t u) :=
  ⟨PW.imp (pw_and ha.pt hb.pw) fun σ H Q ⟨δ, π, Qd, Xd, s, h, k, xr⟩ => ⟨δ, π, _, Xd, s, h, fun b δ' q H' s' => by
    cases b with
    | true =>
      rw [if_pos rfl]
      rw [if_pos rfl] at q
      exact ⟨δ', π, Qd, Xd, s', q, k, xr⟩
    | false =>
      rw [if_neg (by decide)]
      rw [if_neg (by decide)] at q
      exact k _ _ q _ s', xr⟩⟩
theorem vw_or {t u : VTt} (ha : VC X W wx a t) (hb : VW X W wx (.BoolOp .Or (b :: es) pos) u) : VW X W wx (.BoolOp .Or (a :: b :: es) pos) (vOr t u) :=
  ⟨PW.imp (pw_or ha.pt hb.pw) fun σ H Q ⟨δ, π, Qd, Xd, s, h, k, xr⟩ => ⟨δ, π, _, Xd, s, h, fun b δ' q H' s' => by
    cases b with
    | true =>
      rw [if_pos rfl]
      rw [if_pos rfl] at q
      exact k _ _ q _ s'
    | false =>
      rw [if_neg (by decide)]
      rw [if_neg (by decide)] at q
      exact ⟨δ', π, Qd, Xd, s', q, k, xr⟩, xr⟩⟩
theorem vc_w {t : VTt} (h : VW X W wx e t) : VC X W wx e t := ⟨h.pw.pt⟩
/-- the truth of a value -/
def truD : D → Option Bool
  | .none => some false
  | .bool b => some b
  | .int i => some (i != 0)
  | .str y => some ((y.length : Int) != 0)
  | .list ds => some (!ds.isEmpty)
  | .tuple ds => some (!ds.isEmpty)
  | .dict _ => none
def vTru (o : Opr) : VTt := fun δ Q Xc => o.ev δ (fun ra δ1 => ∃ x b, o.fin ra δ1 = some x ∧ (∀ y, x = .str y → y.length ≤ sizeLine) ∧ truD x = some b ∧ Q b δ1) Xc
theorem Rps.isEmpty {S : Addr → Prop} {vs : List V} {ds : List D} (r : Rps K S H vs ds) : vs.isEmpty = ds.isEmpty := by
  cases ds with
  | nil => cases r; rfl
  | cons d ds => cases r; rfl
theorem vc_tru {o : Opr} (ha : VO X W wx a o) (he : ∀ whole, isTrue a X.env whole = (do let v ← whole; standAt a.pos; holding [v] (truthy v)) := by intro _; rfl) : VC X W wx a (vTru o) := by
  obtain ⟨ta, A⟩ := ha
  refine ⟨PT.imp (pt_truth A.pe he) fun σ H Q ⟨δ, π, Qd, Xd, s, h, k, xr⟩ => ?_⟩
  refine A.run σ H δ π _ Xd _ s h xr fun ra δ1 q v H1 s1 i1 => ?_
  obtain ⟨x, b, e1, el, e2, q⟩ := q
  obtain ⟨S, F, y⟩ := s1.st
  have r := Opr.read (ρ := []) s1.len y i1 e1
  refine ⟨b, ?_, k _ _ q _ s1.drop⟩
  cases x with
  | none => cases e2; rw [r.none]; rfl
  | bool c => cases e2; rw [r.bool]; rfl
  | int c => cases e2; rw [r.int]; rfl
  | str c => cases e2; rw [r.str]; exact ⟨el _ rfl, rfl⟩
  | list ds =>
    cases e2
    obtain ⟨p, xs, rfl, h1, h2⟩ := r.list
    exact .inl ⟨xs, h1, by rw [h2.isEmpty]⟩
  | tuple ds =>
    cases e2
    obtain ⟨p, xs, rfl, h1, h2⟩ := r.tup
    exact .inr (.inl ⟨xs, h1, by rw [h2.isEmpty]⟩)
  | dict _ => cases e2
/-- as values -/
def vTv (t : VTt) : VT := fun δ Q Xc => t δ (fun b δ' => Q (.sh (.bool b)) δ') Xc
def vAndV (t u : VT) : VT := fun δ Q Xc => t δ (fun rv δ' => ∃ b, rv = .sh (.bool b) ∧ if b = true then u δ' Q Xc else Q (.sh (.bool false)) δ') Xc
def vOrV (t u : VT) : VT := fun δ Q Xc => t δ (fun rv δ' => ∃ b, rv = .sh (.bool b) ∧ if b = true then Q (.sh (.bool true)) δ' else u δ' Q Xc) Xc
def vNotV (t : VT) : VT := fun δ Q Xc => t δ (fun rv δ' => ∃ b, rv = .sh (.bool b) ∧ Q (.sh (.bool (!b))) δ') Xc
theorem ve_one {op} (h : VE X W wx a t) : VE X W wx (.BoolOp op [a] pos) t := ⟨pe_one h.pe⟩
theorem ve_and (ha : VE X W wx a t) (hb : VE X W wx (.BoolOp .And (b :: es) pos) u) : VE X W wx (.BoolOp .And (a :: b :: es) pos) (vAndV t u) :=
  ⟨PE.imp (pe_and ha.pe hb.pe) fun σ H Q ⟨δ, π, Qd, Xd, s, h, k, xr⟩ => ⟨δ, π, _, Xd, s, h, fun rv δ' q v H' s' => by
    obtain ⟨b, rfl, q⟩ := q
    refine ⟨b, s'.bool, ?_⟩
    cases b with
    | true =>
      rw [if_pos rfl]
      rw [if_pos rfl] at q
      exact ⟨δ', π, Qd, Xd, s'.drop, q, k, xr⟩
    | false =>
      rw [if_neg (by decide)]
      rw [if_neg (by decide)] at q
      exact k _ _ q _ _ (s'.drop.push fun _ => .bl _), xr⟩⟩
theorem ve_or (ha : VE X W wx a t) (hb : VE X W wx (.BoolOp .Or (b :: es) pos) u) : VE X W wx (.BoolOp .Or (a :: b :: es) pos) (vOrV t u) :=
  ⟨PE.imp (pe_or ha.pe hb.pe) fun σ H Q ⟨δ, π, Qd, Xd, s, h, k, xr⟩ => ⟨δ, π, _, Xd, s, h, fun rv δ' q v H' s' => by
    obtain ⟨b, rfl, q⟩ := q
    refine ⟨b, s'.bool, ?_⟩
    cases b with
    | true =>
      rw [if_pos rfl]
      rw [if_pos rfl] at q
      exact k _ _ q _ _ (s'.drop.push fun _ => .bl _)
    | false =>
      rw [if_neg (by decide)]
      rw [if_neg (by decide)] at q
      exact ⟨δ', π, Qd, Xd, s'.drop, q, k, xr⟩, xr⟩⟩
theorem ve_not (ha : VE X W wx a t) : VE X W wx (.UnaryOp .Not a pos) (vNotV t) :=
  ⟨PE.imp (pe_not ha.pe) fun σ H Q ⟨δ, π, Qd, Xd, s, h, k, xr⟩ => ⟨δ, π, _, Xd, s, h, fun rv δ' q v H' s' => by
    obtain ⟨b, rfl, q⟩ := q
    exact ⟨b, s'.bool, k _ _ q _ _ (s'.drop.push fun _ => .bl _)⟩, xr⟩⟩
def vIf (c : VTt) (t u : VT) : VT := fun δ Q Xc => c δ (fun b δ' => if b = true then t δ' Q Xc else u δ' Q Xc) Xc
theorem ve_if {tc : VTt} (hc : VC X W wx c tc) (ha : VE X W wx a t) (hb : VE X W wx b u) : VE X W wx (.IfExp c a b pos) (vIf tc t u) :=
  ⟨PE.imp (pe_ifExp hc.pt ha.pe hb.pe) fun σ H Q ⟨δ, π, Qd, Xd, s, h, k, xr⟩ => ⟨δ, π, _, Xd, s, h, fun d δ' q H' s' => by
    cases d with
    | true =>
      rw [if_pos rfl]
      rw [if_pos rfl] at q
      exact ⟨δ', π, Qd, Xd, s', q, k, xr⟩
    | false =>
      rw [if_neg (by decide)]
      rw [if_neg (by decide)] at q
      exact ⟨δ', π, Qd, Xd, s', q, k, xr⟩, xr⟩⟩

/-! ### slices, methods -/
def inO (lo : Option D) : Option (Option Int) := match lo with
  | none => some none
  | some (.int i) => some (some i)
  | _ => none
end
end VL

/-! ## VL5 -/
set_option Elab.async false
set_option linter.all false
set_option autoImplicit false
set_option maxRecDepth 100000
set_option maxHeartbeats 4000000
namespace VL
open PySem PySem.Spec PyProof.Rows L2

/-- what is wanted behind a statement -/
structure En where
  nx : List Sl → Prop
  rt : Sl → List Sl → Prop
  bk : List Sl → Prop
  ct : List Sl → Prop
  ex : Exn → List Sl → Prop
abbrev VSt := En → List Sl → Prop
/-- the exceptions, whatever the slots have become -/
def XRs (K : PySem.W.Frag) (W : Wd) (wx : WX) (π : List Cell) (Xd : Exn → List Sl → Prop) : Prop := ∀ σ, XR K W wx σ π Xd
structure EnOk (K : PySem.W.Frag) (W : Wd) (wx : WX) (π : List Cell) (E : En) (Dd : Ends) : Prop where
  nx : ∀ δ', E.nx δ' → ∀ σ' H', SS K W H' σ' δ' π → Dd.nx σ' H'
  rt : ∀ rv δ', E.rt rv δ' → ∀ v σ' H', SS K W H' σ' δ' (π ++ [(some v, rv)]) → Dd.rt v H'
  bk : ∀ δ', E.bk δ' → ∀ σ' H', SS K W H' σ' δ' π → Dd.bk σ' H'
  ct : ∀ δ', E.ct δ' → ∀ σ' H', SS K W H' σ' δ' π → Dd.ct σ' H'
  ex : XRs K W wx π E.ex
def lS (K : PySem.W.Frag) (W : Wd) (wx : WX) (t : VSt) : TS := fun Dd σ H => ∃ δ π E, SS K W H σ δ π ∧ t E δ ∧ EnOk K W wx π E Dd
structure VS (X : Cx) (W : Wd) (wx : WX) (st : Stmt) (t : VSt) : Prop where
  ps : PS X st (lS X.K W wx t)
structure VSs (X : Cx) (W : Wd) (wx : WX) (st : List Stmt) (t : VSt) : Prop where
  ps : PSs X st (lS X.K W wx t)

section
variable {X : Cx} {W : Wd} {wx : WX} {K : PySem.W.Frag} {H H' : Hp} {σ : L2.St} {δ δ' : List Sl} {π : List Cell} {e a b c : Expr} {es : List Expr} {t u : VT} {ts : VTs} {pos : Pos} {st : Stmt} {sts : List Stmt} {p q : VSt}
/-- cells taken out of the middle -/
theorem StF.mid {cs ρ τ : List Cell} {S : Addr → Prop} {F : Nat → List Addr} (y : StF K W H (cs ++ (ρ ++ τ)) S F) : ∃ F', StF K W H (cs ++ τ) S F' := by
  refine ⟨_, y.re (fun i => if i < cs.length then i else i + ρ.length) (fun i c q => .inr ?_) (fun i j n q => ?_)⟩
  · by_cases hi : i < cs.length
    · rw [if_pos hi]
      rw [List.getElem?_append_left hi] at q
      rw [List.getElem?_append_left hi]
      exact q
    · rw [if_neg hi]
      have hi' := Nat.le_of_not_lt hi
      rw [List.getElem?_append_right hi'] at q
      rw [List.getElem?_append_right (by omega), List.getElem?_append_right (by omega), ← q]
      congr 1
      omega
  · by_cases h1 : i < cs.length
    · by_cases h2 : j < cs.length
      · rw [if_pos h1, if_pos h2] at q; exact absurd q n
      · rw [if_pos h1, if_neg h2] at q; omega
    · by_cases h2 : j < cs.length
      · rw [if_neg h1, if_pos h2] at q; omega
      · rw [if_neg h1, if_neg h2] at q; omega
theorem SS.mid {ρ τ : List Cell} (s : SS K W H σ δ (π ++ ρ ++ τ)) : SS K W H σ δ (π ++ τ) := by
  obtain ⟨S, F, y⟩ := s.st
  rw [List.append_assoc, ← List.append_assoc] at y
  obtain ⟨F', z⟩ := StF.mid y
  exact ⟨s.len, s.io, S, F', by rw [← List.append_assoc]; exact z⟩
theorem EnOk.more {E : En} {Dd : Ends} {ρ : List Cell} (h : EnOk K W wx π E Dd) : EnOk K W wx (π ++ ρ) E Dd :=
  ⟨fun δ' q σ' H' s => h.nx δ' q σ' H' s.drop, fun rv δ' q v σ' H' s => h.rt rv δ' q v σ' H' s.mid, fun δ' q σ' H' s => h.bk δ' q σ' H' s.drop, fun δ' q σ' H' s => h.ct δ' q σ' H' s.drop, fun σ => (h.ex σ).more⟩
theorem zip_set2 : ∀ {σ : L2.St} {δ : List Sl} {i : Nat} {w : Option V} {sl : Sl}, (σ.set i w).zip (δ.set i sl) = (σ.zip δ).set i (w, sl)
  | [], _, _, _, _ => by simp
  | _ :: _, [], _, _, _ => by simp
  | _ :: _, _ :: _, 0, _, _ => rfl
  | a :: σ, d :: δ, i + 1, w, sl => by
    have := zip_set2 (σ := σ) (δ := δ) (i := i) (w := w) (sl := sl)
    simp [this]
/-- what waits last goes to a slot -/
theorem SS.put {v : V} {sl : Sl} (s : SS K W H σ δ (π ++ [(some v, sl)])) {i : Nat} (hi : i < δ.length) (h0 : i ≠ 0 ∨ W.io = none) : SS K W H (σ.set i (some v)) (δ.set i sl) π := by
  obtain ⟨S, F, y⟩ := s.st
  have lz := zip_length s.len
  have hiσ : i < σ.length := by rw [s.len]; exact hi
  have ez : (σ.set i (some v)).zip (δ.set i sl) = (σ.zip δ).set i (some v, sl) := zip_set2
  refine ⟨by rw [List.length_set, List.length_set]; exact s.len, fun u hu => ?_, S, _, y.re (cs' := (σ.set i (some v)).zip (δ.set i sl) ++ π) (fun j => if j = i then (σ.zip δ ++ π).length else j) (fun j c q => .inr ?_) (fun j k n q => ?_)⟩
  · rcases h0 with h0 | h0
    · rw [List.getElem?_set_ne h0]; exact s.io u hu
    · rw [h0] at hu; cases hu
  · rw [ez] at q
    rw [← List.append_assoc]
    by_cases hj : j = i
    · subst hj
      rw [if_pos rfl, snoc_last]
      rw [List.getElem?_append_left (by rw [List.length_set, lz]; exact hi), List.getElem?_set_self (by rw [lz]; exact hi)] at q
      exact q
    · rw [if_neg hj]
      have hl : j < (σ.zip δ ++ π).length := by
        have := (List.getElem?_eq_some_iff.mp q).1
        rw [List.length_append, List.length_set] at this
        rw [List.length_append]
        exact this
      rw [List.getElem?_append_left hl]
      rw [← List.set_append_left _ _ (by rw [lz]; exact hi), List.getElem?_set_ne (fun z => hj z.symm)] at q
      exact q
  · intro w o w' o' q1 q2
    have l1 := (List.getElem?_eq_some_iff.mp q1).1
    have l2 := (List.getElem?_eq_some_iff.mp q2).1
    rw [ez, List.length_append, List.length_set] at l1 l2
    rw [List.length_append] at q
    by_cases h1 : j = i
    · by_cases h2 : k = i
      · exact n (h1.trans h2.symm)
      · rw [if_pos h1, if_neg h2] at q; omega
    · by_cases h2 : k = i
      · rw [if_neg h1, if_pos h2] at q; omega
      · rw [if_neg h1, if_neg h2] at q; exact n q

/-! ### blocks and small statements -/
def vEnd : VSt := fun E δ => E.nx δ
def vSeq (p q : VSt) : VSt := fun E δ => p { E with nx := q E } δ
theorem vss_nil : VSs X W wx [] vEnd := ⟨PSs.imp pss_nil fun Dd σ H ⟨δ, π, E, s, h, k⟩ => k.nx _ h _ _ s⟩
theorem vss_cons (h1 : VS X W wx st p) (h2 : VSs X W wx sts q) : VSs X W wx (st :: sts) (vSeq p q) :=
  ⟨PSs.imp (pss_cons h1.ps h2.ps) fun Dd σ H ⟨δ, π, E, s, h, k⟩ => ⟨δ, π, _, s, h, ⟨fun δ' z σ' H' s' => ⟨δ', π, E, s', z, k⟩, k.rt, k.bk, k.ct, k.ex⟩⟩⟩
theorem vss_one (h1 : VS X W wx st p) : VSs X W wx [st] p := ⟨pss_one h1.ps⟩
theorem vs_pass : VS X W wx (.Pass pos) vEnd := ⟨PS.imp ps_pass fun Dd σ H ⟨δ, π, E, s, h, k⟩ => k.nx _ h _ _ s⟩
def vBrk : VSt := fun E δ => E.bk δ
def vCnt : VSt := fun E δ => E.ct δ
theorem vs_brk : VS X W wx (.Break pos) vBrk := ⟨PS.imp ps_break fun Dd σ H ⟨δ, π, E, s, h, k⟩ => k.bk _ h _ _ s⟩
theorem vs_cnt : VS X W wx (.Continue pos) vCnt := ⟨PS.imp ps_continue fun Dd σ H ⟨δ, π, E, s, h, k⟩ => k.ct _ h _ _ s⟩
theorem vs_doc {x j pos'} : VS X W wx (.Expr (.Constant (.str x) j pos) pos') vEnd := ⟨PS.imp ps_doc fun Dd σ H ⟨δ, π, E, s, h, k⟩ => k.nx _ h _ _ s⟩
def vDrp (t : VT) : VSt := fun E δ => t δ (fun _ δ' => E.nx δ') E.ex
theorem vs_expr (he : VE X W wx e t) (hs : swapsWith e none pos.line X.env = pure false := by rfl) : VS X W wx (.Expr e pos) (vDrp t) :=
  ⟨PS.imp (ps_expr he.pe hs) fun Dd σ H ⟨δ, π, E, s, h, k⟩ => ⟨δ, π, _, _, s, h, fun rv δ' z v H' s' => k.nx _ z _ _ s'.drop, k.ex σ⟩⟩
def vRet (t : VT) : VSt := fun E δ => t δ E.rt E.ex
theorem vs_ret (he : VE X W wx e t) : VS X W wx (.Return (some e) pos) (vRet t) :=
  ⟨PS.imp (ps_ret he.pe) fun Dd σ H ⟨δ, π, E, s, h, k⟩ => ⟨δ, π, _, _, s, h, fun rv δ' z v H' s' => k.rt _ _ z _ _ _ s', k.ex σ⟩⟩
def vRetN : VSt := fun E δ => E.rt (.sh .none) δ
theorem vs_retN : VS X W wx (.Return none pos) vRetN :=
  ⟨PS.imp ps_retN fun Dd σ H ⟨δ, π, E, s, h, k⟩ => k.rt _ _ h .non σ H (s.push fun _ => .non)⟩
def vIfS (c : VTt) (p q : VSt) : VSt := fun E δ => c δ (fun b δ' => if b = true then p E δ' else q E δ') E.ex
theorem vs_if {tc : VTt} {xs ys : List Stmt} (hc : VC X W wx c tc) (ha : VSs X W wx xs p) (hb : VSs X W wx ys q) : VS X W wx (.If c xs ys pos) (vIfS tc p q) :=
  ⟨PS.imp (ps_if hc.pt ha.ps hb.ps) fun Dd σ H ⟨δ, π, E, s, h, k⟩ => ⟨δ, π, _, _, s, h, fun d δ' z H' s' => by
    cases d with
    | true =>
      rw [if_pos rfl]
      rw [if_pos rfl] at z
      exact ⟨δ', π, E, s', z, k⟩
    | false =>
      rw [if_neg (by decide)]
      rw [if_neg (by decide)] at z
      exact ⟨δ', π, E, s', z, k⟩, k.ex σ⟩⟩
def vSet (i : Nat) (t : VT) : VSt := fun E δ => t δ (fun rv δ' => i < δ'.length ∧ E.nx (δ'.set i rv)) E.ex
theorem vs_set {i : Nat} {x : Str} {pos' : Pos} (hN : X.N.Nodup) (hi : X.N[i]? = some x) (hx : Loc X.env.scope x) (he : VE X W wx e t) (h0 : i ≠ 0 ∨ W.io = none) (hs : swapsWith e (some (.Name x pos')) pos.line X.env = pure false := by rfl)
    (hf : X.fn x = true ∨ X.env.scope.names.lookup x = some .local := by first | exact .inl rfl | exact .inr rfl | assumption) : VS X W wx (.Assign [.Name x pos'] e pos) (vSet i t) :=
  ⟨PS.imp (ps_set hN hi hx he.pe hs hf) fun Dd σ H ⟨δ, π, E, s, h, k⟩ => ⟨δ, π, _, _, s, h, fun rv δ' z v H' s' => k.nx _ z.2 _ _ (s'.put z.1 h0), k.ex σ⟩⟩
/-- never come to -/
def vNever : VSt := fun _ _ => False
theorem vss_never : VSs X W wx sts vNever := ⟨⟨fun _ _ _ _ _ _ ⟨_, _, _, _, h, _⟩ => h.elim⟩⟩
theorem vs_never : VS X W wx st vNever := ⟨⟨fun _ _ _ _ _ _ ⟨_, _, _, _, h, _⟩ => h.elim⟩⟩

/-! ### targets -/
def lG (K : PySem.W.Frag) (W : Wd) (ws : List Nat) (g : D → List Sl → Option (List Sl)) : TG := fun x σ H k => ∃ (δ : List Sl) (π : List Cell) (d : D) (j : Nat) (δ' : List Sl),
  π[j]? = some (some x, Sl.sh d) ∧ SS K W H σ δ π ∧ g d δ = some δ' ∧ ∀ σ', wipe σ' ws = wipe σ ws → SS K W H σ' δ' π → k σ' H
/-- g: what the binding makes of the places; ws: the slots that it sets -/
structure VG (X : Cx) (W : Wd) (tg : Expr) (ws : List Nat) (g : D → List Sl → Option (List Sl)) : Prop where
  pg : PG X tg (lG X.K W ws g)
theorem SS.copy {v : V} {d : D} {j : Nat} (s : SS K W H σ δ π) (e : π[j]? = some (some v, .sh d)) : SS K W H σ δ (π ++ [(some v, .sh d)]) := by
  obtain ⟨S, F, y⟩ := s.st
  have e2 : (σ.zip δ ++ π)[(σ.zip δ).length + j]? = some (some v, .sh d) := by
    rw [List.getElem?_append_right (by omega), Nat.add_sub_cancel_left]
    exact e
  obtain ⟨u, eu, r⟩ := y.sh _ _ _ e2
  cases eu
  exact s.pushF y r
def bName (i : Nat) : D → List Sl → Option (List Sl) := fun d δ => if i < δ.length then some (δ.set i (.sh d)) else none
theorem wipe_one {i : Nat} {v : Option V} : wipe (σ.set i v) [i] = wipe σ [i] := by
  show (σ.set i v).set i none = σ.set i none
  rw [List.set_set]
theorem vg_name {i : Nat} {x : Str} (hN : X.N.Nodup) (hi : X.N[i]? = some x) (hx : Loc X.env.scope x) (h0 : i ≠ 0 ∨ W.io = none) (hf : X.fn x = true ∨ X.env.scope.names.lookup x = some .local := by first | exact .inl rfl | exact .inr rfl | assumption) : VG X W (.Name x pos) [i] (bName i) :=
  ⟨⟨fun pins sh σ H v u Q I r h => (pg_name hN hi hx hf).run pins sh σ H v u Q I r (by
    obtain ⟨δ, π, d, j, δ', e, s, g, k⟩ := h
    have g' : (if i < δ.length then some (δ.set i (.sh d)) else none) = some δ' := g
    by_cases hl : i < δ.length
    · rw [if_pos hl] at g'
      cases g'
      exact k _ wipe_one ((s.copy e).put hl h0)
    · rw [if_neg hl] at g'
      cases g')⟩⟩
/-- several targets -/
def lGs (K : PySem.W.Frag) (W : Wd) (ws : List Nat) (g : List D → List Sl → Option (List Sl)) : TGs := fun xs σ H k => ∃ (δ : List Sl) (π : List Cell) (ds : List D) (j : Nat) (δ' : List Sl),
  (∀ (i : Nat) x, xs[i]? = some x → ∃ d, ds[i]? = some d ∧ π[j + i]? = some (some x, Sl.sh d)) ∧ xs.length = ds.length ∧ SS K W H σ δ π ∧ g ds δ = some δ' ∧ ∀ σ', wipe σ' ws = wipe σ ws → SS K W H σ' δ' π → k σ' H
structure VGs (X : Cx) (W : Wd) (tgs : List Expr) (ws : List Nat) (g : List D → List Sl → Option (List Sl)) : Prop where
  pg : PGs X tgs (lGs X.K W ws g)
def bNil : List D → List Sl → Option (List Sl) := fun ds δ => match ds with
  | [] => some δ
  | _ => none
def bCons (g : D → List Sl → Option (List Sl)) (gs : List D → List Sl → Option (List Sl)) : List D → List Sl → Option (List Sl) := fun ds δ => match ds with
  | [] => none
  | d :: r => (g d δ).bind (gs r)
theorem vgs_nil {ws : List Nat} : VGs X W [] ws bNil := ⟨⟨fun pins sh σ H vs us Q I r h => pgs_nil.run pins sh σ H vs us Q I r (by
    obtain ⟨δ, π, ds, j, δ', e, l, s, g, k⟩ := h
    cases ds with
    | nil =>
      cases g
      exact ⟨List.length_eq_zero_iff.mp (by simpa using l), k σ rfl s⟩
    | cons d r => cases g)⟩⟩
theorem wipe_set : ∀ {σ : L2.St} {ws : List Nat} {i : Nat}, (wipe σ ws).set i none = wipe (σ.set i none) ws
  | _, [], _ => rfl
  | σ, w :: ws, i => by
    show ((wipe σ ws).set w none).set i none = (wipe (σ.set i none) ws).set w none
    rw [← wipe_set (σ := σ) (ws := ws) (i := i)]
    by_cases h : w = i
    · subst h; rfl
    · rw [List.set_comm _ _ h]
theorem wipe_app : ∀ {σ : L2.St} {ws vs : List Nat}, wipe σ (ws ++ vs) = wipe (wipe σ vs) ws
  | _, [], _ => rfl
  | σ, w :: ws, vs => by
    show (wipe σ (ws ++ vs)).set w none = (wipe (wipe σ vs) ws).set w none
    rw [wipe_app]
theorem wipe_com : ∀ {σ : L2.St} {ws vs : List Nat}, wipe (wipe σ vs) ws = wipe (wipe σ ws) vs
  | _, [], _ => rfl
  | σ, w :: ws, vs => by
    show (wipe (wipe σ vs) ws).set w none = wipe ((wipe σ ws).set w none) vs
    rw [wipe_com, wipe_set]
theorem vgs_cons {tg : Expr} {tgs : List Expr} {ws vs : List Nat} {g : D → List Sl → Option (List Sl)} {gs : List D → List Sl → Option (List Sl)} (h1 : VG X W tg ws g) (h2 : VGs X W tgs vs gs)
    (hs : (assignEach (tg :: tgs) X.env).map (·.2) = assign tg X.env :: (assignEach tgs X.env).map (·.2) := by rfl) : VGs X W (tg :: tgs) (ws ++ vs) (bCons g gs) :=
  ⟨⟨fun pins sh σ H xs us Q I r h => (pgs_cons h1.pg h2.pg hs).run pins sh σ H xs us Q I r (by
    obtain ⟨δ, π, ds, j, δ', e, l, s, gg, k⟩ := h
    cases ds with
    | nil => cases gg
    | cons d dr =>
      cases xs with
      | nil => simp at l
      | cons x xr =>
        obtain ⟨δ1, g1, g2⟩ := Option.bind_eq_some_iff.mp (show (g d δ).bind (gs dr) = some δ' from gg)
        obtain ⟨d', e1, e2⟩ := e 0 x rfl
        cases e1
        refine ⟨x, xr, rfl, δ, π, d, j, δ1, e2, s, g1, fun σ1 w1 s1 => ?_⟩
        refine ⟨δ1, π, dr, j + 1, δ', fun i y hy => ?_, by simpa using l, s1, g2, fun σ2 w2 s2 => k σ2 ?_ s2⟩
        · obtain ⟨d2, q1, q2⟩ := e (i + 1) y (by simpa using hy)
          exact ⟨d2, by simpa using q1, by rw [← q2]; congr 1; omega⟩
        · rw [wipe_app, wipe_app, w2, wipe_com, w1, wipe_com])⟩⟩
def bTup (n : Nat) (gs : List D → List Sl → Option (List Sl)) : D → List Sl → Option (List Sl) := fun d δ => match d with
  | .tuple ds => if ds.length = n then gs ds δ else none
  | _ => none
theorem vg_tup {tgs : List Expr} {k n : Nat} {ws : List Nat} {gs : List D → List Sl → Option (List Sl)} (hc : X.calm = true) (h : VGs X W tgs ws gs)
    (hn : (assignEach tgs X.env).length = n := by rfl) (hst : (assignEach tgs X.env).findIdx? (·.1) = none := by rfl) : VG X W (.Tuple tgs k pos) ws (bTup n gs) :=
  ⟨⟨fun pins sh σ H v u Q I r hh => (pg_tup (pos := pos) (k := k) hc h.pg hn hst).run pins sh σ H v u Q I r (by
    obtain ⟨δ, π, d, j, δ', e, s, g, kk⟩ := hh
    cases d with
    | tuple ds =>
      have g' : (if ds.length = n then gs ds δ else none) = some δ' := g
      by_cases hl : ds.length = n
      · rw [if_pos hl] at g'
        have s2 := s.copy e
        obtain ⟨S, F, y⟩ := s2.st
        rw [← List.append_assoc] at y
        obtain ⟨u', eu, rr⟩ := y.sh _ _ _ snoc_last
        cases eu
        cases rr with
        | @tup a0 xs0 _ h1 h2 =>
          refine ⟨_, _, rfl, h1.sq, by rw [h2.length]; exact hl, δ, π ++ shs xs0 ds, ds, π.length, δ', fun i x hx => ?_, h2.length, ?_, g', fun σ' w s3 => kk σ' w s3.drop⟩
          · obtain ⟨d2, q1, _⟩ := Rps.get' h2 hx
            refine ⟨d2, q1, ?_⟩
            rw [List.getElem?_append_right (by omega), Nat.add_sub_cancel_left]
            exact shs_at hx q1
          · obtain ⟨S2, F2, y2⟩ := s2.st
            have y3 : StF X.K W H (σ.zip δ ++ π) S F := y.re (fun i => i) (fun i c q => .inr (snoc_old q)) (fun i j n q => absurd q n)
            exact ⟨s.len, s.io, S, F, by rw [← List.append_assoc]; exact y3.pushs h2⟩
      · rw [if_neg hl] at g'
        cases g'
    | _ => cases g)⟩⟩
/-- a, (b, c) = value -/
def vAsg (t : VT) (g : D → List Sl → Option (List Sl)) : VSt := fun E δ => vS t δ (fun rv δ' => ∃ δ2, g rv.get δ' = some δ2 ∧ E.nx δ2) E.ex
theorem vs_asg {tg : Expr} {ws : List Nat} {g : D → List Sl → Option (List Sl)} (he : VE X W wx e t) (hg : VG X W tg ws g) (hs : swapsWithSole [tg] e pos.line X.env = pure false := by rfl) (hw : swappedStores [tg] e X.env = pure none := by rfl)
    (h1 : (assignEach [tg] X.env).map (·.2) = [assign tg X.env] := by rfl) : VS X W wx (.Assign [tg] e pos) (vAsg t g) :=
  ⟨PS.imp (ps_asg he.pe hg.pg hs hw h1) fun Dd σ H ⟨δ, π, E, s, h, k⟩ => ⟨δ, π, _, _, s, h, fun rv δ' z v H' s' => by
    obtain ⟨z1, δ2, z2, z3⟩ := z
    exact ⟨δ', π ++ [(some v, .sh rv.get)], rv.get, π.length, δ2, snoc_last, s'.shr z1, z2, fun σ' w s2 => k.nx _ z3 _ _ s2.drop⟩, k.ex σ⟩⟩
end
end VL

/-! ## VL6 -/
set_option Elab.async false
set_option linter.all false
set_option autoImplicit false
set_option maxRecDepth 100000
set_option maxHeartbeats 4000000
namespace VL
open PySem PySem.Spec PyProof.Rows L2

/-! ### a def that changes nothing that stood -/
abbrev SemV := List D → (Sl → Prop) → (Exn → Prop) → Prop
abbrev wdOf (H : Hp) (A : Addr → Prop) : Wd := ⟨H, [], A, none⟩
def spV (K : PySem.W.Frag) (n : Nat) (sem : SemV) : Sp := fun vs H Q E => ∃ (A : Addr → Prop) (ds : List D) (Qd : Sl → Prop) (Xd : Exn → Prop),
  vs.length = n ∧ ds.length = n ∧ (∀ b, A b → H b ≠ none) ∧ Rps K A H vs ds ∧ sem ds Qd Xd ∧
  (∀ rv, Qd rv → ∀ v H', VL.St K (wdOf H A) H' [(some v, rv)] → Q v H') ∧
  (∀ x, Xd x → ∀ d H' us, VL.St K (wdOf H A) H' (shs us x.vals) → us.length = x.vals.length → DS H' d x.names us → E (.ref x.cls) d H')

section
variable {X : Cx} {W : Wd} {wx : WX} {K : PySem.W.Frag} {H H' : Hp} {σ : L2.St} {δ δ' : List Sl} {π : List Cell} {e a b c : Expr} {es : List Expr} {t u : VT} {ts : VTs} {pos : Pos} {S S' : Addr → Prop} {F F' : Nat → List Addr} {cs cs' : List Cell}
/-- behind a call that left all that stood -/
theorem StF.after (x : StF K W H cs S F) (y : StF K (wdOf H S) H' cs' S' F') : StF K W H' cs S F := by
  have kp : ∀ b o, H b = some o → H' b = some o := fun b o q => y.kp b o q (fun z => nomatch z)
  have ev : Ev S H S H' := ⟨fun b o q _ => kp b o q, fun b hb => .inl hb⟩
  refine ⟨x.aw, fun b hb => y.th b (x.trk b hb), x.sub, fun b o q n => kp b o (x.kp b o q n), fun b q => y.th b (x.th b q), fun i v d q => ?_, fun i v o q => ?_, x.fp, x.dj⟩
  · obtain ⟨u, rfl, r⟩ := x.sh i v d q
    exact ⟨u, rfl, Rp.ev ev d u r⟩
  · obtain ⟨u, rfl, r⟩ := x.ow i v o q
    exact ⟨u, rfl, Ow.ev ev o u _ (fun b _ o q => kp b o q) r⟩
theorem StF.down (y : StF K (wdOf H S) H' cs' S' F') {v : V} {d : D} (r : Rp K S' H' v d) : Rp K S H' v d :=
  Rp.ev ⟨fun _ _ q _ => q, fun b hb => .inl (y.sub b hb)⟩ d v r
theorem StF.got (x : StF K W H cs S F) {v : V} {rv : Sl} (y : StF K (wdOf H S) H' [(some v, rv)] S' F') : ∃ S2 F2, StF K W H' (cs ++ [(some v, rv)]) S2 F2 := by
  have z := x.after y
  cases rv with
  | un => exact ⟨S, F, z.blank⟩
  | sh d =>
    obtain ⟨u, eu, r⟩ := y.sh 0 _ _ rfl
    cases eu
    exact ⟨S, F, z.push (y.down r)⟩
  | ow o =>
    obtain ⟨u, eu, r⟩ := y.ow 0 _ _ rfl
    cases eu
    have kp : ∀ b o, H b = some o → H' b = some o := fun b o q => y.kp b o q (fun z => nomatch z)
    have new : ∀ b ∈ F' 0, H b = none ∧ H' b ≠ none ∧ S' b := fun b hb => by
      obtain ⟨h1, h2⟩ := y.fp 0 _ _ b rfl hb
      exact ⟨h2.elim (fun z => nomatch z) fun z => z, y.trk b h1, h1⟩
    have ev : Ev S H (fun b => S b ∨ b ∈ F' 0) H' := ⟨fun b o q _ => kp b o q, fun b hb => hb.elim .inl fun q => .inr (new b q).1⟩
    have ev2 : Ev S' H' (fun b => S b ∨ b ∈ F' 0) H' := ⟨fun b o q _ => q, fun b hb => .inl (hb.elim (y.sub b) fun q => (new b q).2.2)⟩
    refine ⟨_, _, z.own (Fv := F' 0) (fun b => Iff.rfl) (fun b hb => ⟨?_, fun q => x.trk b q (new b hb).1, (new b hb).2.1⟩) (fun i w d q u e => ?_) (fun i w d q u e => ?_) (Ow.ev ev2 o v _ (fun _ _ _ q => q) r)⟩
    · cases q : W.H0 b with
      | none => rfl
      | some p => exact absurd (new b hb).1 (x.th b (by rw [q]; exact fun z => nomatch z))
    · obtain ⟨u', e', h⟩ := x.sh i w d q
      rw [e] at e'; cases e'
      exact Rp.ev ev d u h
    · obtain ⟨u', e', h⟩ := x.ow i w d q
      rw [e] at e'; cases e'
      exact Ow.ev ev d u _ (fun b _ o q => kp b o q) h
theorem StF.gots (x : StF K W H cs S F) {us : List V} {es : List D} (l : us.length = es.length) (y : StF K (wdOf H S) H' (shs us es) S' F') : StF K W H' (cs ++ shs us es) S F := by
  have z := x.after y
  have r : Rps K S' H' us es := StF.reads (cs := []) (by rw [List.nil_append]; exact y) l
  exact z.pushs (Rps.ev ⟨fun _ _ q _ => q, fun b hb => .inl (y.sub b hb)⟩ es us r)
theorem SS.called {vs : List V} {ds : List D} (s : SS K W H σ δ (π ++ shs vs ds)) (l : vs.length = ds.length) : ∃ A : Addr → Prop, (∀ b, A b → H b ≠ none) ∧ Rps K A H vs ds ∧
    (∀ v rv H', VL.St K (wdOf H A) H' [(some v, rv)] → SS K W H' σ δ (π ++ [(some v, rv)])) ∧ (∀ us es H', us.length = es.length → VL.St K (wdOf H A) H' (shs us es) → SS K W H' σ δ (π ++ shs us es)) := by
  obtain ⟨S, F, x⟩ := s.st
  refine ⟨S, x.trk, SS.reads x l, fun v rv H' ⟨S', F', y⟩ => ?_, fun us es H' l' ⟨S', F', y⟩ => ?_⟩
  · obtain ⟨S2, F2, z⟩ := (SS.restrict x).got y
    exact ⟨s.len, s.io, S2, F2, by rw [← List.append_assoc]; exact z⟩
  · exact ⟨s.len, s.io, S, F, by rw [← List.append_assoc]; exact (SS.restrict x).gots l' y⟩

/-- a def's call -/
def vCall (sem : SemV) (ts : VTs) : VT := fun δ Q Xc => ts δ (fun ds δ' => sem ds (fun rv => Q rv δ') (fun x => Xc x δ')) Xc
/-- what a caller knows of a def -/
structure FnV (P : Program) (w : World) (K : PySem.W.Frag) (mg : Str → Option Value) (base : Heap) (k : Nat) (x : Str) (n : Nat) (sem : SemV) : Prop where
  ex : ∃ (f : Addr) (fd : FuncData) (ps : List Str), FnOk P w K mg base (L2.CX P w) k f fd ps (spV K n sem) ∧ mg x = some (.ref f) ∧ PySem.W.keepIn K (.ref f) = true ∧ Binds K fd ps []
theorem ve_call {x : Str} {k n : Nat} {sem : SemV} {p : Pos} (G : FnV X.prog X.w X.K X.mg X.base k x n sem) (hr : Room k X.A) (tk : Takes X wx) (ha : VA X W wx (e :: es) ts) (hn : (e :: es).length = n) (hg : Gl X x := by rfl)
    (hdb : (x == ("__debug__" : Str)) = false := by decide) (he : starEach (e :: es) X.env = (false, eval e X.env) :: starEach es X.env := by rfl) (hpl : (backTo pos (starEach es X.env)).any (·.1) = false := by rfl) : VE X W wx (.Call (.Name x p) (e :: es) [] pos) (vCall sem ts) := by
  obtain ⟨f, fd, ps, F, hm, hk, hb⟩ := G.ex
  refine ⟨PE.imp (pe_callS (E := WE wx) F hr hg hm hk hb (fun σ => passAt tk σ) ha.pa hdb he hpl) fun σ H Q ⟨δ, π, Qd, Xd, s, h, kk, xr⟩ => ?_⟩
  refine ⟨δ, π, _, Xd, s, h, fun ds δ' q vs H' l n' s' => ?_, xr⟩
  obtain ⟨A, h1, h2, h3, h4⟩ := s'.called l
  exact ⟨A, ds, _, _, by rw [l, n', hn], by rw [n', hn], h1, h2, q, fun rv z v H2 y => kk _ _ z _ _ (h3 v rv H2 y), fun x z d H2 us y l2 ds2 => xr x δ' z d H2 us (h4 us x.vals H2 l2 y) l2 ds2⟩
/-- .. without arguments -/
theorem ve_call0 {x : Str} {k : Nat} {sem : SemV} {p : Pos} (G : FnV X.prog X.w X.K X.mg X.base k x 0 sem) (hr : Room k X.A) (tk : Takes X wx) (hg : Gl X x := by rfl) (hdb : (x == ("__debug__" : Str)) = false := by decide) : VE X W wx (.Call (.Name x p) [] [] pos) (vCall sem vNil) := by
  obtain ⟨f, fd, ps, F, hm, hk, hb⟩ := G.ex
  refine ⟨⟨fun pins sh σ H Q I ⟨δ, π, Qd, Xd, s, h, kk, xr⟩ => ?_⟩⟩
  refine wpAny_Call_Name_kw (ld_glob I hg hm ?_ hdb)
  have s' : SS X.K W H σ δ (π ++ shs [] []) := by rw [shs_nil, List.append_nil]; exact s
  obtain ⟨A, h1, h2, h3, h4⟩ := s'.called rfl
  have h' : sem [] (fun rv => Qd rv δ) (fun x => Xd x δ) := h
  exact PySem.W.callWith_K0 I.kIn hk (run_fnS (E := WE wx) (us := []) F hr hb (passAt tk σ) I .nil
    ⟨A, [], _, _, rfl, rfl, h1, h2, h', fun rv z v H2 y => kk _ _ z _ _ (h3 v rv H2 y), fun x z d H2 us y l2 ds2 => xr x δ z d H2 us (h4 us x.vals H2 l2 y) l2 ds2⟩)

/-! ### a def's body -/
def ini (n m : Nat) (ds : List D) : List Sl := ds.map Sl.sh ++ List.replicate (m - n) Sl.un
def enV (Qd : Sl → Prop) (Xd : Exn → Prop) : En := ⟨fun _ => Qd (.sh .none), fun rv _ => Qd rv, fun _ => False, fun _ => False, fun x _ => Xd x⟩
theorem zip_ini {N : List Str} {vs : List V} {ds : List D} {n : Nat} (h1 : vs.length = n) (h2 : ds.length = n) : (L2.start N vs).zip (ini n N.length ds) = shs vs ds ++ List.replicate (N.length - n) (none, Sl.un) := by
  unfold L2.start ini shs
  rw [List.zip_append (by rw [List.length_map, List.length_map, h1, h2]), h1, List.zip_replicate, Nat.min_self]
theorem st_ini {N : List Str} {vs : List V} {ds : List D} {n : Nat} {A : Addr → Prop} (h1 : vs.length = n) (h2 : ds.length = n) (h3 : n ≤ N.length) (hA : ∀ b, A b → H b ≠ none) (r : Rps K A H vs ds) :
    SS K (wdOf H A) H (L2.start N vs) (ini n N.length ds) [] := by
  refine ⟨by unfold L2.start ini; rw [List.length_append, List.length_append, List.length_map, List.length_map, List.length_replicate, List.length_replicate, h1, h2], fun u hu => (nomatch hu), A, fun _ => [], ?_⟩
  rw [List.append_nil, zip_ini h1 h2]
  have nil : StF K (wdOf H A) H [] A (fun _ => []) := ⟨fun b hb => ⟨hA b hb, fun z => nomatch z⟩, hA, fun b hb => hb, fun b o q _ => q, fun b q => q, fun i v d q => by simp at q, fun i v d q => by simp at q, fun i v d b q => by simp at q, fun i j v o w p b _ q => by simp at q⟩
  have y := nil.pushs r
  rw [List.nil_append] at y
  have more : ∀ m (cs : List Cell), StF K (wdOf H A) H cs A (fun _ => []) → StF K (wdOf H A) H (cs ++ List.replicate m (none, Sl.un)) A (fun _ => []) := by
    intro m
    induction m with
    | zero => intro cs z; rw [List.replicate_zero, List.append_nil]; exact z
    | succ m ih =>
      intro cs z
      rw [List.replicate_succ, List.append_cons]
      exact ih _ z.blank
  exact more _ _ y
end
section
variable {P : Program} {w : World} {K : PySem.W.Frag} {mg : Str → Option Value} {base : Heap}
theorem fn_v {x qual : Str} {st : Stmt} {f : Addr} {fd : FuncData} {N ps : List Str} {k n : Nat} {sem : SemV} {t : VSt} (F : Fun K x qual st f fd) (S : FnScope N ps (defScope st)) (hn : ps.length = n)
    (der : ∀ (cdv : Value) (A : Around) (outer : List Env) (s : Shared) (H : Hp) (E : XK) (W : Wd) (wx : WX), W.io = none → Room k (A.deeper (envOfC qual (defScope st) s.heap.objs.size f cdv)) →
      Takes (cxOf (L2.CX P w) P w K mg base N qual (defScope st) f cdv A outer s H E) wx → PassesOwn (model P w) (A.deeper (envOfC qual (defScope st) s.heap.objs.size f cdv)) (envOfC qual (defScope st) s.heap.objs.size f cdv) (cxOf (L2.CX P w) P w K mg base N qual (defScope st) f cdv A outer s H E).xe →
      VSs (cxOf (L2.CX P w) P w K mg base N qual (defScope st) f cdv A outer s H E) W wx (defBody st) t)
    (hsem : ∀ ds Qd Xd, ds.length = n → sem ds Qd Xd → t (enV Qd Xd) (ini n N.length ds)) : FnOk P w K mg base (L2.CX P w) (k + 1) f fd ps (spV K n sem) := by
  refine F.okX S (fun vs H Q E h => ?_) (fun cdv A outer s H vs Q E hr h => ?_)
  · obtain ⟨A, ds, Qd, Xd, h1, _⟩ := h
    rw [h1, hn]
  · obtain ⟨Av, ds, Qd, Xd, h1, h2, h3, h4, h5, h6, h7⟩ := h
    have hpl : n ≤ N.length := by
      have := congrArg List.length S.pre
      rw [List.length_take, hn] at this
      omega
    refine ⟨_, (der cdv A outer s H E (wdOf H Av) (fun cls d _ H => E cls d H) rfl hr (takes_of rfl rfl rfl rfl) (passes_of rfl)).ps, ?_⟩
    refine ⟨_, [], _, st_ini h1 h2 hpl h3 h4, hsem ds Qd Xd h2 h5, ⟨fun δ' q σ' H' s' => ?_, fun rv δ' q v σ' H' s' => ?_, fun _ q => q.elim, fun _ q => q.elim, fun σ x δ' q d H' us s' l ds' => ?_⟩⟩
    · obtain ⟨S', F', y⟩ := (s'.push (v := .non) (d := .none) fun _ => .non).st
      obtain ⟨F2, z⟩ := StF.mid (cs := []) (ρ := σ'.zip δ') (τ := [(some .non, Sl.sh .none)]) (by simpa using y)
      exact h6 _ q .non H' ⟨S', F2, by rw [List.nil_append] at z; exact z⟩
    · obtain ⟨S', F', y⟩ := s'.st
      obtain ⟨F2, z⟩ := StF.mid (cs := []) (ρ := σ'.zip δ') (τ := [(some v, rv)]) (by simpa using y)
      exact h6 rv q v H' ⟨S', F2, by rw [List.nil_append] at z; exact z⟩
    · obtain ⟨S', F', y⟩ := s'.st
      obtain ⟨F2, z⟩ := StF.mid (cs := []) (ρ := σ.zip δ') (τ := shs us x.vals) (by simpa using y)
      exact h7 x q d H' us ⟨S', F2, by rw [List.nil_append] at z; exact z⟩ l ds'
end
end VL

/-! ## VL7 -/
set_option Elab.async false
set_option linter.all false
set_option autoImplicit false
set_option maxRecDepth 100000
set_option maxHeartbeats 4000000
namespace VL
open PySem PySem.Spec PyProof.Rows L2

/-- how an iterator goes over the data its, while the cells ν wait -/
structure ItOk (K : PySem.W.Frag) (W : Wd) (J : It) (its : List D) (ν : List Cell) : Prop where
  stop : ∀ σ δ H π ρ (i : Nat), SS K W H σ δ (π ++ ν ++ ρ) → its.length ≤ i → J.stop i H
  go : ∀ σ δ H π ρ (i : Nat) d, SS K W H σ δ (π ++ ν ++ ρ) → its[i]? = some d → J.go i H ∧ ∀ x H', J.yld i H x H' → SS K W H' σ δ (π ++ ν ++ ρ ++ [(some x, .sh d)])
def lI (K : PySem.W.Frag) (W : Wd) (wx : WX) (t : VTs) : TI := fun σ H R => ∃ δ π Qd Xd, SS K W H σ δ π ∧ t δ Qd Xd ∧
  (∀ its δ', Qd its δ' → ∀ J ν H', SS K W H' σ δ' (π ++ ν) → ItOk K W J its ν → R J H') ∧ XR K W wx σ π Xd
structure VI (X : Cx) (W : Wd) (wx : WX) (tg iter : Expr) (t : VTs) : Prop where
  pi : PI X tg iter (lI X.K W wx t)

section
variable {X : Cx} {W : Wd} {wx : WX} {K : PySem.W.Frag} {H H' : Hp} {σ : L2.St} {δ δ' : List Sl} {π ν ρ : List Cell} {e a b c tg iter : Expr} {es : List Expr} {t u : VT} {ts : VTs} {pos p : Pos}
theorem PI.imp {t t' : TI} (h : PI X tg iter t) (i : ∀ σ H Q, t' σ H Q → t σ H Q) : PI X tg iter t' := ⟨fun pins s σ H Q I q => h.run pins s σ H Q I (i σ H Q q)⟩
/-- a cell that waits in the middle -/
theorem SS.at {v : V} {d : D} (s : SS K W H σ δ (π ++ (some v, .sh d) :: ν ++ ρ)) : ∃ S F, StF K W H (σ.zip δ ++ (π ++ (some v, .sh d) :: ν ++ ρ)) S F ∧ Rp K S H v d := by
  obtain ⟨S, F, x⟩ := s.st
  have e : (σ.zip δ ++ (π ++ (some v, Sl.sh d) :: ν ++ ρ))[(σ.zip δ).length + π.length]? = some (some v, Sl.sh d) := by
    rw [List.getElem?_append_right (by omega), Nat.add_sub_cancel_left, List.append_assoc, List.getElem?_append_right (Nat.le_refl _), Nat.sub_self]
    rfl
  obtain ⟨u, eu, r⟩ := x.sh _ _ _ e
  cases eu
  exact ⟨S, F, x, r⟩
def iL (t : VT) : VTs := fun δ Q Xc => vS t δ (fun rv δ' => ∃ ds, rv = .sh (.list ds) ∧ Q ds δ') Xc
def iT (t : VT) : VTs := fun δ Q Xc => vS t δ (fun rv δ' => ∃ ds, rv = .sh (.tuple ds) ∧ Q ds δ') Xc
theorem SS.list {ds : List D} {v : V} (s : SS K W H σ δ (π ++ [(some v, .sh (.list ds))])) : ∃ a xs, v = .ref a ∧ SqL K H a xs := by
  obtain ⟨S, F, x, r⟩ := SS.at (ν := []) (ρ := []) (by rw [List.append_nil]; exact s)
  cases r with
  | lst h1 h2 => exact ⟨_, _, rfl, h1.sq⟩
theorem SS.tuple {ds : List D} {v : V} (s : SS K W H σ δ (π ++ [(some v, .sh (.tuple ds))])) : ∃ a xs, v = .ref a ∧ SqT K H a xs := by
  obtain ⟨S, F, x, r⟩ := SS.at (ν := []) (ρ := []) (by rw [List.append_nil]; exact s)
  cases r with
  | tup h1 h2 => exact ⟨_, _, rfl, h1.sq⟩
theorem itok_list {a : Addr} {ds : List D} : ItOk K W (Itl K a) ds [(some (.ref a), .sh (.list ds))] where
  stop := fun σ δ H π ρ i s hi => by
    obtain ⟨S, F, x, r⟩ := s.at
    cases r with
    | lst h1 h2 => exact ⟨_, h1.sq, by rw [h2.length]; exact hi⟩
  go := fun σ δ H π ρ i d s hd => by
    obtain ⟨S, F, x, r⟩ := s.at
    cases r with
    | lst h1 h2 =>
      obtain ⟨v, hv, rv⟩ := h2.get hd
      refine ⟨⟨_, v, h1.sq, hv⟩, fun y H' hy => ?_⟩
      obtain ⟨rfl, hy⟩ := hy
      rw [hy _ h1.sq] at hv
      cases hv
      exact s.pushF x rv
theorem itok_tup {a : Addr} {ds : List D} : ItOk K W (Itt K a) ds [(some (.ref a), .sh (.tuple ds))] where
  stop := fun σ δ H π ρ i s hi => by
    obtain ⟨S, F, x, r⟩ := s.at
    cases r with
    | tup h1 h2 => exact ⟨_, h1.sq, by rw [h2.length]; exact hi⟩
  go := fun σ δ H π ρ i d s hd => by
    obtain ⟨S, F, x, r⟩ := s.at
    cases r with
    | tup h1 h2 =>
      obtain ⟨v, hv, rv⟩ := h2.get hd
      refine ⟨⟨_, v, h1.sq, hv⟩, fun y H' hy => ?_⟩
      obtain ⟨rfl, hy⟩ := hy
      rw [hy _ h1.sq] at hv
      cases hv
      exact s.pushF x rv
theorem vi_list (he : VE X W wx e t) : VI X W wx tg e (iL t) :=
  ⟨PI.imp (pi_list he.pe) fun σ H R ⟨δ, π, Qd, Xd, s, h, k, xr⟩ => ⟨δ, π, _, Xd, s, h, fun rv δ' q v H' s' => by
    obtain ⟨q1, ds, q2, q⟩ := q
    have s2 := s'.shr q1
    rw [q2] at s2
    obtain ⟨a, xs, rfl, hl⟩ := s2.list
    exact ⟨a, rfl, ⟨xs, hl⟩, k _ _ q _ _ _ s2 itok_list⟩, xr⟩⟩
theorem vi_tup (he : VE X W wx e t) : VI X W wx tg e (iT t) :=
  ⟨PI.imp (pi_tup he.pe) fun σ H R ⟨δ, π, Qd, Xd, s, h, k, xr⟩ => ⟨δ, π, _, Xd, s, h, fun rv δ' q v H' s' => by
    obtain ⟨q1, ds, q2, q⟩ := q
    have s2 := s'.shr q1
    rw [q2] at s2
    obtain ⟨a, xs, rfl, hl⟩ := s2.tuple
    exact ⟨a, rfl, ⟨xs, hl⟩, k _ _ q _ _ _ s2 itok_tup⟩, xr⟩⟩
/-- lo, lo + 1, .. -/
def rngD (lo : Int) (n : Nat) : List D := (List.range n).map fun i => .int (lo + (i : Nat))
theorem rngD_get {lo : Int} {n i : Nat} {d : D} (h : (rngD lo n)[i]? = some d) : i < n ∧ d = .int (lo + (i : Nat)) := by
  unfold rngD at h
  rw [List.getElem?_map] at h
  obtain ⟨j, h1, h2⟩ := Option.map_eq_some_iff.mp h
  obtain ⟨h3, h4⟩ := List.getElem?_eq_some_iff.mp h1
  rw [List.length_range] at h3
  rw [List.getElem_range] at h4
  subst h4
  exact ⟨h3, h2.symm⟩
theorem rngD_length {lo : Int} {n : Nat} : (rngD lo n).length = n := by unfold rngD; rw [List.length_map, List.length_range]
theorem itok_rng {lo : Int} {n : Nat} : ItOk K W (Itr lo n) (rngD lo n) [] where
  stop := fun σ δ H π ρ i s hi => by rw [rngD_length] at hi; exact hi
  go := fun σ δ H π ρ i d s hd => by
    obtain ⟨h1, rfl⟩ := rngD_get hd
    refine ⟨h1, fun x H' hy => ?_⟩
    obtain ⟨rfl, rfl⟩ := hy
    exact s.push fun _ => .int _
theorem SS.int {ρ : List Cell} {d : Int} {v : V} (s : SS K W H σ δ (π ++ (some v, .sh (.int d)) :: ρ)) : v = .int d := by
  obtain ⟨S, F, x, r⟩ := SS.at (ν := ρ) (ρ := []) (by rw [List.append_nil]; exact s)
  cases r
  rfl
def iR1 (t : VT) : VTs := fun δ Q Xc => vCons t vNil δ (fun ds δ' => ∃ j : Int, ds = [.int j] ∧ -(2 ^ 62) ≤ j ∧ j < 2 ^ 62 ∧ Q (rngD 0 j.toNat) δ') Xc
def iR2 (t u : VT) : VTs := fun δ Q Xc => vCons t (vCons u vNil) δ (fun ds δ' => ∃ i j : Int, ds = [.int i, .int j] ∧ (-(2 ^ 62) ≤ i ∧ i < 2 ^ 62 ∧ -(2 ^ 62) ≤ j ∧ j < 2 ^ 62) ∧ Q (rngD i (j - i).toNat) δ') Xc
theorem len1 {α : Type} {l : List α} (h : l.length = 1) : ∃ x, l = [x] := by
  cases l with
  | nil => simp at h
  | cons x r =>
    cases r with
    | nil => exact ⟨x, rfl⟩
    | cons y s => simp at h
theorem len2 {α : Type} {l : List α} (h : l.length = 2) : ∃ x y, l = [x, y] := by
  cases l with
  | nil => simp at h
  | cons x r =>
    obtain ⟨y, e⟩ := len1 (l := r) (by simpa using h)
    subst e
    exact ⟨x, y, rfl⟩
theorem vi_r1 (hm : X.mg "range" = none) (he : VE X W wx a t) (hg : Gl X "range" := by rfl) (hs : starEach [a] X.env = [(false, eval a X.env)] := by rfl) : VI X W wx tg (.Call (.Name "range" p) [a] [] pos) (iR1 t) :=
  ⟨PI.imp (pi_range1 hg hm (va_cons he va_nil hs).pa hs) fun σ H R ⟨δ, π, Qd, Xd, s, h, k, xr⟩ => ⟨δ, π, _, Xd, s, h, fun ds δ' q vs H' l n s' => by
    obtain ⟨j, rfl, q1, q2, q⟩ := q
    obtain ⟨v, rfl⟩ := len1 l
    rw [shs_cons] at s'
    obtain rfl := s'.int
    exact ⟨j, rfl, q1, q2, k _ _ q _ [] _ (by rw [List.append_nil]; exact s'.drop) itok_rng⟩, xr⟩⟩
theorem vi_r2 (hm : X.mg "range" = none) (he : VE X W wx a t) (hf : VE X W wx b u) (hg : Gl X "range" := by rfl) (hs : starEach [a, b] X.env = [(false, eval a X.env), (false, eval b X.env)] := by rfl) (hs2 : starEach [b] X.env = [(false, eval b X.env)] := by rfl) :
    VI X W wx tg (.Call (.Name "range" p) [a, b] [] pos) (iR2 t u) :=
  ⟨PI.imp (pi_range2 hg hm (va_cons he (va_cons hf va_nil hs2) (by rw [hs, hs2])).pa hs hs2) fun σ H R ⟨δ, π, Qd, Xd, s, h, k, xr⟩ => ⟨δ, π, _, Xd, s, h, fun ds δ' q vs H' l n s' => by
    obtain ⟨i, j, rfl, q1, q⟩ := q
    obtain ⟨v, v2, rfl⟩ := len2 l
    rw [shs_cons, shs_cons] at s'
    obtain rfl := s'.int
    have s2 : SS X.K W H' σ δ' ((π ++ [(some (V.int i), Sl.sh (.int i))]) ++ (some v2, Sl.sh (.int j)) :: shs [] []) := by rw [← List.append_cons]; exact s'
    obtain rfl := s2.int
    exact ⟨i, j, rfl, q1, k _ _ q _ [] _ (by rw [List.append_nil]; exact s'.drop) itok_rng⟩, xr⟩⟩
/-- the signs of a text -/
def signD (x : Str) : List D := x.cps.toList.map fun c => .str ⟨#[c]⟩
def iSt (t : VT) : VTs := fun δ Q Xc => vS t δ (fun rv δ' => ∃ x, rv = .sh (.str x) ∧ Q (signD x) δ') Xc
theorem okS_sign {x : Str} {c : Nat} (h : okS x = true) (hc : c ∈ x.cps.toList) : okS ⟨#[c]⟩ = true := by
  unfold okS PyData.strOk at *
  rw [Bool.and_eq_true] at *
  refine ⟨?_, decide_eq_true (by show 1 ≤ sizeLine; rw [sizeLine_eq]; omega)⟩
  have h1 := h.1
  simp only [Array.all_eq_true_iff_forall_mem] at h1 ⊢
  intro y hy
  simp at hy
  subst hy
  exact h1 y (by simpa using hc)
theorem itok_str {x : Str} (ok : okS x = true) : ItOk K W (Its x) (signD x) [] where
  stop := fun σ δ H π ρ i s hi => by
    unfold signD at hi
    rw [List.length_map, Array.length_toList] at hi
    exact hi
  go := fun σ δ H π ρ i d s hd => by
    unfold signD at hd
    rw [List.getElem?_map] at hd
    obtain ⟨c, h1, rfl⟩ := Option.map_eq_some_iff.mp hd
    have h2 : x.cps[i]? = some c := by rw [← Array.getElem?_toList]; exact h1
    refine ⟨(Array.getElem?_eq_some_iff.mp h2).1, fun y H' hy => ?_⟩
    obtain ⟨rfl, c', e, rfl⟩ := hy
    rw [h2] at e
    cases e
    exact s.push fun _ => .str _ (okS_sign ok (List.mem_of_getElem? h1))
theorem SS.str {ρ : List Cell} {d : Str} {v : V} (s : SS K W H σ δ (π ++ (some v, .sh (.str d)) :: ρ)) : v = .str d ∧ okS d = true := by
  obtain ⟨S, F, x, r⟩ := SS.at (ν := ρ) (ρ := []) (by rw [List.append_nil]; exact s)
  cases r with
  | str _ h => exact ⟨rfl, h⟩
theorem vi_str (he : VE X W wx e t) : VI X W wx tg e (iSt t) :=
  ⟨PI.imp (pi_str he.pe) fun σ H R ⟨δ, π, Qd, Xd, s, h, k, xr⟩ => ⟨δ, π, _, Xd, s, h, fun rv δ' q v H' s' => by
    obtain ⟨q1, x, q2, q⟩ := q
    have s2 := s'.shr q1
    rw [q2] at s2
    obtain ⟨rfl, hok⟩ := s2.str
    exact ⟨x, rfl, k _ _ q _ [] _ (by rw [List.append_nil]; exact s2.drop) (itok_str hok)⟩, xr⟩⟩
/-- (0, x), (1, y), .. -/
def enumD (ds : List D) : List D := ds.zipIdx.map fun p => .tuple [.int (p.2 : Nat), p.1]
theorem enumD_get {ds : List D} {i : Nat} {d : D} (h : (enumD ds)[i]? = some d) : ∃ x, ds[i]? = some x ∧ d = .tuple [.int (i : Nat), x] := by
  unfold enumD at h
  rw [List.getElem?_map] at h
  obtain ⟨p, h1, h2⟩ := Option.map_eq_some_iff.mp h
  rw [List.getElem?_zipIdx] at h1
  obtain ⟨x, h3, h4⟩ := Option.map_eq_some_iff.mp h1
  subst h4
  refine ⟨x, h3, ?_⟩
  rw [← h2]
  simp
theorem enumD_length {ds : List D} : (enumD ds).length = ds.length := by unfold enumD; rw [List.length_map, List.length_zipIdx]
theorem itok_enum {a : Addr} {ds : List D} : ItOk K W (Ite K a) (enumD ds) [(some (.ref a), .sh (.list ds))] where
  stop := fun σ δ H π ρ i s hi => by
    obtain ⟨S, F, x, r⟩ := s.at
    rw [enumD_length] at hi
    cases r with
    | lst h1 h2 => exact ⟨_, h1.sq, by rw [h2.length]; exact hi⟩
  go := fun σ δ H π ρ i d s hd => by
    obtain ⟨S, F, x, r⟩ := s.at
    obtain ⟨y, hy, rfl⟩ := enumD_get hd
    cases r with
    | lst h1 h2 =>
      obtain ⟨v, hv, rv⟩ := h2.get hy
      refine ⟨⟨_, v, h1.sq, hv⟩, fun z H' hz => ?_⟩
      obtain ⟨T, v', rfl, hT, rfl, hz⟩ := hz
      rw [hz _ h1.sq] at hv
      cases hv
      exact s.new x (.tup hT (.cons (.int _) (.cons rv .nil)))
def iEn (t : VT) : VTs := fun δ Q Xc => vCons t vNil δ (fun ds δ' => ∃ es, ds = [.list es] ∧ Q (enumD es) δ') Xc
theorem vi_enum {elts : List Expr} {kk : Nat} {tpos : Pos} (hm : X.mg "enumerate" = none) (he : VE X W wx a t) (hg : Gl X "enumerate" := by rfl) (hs : starEach [a] X.env = [(false, eval a X.env)] := by rfl) :
    VI X W wx (.Tuple elts kk tpos) (.Call (.Name "enumerate" p) [a] [] pos) (iEn t) :=
  ⟨PI.imp (pi_enum hg hm (va_cons he va_nil hs).pa hs) fun σ H R ⟨δ, π, Qd, Xd, s, h, k, xr⟩ => ⟨δ, π, _, Xd, s, h, fun ds δ' q vs H' l n s' => by
    obtain ⟨es, rfl, q⟩ := q
    obtain ⟨v, rfl⟩ := len1 l
    rw [shs_cons, shs_nil] at s'
    obtain ⟨a', xs, rfl, hl⟩ := s'.list
    exact ⟨a', xs, rfl, hl, k _ _ q _ _ _ s' itok_enum⟩, xr⟩⟩
/-- (x, y), .. -/
def zipD (ds es : List D) : List D := (ds.zip es).map fun p => .tuple [p.1, p.2]
theorem zipD_get {ds es : List D} {i : Nat} {d : D} (h : (zipD ds es)[i]? = some d) : ∃ x y, ds[i]? = some x ∧ es[i]? = some y ∧ d = .tuple [x, y] := by
  unfold zipD at h
  rw [List.getElem?_map] at h
  obtain ⟨p, h1, h2⟩ := Option.map_eq_some_iff.mp h
  obtain ⟨h3, h4⟩ := List.getElem?_zip_eq_some.mp h1
  exact ⟨p.1, p.2, h3, h4, h2.symm⟩
theorem zipD_length {ds es : List D} : (zipD ds es).length = min ds.length es.length := by unfold zipD; rw [List.length_map, List.length_zip]
theorem itok_zip {a b : Addr} {ds es : List D} : ItOk K W (Itz K a b) (zipD ds es) [(some (.ref a), .sh (.list ds)), (some (.ref b), .sh (.list es))] where
  stop := fun σ δ H π ρ i s hi => by
    obtain ⟨S, F, x, r⟩ := s.at
    have s2 : SS K W H σ δ ((π ++ [(some (.ref a), Sl.sh (.list ds))]) ++ (some (.ref b), Sl.sh (.list es)) :: [] ++ ρ) := by
      rw [List.append_assoc π]
      exact s
    obtain ⟨S2, F2, x2, r2⟩ := s2.at
    rw [zipD_length] at hi
    cases r with
    | lst h1 h2 =>
      cases r2 with
      | lst h3 h4 =>
        refine ⟨_, _, h1.sq, h3.sq, ?_⟩
        rw [h2.length, h4.length]
        omega
  go := fun σ δ H π ρ i d s hd => by
    obtain ⟨S, F, x, r⟩ := s.at
    have e2 : (σ.zip δ ++ (π ++ [(some (V.ref a), Sl.sh (.list ds)), (some (V.ref b), Sl.sh (.list es))] ++ ρ))[(σ.zip δ).length + (π.length + 1)]? = some (some (V.ref b), Sl.sh (.list es)) := by
      rw [List.getElem?_append_right (by omega), Nat.add_sub_cancel_left, List.append_assoc, List.getElem?_append_right (by omega), Nat.add_sub_cancel_left]
      rfl
    obtain ⟨u, eu, r2⟩ := x.sh _ _ _ e2
    cases eu
    obtain ⟨y, z, hy, hz, rfl⟩ := zipD_get hd
    cases r with
    | lst h1 h2 =>
      cases r2 with
      | lst h3 h4 =>
        obtain ⟨v, hv, rv⟩ := h2.get hy
        obtain ⟨v2, hv2, rv2⟩ := h4.get hz
        refine ⟨⟨_, _, v, v2, h1.sq, h3.sq, hv, hv2⟩, fun z H' hq => ?_⟩
        obtain ⟨T, w1, w2, rfl, hT, rfl, hz1, hz2⟩ := hq
        rw [hz1 _ h1.sq] at hv
        rw [hz2 _ h3.sq] at hv2
        cases hv
        cases hv2
        exact s.new x (.tup hT (.cons rv (.cons rv2 .nil)))
def iZp (t u : VT) : VTs := fun δ Q Xc => vCons t (vCons u vNil) δ (fun ds δ' => ∃ es fs, ds = [.list es, .list fs] ∧ Q (zipD es fs) δ') Xc
end
end VL

/-! ## VL8 -/
set_option Elab.async false
set_option linter.all false
set_option autoImplicit false
set_option maxRecDepth 100000
set_option maxHeartbeats 4000000
namespace VL
open PySem PySem.Spec PyProof.Rows L2
section
variable {X : Cx} {W : Wd} {wx : WX} {K : PySem.W.Frag} {H H' : Hp} {σ : L2.St} {δ δ' : List Sl} {π ν ρ : List Cell} {e a b c tg iter : Expr} {es : List Expr} {t u : VT} {ts : VTs} {pos p apos cpos : Pos} {body : List Stmt} {pb : VSt}

theorem vi_zip {elts : List Expr} {kk : Nat} {tpos : Pos} (hm : X.mg "zip" = none) (he : VE X W wx a t) (hf : VE X W wx b u) (hg : Gl X "zip" := by rfl) (hs : starEach [a, b] X.env = (false, eval a X.env) :: starEach [b] X.env := by rfl)
    (hs2 : starEach [b] X.env = (false, eval b X.env) :: starEach [] X.env := by rfl) (hpl : (backTo pos (starEach [b] X.env)).any (·.1) = false := by rfl) : VI X W wx (.Tuple elts kk tpos) (.Call (.Name "zip" p) [a, b] [] pos) (iZp t u) :=
  ⟨PI.imp (pi_zip hg hm (va_cons he (va_cons hf va_nil hs2) hs).pa hs hpl) fun σ H R ⟨δ, π, Qd, Xd, s, h, k, xr⟩ => ⟨δ, π, _, Xd, s, h, fun ds δ' q vs H' l n s' => by
    obtain ⟨es, fs, rfl, q⟩ := q
    obtain ⟨v, v2, rfl⟩ := len2 l
    rw [shs_cons, shs_cons, shs_nil] at s'
    have s1 : SS X.K W H' σ δ' (π ++ [(some v, Sl.sh (.list es))]) := by
      rw [List.append_cons] at s'
      exact s'.drop
    have s2 : SS X.K W H' σ δ' ((π ++ [(some v, Sl.sh (.list es))]) ++ [(some v2, Sl.sh (.list fs))]) := by rw [← List.append_cons]; exact s'
    obtain ⟨a', xs, rfl, hl⟩ := s1.list
    obtain ⟨b', ys, rfl, hl2⟩ := s2.list
    exact ⟨a', b', xs, ys, rfl, hl, hl2, k _ _ q _ _ _ s' itok_zip⟩, xr⟩⟩

/-! ### for -/
def vFor (it : VTs) (g : D → List Sl → Option (List Sl)) (pb : VSt) : VSt := fun E δ => it δ (fun its δ1 => ∃ I : Nat → List Sl → Prop, I 0 δ1 ∧
  (∀ k d δ2, its[k]? = some d → I k δ2 → ∃ δ3, g d δ2 = some δ3 ∧ pb ⟨I (k + 1), E.rt, E.nx, I (k + 1), E.ex⟩ δ3) ∧ ∀ δ2, I its.length δ2 → E.nx δ2) E.ex
theorem vs_for {it : VTs} {ws : List Nat} {g : D → List Sl → Option (List Sl)} (hp : PassesOwn (model X.prog X.w) X.A X.env X.xe) (hc : X.calm = true) (hi : VI X W wx tg iter it) (hg : VG X W tg ws g) (hb : VSs X W wx body pb)
    (hs : ∀ x, foldedSetIterable iter X.env x = pure x := by intro _; rfl) : VS X W wx (.For tg iter body [] pos) (vFor it g pb) := by
  refine ⟨PS.imp (ps_for hp hc hi.pi hg.pg hb.ps hs) fun Dd σ H ⟨δ, π, E, s, h, k⟩ => ⟨δ, π, _, _, s, h, fun its δ1 q J ν H1 s1 ok => ?_, k.ex σ⟩⟩
  obtain ⟨I, i0, step, last⟩ := q
  refine ⟨fun i m σ' H' => m = its.length - i ∧ i ≤ its.length ∧ ∃ δ2, I i δ2 ∧ SS X.K W H' σ' δ2 (π ++ ν), ⟨_, rfl, Nat.zero_le _, δ1, i0, s1⟩, ?_⟩
  rintro i m σ2 H2 ⟨rfl, hi2, δ2, iv, s2⟩
  have s2' : SS X.K W H2 σ2 δ2 (π ++ ν ++ []) := by rw [List.append_nil]; exact s2
  by_cases hlt : i < its.length
  · have hd : its[i]? = some its[i] := List.getElem?_eq_getElem hlt
    obtain ⟨go, yld⟩ := ok.go σ2 δ2 H2 π [] i _ s2' hd
    obtain ⟨δ3, g3, b3⟩ := step i _ δ2 hd iv
    refine .inr ⟨go, fun σ' H' => ∃ δ2, I (i + 1) δ2 ∧ SS X.K W H' σ' δ2 (π ++ ν), fun σ' H' ⟨δ4, iv4, s4⟩ => ⟨_, by omega, rfl, hlt, δ4, iv4, s4⟩, fun x H' hy => ?_⟩
    have s3 := yld x H' hy
    rw [List.append_nil] at s3
    refine ⟨δ2, _, _, (π ++ ν).length, δ3, snoc_last, s3, g3, fun σ' w s4 => ?_⟩
    refine ⟨δ3, π ++ ν, _, s4.drop, b3, ⟨fun δ' z σ' H' s' => ⟨δ', z, s'⟩, k.more.rt, k.more.nx, fun δ' z σ' H' s' => ⟨δ', z, s'⟩, k.more.ex⟩⟩
  · obtain rfl : i = its.length := by omega
    exact .inl ⟨ok.stop σ2 δ2 H2 π [] _ s2' (Nat.le_refl _), k.nx _ (last _ iv) _ _ s2.drop⟩

/-! ### while -/
def vWh (c : VTt) (pb : VSt) : VSt := fun E δ => ∃ (I : List Sl → Prop) (μ : List Sl → Nat), I δ ∧
  ∀ δ1, I δ1 → c δ1 (fun b δ2 => if b = true then pb ⟨fun δ' => I δ' ∧ μ δ' < μ δ1, E.rt, E.nx, fun δ' => I δ' ∧ μ δ' < μ δ1, E.ex⟩ δ2 else E.nx δ2) E.ex
theorem vs_while {tc : VTt} (hp : PassesOwn (model X.prog X.w) X.A X.env X.xe) (hc : VC X W wx c tc) (hb : VSs X W wx body pb) : VS X W wx (.While c body [] pos) (vWh tc pb) := by
  refine ⟨PS.imp (ps_while hp hc.pt hb.ps) fun Dd σ H ⟨δ, π, E, s, ⟨I, μ, i0, step⟩, k⟩ => ?_⟩
  refine ⟨fun m σ' H' => ∃ δ1, m = μ δ1 ∧ I δ1 ∧ SS X.K W H' σ' δ1 π, ⟨_, δ, rfl, i0, s⟩, ?_⟩
  rintro m σ1 H1 ⟨δ1, rfl, i1, s1⟩
  refine ⟨δ1, π, _, _, s1, step δ1 i1, fun b δ2 q H2 s2 => ?_, k.ex σ1⟩
  cases b with
  | true =>
    rw [if_pos rfl]
    rw [if_pos rfl] at q
    exact ⟨fun σ' H' => ∃ δ', (I δ' ∧ μ δ' < μ δ1) ∧ SS X.K W H' σ' δ' π, fun σ' H' ⟨δ', ⟨i', l'⟩, s'⟩ => ⟨_, l', δ', rfl, i', s'⟩,
      δ2, π, _, s2, q, ⟨fun δ' z σ' H' s' => ⟨δ', z, s'⟩, k.rt, k.nx, fun δ' z σ' H' s' => ⟨δ', z, s'⟩, k.ex⟩⟩
  | false =>
    rw [if_neg (by decide)]
    rw [if_neg (by decide)] at q
    exact k.nx _ q _ _ s2

/-! ### x op= e -/
def vAug (i : Nat) (f : D → D → Option Sl) (o : Opr) : VSt := fun E δ => inAt δ i ∧ o.ev δ (fun ra δ1 => ∃ x y r, (δ1[i]?).bind Sl.rd = some x ∧ o.fin ra δ1 = some y ∧ f x y = some r ∧ E.nx (δ1.set i r)) E.ex
theorem SS.inAt (s : SS K W H σ δ π) {i : Nat} (h : VL.inAt δ i) : ∃ v, σ[i]? = some (some v) := by
  have h' : (match δ[i]? with | some (.sh _) => True | some (.ow _) => True | _ => False) := h
  cases e : δ[i]? with
  | none => rw [e] at h'; exact h'.elim
  | some sl =>
    rw [e] at h'
    obtain ⟨w, h1, h2⟩ := s.cell e
    obtain ⟨S, F, x⟩ := s.st
    cases sl with
    | un => exact h'.elim
    | sh d =>
      obtain ⟨v, rfl, r⟩ := x.sh i w d h2
      exact ⟨v, h1⟩
    | ow o =>
      obtain ⟨v, rfl, r⟩ := x.ow i w o h2
      exact ⟨v, h1⟩
theorem vs_aug {i : Nat} {x : Str} {op : Operator} {r : TIp} {f : D → D → Option Sl} {o : Opr} {pos' : Pos} (hN : X.N.Nodup) (hi : X.N[i]? = some x) (hx : Loc X.env.scope x) (he : VO X W wx e o) (ho : PIp X op r) (snd : Snd2 X.K r f) (h0 : i ≠ 0 ∨ W.io = none)
    (hf : X.fn x = true ∨ X.env.scope.names.lookup x = some .local := by first | exact .inl rfl | exact .inr rfl | assumption) : VS X W wx (.AugAssign (.Name x pos') op e pos) (vAug i f o) := by
  obtain ⟨te, A⟩ := he
  refine ⟨PS.imp (ps_aug hN hi hx A.pe ho hf) fun Dd σ H ⟨δ, π, E, s, ⟨h1, h2⟩, k⟩ => ?_⟩
  obtain ⟨v, hv⟩ := s.inAt h1
  refine ⟨v, hv, A.run σ H δ π _ _ _ s h2 (k.ex σ) fun ra δ1 q u H1 s1 i1 => ?_⟩
  obtain ⟨dx, dy, res, e1, e2, e3, q⟩ := q
  obtain ⟨S, F, y⟩ := s1.st
  refine snd S H1 v u dx dy res _ ?_ (Opr.read (ρ := []) s1.len y i1 e2) e3 fun w H2 nv => ?_
  · exact Opr.read (o := .pk i) (ρ := []) (rv := .un) (π := π ++ [(some u, ra)]) (v := v) s1.len (by rw [← List.append_assoc]; exact y.blank) hv e1
  · have hl : i < δ1.length := by
      obtain ⟨sl, q1, _⟩ := Option.bind_eq_some_iff.mp e1
      exact (List.getElem?_eq_some_iff.mp q1).1
    exact k.nx _ q _ _ ((s1.drop.new (SS.restrict y) nv).put hl h0)

/-! ### lists of one's own are changed -/
/-- f: the new items and what comes back, of the old items and the arguments -/
def SndM (K : PySem.W.Frag) (r : V → List V → Hp → VK → Prop) (f : List D → List D → Option (List D × D)) : Prop :=
  ∀ S H p xs ds vs es ds' res (Q : VK), H p = some (.lst xs) → Rps K S H xs ds → Rps K S H vs es → f ds es = some (ds', res) →
    (∀ v xs', Rps K S H xs' ds' → Rp K S H v res → Q v (upd H p (.lst xs'))) → r (.ref p) vs H Q
abbrev Few (X : Cx) (cpos : Pos) (es : List Expr) : Prop := ((backTo cpos (starEach es X.env)).all (fun x => !x.1) && (backToKw cpos (keywordEach [] X.env)).all (fun x => x.1.isSome) && decide (es.length + ([] : List Keyword).length + (if ([] : List Keyword).isEmpty then 0 else 1) < 30)) = true
/-- name.method(args), the name's list changed -/
def vMut (i : Nat) (f : List D → List D → Option (List D × D)) (ts : VTs) : VT := fun δ Q Xc => (∃ ds, δ[i]? = some (.ow (Ot.flat ds))) ∧
  ts δ (fun es δ1 => ∃ ds ds' r, δ1[i]? = some (.ow (Ot.flat ds)) ∧ f ds es = some (ds', r) ∧ Q (.sh r) (δ1.set i (.ow (Ot.flat ds')))) Xc
theorem mut_run {i : Nat} {n : Nat} {f : List D → List D → Option (List D × D)} {r : V → List V → Hp → VK → Prop} {ta : TA} {Q : VK} (snd : SndM K r f) (ha : ∀ σ H Q, lA K W wx n ts σ H Q → ta σ H Q) (h : lE K W wx (vMut i f ts) σ H Q) : tBM K "list" r (tVar i) ta σ H Q := by
  obtain ⟨δ, π, Qd, Xd, s, ⟨⟨ds0, h0⟩, h1⟩, k, xr⟩ := h
  obtain ⟨w0, q0, c0⟩ := s.cell h0
  obtain ⟨S0, F0, y0⟩ := s.st
  obtain ⟨p0, xs0, rfl, l0, _⟩ := y0.mut c0
  refine ⟨.ref p0, q0, .inl ⟨rfl, xs0, SqL.of l0⟩, ha _ _ _ ⟨δ, π, _, Xd, s, h1, fun es δ1 q vs H1 l n' s1 => ?_, xr⟩⟩
  obtain ⟨ds, ds', res, e1, e2, q⟩ := q
  obtain ⟨w1, q1, c1⟩ := s1.cell e1
  rw [q0] at q1
  cases q1
  obtain ⟨S, F, y⟩ := s1.st
  obtain ⟨p, xs, ep, hl, rx, nw⟩ := y.mut c1
  cases ep
  have rv := SS.reads y l
  have hcell := y.fp i _ _ p0 c1 (by
    obtain ⟨u, eu, ow⟩ := y.ow i _ _ c1
    cases eu
    obtain ⟨p', xs', e', hF, _⟩ := Ow.of_flat ow
    cases e'
    rw [hF]
    exact List.mem_singleton.mpr rfl)
  refine snd S H1 p0 xs ds vs es ds' res Q hl rx rv e2 fun v xs' r1 r2 => ?_
  have z := nw xs' ds' r1
  have hi : i < (σ.zip δ1).length := by rw [zip_length s1.len]; exact (List.getElem?_eq_some_iff.mp e1).1
  rw [List.set_append_left _ _ hi, zip_set q0] at z
  have ev : Ev S H1 S (upd H1 p0 (.lst xs')) := ⟨fun b u q n => by rw [upd_ne (fun z : b = p0 => n (by rw [z]; exact hcell.1))]; exact q, fun b hb => .inl hb⟩
  have s2 : SS K W (upd H1 p0 (.lst xs')) σ (δ1.set i (.ow (Ot.flat ds'))) (π ++ shs vs es) := ⟨by rw [List.length_set]; exact s1.len, s1.io, S, F, z⟩
  have z2 : StF K W (upd H1 p0 (.lst xs')) (σ.zip (δ1.set i (.ow (Ot.flat ds'))) ++ π) S F := SS.restrict z
  exact k _ _ q _ _ ((s2.drop).pushF z2 (Rp.ev ev res v r2))
theorem ve_mut {i : Nat} {x name : Str} {id : String} {f : List D → List D → Option (List D × D)} {r : V → List V → Hp → VK → Prop} {px : Pos} (slot : Slot "list" name id) (hty : typeOf (.builtin id) = pure (.type "method_descriptor")) (hm : MtR X id r) (snd : SndM X.K r f) (ha : VA X W wx (e :: es) ts)
    (hN : X.N[i]? = some x := by rfl) (hv : Vis X.env.scope x := by first | exact Or.inl rfl | exact Or.inr (Or.inl rfl) | exact Or.inr (Or.inr rfl)) (hd : (x == ("__debug__" : Str)) = false := by decide) (hcd : (x == ("__classdict__" : Str)) = false := by decide)
    (hbase : attributeBase (.Name x px) name X.env (eval (.Name x px) X.env) = eval (.Name x px) X.env := by rfl)
    (hfew : Few X cpos (e :: es) := by rfl) (hplain : (backTo cpos (starEach es X.env)).any (·.1) = false := by rfl)
    (hline : (apos.endLine == cpos.line) = true := by rfl) (hs : starEach (e :: es) X.env = (false, eval e X.env) :: starEach es X.env := by rfl) :
    VE X W wx (.Call (.Attribute (.Name x px) name apos) (e :: es) [] cpos) (vMut i f ts) :=
  ⟨PE.imp (pe_bm PySem.F.plainAttrs_list slot hty hm (pe_var hN hv hd hcd) ha.pa hbase hfew hline hs hplain) fun σ H Q h => mut_run snd (fun _ _ _ z => z) h⟩
theorem ve_mut0 {i : Nat} {x name : Str} {id : String} {f : List D → List D → Option (List D × D)} {r : V → List V → Hp → VK → Prop} {px : Pos} (slot : Slot "list" name id) (hty : typeOf (.builtin id) = pure (.type "method_descriptor")) (hm : MtR X id r) (snd : SndM X.K r f)
    (hN : X.N[i]? = some x := by rfl) (hv : Vis X.env.scope x := by first | exact Or.inl rfl | exact Or.inr (Or.inl rfl) | exact Or.inr (Or.inr rfl)) (hd : (x == ("__debug__" : Str)) = false := by decide) (hcd : (x == ("__classdict__" : Str)) = false := by decide)
    (hbase : attributeBase (.Name x px) name X.env (eval (.Name x px) X.env) = eval (.Name x px) X.env := by rfl) (hline : (apos.endLine == cpos.line) = true := by rfl) :
    VE X W wx (.Call (.Attribute (.Name x px) name apos) [] [] cpos) (vMut i f vNil) :=
  ⟨PE.imp (pe_bm0 PySem.F.plainAttrs_list slot hty hm (pe_var hN hv hd hcd) hbase hline) fun σ H Q h => by
    have z : tBM X.K "list" r (tVar i) tNil σ H Q := mut_run (n := 0) snd (fun σ H Q z => by
      obtain ⟨δ, π, Qd, Xd, s, h, k, xr⟩ := z
      exact k _ _ h [] H rfl rfl (by rw [shs_nil, List.append_nil]; exact s)) h
    exact z⟩
end
end VL

/-! ## VL9 -/
set_option Elab.async false
set_option linter.all false
set_option autoImplicit false
set_option maxRecDepth 100000
set_option maxHeartbeats 4000000
namespace VL
open PySem PySem.Spec PyProof.Rows L2

/-! ### defs with an argument that they change -/
abbrev SemIO := Ot → List D → (Sl → Ot → Prop) → (Exn → Ot → Prop) → Prop
abbrev wdIO (H : Hp) (F : List Addr) (A : Addr → Prop) (v0 : V) : Wd := ⟨H, F, A, some v0⟩
def spIO (K : PySem.W.Frag) (n : Nat) (sem : SemIO) : Sp := fun vs H Q E => ∃ (A : Addr → Prop) (F : List Addr) (v0 : V) (us : List V) (o : Ot) (ds : List D) (Qd : Sl → Ot → Prop) (Xd : Exn → Ot → Prop),
  vs = v0 :: us ∧ us.length = n ∧ ds.length = n ∧ (∀ b, A b → H b ≠ none ∧ b ∉ F) ∧ (∀ b ∈ F, H b ≠ none) ∧ Ow K (fun b => A b ∨ b ∈ F) H v0 o F ∧ Rps K (fun b => A b ∨ b ∈ F) H us ds ∧ sem o ds Qd Xd ∧
  (∀ rv o', Qd rv o' → ∀ v H', VL.St K (wdIO H F A v0) H' [(some v0, .ow o'), (some v, rv)] → Q v H') ∧
  (∀ x o', Xd x o' → ∀ d H' us, VL.St K (wdIO H F A v0) H' ((some v0, .ow o') :: shs us x.vals) → us.length = x.vals.length → DS H' d x.names us → E (.ref x.cls) d H')
structure FnI (P : Program) (w : World) (K : PySem.W.Frag) (mg : Str → Option Value) (base : Heap) (k : Nat) (x : Str) (n : Nat) (sem : SemIO) : Prop where
  ex : ∃ (f : Addr) (fd : FuncData) (ps : List Str), FnOk P w K mg base (L2.CX P w) k f fd ps (spIO K n sem) ∧ mg x = some (.ref f) ∧ PySem.W.keepIn K (.ref f) = true ∧ Binds K fd ps []

section
variable {X : Cx} {W : Wd} {wx : WX} {K : PySem.W.Frag} {H H' : Hp} {σ : L2.St} {δ δ' : List Sl} {π ν ρ : List Cell} {e a b c tg iter : Expr} {es : List Expr} {t u : VT} {ts : VTs} {pos p apos cpos : Pos} {S S' : Addr → Prop} {F F' : Nat → List Addr} {cs cs' : List Cell}
/-- behind a call that changed the cell i alone -/
theorem StF.afterIO {i : Nat} {v0 : V} {o : Ot} (x : StF K W H cs S F) (ei : cs[i]? = some (some v0, .ow o)) {o' : Ot} {rest : List Cell} (y : StF K (wdIO H (F i) (fun b => S b ∧ b ∉ F i) v0) H' ((some v0, .ow o') :: rest) S' F') :
    StF K W H' (cs.set i (some v0, .ow o')) (fun b => (S b ∧ b ∉ F i) ∨ b ∈ F' 0) (fun j => if j = i then F' 0 else F j) ∧ (∀ b o, H b = some o → b ∉ F i → H' b = some o) := by
  have kp : ∀ b o, H b = some o → b ∉ F i → H' b = some o := fun b o q n => y.kp b o q n
  have hi : i < cs.length := (List.getElem?_eq_some_iff.mp ei).1
  have fi : ∀ b ∈ F i, S b := fun b hb => (x.fp i _ _ b ei hb).1
  have f0 : ∀ b ∈ F' 0, S' b ∧ (b ∈ F i ∨ H b = none) := fun b hb => y.fp 0 _ _ b rfl hb
  have ev : Ev S H (fun b => (S b ∧ b ∉ F i) ∨ b ∈ F' 0) H' := ⟨fun b o q n => kp b o q fun z => n (fi b z), fun b hb => hb.elim (fun z => .inl z.1) fun z => (f0 b z).2.elim (fun z => .inl (fi b z)) .inr⟩
  have evd : Ev S' H' (fun b => (S b ∧ b ∉ F i) ∨ b ∈ F' 0) H' := ⟨fun b o q n => q, fun b hb => .inl (hb.elim (y.sub b) fun z => (f0 b z).1)⟩
  have other : ∀ {j : Nat} {cc : Cell}, j ≠ i → (cs.set i (some v0, .ow o'))[j]? = some cc → cs[j]? = some cc := fun {j cc} n q => by
    rw [List.getElem?_set_ne (Ne.symm n)] at q
    exact q
  have self : ∀ {cc : Cell}, (cs.set i (some v0, .ow o'))[i]? = some cc → cc = (some v0, .ow o') := fun {cc} q => by
    rw [List.getElem?_set_self hi] at q
    exact (Option.some.inj q).symm
  have apart : ∀ {j : Nat} {w : Option V} {p : Ot} {b : Addr}, j ≠ i → cs[j]? = some (w, .ow p) → b ∈ F j → b ∉ F i ∧ b ∉ F' 0 := fun {j w p b} n q hb => by
    have h1 := x.dj j i _ _ _ _ b n q ei hb
    refine ⟨h1, fun z => ?_⟩
    rcases (f0 b z).2 with q2 | q2
    · exact h1 q2
    · exact x.trk b (x.fp j _ _ b q hb).1 q2
  refine ⟨⟨x.aw, fun b hb => ?_, fun b hb => ?_, fun b u q n => ?_, fun b q => y.th b (x.th b q), fun j w d q => ?_, fun j w p q => ?_, fun j w p b q hb => ?_, fun j k w p u r b ne q1 q2 hb => ?_⟩, kp⟩
  · rcases hb with hb | hb
    · exact y.th b (x.trk b hb.1)
    · exact y.trk b (f0 b hb).1
  · refine .inl ⟨x.sub b hb, fun z => ?_⟩
    rcases (x.fp i _ _ b ei z).2 with q | q
    · exact (x.aw b hb).2 q
    · exact (x.aw b hb).1 q
  · refine kp b u (x.kp b u q n) fun z => ?_
    rcases (x.fp i _ _ b ei z).2 with q2 | q2
    · exact n q2
    · rw [q] at q2; cases q2
  · by_cases hj : j = i
    · subst hj; cases self q
    · obtain ⟨u, rfl, r⟩ := x.sh j w d (other hj q)
      exact ⟨u, rfl, Rp.ev ev d u r⟩
  · by_cases hj : j = i
    · subst hj
      cases self q
      obtain ⟨u, eu, r⟩ := y.ow 0 _ _ rfl
      cases eu
      rw [if_pos rfl]
      exact ⟨v0, rfl, Ow.ev evd _ _ _ (fun _ _ _ z => z) r⟩
    · have q' := other hj q
      obtain ⟨u, rfl, r⟩ := x.ow j w p q'
      rw [if_neg hj]
      exact ⟨u, rfl, Ow.ev ev p u _ (fun b hb o z => kp b o z (apart hj q' hb).1) r⟩
  · by_cases hj : j = i
    · subst hj
      rw [if_pos rfl] at hb
      refine ⟨.inr hb, ?_⟩
      rcases (f0 b hb).2 with z | z
      · exact (x.fp j _ _ b ei z).2
      · refine .inr ?_
        cases q2 : W.H0 b with
        | none => rfl
        | some o => exact absurd z (x.th b (by rw [q2]; exact fun z => nomatch z))
    · rw [if_neg hj] at hb
      have q' := other hj q
      obtain ⟨h1, h2⟩ := x.fp j w p b q' hb
      exact ⟨.inl ⟨h1, (apart hj q' hb).1⟩, h2⟩
  · by_cases hj : j = i
    · by_cases hk : k = i
      · exact absurd (hj.trans hk.symm) ne
      · rw [if_pos hj] at hb
        rw [if_neg hk]
        exact fun z => (apart hk (other hk q2) z).2 hb
    · rw [if_neg hj] at hb
      by_cases hk : k = i
      · rw [if_pos hk]
        exact (apart hj (other hj q1) hb).2
      · rw [if_neg hk]
        exact x.dj j k w p u r b ne (other hj q1) (other hk q2) hb
/-- .. and handed something back -/
theorem StF.gotIO {i : Nat} {v0 : V} {o : Ot} (x : StF K W H cs S F) (ei : cs[i]? = some (some v0, .ow o)) {o' : Ot} {v : V} {rv : Sl} (y : StF K (wdIO H (F i) (fun b => S b ∧ b ∉ F i) v0) H' [(some v0, .ow o'), (some v, rv)] S' F') :
    ∃ S2 F2, StF K W H' (cs.set i (some v0, .ow o') ++ [(some v, rv)]) S2 F2 := by
  obtain ⟨z, kp⟩ := x.afterIO ei y
  have f0 : ∀ b ∈ F' 0, S' b ∧ (b ∈ F i ∨ H b = none) := fun b hb => y.fp 0 _ _ b rfl hb
  have evd : Ev S' H' (fun b => (S b ∧ b ∉ F i) ∨ b ∈ F' 0) H' := ⟨fun b o q n => q, fun b hb => .inl (hb.elim (y.sub b) fun z => (f0 b z).1)⟩
  cases rv with
  | un => exact ⟨_, _, z.blank⟩
  | sh d =>
    obtain ⟨u, eu, r⟩ := y.sh 1 _ _ rfl
    cases eu
    exact ⟨_, _, z.push (Rp.ev evd d _ r)⟩
  | ow o2 =>
    obtain ⟨u, eu, r⟩ := y.ow 1 _ _ rfl
    cases eu
    have f1 : ∀ b ∈ F' 1, S' b ∧ (b ∈ F i ∨ H b = none) ∧ b ∉ F' 0 := fun b hb => by
      obtain ⟨h1, h2⟩ := y.fp 1 _ _ b rfl hb
      exact ⟨h1, h2, y.dj 1 0 _ _ _ _ b (by decide) rfl rfl hb⟩
    -- the second value's own objects, beside the rest
    have hi : i < cs.length := (List.getElem?_eq_some_iff.mp ei).1
    have evS : Ev S' H' (fun b => ((S b ∧ b ∉ F i) ∨ b ∈ F' 0) ∨ b ∈ F' 1) H' := ⟨fun b o q n => q, fun b hb => .inl (hb.elim (fun hb => hb.elim (y.sub b) fun z => (f0 b z).1) fun z => (f1 b z).1)⟩
    have fi : ∀ b ∈ F i, S b := fun b hb => (x.fp i _ _ b ei hb).1
    have ev : Ev S H (fun b => ((S b ∧ b ∉ F i) ∨ b ∈ F' 0) ∨ b ∈ F' 1) H' := ⟨fun b o q n => kp b o q fun z => n (fi b z),
      fun b hb => hb.elim (fun hb => hb.elim (fun z => .inl z.1) fun z => (f0 b z).2.elim (fun z => .inl (fi b z)) .inr) fun z => (f1 b z).2.1.elim (fun z => .inl (fi b z)) .inr⟩
    have lt : ∀ {j : Nat} {cc : Cell}, (cs.set i (some v0, .ow o'))[j]? = some cc → j ≠ (cs.set i (some v0, .ow o')).length := fun {j cc} e z => by
      have := (List.getElem?_eq_some_iff.mp e).1
      omega
    have other : ∀ {j : Nat} {cc : Cell}, j ≠ i → (cs.set i (some v0, .ow o'))[j]? = some cc → cs[j]? = some cc := fun {j cc} n q => by
      rw [List.getElem?_set_ne (Ne.symm n)] at q
      exact q
    have apart : ∀ {j : Nat} {w : Option V} {p : Ot} {b : Addr}, (cs.set i (some v0, .ow o'))[j]? = some (w, .ow p) → b ∈ (if j = i then F' 0 else F j) → b ∉ F' 1 := fun {j w p b} q hb z => by
      by_cases hj : j = i
      · rw [if_pos hj] at hb
        exact (f1 b z).2.2 hb
      · rw [if_neg hj] at hb
        have q' := other hj q
        rcases (f1 b z).2.1 with q2 | q2
        · exact x.dj j i _ _ _ _ b hj q' ei hb q2
        · exact x.trk b (x.fp j _ _ b q' hb).1 q2
    refine ⟨fun b => ((S b ∧ b ∉ F i) ∨ b ∈ F' 0) ∨ b ∈ F' 1, fun j => if j = (cs.set i (some v0, .ow o')).length then F' 1 else if j = i then F' 0 else F j, ⟨z.aw, fun b hb => ?_, fun b hb => .inl (z.sub b hb), z.kp, z.th, fun j w d q => ?_, fun j w p q => ?_, fun j w p b q hb => ?_, fun j k w p u r b ne q1 q2 hb => ?_⟩⟩
    · rcases hb with hb | hb
      · exact z.trk b hb
      · exact y.trk b (f1 b hb).1
    · rcases getElem?_snoc q with ⟨_, q⟩ | ⟨_, q⟩
      · by_cases hj : j = i
        · subst hj
          rw [List.getElem?_set_self hi] at q
          cases q
        · obtain ⟨u, rfl, r⟩ := x.sh j w d (other hj q)
          exact ⟨u, rfl, Rp.ev ev d u r⟩
      · cases q
    · rcases getElem?_snoc q with ⟨_, q⟩ | ⟨e1, q⟩
      · rw [if_neg (lt q)]
        by_cases hj : j = i
        · subst hj
          rw [List.getElem?_set_self hi] at q
          cases q
          obtain ⟨u, eu, r⟩ := y.ow 0 _ _ rfl
          cases eu
          rw [if_pos rfl]
          exact ⟨v0, rfl, Ow.ev evS _ _ _ (fun _ _ _ z => z) r⟩
        · have q' := other hj q
          obtain ⟨u, rfl, r⟩ := x.ow j w p q'
          rw [if_neg hj]
          exact ⟨u, rfl, Ow.ev ev p u _ (fun b hb o z => kp b o z (x.dj j i _ _ _ _ b hj q' ei hb)) r⟩
      · cases q
        rw [if_pos e1]
        exact ⟨v, rfl, Ow.ev evS _ _ _ (fun _ _ _ z => z) r⟩
    · rcases getElem?_snoc q with ⟨_, q⟩ | ⟨e1, q⟩
      · rw [if_neg (lt q)] at hb
        obtain ⟨h1, h2⟩ := z.fp j w p b q hb
        exact ⟨.inl h1, h2⟩
      · rw [if_pos e1] at hb
        refine ⟨.inr hb, ?_⟩
        rcases (f1 b hb).2.1 with z2 | z2
        · exact (x.fp i _ _ b ei z2).2
        · refine .inr ?_
          cases q2 : W.H0 b with
          | none => rfl
          | some o => exact absurd z2 (x.th b (by rw [q2]; exact fun z => nomatch z))
    · rcases getElem?_snoc q1 with ⟨_, q1⟩ | ⟨e1, q1⟩
      · rw [if_neg (lt q1)] at hb
        rcases getElem?_snoc q2 with ⟨_, q2⟩ | ⟨e2, q2⟩
        · rw [if_neg (lt q2)]
          exact z.dj j k w p u r b ne q1 q2 hb
        · rw [if_pos e2]
          exact apart q1 hb
      · rw [if_pos e1] at hb
        rcases getElem?_snoc q2 with ⟨_, q2⟩ | ⟨e2, q2⟩
        · rw [if_neg (lt q2)]
          exact fun zz => apart q2 zz hb
        · exact absurd (e1.trans e2.symm) ne
/-- name(state, args), the state changed -/
def vIO (i : Nat) (sem : SemIO) (ts : VTs) : VT := fun δ Q Xc => inAt δ i ∧ ts δ (fun ds δ1 => ∃ o, δ1[i]? = some (.ow o) ∧ sem o ds (fun rv o' => Q rv (δ1.set i (.ow o'))) (fun x o' => Xc x (δ1.set i (.ow o')))) Xc
theorem StF.outs {i : Nat} {v0 : V} {o : Ot} (x : StF K W H cs S F) (ei : cs[i]? = some (some v0, .ow o)) {o' : Ot} {us : List V} {es : List D} (l : us.length = es.length) (y : StF K (wdIO H (F i) (fun b => S b ∧ b ∉ F i) v0) H' ((some v0, .ow o') :: shs us es) S' F') :
    ∃ S2 F2, StF K W H' (cs.set i (some v0, .ow o') ++ shs us es) S2 F2 := by
  obtain ⟨z, kp⟩ := x.afterIO ei y
  have f0 : ∀ b ∈ F' 0, S' b ∧ (b ∈ F i ∨ H b = none) := fun b hb => y.fp 0 _ _ b rfl hb
  have evd : Ev S' H' (fun b => (S b ∧ b ∉ F i) ∨ b ∈ F' 0) H' := ⟨fun b o q n => q, fun b hb => .inl (hb.elim (y.sub b) fun z => (f0 b z).1)⟩
  have r : Rps K S' H' us es := StF.reads (cs := [(some v0, Sl.ow o')]) y l
  exact ⟨_, _, z.pushs (Rps.ev evd es us r)⟩
theorem io_run {i n : Nat} {sem : SemIO} {Q : VK} {tr : TA} (ha : ∀ σ H Q, lA K W wx n ts σ H Q → tr σ H Q) (h : lE K W wx (vIO i sem ts) σ H Q) : tCons (tVar i) tr σ H (fun vs H1 => spIO K n sem vs H1 Q (WE wx σ)) := by
  obtain ⟨δ, π, Qd, Xd, s, ⟨h0, h1⟩, k, xr⟩ := h
  obtain ⟨v0, hv⟩ := s.inAt h0
  refine ⟨v0, hv, ha _ _ _ ⟨δ, π, _, Xd, s, h1, fun ds δ1 q vs H1 l n' s1 => ?_, xr⟩⟩
  obtain ⟨o, e1, q⟩ := q
  obtain ⟨w1, q1, c1⟩ := s1.cell e1
  rw [hv] at q1
  cases q1
  obtain ⟨S, F, y⟩ := s1.st
  obtain ⟨u, eu, ow⟩ := y.ow i _ _ c1
  cases eu
  have rv := SS.reads y l
  have hi : i < (σ.zip δ1).length := by rw [zip_length s1.len]; exact (List.getElem?_eq_some_iff.mp e1).1
  have inF : ∀ b ∈ F i, S b := fun b hb => (y.fp i _ _ b c1 hb).1
  have eqS : ∀ b, (fun b => (S b ∧ b ∉ F i) ∨ b ∈ F i) b → S b := fun b hb => hb.elim (fun z => z.1) (inF b)
  have ev : Ev S H1 (fun b => (S b ∧ b ∉ F i) ∨ b ∈ F i) H1 := ⟨fun _ _ q _ => q, fun b hb => .inl (eqS b hb)⟩
  have cell2 : (σ.zip δ1 ++ π)[i]? = some (some v0, Sl.ow o) := by
    rw [List.getElem?_append_left hi]
    rw [List.getElem?_append_left hi] at c1
    exact c1
  have y2 : StF K W H1 (σ.zip δ1 ++ π) S F := SS.restrict y
  refine ⟨fun b => S b ∧ b ∉ F i, F i, v0, vs, o, ds, _, _, rfl, by rw [l, n'], n', fun b hb => ⟨y.trk b hb.1, hb.2⟩, fun b hb => y.trk b (inF b hb), Ow.ev ev o v0 _ (fun _ _ _ z => z) ow, Rps.ev ev ds vs rv, q, fun rv o' z v H' ⟨S', F', yy⟩ => ?_, fun x o' z d H' us ⟨S', F', yy⟩ l2 hd => ?_⟩
  · obtain ⟨S2, F2, zz⟩ := y2.gotIO cell2 yy
    rw [List.set_append_left _ _ hi, zip_set hv] at zz
    exact k _ _ z _ _ ⟨by rw [List.length_set]; exact s1.len, s1.io, S2, F2, by rw [← List.append_assoc]; exact zz⟩
  · obtain ⟨S2, F2, zz⟩ := y2.outs cell2 l2 yy
    rw [List.set_append_left _ _ hi, zip_set hv] at zz
    exact xr x _ z d H' us ⟨by rw [List.length_set]; exact s1.len, s1.io, S2, F2, by rw [← List.append_assoc]; exact zz⟩ l2 hd
theorem ve_io {i : Nat} {x f : Str} {k : Nat} {sem : SemIO} {px pf : Pos} (G : FnI X.prog X.w X.K X.mg X.base k f es.length sem) (hr : Room k X.A) (tk : Takes X wx) (ha : VA X W wx es ts) (hN : X.N[i]? = some x := by rfl)
    (hv : Vis X.env.scope x := by first | exact Or.inl rfl | exact Or.inr (Or.inl rfl) | exact Or.inr (Or.inr rfl)) (hd : (x == ("__debug__" : Str)) = false := by decide) (hcd : (x == ("__classdict__" : Str)) = false := by decide) (hg : Gl X f := by rfl)
    (hdb : (f == ("__debug__" : Str)) = false := by decide) (he : starEach (.Name x px :: es) X.env = (false, eval (.Name x px) X.env) :: starEach es X.env := by rfl) (hpl : (backTo pos (starEach es X.env)).any (·.1) = false := by rfl) :
    VE X W wx (.Call (.Name f pf) (.Name x px :: es) [] pos) (vIO i sem ts) := by
  obtain ⟨fa, fd, ps, F, hm, hk, hb⟩ := G.ex
  exact ⟨PE.imp (pe_callS (E := WE wx) F hr hg hm hk hb (fun σ => passAt tk σ) (pa_cons (pe_var hN hv hd hcd) ha.pa he) hdb he hpl) fun σ H Q h => io_run (fun _ _ _ z => z) h⟩

/-! ### a list display whose items may be one's own -/
def Sl.ot : Sl → Ot
  | .un => .leaf .none
  | .sh d => .leaf d
  | .ow o => o
end
section
variable {P : Program} {w : World} {K : PySem.W.Frag} {mg : Str → Option Value} {base : Heap} {H : Hp}
def iniO (n m : Nat) (o : Ot) (ds : List D) : List Sl := .ow o :: (ds.map Sl.sh ++ List.replicate (m - (n + 1)) Sl.un)
def enIO (Qd : Sl → Ot → Prop) (Xd : Exn → Ot → Prop) : En := ⟨fun δ => ∃ o, δ[0]? = some (.ow o) ∧ Qd (.sh .none) o, fun rv δ => ∃ o, δ[0]? = some (.ow o) ∧ Qd rv o, fun _ => False, fun _ => False, fun x δ => ∃ o, δ[0]? = some (.ow o) ∧ Xd x o⟩
theorem st_iniO {N : List Str} {us : List V} {v0 : V} {o : Ot} {ds : List D} {n : Nat} {A : Addr → Prop} {F : List Addr} (h1 : us.length = n) (h2 : ds.length = n) (h3 : n + 1 ≤ N.length) (hA : ∀ b, A b → H b ≠ none ∧ b ∉ F) (hF : ∀ b ∈ F, H b ≠ none)
    (ho : Ow K (fun b => A b ∨ b ∈ F) H v0 o F) (r : Rps K (fun b => A b ∨ b ∈ F) H us ds) : SS K (wdIO H F A v0) H (L2.start N (v0 :: us)) (iniO n N.length o ds) [] := by
  have ez : (L2.start N (v0 :: us)).zip (iniO n N.length o ds) = ((some v0, Sl.ow o) :: shs us ds) ++ List.replicate (N.length - (n + 1)) (none, Sl.un) := by
    unfold L2.start iniO shs
    rw [List.map_cons, List.cons_append, List.zip_cons_cons, List.zip_append (by rw [List.length_map, List.length_map, h1, h2]), List.length_cons, h1, List.zip_replicate, Nat.min_self]
    rfl
  refine ⟨by unfold L2.start iniO; simp only [List.length_append, List.length_map, List.length_cons, List.length_replicate, h1, h2]; omega, fun u hu => by cases hu; rfl, (fun b => A b ∨ b ∈ F), (fun i => if i = 0 then F else []), ?_⟩
  rw [List.append_nil, ez]
  have one : StF K (wdIO H F A v0) H [(some v0, Sl.ow o)] (fun b => A b ∨ b ∈ F) (fun i => if i = 0 then F else []) := by
    refine ⟨hA, fun b hb => hb.elim (fun z => (hA b z).1) (hF b), fun b hb => .inl hb, fun b o q _ => q, fun b q => q, fun i v d q => ?_, fun i v d q => ?_, fun i v d b q hb => ?_, fun i j v o w p b ne q1 q2 => ?_⟩
    · cases i with
      | zero => cases q
      | succ i => simp at q
    · cases i with
      | zero => cases q; exact ⟨v0, rfl, ho⟩
      | succ i => simp at q
    · cases i with
      | zero => exact ⟨.inr hb, .inl hb⟩
      | succ i => simp at q
    · cases i with
      | zero =>
        cases j with
        | zero => exact absurd rfl ne
        | succ j => simp at q2
      | succ i => simp at q1
  have y := one.pushs r
  have more : ∀ m (cs : List Cell) {S F2}, StF K (wdIO H F A v0) H cs S F2 → StF K (wdIO H F A v0) H (cs ++ List.replicate m (none, Sl.un)) S F2 := by
    intro m
    induction m with
    | zero => intro cs S F2 z; rw [List.replicate_zero, List.append_nil]; exact z
    | succ m ih =>
      intro cs S F2 z
      rw [List.replicate_succ, List.append_cons]
      exact ih _ z.blank
  exact more _ _ y
theorem fn_io {x qual : Str} {st : Stmt} {f : Addr} {fd : FuncData} {N ps : List Str} {k n : Nat} {sem : SemIO} {t : VSt} (F : Fun K x qual st f fd) (S : FnScope N ps (defScope st)) (hn : ps.length = n + 1)
    (der : ∀ (cdv : Value) (A : Around) (outer : List Env) (s : Shared) (H : Hp) (E : XK) (W : Wd) (wx : WX), Room k (A.deeper (envOfC qual (defScope st) s.heap.objs.size f cdv)) →
      Takes (cxOf (L2.CX P w) P w K mg base N qual (defScope st) f cdv A outer s H E) wx → PassesOwn (model P w) (A.deeper (envOfC qual (defScope st) s.heap.objs.size f cdv)) (envOfC qual (defScope st) s.heap.objs.size f cdv) (cxOf (L2.CX P w) P w K mg base N qual (defScope st) f cdv A outer s H E).xe →
      VSs (cxOf (L2.CX P w) P w K mg base N qual (defScope st) f cdv A outer s H E) W wx (defBody st) t)
    (hsem : ∀ o ds Qd Xd, ds.length = n → sem o ds Qd Xd → t (enIO Qd Xd) (iniO n N.length o ds)) : FnOk P w K mg base (L2.CX P w) (k + 1) f fd ps (spIO K n sem) := by
  refine F.okX S (fun vs H Q E h => ?_) (fun cdv A outer s H vs Q E hr h => ?_)
  · obtain ⟨A, Fo, v0, us, o, ds, Qd, Xd, rfl, h1, _⟩ := h
    rw [List.length_cons, h1, hn]
  · obtain ⟨Av, Fo, v0, us, o, ds, Qd, Xd, rfl, h1, h2, h3, h4, h5, h6, h7, h8, h9⟩ := h
    have hpl : n + 1 ≤ N.length := by
      have := congrArg List.length S.pre
      rw [List.length_take, hn] at this
      omega
    have cell0 : ∀ {σ' : L2.St} {δ' : List Sl} {H' : Hp} {π : List Cell} {o' : Ot}, SS K (wdIO H Fo Av v0) H' σ' δ' π → δ'[0]? = some (.ow o') → ∃ r, σ'.zip δ' = (some v0, Sl.ow o') :: r := fun {σ' δ' H' π o'} s e => by
      have h0 := s.io v0 rfl
      cases σ' with
      | nil => simp at h0
      | cons a σ' =>
        cases δ' with
        | nil => simp at e
        | cons d δ' =>
          simp at h0 e
          subst h0 e
          exact ⟨_, rfl⟩
    refine ⟨_, (der cdv A outer s H E (wdIO H Fo Av v0) (fun cls d _ H => E cls d H) hr (takes_of rfl rfl rfl rfl) (passes_of rfl)).ps, ?_⟩
    refine ⟨_, [], _, st_iniO h1 h2 hpl h3 h4 h5 h6, hsem o ds Qd Xd h2 h7, ⟨fun δ' q σ' H' s' => ?_, fun rv δ' q v σ' H' s' => ?_, fun _ q => q.elim, fun _ q => q.elim, fun σ x δ' q d H' us s' l ds' => ?_⟩⟩
    · obtain ⟨o', e, q⟩ := q
      obtain ⟨r, er⟩ := cell0 s' e
      obtain ⟨S', F', y⟩ := (s'.push (v := .non) (d := .none) fun _ => .non).st
      rw [er] at y
      obtain ⟨F2, z⟩ := StF.mid (cs := [(some v0, Sl.ow o')]) (ρ := r) (τ := [(some .non, Sl.sh .none)]) (by simpa using y)
      exact h8 _ o' q .non H' ⟨S', F2, z⟩
    · obtain ⟨o', e, q⟩ := q
      obtain ⟨r, er⟩ := cell0 s' e
      obtain ⟨S', F', y⟩ := s'.st
      rw [er] at y
      obtain ⟨F2, z⟩ := StF.mid (cs := [(some v0, Sl.ow o')]) (ρ := r) (τ := [(some v, rv)]) (by simpa using y)
      exact h8 rv o' q v H' ⟨S', F2, z⟩
    · obtain ⟨o', e, q⟩ := q
      obtain ⟨r, er⟩ := cell0 s' e
      obtain ⟨S', F', y⟩ := s'.st
      rw [er] at y
      obtain ⟨F2, z⟩ := StF.mid (cs := [(some v0, Sl.ow o')]) (ρ := r) (τ := shs us x.vals) (by simpa using y)
      exact h9 x o' q d H' us ⟨S', F2, z⟩ l ds'
end
end VL

/-! ## VL10 -/
set_option Elab.async false
set_option linter.all false
set_option autoImplicit false
set_option maxRecDepth 100000
set_option maxHeartbeats 4000000
namespace VL
open PySem PySem.Spec PyProof.Rows L2

def wipeD (δ : List Sl) : List Nat → List Sl
  | [] => δ
  | v :: vs => (wipeD δ vs).set v .un
theorem wipeD_length (δ : List Sl) : ∀ vs : List Nat, (wipeD δ vs).length = δ.length
  | [] => rfl
  | v :: vs => by unfold wipeD; rw [List.length_set, wipeD_length δ vs]
theorem wipe_at {σ : L2.St} {i : Nat} : ∀ {vs : List Nat}, (wipe σ vs)[i]? = if i ∈ vs ∧ i < σ.length then some none else σ[i]?
  | [] => by simp [wipe]
  | v :: vs => by
    unfold wipe
    by_cases h : v = i
    · subst h
      by_cases hl : v < σ.length
      · rw [List.getElem?_set_self (by rw [wipe_length]; exact hl), if_pos ⟨List.mem_cons_self, hl⟩]
      · rw [List.getElem?_eq_none (by rw [List.length_set, wipe_length]; omega), if_neg (fun q => hl q.2), List.getElem?_eq_none (by omega)]
    · rw [List.getElem?_set_ne h, wipe_at]
      by_cases q : i ∈ vs ∧ i < σ.length
      · rw [if_pos q, if_pos ⟨List.mem_cons_of_mem _ q.1, q.2⟩]
      · rw [if_neg q, if_neg fun z => q ⟨(List.mem_cons.mp z.1).resolve_left (fun e => h e.symm), z.2⟩]
theorem wipeD_at {δ : List Sl} {i : Nat} : ∀ {vs : List Nat}, (wipeD δ vs)[i]? = if i ∈ vs ∧ i < δ.length then some .un else δ[i]?
  | [] => by simp [wipeD]
  | v :: vs => by
    unfold wipeD
    by_cases h : v = i
    · subst h
      by_cases hl : v < δ.length
      · rw [List.getElem?_set_self (by rw [wipeD_length]; exact hl), if_pos ⟨List.mem_cons_self, hl⟩]
      · rw [List.getElem?_eq_none (by rw [List.length_set, wipeD_length]; omega), if_neg (fun q => hl q.2), List.getElem?_eq_none (by omega)]
    · rw [List.getElem?_set_ne h, wipeD_at]
      by_cases q : i ∈ vs ∧ i < δ.length
      · rw [if_pos q, if_pos ⟨List.mem_cons_of_mem _ q.1, q.2⟩]
      · rw [if_neg q, if_neg fun z => q ⟨(List.mem_cons.mp z.1).resolve_left (fun e => h e.symm), z.2⟩]
theorem wipe_sub {a b : L2.St} {ws vs : List Nat} (h : wipe a ws = wipe b ws) (hs : ∀ i ∈ ws, i ∈ vs) : wipe a vs = wipe b vs := by
  have hl : a.length = b.length := by
    have := congrArg List.length h
    rwa [wipe_length, wipe_length] at this
  apply List.ext_getElem?
  intro i
  rw [wipe_at, wipe_at, hl]
  by_cases q : i ∈ vs ∧ i < b.length
  · rw [if_pos q, if_pos q]
  · rw [if_neg q, if_neg q]
    have z : (wipe a ws)[i]? = (wipe b ws)[i]? := by rw [h]
    rw [wipe_at, wipe_at, hl] at z
    by_cases q2 : i ∈ ws ∧ i < b.length
    · exact absurd ⟨hs i q2.1, q2.2⟩ q
    · rw [if_neg q2, if_neg q2] at z
      exact z
theorem wipe_wipe {a : L2.St} {vs : List Nat} : wipe (wipe a vs) vs = wipe a vs := by
  apply List.ext_getElem?
  intro i
  rw [wipe_at, wipe_length]
  by_cases q : i ∈ vs ∧ i < a.length
  · rw [if_pos q, wipe_at, if_pos q]
  · rw [if_neg q]

section
variable {X : Cx} {W : Wd} {wx : WX} {K : PySem.W.Frag} {H H' : Hp} {σ : L2.St} {δ δ' : List Sl} {π ν ρ : List Cell} {e a b c tg iter elt : Expr} {es ifs : List Expr} {t u te : VT} {ts : VTs} {pos p apos cpos : Pos} {S S' : Addr → Prop} {F F' : Nat → List Addr} {cs cs' : List Cell}
theorem zip_at {σ : L2.St} {δ : List Sl} {i : Nat} {c : Cell} : (σ.zip δ)[i]? = some c ↔ σ[i]? = some c.1 ∧ δ[i]? = some c.2 := List.getElem?_zip_eq_some
/-- some slots are forgotten -/
theorem SS.wipe (s : SS K W H σ δ π) {vs : List Nat} (h0 : 0 ∉ vs) : SS K W H (L2.wipe σ vs) (wipeD δ vs) π := by
  obtain ⟨S, F, x⟩ := s.st
  refine ⟨by rw [wipe_length, wipeD_length]; exact s.len, fun u hu => ?_, S, _, x.re (cs' := (L2.wipe σ vs).zip (wipeD δ vs) ++ π) (fun i => i) (fun i c q => ?_) (fun i j n q => absurd q n)⟩
  · rw [wipe_at, if_neg (fun q => h0 q.1)]
    exact s.io u hu
  · have l1 : ((L2.wipe σ vs).zip (wipeD δ vs)).length = (σ.zip δ).length := by rw [zip_length (by rw [wipe_length, wipeD_length]; exact s.len), wipeD_length, zip_length s.len]
    by_cases hi : i < (σ.zip δ).length
    · rw [List.getElem?_append_left (by rw [l1]; exact hi)] at q
      obtain ⟨q1, q2⟩ := zip_at.mp q
      have hiδ : i < δ.length := by rw [zip_length s.len] at hi; exact hi
      rw [wipeD_at] at q2
      by_cases hv : i ∈ vs ∧ i < δ.length
      · rw [if_pos hv] at q2
        exact .inl (Option.some.inj q2).symm
      · rw [if_neg hv] at q2
        rw [wipe_at, if_neg (fun z => hv ⟨z.1, hiδ⟩)] at q1
        rw [List.getElem?_append_left hi]
        exact .inr (zip_at.mpr ⟨q1, q2⟩)
    · rw [List.getElem?_append_right (by omega), l1] at q
      rw [List.getElem?_append_right (by omega)]
      exact .inr q
/-- what was forgotten is nowhere asked -/
theorem SS.unwipe {vs : List Nat} (s : SS K W H (L2.wipe σ vs) δ π) (hio : ∀ u, W.io = some u → σ[0]? = some (some u)) : SS K W H σ δ π := by
  obtain ⟨S, F, x⟩ := s.st
  have hl : σ.length = δ.length := by have := s.len; rwa [wipe_length] at this
  refine ⟨hl, hio, S, _, x.re (cs' := σ.zip δ ++ π) (fun i => i) (fun i c q => ?_) (fun i j n q => absurd q n)⟩
  have l1 : ((L2.wipe σ vs).zip δ).length = (σ.zip δ).length := by rw [zip_length s.len, zip_length hl]
  by_cases hi : i < (σ.zip δ).length
  · rw [List.getElem?_append_left hi] at q
    obtain ⟨q1, q2⟩ := zip_at.mp q
    by_cases hv : i ∈ vs ∧ i < σ.length
    · have e : ((L2.wipe σ vs).zip δ ++ π)[i]? = some (none, c.2) := by
        rw [List.getElem?_append_left (by rw [l1]; exact hi)]
        exact zip_at.mpr ⟨by rw [wipe_at, if_pos hv], q2⟩
      obtain ⟨c1, c2⟩ := c
      cases c2 with
      | un => exact .inl rfl
      | sh d =>
        obtain ⟨u, eu, _⟩ := x.sh i _ _ e
        cases eu
      | ow o =>
        obtain ⟨u, eu, _⟩ := x.ow i _ _ e
        cases eu
    · refine .inr ?_
      rw [List.getElem?_append_left (by rw [l1]; exact hi)]
      exact zip_at.mpr ⟨by rw [wipe_at, if_neg hv]; exact q1, q2⟩
  · rw [List.getElem?_append_right (by omega)] at q
    rw [List.getElem?_append_right (by omega), l1]
    exact .inr q

def noX : Exn → List Sl → Prop := fun _ _ => False
def vLc (it : VTs) (g : D → List Sl → Option (List Sl)) (cond : VTt) (te : VT) (vs : List Nat) : VT := fun δ Q Xc => it δ (fun its δ1 => its.length ≤ 1000000 ∧ ∃ I : Nat → List D → List Sl → Prop, I 0 [] (wipeD δ1 vs) ∧
  (∀ k d acc δ2, its[k]? = some d → acc.length ≤ k → I k acc δ2 → ∃ δ3, g d δ2 = some δ3 ∧ cond δ3 (fun b δ4 => if b = true then te δ4 (fun rv δ5 => rv.isIn = true ∧ I (k + 1) (acc ++ [rv.get]) (wipeD δ5 vs)) noX else I (k + 1) acc (wipeD δ4 vs)) noX) ∧
  ∀ acc δ2, I its.length acc δ2 → Q (.ow (Ot.flat acc)) δ2) Xc
def vYes : VTt := fun δ Q _ => Q true δ
def wx0 : WX := fun _ _ _ _ => False
structure VCs (X : Cx) (W : Wd) (wx : WX) (es : List Expr) (t : VTt) : Prop where
  pt : PTs X es (lT X.K W wx t)
theorem PTs.imp {e : List Expr} {t t' : TT} (h : PTs X e t) (i : ∀ σ H Q, t' σ H Q → t σ H Q) : PTs X e t' := ⟨fun pins s σ H Q I q => h.run pins s σ H Q I (i σ H Q q)⟩
theorem vcs_nil : VCs X W wx [] vYes := ⟨PTs.imp pts_nil fun σ H Q ⟨δ, π, Qd, Xd, s, h, k, xr⟩ => k _ _ h _ s⟩
theorem vcs_one {tc : VTt} (h : VC X W wx c tc) : VCs X W wx [c] tc := ⟨pts_one h.pt⟩
theorem xr0 {Xd : Exn → List Sl → Prop} : XR K W wx0 σ π noX := fun _ _ q => q.elim
theorem ve_lc {scope : Scope} {own : List (Str × Nat)} {it : VTs} {ws : List Nat} {g : D → List Sl → Option (List Sl)} {tc : VTt} (hc : X.calm = true) (hN : X.N.Nodup) (hi : VI X W wx tg iter it) (ok : BlkOk X.N X.env.scope scope own)
    (hg : ∀ (s : Shared) (H : Hp) (C : Addr) (cl : List (Str × Addr)) (fp : List Addr), VG (X.blk s H scope (compEnvC scope cl C X.env) fp) W tg ws g)
    (ht : ∀ (s : Shared) (H : Hp) (C : Addr) (cl : List (Str × Addr)) (fp : List Addr), VCs (X.blk s H scope (compEnvC scope cl C X.env) fp) W wx0 ifs tc)
    (he : ∀ (s : Shared) (H : Hp) (C : Addr) (cl : List (Str × Addr)) (fp : List Addr), VE (X.blk s H scope (compEnvC scope cl C X.env) fp) W wx0 elt te)
    (hw : ∀ i ∈ ws, i ∈ own.map (·.2)) (h0 : 0 ∉ own.map (·.2)) (hs : ∀ x, foldedSetIterable iter X.env x = pure x := by intro _; rfl) :
    VE X W wx (.ListComp elt [⟨tg, iter, ifs, 0⟩] scope pos) (vLc it g tc te (own.map (·.2))) := by
  refine ⟨PE.imp (pe_lc (g := lG X.K W ws g) (tt := lT X.K W wx0 tc) (te := lE X.K W wx0 te) hc hN hi.pi ok (fun s H C cl fp => (hg s H C cl fp).pg) (fun s H C cl fp => (ht s H C cl fp).pt) (fun s H C cl fp => (he s H C cl fp).pe) hs) fun σ H Q ⟨δ, π, Qd, Xd, s, h, k, xr⟩ => ?_⟩
  refine ⟨δ, π, _, Xd, s, h, fun its δ1 q J ν H1 s1 iok => ?_, xr⟩
  obtain ⟨hlen, I, i0, step, last⟩ := q
  intro Da hD
  generalize own.map (·.2) = vs at hw h0 i0 step last
  have s1w : SS X.K W H1 (L2.wipe σ vs) (wipeD δ1 vs) (π ++ ν) := s1.wipe h0
  obtain ⟨S1, F1, x1⟩ := s1w.st
  have s2 : SS X.K W (upd H1 Da (.lst [])) (L2.wipe σ vs) (wipeD δ1 vs) (π ++ ν ++ [(some (.ref Da), .ow (Ot.flat []))]) := s1w.new x1 (.lst hD .nil)
  refine ⟨fun i m H' => m = its.length - i ∧ i ≤ its.length ∧ ∃ acc δ2, acc.length ≤ i ∧ I i acc δ2 ∧ SS X.K W H' (L2.wipe σ vs) δ2 (π ++ ν ++ [(some (.ref Da), .ow (Ot.flat acc))]), ⟨_, rfl, Nat.zero_le _, [], _, Nat.le_refl _, i0, s2⟩, ?_⟩
  rintro i m H2 ⟨rfl, hi2, acc, δ2, hacc, iv, s2⟩
  by_cases hlt : i < its.length
  · have hd : its[i]? = some its[i] := List.getElem?_eq_getElem hlt
    obtain ⟨go, yld⟩ := iok.go (L2.wipe σ vs) δ2 H2 π [(some (.ref Da), .ow (Ot.flat acc))] i _ s2 hd
    obtain ⟨δ3, g3, b3⟩ := step i _ acc δ2 hd hacc iv
    refine .inr ⟨go, fun H' => ∃ acc δ2, acc.length ≤ i + 1 ∧ I (i + 1) acc δ2 ∧ SS X.K W H' (L2.wipe σ vs) δ2 (π ++ ν ++ [(some (.ref Da), .ow (Ot.flat acc))]), fun H' ⟨acc', δ4, l4, iv4, s4⟩ => ⟨_, by omega, rfl, hlt, acc', δ4, l4, iv4, s4⟩, fun x H' hy => ?_⟩
    have s3 := yld x H' hy
    refine ⟨δ2, _, _, (π ++ ν ++ [(some (V.ref Da), Sl.ow (Ot.flat acc))]).length, δ3, snoc_last, s3, g3, fun σ2 w s4 => ?_⟩
    have ew : L2.wipe σ2 vs = L2.wipe σ vs := by rw [wipe_sub w hw, wipe_wipe]
    refine ⟨ew, δ3, _, _, _, s4, b3, fun bb δ4 q H3 s5 => ?_, fun _ _ q => q.elim⟩
    have back : ∀ {H' : Hp} {δ5 : List Sl} {ρ : List Cell}, SS X.K W H' σ2 δ5 ρ → SS X.K W H' (L2.wipe σ vs) (wipeD δ5 vs) ρ := fun {H' δ5 ρ} z => by
      have := z.wipe h0
      rw [ew] at this
      exact this
    cases bb with
    | false =>
      have q1 : I (i + 1) acc (wipeD δ4 vs) := q
      exact iteF ⟨acc, _, by omega, q1, back s5.drop⟩
    | true =>
      have q1 : te δ4 (fun rv δ5 => rv.isIn = true ∧ I (i + 1) (acc ++ [rv.get]) (wipeD δ5 vs)) noX := q
      refine iteT ?_
      refine ⟨δ4, _, _, _, s5, q1, fun rv δ5 q2 y H4 s6 => ?_, fun _ _ q => q.elim⟩
      have s7 := s6.shr q2.1
      obtain ⟨S, F, z⟩ := s7.st
      have eD : (σ2.zip δ5 ++ (π ++ ν ++ [(some (V.ref Da), Sl.ow (Ot.flat acc))] ++ [(some x, Sl.sh its[i])] ++ [(some y, Sl.sh rv.get)]))[(σ2.zip δ5 ++ (π ++ ν)).length]? = some (some (V.ref Da), Sl.ow (Ot.flat acc)) := by
        rw [List.append_assoc (π ++ ν), List.append_assoc (π ++ ν), ← List.append_assoc (σ2.zip δ5), List.getElem?_append_right (Nat.le_refl _), Nat.sub_self]
        rfl
      have ry : Rp X.K S H4 y rv.get := by
        obtain ⟨u, eu, r⟩ := z.sh (σ2.zip δ5 ++ (π ++ ν ++ [(some (V.ref Da), Sl.ow (Ot.flat acc))] ++ [(some x, Sl.sh its[i])])).length _ _ (by rw [← List.append_assoc]; exact snoc_last)
        cases eu
        exact r
      obtain ⟨pD, xs, ep, hl, rx, nw⟩ := z.mut eD
      cases ep
      refine ⟨xs, hl, ?_, acc ++ [rv.get], _, by rw [List.length_append, List.length_cons, List.length_nil]; omega, q2.2, back ?_⟩
      · rw [rx.length]
        exact Nat.lt_of_le_of_lt (show acc.length ≤ 1000000 by omega) (by decide)
      · have z2 := nw (xs ++ [y]) (acc ++ [rv.get]) (rx.append (.cons ry .nil))
        rw [List.append_assoc (π ++ ν), List.append_assoc (π ++ ν), ← List.append_assoc (σ2.zip δ5), List.set_append_right _ _ (Nat.le_refl _), Nat.sub_self] at z2
        have z3 : StF X.K W (upd H4 Da (.lst (xs ++ [y]))) ((σ2.zip δ5 ++ (π ++ ν)) ++ ([(some (V.ref Da), Sl.ow (Ot.flat (acc ++ [rv.get])))] ++ [(some x, Sl.sh its[i]), (some y, Sl.sh rv.get)])) S F := z2
        have z4 : VL.St X.K W (upd H4 Da (.lst (xs ++ [y]))) (((σ2.zip δ5 ++ (π ++ ν)) ++ [(some (V.ref Da), Sl.ow (Ot.flat (acc ++ [rv.get])))]) ++ [(some x, Sl.sh its[i]), (some y, Sl.sh rv.get)]) := ⟨S, F, by rw [List.append_assoc]; exact z3⟩
        refine ⟨s7.len, s7.io, ?_⟩
        have z5 := VL.St.drop z4
        rw [List.append_assoc (σ2.zip δ5)] at z5
        exact z5
  · obtain rfl : i = its.length := by omega
    refine .inl ⟨iok.stop (L2.wipe σ vs) δ2 H2 π _ _ s2 (Nat.le_refl _), k _ _ (last _ _ iv) _ _ ?_⟩
    exact (s2.mid).unwipe s1.io
end
end VL

/-! ## VL11 -/
set_option Elab.async false
set_option linter.all false
set_option autoImplicit false
set_option maxRecDepth 100000
set_option maxHeartbeats 4000000
namespace VL
open PySem PySem.Spec PyProof.Rows L2

section
variable {X : Cx} {W : Wd} {wx : WX} {K : PySem.W.Frag} {H H' : Hp} {σ : L2.St} {δ δ' : List Sl} {S : Addr → Prop}
theorem OpR.or {f : Value → Value → Sem Value} {r r' : R2} (h : OpR X f r) (h' : OpR X f r') : OpR X f (fun x y H Q => r x y H Q ∨ r' x y H Q) :=
  fun pins s σ H x y v u Q I rx ry q => q.elim (h pins s σ H x y v u Q I rx ry) (h' pins s σ H x y v u Q I rx ry)
theorem CallR.or {f : Value} {r r' : List V → Hp → VK → Prop} (h : CallR X f r) (h' : CallR X f r') : CallR X f (fun x H Q => r x H Q ∨ r' x H Q) :=
  fun pins s σ H x v Q I rx q => q.elim (h pins s σ H x v Q I rx) (h' pins s σ H x v Q I rx)

/-! ### numbers -/
def fAdd : D → D → Option Sl
  | .int i, .int j => some (.sh (.int (i + j)))
  | .str a, .str b => if a.length + b.length ≤ 1000000 then some (.sh (.str (a ++ b))) else none
  | .tuple a, .tuple b => if a.length + b.length ≤ 1000000 then some (.sh (.tuple (a ++ b))) else none
  | _, _ => none
theorem le_line {n : Nat} (h : n ≤ 1000000) : n ≤ sizeLine := Nat.le_trans h (by decide)
theorem okS_app {a b : Str} (ha : okS a = true) (hb : okS b = true) (h : a.length + b.length ≤ 1000000) : okS (a ++ b) = true := by
  unfold okS PyData.strOk at *
  rw [Bool.and_eq_true] at *
  refine ⟨?_, decide_eq_true ?_⟩
  · show (a.cps ++ b.cps).all _ = true
    rw [Array.all_append, ha.1, hb.1]
    rfl
  · show (a.cps ++ b.cps).size ≤ sizeLine
    rw [Array.size_append]
    exact le_line h
theorem op_addV : OpR X (binaryOp .Add) (fun x y H Q => (∃ i j, x = .int i ∧ y = .int j ∧ Q (.int (i + j)) H) ∨ ((∃ i j, x = .str i ∧ y = .str j ∧ i.length + j.length ≤ sizeLine ∧ Q (.str (i ++ j)) H) ∨ rCatA X.K x y H Q)) := op_add.or (op_add_str.or op_catA)
theorem snd_add : Snd2 K (fun x y H Q => (∃ i j, x = .int i ∧ y = .int j ∧ Q (.int (i + j)) H) ∨ ((∃ i j, x = .str i ∧ y = .str j ∧ i.length + j.length ≤ sizeLine ∧ Q (.str (i ++ j)) H) ∨ rCatA K x y H Q)) fAdd := by
  intro S H x y d e res Q hx hy hf hq
  cases d with
  | int i =>
    cases e with
    | int j =>
      cases hf
      exact .inl ⟨i, j, hx.int, hy.int, hq _ _ (.old (.int _))⟩
    | _ => cases hf
  | str a =>
    cases e with
    | str b =>
      have hf' : (if a.length + b.length ≤ 1000000 then some (Sl.sh (.str (a ++ b))) else none) = some res := hf
      by_cases h : a.length + b.length ≤ 1000000
      · rw [if_pos h] at hf'
        cases hf'
        exact .inr (.inl ⟨a, b, hx.str, hy.str, le_line h, hq _ _ (.old (.str _ (okS_app hx.okS hy.okS h)))⟩)
      · rw [if_neg h] at hf'; cases hf'
    | _ => cases hf
  | tuple a =>
    cases e with
    | tuple b =>
      have hf' : (if a.length + b.length ≤ 1000000 then some (Sl.sh (.tuple (a ++ b))) else none) = some res := hf
      by_cases h : a.length + b.length ≤ 1000000
      · rw [if_pos h] at hf'
        cases hf'
        obtain ⟨p, xs, rfl, h1, h2⟩ := hx.tup
        obtain ⟨q, ys, rfl, h3, h4⟩ := hy.tup
        refine .inr (.inr ⟨p, q, xs, ys, rfl, rfl, h1, h3, by rw [h2.length, h4.length]; exact le_line h, fun e1 => ?_, fun _ e2 => ?_, fun _ _ r hr => hq _ _ (.tup hr (h2.append h4))⟩)
        · subst e1
          cases a with
          | nil =>
            rcases hy with hy | ⟨_, _, _, _, e, _⟩
            · exact hq _ _ (.old hy)
            · cases e
          | cons _ _ => cases h2
        · subst e2
          cases b with
          | nil =>
            rw [List.append_nil] at *
            rcases hx with hx | ⟨_, _, _, _, e, _⟩
            · exact hq _ _ (.old hx)
            · cases e
          | cons _ _ => cases h4
      · rw [if_neg h] at hf'; cases hf'
    | _ => cases hf
  | _ => cases e <;> cases hf
/-- an operation on two ints, asked under a condition -/
def fI (c : Int → Int → Bool) (g : Int → Int → D) : D → D → Option Sl
  | .int i, .int j => if c i j = true then some (.sh (g i j)) else none
  | _, _ => none
theorem snd_I {C : Int → Int → Prop} {c : Int → Int → Bool} {g : Int → Int → V} {gd : Int → Int → D} (hc : ∀ i j, c i j = true → C i j) (hg : ∀ i j S H, Rp K S H (g i j) (gd i j)) : Snd2 K (rI C g) (fI c gd) := by
  intro S H x y d e res Q hx hy hf hq
  cases d with
  | int i =>
    cases e with
    | int j =>
      have hf' : (if c i j = true then some (Sl.sh (gd i j)) else none) = some res := hf
      by_cases h : c i j = true
      · rw [if_pos h] at hf'
        cases hf'
        exact ⟨i, j, hx.int, hy.int, hc i j h, hq _ _ (.old (hg i j S H))⟩
      · rw [if_neg h] at hf'; cases hf'
    | _ => cases hf
  | _ => cases e <;> cases hf
theorem snd_I0 {g : Int → Int → V} {gd : Int → Int → D} (hg : ∀ i j S H, Rp K S H (g i j) (gd i j)) : Snd2 K (rI0 g) (fI (fun _ _ => true) gd) := by
  intro S H x y d e res Q hx hy hf hq
  obtain ⟨i, j, e1, e2, _, q⟩ := snd_I (K := K) (C := fun _ _ => True) (c := fun _ _ => true) (g := g) (gd := gd) (fun _ _ _ => trivial) hg S H x y d e res Q hx hy hf hq
  exact ⟨i, j, e1, e2, q⟩
abbrev fSub := fI (fun _ _ => true) (fun i j => .int (i - j))
def cMul (i j : Int) : Bool := decide ((-(2 ^ 64) < i ∧ i < 2 ^ 64) ∨ (-(2 ^ 64) < j ∧ j < 2 ^ 64))
abbrev fMul := fI cMul (fun i j => .int (i * j))
abbrev fMod := fI (fun _ j => decide (0 < j)) (fun i j => .int (i % j))
def cDivD (_ j : Int) : Bool := decide (0 < j ∧ j.natAbs.log2 < 9000)
abbrev fFdv := fI cDivD (fun i j => .int (i / j))
abbrev fLt := fI (fun _ _ => true) (fun i j => .bool (decide (i < j)))
abbrev fLe := fI (fun _ _ => true) (fun i j => .bool (decide (i ≤ j)))
abbrev fGt := fI (fun _ _ => true) (fun i j => .bool (decide (j < i)))
abbrev fGe := fI (fun _ _ => true) (fun i j => .bool (decide (j ≤ i)))
theorem snd_sub : Snd2 K (rI0 fun i j => .int (i - j)) fSub := snd_I0 fun _ _ _ _ => .int _
theorem snd_mul : Snd2 K (rI CMul fun i j => .int (i * j)) fMul := snd_I (fun i j h => (of_decide_eq_true h : (-(2 ^ 64) < i ∧ i < 2 ^ 64) ∨ (-(2 ^ 64) < j ∧ j < 2 ^ 64))) fun _ _ _ _ => .int _
theorem snd_mod : Snd2 K (rI (fun _ j => 0 < j) fun i j => .int (i % j)) fMod := snd_I (fun i j h => of_decide_eq_true h) fun _ _ _ _ => .int _
theorem snd_fdv : Snd2 K (rI CDivW fun i j => .int (i / j)) fFdv := snd_I (fun i j h => (of_decide_eq_true h : 0 < j ∧ j.natAbs.log2 < 9000)) fun _ _ _ _ => .int _
theorem snd_lt : Snd2 K (rI0 fun i j => .bl (decide (i < j))) fLt := snd_I0 fun _ _ _ _ => .bl _
theorem snd_le : Snd2 K (rI0 fun i j => .bl (decide (i ≤ j))) fLe := snd_I0 fun _ _ _ _ => .bl _
theorem snd_gt : Snd2 K (rI0 fun i j => .bl (decide (j < i))) fGt := snd_I0 fun _ _ _ _ => .bl _
theorem snd_ge : Snd2 K (rI0 fun i j => .bl (decide (j ≤ i))) fGe := snd_I0 fun _ _ _ _ => .bl _
def fNeg : D → Option Sl
  | .int i => some (.sh (.int (-i)))
  | _ => none
theorem snd_neg : Snd1 K (rU fun i => .int (-i)) fNeg := by
  intro S H x d res Q hx hf hq
  cases d with
  | int i => cases hf; exact ⟨i, hx.int, hq _ _ (.old (.int _))⟩
  | _ => cases hf
def fAbs : D → Option Sl
  | .int i => some (.sh (.int (if i < 0 then -i else i)))
  | _ => none
theorem snd_abs : Snd1 K (fun v H Q => ∃ i, [v] = [V.int i] ∧ Q (.int (if i < 0 then -i else i)) H) fAbs := by
  intro S H x d res Q hx hf hq
  cases d with
  | int i => cases hf; exact ⟨i, by rw [hx.int], hq _ _ (.old (.int _))⟩
  | _ => cases hf
def fInt : D → Option Sl
  | .int i => some (.sh (.int i))
  | .bool b => some (.sh (.int (if b then 1 else 0)))
  | _ => none
theorem snd_int : Snd1 K (fun v H Q => (∃ i, [v] = [V.int i] ∧ Q (.int i) H) ∨ ∃ k, [v] = [V.bl k] ∧ Q (.int (if k then 1 else 0)) H) fInt := by
  intro S H x d res Q hx hf hq
  cases d with
  | int i => cases hf; exact .inl ⟨i, by rw [hx.int], hq _ _ (.old (.int _))⟩
  | bool b => cases hf; exact .inr ⟨b, by rw [hx.bool], hq _ _ (.old (.int _))⟩
  | _ => cases hf
def fMin2 : D → D → Option Sl := fI (fun _ _ => true) (fun i j => .int (if j < i then j else i))
def fMax2 : D → D → Option Sl := fI (fun _ _ => true) (fun i j => .int (if j > i then j else i))
theorem snd_min2 : Snd2 K (fun v u H Q => ∃ i j, [v, u] = [V.int i, V.int j] ∧ Q (.int (if j < i then j else i)) H) fMin2 := by
  intro S H x y d e res Q hx hy hf hq
  obtain ⟨i, j, rfl, rfl, q⟩ := snd_I0 (K := K) (g := fun i j => .int (if j < i then j else i)) (gd := fun i j => .int (if j < i then j else i)) (fun _ _ _ _ => .int _) S H x y d e res Q hx hy hf hq
  exact ⟨i, j, rfl, q⟩
theorem snd_max2 : Snd2 K (fun v u H Q => ∃ i j, [v, u] = [V.int i, V.int j] ∧ Q (.int (if j > i then j else i)) H) fMax2 := by
  intro S H x y d e res Q hx hy hf hq
  obtain ⟨i, j, rfl, rfl, q⟩ := snd_I0 (K := K) (g := fun i j => .int (if j > i then j else i)) (gd := fun i j => .int (if j > i then j else i)) (fun _ _ _ _ => .int _) S H x y d e res Q hx hy hf hq
  exact ⟨i, j, rfl, q⟩

/-! ### == and != of data -/
mutual
theorem Rp.lay : ∀ (d : D) (v : V), Rp K S H v d → d.canLay0 = true
  | .none, _, _ => by simp only [PyData.canLay0]
  | .bool _, _, _ => by simp only [PyData.canLay0]
  | .int _, _, _ => by simp only [PyData.canLay0]
  | .str x, _, h => by
    cases h with
    | str _ h =>
      unfold okS at h
      rw [Bool.and_eq_true] at h
      simp only [PyData.canLay0]
      exact h.1
  | .list ds, _, h => by
    cases h with
    | lst h1 h2 => simp only [PyData.canLay0]; exact Rps.lay ds _ h2
  | .tuple ds, _, h => by
    cases h with
    | tup h1 h2 => simp only [PyData.canLay0]; exact Rps.lay ds _ h2
  | .dict _, _, h => by cases h
theorem Rps.lay : ∀ (ds : List D) (vs : List V), Rps K S H vs ds → PyData.canLayAll0 ds = true
  | [], _, _ => by simp only [PyData.canLayAll0]
  | d :: ds, _, h => by
    cases h with
    | cons h1 h2 => simp only [PyData.canLayAll0]; rw [Rp.lay d _ h1, Rps.lay ds _ h2]; rfl
end
theorem Rq.lay {v : V} {d : D} (h : Rq K S H v d) : d.canLay0 = true := by
  rcases h with h | ⟨p, xs, ds, rfl, rfl, h1, h2⟩
  · exact Rp.lay d v h
  · simp only [PyData.canLay0]; exact Rps.lay ds xs h2
def dep (d : D) : Bool := decide (d.depth ≤ 64)
theorem Rq.shaped {v : V} {d : D} (h : Rq K S H v d) (q : dep d = true) : SeqAt.shaped d = true := by
  show (d.canLay0 && decide (d.depth ≤ 64)) = true
  rw [h.lay]
  exact q
def fEq (d e : D) : Option Sl := if (dep d && dep e) = true then some (.sh (.bool (PyData.eqv d e))) else none
def fNe (d e : D) : Option Sl := if (dep d && dep e) = true then some (.sh (.bool (!PyData.eqv d e))) else none
theorem snd_eq : Snd2 K (rEqD K) fEq := by
  intro S H x y d e res Q hx hy hf hq
  have hf' : (if (dep d && dep e) = true then some (Sl.sh (.bool (PyData.eqv d e))) else none) = some res := hf
  by_cases h : (dep d && dep e) = true
  · rw [if_pos h] at hf'
    cases hf'
    rw [Bool.and_eq_true] at h
    exact ⟨d, e, hx.dp, hy.dp, hx.shaped h.1, hy.shaped h.2, hq _ _ (.old (.bl _))⟩
  · rw [if_neg h] at hf'; cases hf'
theorem snd_ne : Snd2 K (rNeD K) fNe := by
  intro S H x y d e res Q hx hy hf hq
  have hf' : (if (dep d && dep e) = true then some (Sl.sh (.bool (!PyData.eqv d e))) else none) = some res := hf
  by_cases h : (dep d && dep e) = true
  · rw [if_pos h] at hf'
    cases hf'
    rw [Bool.and_eq_true] at h
    exact ⟨d, e, hx.dp, hy.dp, hx.shaped h.1, hy.shaped h.2, hq _ _ (.old (.bl _))⟩
  · rw [if_neg h] at hf'; cases hf'
/-- is None -/
def isNon : D → Bool
  | .none => true
  | _ => false
def fIsN (d e : D) : Option Sl := if isNon e = true then some (.sh (.bool (isNon d))) else none
def fNotN (d e : D) : Option Sl := if isNon e = true then some (.sh (.bool (!isNon d))) else none
theorem Rq.isN {v : V} {d : D} (h : Rq K S H v d) : decide (v = .non) = isNon d := by
  rcases h with h | ⟨p, xs, ds, rfl, rfl, h1, h2⟩
  · cases h <;> rfl
  · rfl
theorem Rq.isN' {v : V} {d : D} (h : Rq K S H v d) (q : isNon d = true) : v = .non := by
  rw [← h.isN] at q
  exact of_decide_eq_true q
theorem snd_isN : Snd2 K rIsN fIsN := by
  intro S H x y d e res Q hx hy hf hq
  have hf' : (if isNon e = true then some (Sl.sh (.bool (isNon d))) else none) = some res := hf
  by_cases h : isNon e = true
  · rw [if_pos h] at hf'
    cases hf'
    refine ⟨hy.isN' h, ?_⟩
    rw [hx.isN]
    exact hq _ _ (.old (.bl _))
  · rw [if_neg h] at hf'; cases hf'
theorem snd_notN : Snd2 K rNotN fNotN := by
  intro S H x y d e res Q hx hy hf hq
  have hf' : (if isNon e = true then some (Sl.sh (.bool (!isNon d))) else none) = some res := hf
  by_cases h : isNon e = true
  · rw [if_pos h] at hf'
    cases hf'
    refine ⟨hy.isN' h, ?_⟩
    rw [hx.isN]
    exact hq _ _ (.old (.bl _))
  · rw [if_neg h] at hf'; cases hf'
end
end VL

/-! ## VL12 -/
set_option Elab.async false
set_option linter.all false
set_option autoImplicit false
set_option maxRecDepth 100000
set_option maxHeartbeats 4000000
namespace VL
open PySem PySem.Spec PyProof.Rows L2

section
variable {X : Cx} {W : Wd} {wx : WX} {K : PySem.W.Frag} {H H' : Hp} {σ : L2.St} {δ δ' : List Sl} {π : List Cell} {S : Addr → Prop} {e a b c : Expr} {es : List Expr} {t u : VT} {ts : VTs} {pos p apos cpos : Pos}
/-! ### len, items -/
def fLen : D → Option Sl
  | .str x => some (.sh (.int x.length))
  | .list ds => some (.sh (.int ds.length))
  | .tuple ds => some (.sh (.int ds.length))
  | _ => none
theorem okS_len {x : Str} (h : okS x = true) : x.length ≤ sizeLine := by
  unfold okS at h
  rw [Bool.and_eq_true] at h
  exact of_decide_eq_true h.2
theorem snd_len : Snd1 K (fun v H Q => ∃ x n, [v] = [x] ∧ LenV K x H n ∧ Q (.int n) H) fLen := by
  intro S H x d res Q hx hf hq
  cases d with
  | str z =>
    cases hf
    refine ⟨x, z.length, rfl, ?_, hq _ _ (.old (.int _))⟩
    rw [hx.str]
    exact ⟨okS_len hx.okS, rfl⟩
  | list ds =>
    cases hf
    obtain ⟨p, xs, rfl, h1, h2⟩ := hx.list
    exact ⟨_, ds.length, rfl, .inl ⟨xs, h1, h2.length.symm⟩, hq _ _ (.old (.int _))⟩
  | tuple ds =>
    cases hf
    obtain ⟨p, xs, rfl, h1, h2⟩ := hx.tup
    exact ⟨_, ds.length, rfl, .inr ⟨xs, h1, h2.length.symm⟩, hq _ _ (.old (.int _))⟩
  | _ => cases hf
/-- xs[i], also from the end -/
def fIx : D → D → Option Sl
  | .list ds, .int i => (L2.atI ds i).map Sl.sh
  | .tuple ds, .int i => (L2.atI ds i).map Sl.sh
  | .str x, .int i => (L2.atI x.cps.toList i).map fun c => .sh (.str ⟨#[c]⟩)
  | _, _ => none
theorem Rps.atI {vs : List V} {ds : List D} {i : Int} {d : D} (r : Rps K S H vs ds) (h : L2.atI ds i = some d) : ∃ v, L2.atI vs i = some v ∧ Rp K S H v d := by
  unfold L2.atI at *
  rw [r.length]
  obtain ⟨j, h1, h2⟩ := Option.bind_eq_some_iff.mp h
  obtain ⟨v, h3, h4⟩ := r.get h2
  exact ⟨v, by rw [h1]; exact h3, h4⟩
theorem atI_mem {α : Type} {l : List α} {i : Int} {x : α} (h : L2.atI l i = some x) : x ∈ l := by
  unfold L2.atI at h
  obtain ⟨j, h1, h2⟩ := Option.bind_eq_some_iff.mp h
  exact List.mem_of_getElem? h2
theorem snd_ix : Snd2 K (fun x y H Q => rIxL K x y H Q ∨ (rIxT K x y H Q ∨ rIxS x y H Q)) fIx := by
  intro S H x y d e res Q hx hy hf hq
  cases e with
  | int i =>
    have ey := hy.int
    subst ey
    cases d with
    | list ds =>
      have hf' : (L2.atI ds i).map Sl.sh = some res := hf
      obtain ⟨z, h1, rfl⟩ := Option.map_eq_some_iff.mp hf'
      obtain ⟨p, xs, rfl, h2, h3⟩ := hx.list
      obtain ⟨v, h4, h5⟩ := h3.atI h1
      exact .inl ⟨p, xs, i, v, rfl, rfl, h2, h4, hq _ _ (.old h5)⟩
    | tuple ds =>
      have hf' : (L2.atI ds i).map Sl.sh = some res := hf
      obtain ⟨z, h1, rfl⟩ := Option.map_eq_some_iff.mp hf'
      obtain ⟨p, xs, rfl, h2, h3⟩ := hx.tup
      obtain ⟨v, h4, h5⟩ := h3.atI h1
      exact .inr (.inl ⟨p, xs, i, v, rfl, rfl, h2, h4, hq _ _ (.old h5)⟩)
    | str x0 =>
      have hf' : ((L2.atI x0.cps.toList i).map fun c => Sl.sh (.str ⟨#[c]⟩)) = some res := hf
      obtain ⟨z, h1, rfl⟩ := Option.map_eq_some_iff.mp hf'
      exact .inr (.inr ⟨x0, i, z, hx.str, rfl, okS_len hx.okS, h1, hq _ _ (.old (.str _ (okS_sign hx.okS (atI_mem h1))))⟩)
    | _ => cases hf
  | _ => cases d <;> cases hf

/-! ### slices -/
def cutD (ds : List D) (lo hi : Option Int) : List D := (ds.drop (HT.sIx ds.length 0 lo)).take (HT.sIx ds.length ds.length hi - HT.sIx ds.length 0 lo)
def cutT (x : Str) (lo hi : Option Int) : Str := cutS x lo hi
def slD (d : D) (l h : Option Int) : Option Sl := match d with
  | .list ds => some (.ow (Ot.flat (cutD ds l h)))
  | .tuple ds => some (.sh (.tuple (cutD ds l h)))
  | .str x => some (.sh (.str (cutT x l h)))
  | _ => none
def fSlB (d lo hi : D) : Option Sl := match lo, hi with
  | .int l, .int h => slD d (some l) (some h)
  | _, _ => none
def fSlL (d lo : D) : Option Sl := match lo with
  | .int l => slD d (some l) none
  | _ => none
def fSlU (d hi : D) : Option Sl := match hi with
  | .int h => slD d none (some h)
  | _ => none
def fSl0 (d : D) : Option Sl := slD d none none
def rSlV (K : PySem.W.Frag) : V → Option Int → Option Int → Hp → VK → Prop := fun x lo hi H Q => rSlL K x lo hi H Q ∨ (rSlA K x lo hi H Q ∨ rSlS x lo hi H Q)
theorem sl_V : SlR X (rSlV X.K) := sl_list.or (sl_tupA.or sl_str)
theorem Rps.cut {vs : List V} {ds : List D} (r : Rps K S H vs ds) (lo hi : Option Int) : Rps K S H (cutV vs lo hi) (cutD ds lo hi) := by
  unfold cutV cutD
  rw [r.length]
  exact (r.drop _).take _
theorem okS_cut {x : Str} {lo hi : Option Int} (h : okS x = true) : okS (cutT x lo hi) = true := by
  unfold okS PyData.strOk at *
  rw [Bool.and_eq_true] at *
  obtain ⟨h1, h2⟩ := h
  have h2 := of_decide_eq_true h2
  unfold cutT cutS
  refine ⟨?_, decide_eq_true ?_⟩
  · simp only [Array.all_eq_true_iff_forall_mem] at h1 ⊢
    intro y hy
    simp only [List.mem_toArray] at hy
    exact h1 y (by simpa using List.mem_of_mem_drop (List.mem_of_mem_take hy))
  · show (List.toArray _).size ≤ _
    rw [List.size_toArray, List.length_take, List.length_drop, Array.length_toList]
    have : x.cps.size ≤ sizeLine := h2
    omega
theorem snd_sl {x : V} {d : D} {l h : Option Int} {res : Sl} {Q : VK} (hx : Rq K S H x d) (hf : slD d l h = some res) (hq : ∀ v H', NewV K S H v H' res → Q v H') : rSlV K x l h H Q := by
  cases d with
  | list ds =>
    cases hf
    obtain ⟨p, xs, rfl, h1, h2⟩ := hx.list
    exact .inl ⟨p, xs, rfl, h1, fun q hq' => hq _ _ (.lst hq' (h2.cut l h))⟩
  | tuple ds =>
    cases hf
    obtain ⟨p, xs, rfl, h1, h2⟩ := hx.tup
    refine .inr (.inl ⟨p, xs, rfl, h1, fun hw => ?_, fun _ q hq' => hq _ _ (.tup hq' (h2.cut l h))⟩)
    have e : cutD ds l h = ds := by
      unfold cutD
      rw [← h2.length, hw.1, hw.2, List.drop_zero, Nat.sub_zero, h2.length]
      exact List.take_of_length_le (Nat.le_refl _)
    rw [e] at hq
    rcases hx with hx | ⟨_, _, _, _, e, _⟩
    · exact hq _ _ (.old hx)
    · cases e
  | str z =>
    cases hf
    exact .inr (.inr ⟨z, hx.str, okS_len hx.okS, hq _ _ (.old (.str _ (okS_cut hx.okS)))⟩)
  | _ => cases hf
def vSlB (a b c : Opr) : VT := fun δ Q Xc => a.ev δ (fun ra δ1 => b.ev δ1 (fun rb δ2 => ∃ i, b.fin rb δ2 = some (.int i) ∧ c.ev δ2 (fun rc δ3 => ∃ x j r, a.fin ra δ3 = some x ∧ c.fin rc δ3 = some (.int j) ∧ slD x (some i) (some j) = some r ∧ Q r δ3) Xc) Xc) Xc
theorem ve_slB {lo hi : Expr} {oa ob oc : Opr} {p2 : Pos} (ha : VO X W wx a oa) (hb : VO X W wx lo ob) (hc : VO X W wx hi oc) : VE X W wx (.Subscript a (.Slice (some lo) (some hi) none p2) pos) (vSlB oa ob oc) := by
  obtain ⟨ta, A⟩ := ha
  obtain ⟨tb, B⟩ := hb
  obtain ⟨tc, C⟩ := hc
  refine ⟨PE.imp (pe_slice sl_V A.pe (po_some B.pe) (po_some C.pe)) fun σ H Q ⟨δ, π, Qd, Xd, s, h, k, xr⟩ => ?_⟩
  refine A.run σ H δ π _ Xd _ s h xr fun ra δ1 q v H1 s1 i1 => ?_
  refine B.run σ H1 δ1 _ _ Xd _ s1 q xr.more fun rb δ2 q u H2 s2 i2 => ?_
  obtain ⟨i, eb, q⟩ := q
  have eu : u = .int i := by
    obtain ⟨S, F, y⟩ := s2.st
    exact (Opr.read (ρ := []) s2.len y i2 eb).int
  refine ⟨i, eu, ?_⟩
  refine C.run σ H2 δ2 _ _ Xd _ s2 q xr.more.more fun rc δ3 q w H3 s3 i3 => ?_
  obtain ⟨x, j, r, e1, e2, e3, q⟩ := q
  obtain ⟨S, F, zz⟩ := s3.st
  refine ⟨j, (Opr.read (ρ := []) s3.len zz i3 e2).int, ?_⟩
  have z2 : StF X.K W H3 (σ.zip δ3 ++ ((π ++ [(some v, ra)]) ++ ((some u, rb) :: [(some w, rc)]))) S F := by
    rw [List.append_assoc (π ++ [(some v, ra)])] at zz
    exact zz
  have z1 : StF X.K W H3 (σ.zip δ3 ++ (π ++ ((some v, ra) :: [(some u, rb), (some w, rc)]))) S F := by
    rw [List.append_assoc π] at z2
    exact z2
  exact snd_sl (Opr.read s3.len z1 i1 e1) e3 fun v' H' nv => k _ _ q _ _ (s3.drop.drop.drop.new (SS.restrict (SS.restrict (SS.restrict zz))) nv)
theorem ve_slL {lo : Expr} {oa ob : Opr} {p2 : Pos} (ha : VO X W wx a oa) (hb : VO X W wx lo ob) : VE X W wx (.Subscript a (.Slice (some lo) none none p2) pos) (v2 fSlL oa ob) := by
  obtain ⟨ta, A⟩ := ha
  obtain ⟨tb, B⟩ := hb
  refine ⟨PE.imp (pe_slice sl_V A.pe (po_some B.pe) po_none) fun σ H Q h => ?_⟩
  refine run2 (r := fun x y H Q => ∃ i, y = .int i ∧ rSlV X.K x (some i) none H Q) A B ?_ h
  intro S H x y d e res Q hx hy hf hq
  cases e with
  | int i => exact ⟨i, hy.int, snd_sl hx hf hq⟩
  | _ => cases hf
theorem ve_slU {hi : Expr} {oa ob : Opr} {p2 : Pos} (ha : VO X W wx a oa) (hb : VO X W wx hi ob) : VE X W wx (.Subscript a (.Slice none (some hi) none p2) pos) (v2 fSlU oa ob) := by
  obtain ⟨ta, A⟩ := ha
  obtain ⟨tb, B⟩ := hb
  refine ⟨PE.imp (pe_slice sl_V A.pe po_none (po_some B.pe)) fun σ H Q h => ?_⟩
  refine run2 (r := fun x y H Q => ∃ i, y = .int i ∧ rSlV X.K x none (some i) H Q) A B ?_ h
  intro S H x y d e res Q hx hy hf hq
  cases e with
  | int i => exact ⟨i, hy.int, snd_sl hx hf hq⟩
  | _ => cases hf
theorem ve_sl0 {oa : Opr} {p2 : Pos} (ha : VO X W wx a oa) : VE X W wx (.Subscript a (.Slice none none none p2) pos) (v1 fSl0 oa) := by
  obtain ⟨ta, A⟩ := ha
  refine ⟨PE.imp (pe_slice sl_V A.pe po_none po_none) fun σ H Q h => ?_⟩
  refine run1 (r := fun x H Q => rSlV X.K x none none H Q) A ?_ h
  intro S H x d res Q hx hf hq
  exact snd_sl hx hf hq

/-! ### in -/
def oneS (x : Str) : Option Nat := match x.cps.toList with
  | [c] => some c
  | _ => none
theorem oneS_of {x : Str} {c : Nat} (h : oneS x = some c) : x = ⟨#[c]⟩ := by
  unfold oneS at h
  obtain ⟨⟨l⟩⟩ := x
  simp only at h
  split at h
  · cases h
    rfl
  · cases h
/-- x in y: a sign in a text; data in a list -/
def fIn (d e : D) : Option Sl := match e with
  | .str y => (match d with
    | .str x => (oneS x).map fun c => .sh (.bool (decide (c ∈ y.cps.toList)))
    | _ => none)
  | .list es => if (dep d && dep (.list es)) = true then some (.sh (.bool (es.any fun z => PyData.eqv z d))) else none
  | _ => none
def fNotIn (d e : D) : Option Sl := match e with
  | .str y => (match d with
    | .str x => (oneS x).map fun c => .sh (.bool (!decide (c ∈ y.cps.toList)))
    | _ => none)
  | .list es => if (dep d && dep (.list es)) = true then some (.sh (.bool (!es.any fun z => PyData.eqv z d))) else none
  | _ => none
def rInV (K : PySem.W.Frag) : R2 := fun x y H Q => rInS x y H Q ∨ rInD K x y H Q
def rNotInV (K : PySem.W.Frag) : R2 := fun x y H Q => rNotInS x y H Q ∨ rNotInD K x y H Q
theorem op_inV (hu : X.A.units + 65 < cLine) : OpR X (compareOp .In) (rInV X.K) := op_inS.or (op_inD hu)
theorem op_notInV (hu : X.A.units + 65 < cLine) : OpR X (compareOp .NotIn) (rNotInV X.K) := op_notInS.or (op_notInD hu)
theorem snd_in : Snd2 K (rInV K) fIn := by
  intro S H x y d e res Q hx hy hf hq
  cases e with
  | str z =>
    cases d with
    | str w =>
      have hf' : ((oneS w).map fun c => Sl.sh (.bool (decide (c ∈ z.cps.toList)))) = some res := hf
      obtain ⟨c, h1, rfl⟩ := Option.map_eq_some_iff.mp hf'
      exact .inl ⟨c, z, by rw [hx.str, oneS_of h1], hy.str, hq _ _ (.old (.bl _))⟩
    | _ => cases hf
  | list es =>
    have hf' : (if (dep d && dep (.list es)) = true then some (Sl.sh (.bool (es.any fun z => PyData.eqv z d))) else none) = some res := hf
    by_cases h : (dep d && dep (.list es)) = true
    · rw [if_pos h] at hf'
      cases hf'
      rw [Bool.and_eq_true] at h
      exact .inr ⟨d, es, hx.dp, hy.dp, hx.shaped h.1, hy.shaped h.2, hq _ _ (.old (.bl _))⟩
    · rw [if_neg h] at hf'; cases hf'
  | _ => cases d <;> cases hf
theorem snd_notIn : Snd2 K (rNotInV K) fNotIn := by
  intro S H x y d e res Q hx hy hf hq
  cases e with
  | str z =>
    cases d with
    | str w =>
      have hf' : ((oneS w).map fun c => Sl.sh (.bool (!decide (c ∈ z.cps.toList)))) = some res := hf
      obtain ⟨c, h1, rfl⟩ := Option.map_eq_some_iff.mp hf'
      exact .inl ⟨c, z, by rw [hx.str, oneS_of h1], hy.str, hq _ _ (.old (.bl _))⟩
    | _ => cases hf
  | list es =>
    have hf' : (if (dep d && dep (.list es)) = true then some (Sl.sh (.bool (!es.any fun z => PyData.eqv z d))) else none) = some res := hf
    by_cases h : (dep d && dep (.list es)) = true
    · rw [if_pos h] at hf'
      cases hf'
      rw [Bool.and_eq_true] at h
      exact .inr ⟨d, es, hx.dp, hy.dp, hx.shaped h.1, hy.shaped h.2, hq _ _ (.old (.bl _))⟩
    · rw [if_neg h] at hf'; cases hf'
  | _ => cases d <;> cases hf

/-! ### list(x), tuple(x), join -/
def fList : D → Option Sl
  | .list ds => some (.ow (Ot.flat ds))
  | .tuple ds => some (.ow (Ot.flat ds))
  | _ => none
theorem snd_list : Snd1 K (fun v H Q => ∃ p ys, [v] = [V.ref p] ∧ (SqL K H p ys ∨ SqT K H p ys) ∧ ∀ l, H l = none → Q (.ref l) (upd H l (.lst ys))) fList := by
  intro S H x d res Q hx hf hq
  cases d with
  | list ds =>
    cases hf
    obtain ⟨p, xs, rfl, h1, h2⟩ := hx.list
    exact ⟨p, xs, rfl, .inl h1, fun l hl => hq _ _ (.lst hl h2)⟩
  | tuple ds =>
    cases hf
    obtain ⟨p, xs, rfl, h1, h2⟩ := hx.tup
    exact ⟨p, xs, rfl, .inr h1, fun l hl => hq _ _ (.lst hl h2)⟩
  | _ => cases hf
def fTuple : D → Option Sl
  | .list ds => some (.sh (.tuple ds))
  | .tuple ds => some (.sh (.tuple ds))
  | _ => none
theorem snd_tuple : Snd1 K (fun v H Q => ∃ p ys, [v] = [V.ref p] ∧ ((SqL K H p ys ∧ ∀ l, H l = none → Q (.ref l) (upd H l (.tup ys))) ∨ (SqT K H p ys ∧ Q (.ref p) H))) fTuple := by
  intro S H x d res Q hx hf hq
  cases d with
  | list ds =>
    cases hf
    obtain ⟨p, xs, rfl, h1, h2⟩ := hx.list
    exact ⟨p, xs, rfl, .inl ⟨h1, fun l hl => hq _ _ (.tup hl h2)⟩⟩
  | tuple ds =>
    cases hf
    obtain ⟨p, xs, rfl, h1, h2⟩ := hx.tup
    refine ⟨p, xs, rfl, .inr ⟨h1, ?_⟩⟩
    rcases hx with hx | ⟨_, _, _, _, e, _⟩
    · exact hq _ _ (.old hx)
    · cases e
  | _ => cases hf
end
end VL

/-! ## VL13 -/
set_option Elab.async false
set_option linter.all false
set_option autoImplicit false
set_option maxRecDepth 100000
set_option maxHeartbeats 4000000
namespace VL
open PySem PySem.Spec PyProof.Rows L2

section
variable {X : Cx} {W : Wd} {wx : WX} {K : PySem.W.Frag} {H H' : Hp} {σ : L2.St} {δ δ' : List Sl} {π : List Cell} {S : Addr → Prop} {e a b c : Expr} {es : List Expr} {t u : VT} {ts : VTs} {pos p apos cpos : Pos}
/-! ### join -/
def strs? : List D → Option (List Str)
  | [] => some []
  | .str x :: r => (strs? r).map (x :: ·)
  | _ :: _ => none
theorem strs?_of : ∀ {ds : List D} {ys : List Str}, strs? ds = some ys → ds = ys.map PyData.str
  | [], ys, h => by cases h; rfl
  | .str x :: r, ys, h => by
    obtain ⟨zs, h1, h2⟩ := Option.map_eq_some_iff.mp (show (strs? r).map (x :: ·) = some ys from h)
    subst h2
    rw [strs?_of h1]
    rfl
  | .none :: _, _, h => by cases h
  | .bool _ :: _, _, h => by cases h
  | .int _ :: _, _, h => by cases h
  | .list _ :: _, _, h => by cases h
  | .tuple _ :: _, _, h => by cases h
  | .dict _ :: _, _, h => by cases h
theorem strs?_map : ∀ ys : List Str, strs? (ys.map PyData.str) = some ys
  | [] => rfl
  | y :: ys => by rw [List.map_cons, strs?, strs?_map ys]; rfl
def joinS (a : Str) (ys : List Str) : Str := Txt.join a ys
def fJoin (a : Str) (d : D) : Option Sl := match d with
  | .list ds => (strs? ds).bind fun ys => if (ys.map (·.length)).sum + ys.length * a.length ≤ 1000000 then some (.sh (.str (joinS a ys))) else none
  | .tuple ds => (strs? ds).bind fun ys => if (ys.map (·.length)).sum + ys.length * a.length ≤ 1000000 then some (.sh (.str (joinS a ys))) else none
  | _ => none
theorem mem_joinL {S : List Nat} {c : Nat} : ∀ {ps : List (List Nat)}, c ∈ TL.joinL S ps → c ∈ S ∨ ∃ p ∈ ps, c ∈ p
  | [], h => by cases h
  | [p], h => .inr ⟨p, List.mem_singleton.mpr rfl, h⟩
  | p :: q :: r, h => by
    have h' : c ∈ p ++ (S ++ TL.joinL S (q :: r)) := h
    rcases List.mem_append.mp h' with h1 | h1
    · exact .inr ⟨p, List.mem_cons_self, h1⟩
    · rcases List.mem_append.mp h1 with h1 | h1
      · exact .inl h1
      · rcases mem_joinL h1 with h2 | ⟨x, hx, h2⟩
        · exact .inl h2
        · exact .inr ⟨x, List.mem_cons_of_mem _ hx, h2⟩
theorem len_joinL {S : List Nat} : ∀ {ps : List (List Nat)}, (TL.joinL S ps).length ≤ (ps.map (·.length)).sum + ps.length * S.length
  | [] => by simp [TL.joinL]
  | [p] => by simp [TL.joinL]
  | p :: q :: r => by
    have ih := len_joinL (S := S) (ps := q :: r)
    show (p ++ (S ++ TL.joinL S (q :: r))).length ≤ _
    rw [List.length_append, List.length_append]
    simp only [List.map_cons, List.sum_cons, List.length_cons, Nat.add_mul, Nat.one_mul] at ih ⊢
    omega
theorem joinS_codes (a : Str) (ys : List Str) : (joinS a ys).cps.toList = TL.joinL a.cps.toList (ys.map fun y => y.cps.toList) := by
  unfold joinS
  rw [TL.join_eq]
  exact TL.tl_join a ys
theorem okS_iff {x : Str} : okS x = true ↔ (∀ c ∈ x.cps.toList, c < 0x110000) ∧ x.cps.toList.length ≤ sizeLine := by
  unfold okS PyData.strOk
  rw [Bool.and_eq_true, decide_eq_true_eq, Array.all_eq_true_iff_forall_mem]
  constructor
  · rintro ⟨h1, h2⟩
    refine ⟨fun c hc => of_decide_eq_true (h1 c (by simpa using hc)), ?_⟩
    rw [Array.length_toList]
    exact h2
  · rintro ⟨h1, h2⟩
    rw [Array.length_toList] at h2
    exact ⟨fun c hc => decide_eq_true (h1 c (by simpa using hc)), h2⟩
theorem okS_join {a : Str} {ys : List Str} (ha : okS a = true) (hy : ∀ y ∈ ys, okS y = true) (h : (ys.map (·.length)).sum + ys.length * a.length ≤ 1000000) : okS (joinS a ys) = true := by
  rw [okS_iff, joinS_codes]
  refine ⟨fun c hc => ?_, ?_⟩
  · rcases mem_joinL hc with h1 | ⟨p, hp, h1⟩
    · exact (okS_iff.mp ha).1 c h1
    · obtain ⟨y, hy', rfl⟩ := List.mem_map.mp hp
      exact (okS_iff.mp (hy y hy')).1 c h1
  · refine Nat.le_trans len_joinL (le_line ?_)
    rw [List.map_map, List.length_map]
    have e : (List.map ((fun (x : List Nat) => x.length) ∘ fun (y : Str) => y.cps.toList) ys) = ys.map (·.length) := by
      apply List.map_congr_left
      intro y _
      show y.cps.toList.length = y.cps.size
      rw [Array.length_toList]
    rw [e, Array.length_toList]
    exact h
theorem ve_join {sep : Str} {oa : Opr} {j : Nat} {ps : Pos} (ha : VO X W wx e oa) (hsep : okS sep = true := by decide +kernel) (hs : starEach [e] X.env = [(false, eval e X.env)] := by rfl)
    (hbase : attributeBase (.Constant (.str sep) j ps) "join" X.env (eval (.Constant (.str sep) j ps) X.env) = eval (.Constant (.str sep) j ps) X.env := by rfl) (hline : (apos.endLine == pos.line) = true := by rfl) :
    VE X W wx (.Call (.Attribute (.Constant (.str sep) j ps) "join" apos) [e] [] pos) (v1 (fJoin sep) oa) := by
  obtain ⟨ta, A⟩ := ha
  refine ⟨PE.imp (pe_join pe_str A.pe hs hbase hline) fun σ H Q h => ⟨⟨sep, rfl⟩, ?_⟩⟩
  refine run1 (r := fun x H Q => ∃ a p, ∃ ys : List Str, V.str sep = .str a ∧ [x] = [V.ref p] ∧ (SqL X.K H p (ys.map V.str) ∨ SqT X.K H p (ys.map V.str)) ∧ (ys.map (·.length)).sum + ys.length * a.length ≤ 16777216 ∧ Q (.str (Txt.join a ys)) H) A ?_ h
  intro S H x d res Q hx hf hq
  have fin : ∀ (ds : List D) (xs : List V), Rps X.K S H xs ds → ((strs? ds).bind fun ys => if (ys.map (·.length)).sum + ys.length * sep.length ≤ 1000000 then some (Sl.sh (.str (joinS sep ys))) else none) = some res →
      ∃ ys : List Str, xs = ys.map V.str ∧ (ys.map (·.length)).sum + ys.length * sep.length ≤ 16777216 ∧ Q (.str (Txt.join sep ys)) H := fun ds xs r hh => by
    obtain ⟨ys, h1, h2⟩ := Option.bind_eq_some_iff.mp hh
    have e1 := strs?_of h1
    subst e1
    by_cases hl : (ys.map (·.length)).sum + ys.length * sep.length ≤ 1000000
    · rw [if_pos hl] at h2
      cases h2
      exact ⟨ys, r.strs_v, by omega, hq _ _ (.old (.str _ (okS_join hsep (fun y hy => r.strs_ok y hy) hl)))⟩
    · rw [if_neg hl] at h2; cases h2
  cases d with
  | list ds =>
    obtain ⟨p, xs, rfl, h1, h2⟩ := hx.list
    obtain ⟨ys, rfl, h3, h4⟩ := fin ds xs h2 hf
    exact ⟨sep, p, ys, rfl, rfl, .inl h1, h3, h4⟩
  | tuple ds =>
    obtain ⟨p, xs, rfl, h1, h2⟩ := hx.tup
    obtain ⟨ys, rfl, h3, h4⟩ := fin ds xs h2 hf
    exact ⟨sep, p, ys, rfl, rfl, .inr h1, h3, h4⟩
  | _ => cases hf

/-! ### methods that change a list -/
def mAppend : List D → List D → Option (List D × D)
  | ds, [d] => if ds.length < 1000000 then some (ds ++ [d], .none) else none
  | _, _ => none
theorem sndm_append : SndM K rAppend mAppend := by
  intro S H p xs ds vs es ds' res Q hp hx hv hf hq
  cases hv with
  | nil => cases hf
  | @cons v vs d es h1 h2 =>
    cases h2 with
    | cons _ _ => cases hf
    | nil =>
      have hf' : (if ds.length < 1000000 then some (ds ++ [d], PyData.none) else none) = some (ds', res) := hf
      by_cases h : ds.length < 1000000
      · rw [if_pos h] at hf'
        cases hf'
        exact ⟨p, xs, v, rfl, rfl, hp, by rw [hx.length]; exact Nat.lt_of_lt_of_le h (by decide), hq .non _ (hx.append (.cons h1 .nil)) .non⟩
      · rw [if_neg h] at hf'; cases hf'
def mPop : List D → List D → Option (List D × D)
  | ds, [] => ds.getLast?.map fun d => (ds.dropLast, d)
  | _, _ => none
theorem Rps.dropLast {vs : List V} {ds : List D} (r : Rps K S H vs ds) : Rps K S H vs.dropLast ds.dropLast := by
  rw [List.dropLast_eq_take, List.dropLast_eq_take, r.length]
  exact r.take _
theorem sndm_pop : SndM K rPop mPop := by
  intro S H p xs ds vs es ds' res Q hp hx hv hf hq
  cases hv with
  | cons _ _ => cases hf
  | nil =>
    obtain ⟨d, h1, h2⟩ := Option.map_eq_some_iff.mp (show (ds.getLast?.map fun d => (ds.dropLast, d)) = some (ds', res) from hf)
    cases h2
    rw [List.getLast?_eq_getElem?] at h1
    obtain ⟨v, h3, h4⟩ := hx.get h1
    exact ⟨p, xs, v, rfl, rfl, hp, by rw [hx.length]; exact h3, hq v _ hx.dropLast h4⟩
theorem Rps.eraseIdx : ∀ {vs : List V} {ds : List D} (n : Nat), Rps K S H vs ds → Rps K S H (vs.eraseIdx n) (ds.eraseIdx n)
  | _, [], _, h => by cases h; exact .nil
  | _, d :: ds, 0, h => by
    cases h with
    | cons h1 h2 => exact h2
  | _, d :: ds, n + 1, h => by
    cases h with
    | cons h1 h2 => exact .cons h1 (Rps.eraseIdx n h2)
/-- pop(0) -/
def mPop0 : List D → List D → Option (List D × D)
  | d :: ds, [.int 0] => some (ds, d)
  | _, _ => none
theorem sndm_pop0 : SndM K rPopAt mPop0 := by
  intro S H p xs ds vs es ds' res Q hp hx hv hf hq
  cases ds with
  | nil => cases hf
  | cons d ds =>
    cases hv with
    | nil => cases hf
    | @cons v vs e es h1 h2 =>
      cases h2 with
      | cons _ _ =>
        cases e with
        | int i =>
          cases i with
          | ofNat n => cases n <;> cases hf
          | negSucc n => cases hf
        | _ => cases hf
      | nil =>
        cases e with
        | int i =>
          have hi : i = 0 ∧ ds' = ds ∧ res = d := by
            cases i with
            | ofNat n =>
              cases n with
              | zero => cases hf; exact ⟨rfl, rfl, rfl⟩
              | succ n => cases hf
            | negSucc n => cases hf
          obtain ⟨rfl, rfl, rfl⟩ := hi
          cases h1
          cases hx with
          | @cons x xr _ _ h3 h4 =>
            refine ⟨p, x :: xr, 0, 0, x, rfl, rfl, hp, by decide, by decide, ?_, rfl, hq x _ h4 h3⟩
            unfold seqIndex?
            simp
        | _ => cases hf
def mReverse : List D → List D → Option (List D × D)
  | ds, [] => some (ds.reverse, .none)
  | _, _ => none
theorem sndm_reverse : SndM K rReverse mReverse := by
  intro S H p xs ds vs es ds' res Q hp hx hv hf hq
  cases hv with
  | cons _ _ => cases hf
  | nil =>
    cases hf
    exact ⟨p, xs, rfl, rfl, hp, hq .non _ hx.reverse .non⟩
end
end VL

/-! ## VL14 -/
set_option Elab.async false
set_option linter.all false
set_option autoImplicit false
set_option maxRecDepth 100000
set_option maxHeartbeats 4000000
namespace VL
open PySem PySem.Spec PyProof.Rows L2

section
variable {X : Cx} {W : Wd} {wx : WX} {K : PySem.W.Frag} {H H' : Hp} {σ : L2.St} {δ δ' : List Sl} {π : List Cell} {S : Addr → Prop} {e a b c : Expr} {es : List Expr} {t u : VT} {ts : VTs} {pos pos' p apos cpos np : Pos} {body suite : List Stmt} {pb : VSt}
/-! ### raise of an own class without fields -/
def vRaise (C : Addr) : VSt := fun E δ => E.ex ⟨C, [], []⟩ δ
theorem vs_raise {x m : Str} {C : Addr} {j : Nat} {p2 p3 : Pos} {bmB : List Value} {B newId initId : String} (F : ExcBaseFacts B newId initId bmB) (q : PySem.W.excIn X.K C bmB newId = true) (gC : X.mg x = some (.ref C)) (kC : PySem.W.keepIn X.K (.ref C) = true)
    (r : Raises X (.ref C)) (tk : Takes X wx) (hc : X.calm = true) (hg : Gl X x := by rfl) (hdb : (x == ("__debug__" : Str)) = false := by decide) : VS X W wx (.Raise (some (.Call (.Name x p) [.Constant (.str m) j p2] [] p3)) none pos) (vRaise C) :=
  ⟨PS.imp (ps_raise hc tk (pmk_own F q gC kC r hg hdb)) fun Dd σ H ⟨δ, π, E, s, h, k⟩ => k.ex σ _ _ h none H [] (by rw [shs_nil, List.append_nil]; exact s) rfl ⟨rfl, .inl ⟨rfl, rfl⟩⟩⟩

/-! ### try .. except C as e -/
def lX (K : PySem.W.Frag) (W : Wd) (i : Nat) (a : Addr) (cls : Value) (d : Option Addr) (ps : Exn → VSt) : TS := fun Dd σ H => ∃ (δ : List Sl) (π : List Cell) (E : En) (x : Exn) (vs : List V),
  SS K W H σ δ (π ++ shs vs x.vals) ∧ vs.length = x.vals.length ∧ σ[i]? = some (some (.ref a)) ∧ cls = .ref x.cls ∧ DS H d x.names vs ∧ ps x E δ ∧ EnOk K W wx0 π E Dd
structure VX (X : Cx) (W : Wd) (i : Nat) (st : List Stmt) (ps : Exn → VSt) : Prop where
  run : ∀ (a : Addr) (oe : Obj) (cls : Value) (d : Option Addr) (pn : List (Addr × Obj)), Zc cls d oe → (∃ vs, oe.data = .fields vs) → PSs (X.suite a ((a, oe) :: pn)) st (lX X.K W i a cls d ps)
def enX (E : En) (i : Nat) : En := ⟨fun δ => E.nx (δ.set i .un), E.rt, fun δ => E.bk (δ.set i .un), fun δ => E.ct (δ.set i .un), noX⟩
/-- sb: which of the classes that come are taken -/
def vTry (i : Nat) (sb : Addr → Bool → Prop) (pb : VSt) (ps : Exn → VSt) : VSt := fun E δ =>
  pb ⟨E.nx, E.rt, E.bk, E.ct, fun x δ' => i < δ'.length ∧ ∃ b, sb x.cls b ∧ (b = true → ps x (enX E i) (δ'.set i .un)) ∧ (b = false → E.ex x δ')⟩ δ
theorem SS.unput (s : SS K W H σ δ π) {i : Nat} (h0 : i ≠ 0) : SS K W H (σ.set i none) (δ.set i .un) π := by
  have := s.wipe (vs := [i]) (by simpa using fun z : 0 = i => h0 z.symm)
  exact this
theorem vs_try {i : Nat} {x n : Str} {cv : Value} {b0 : Stmt} {sb : Addr → Bool → Prop} {ps : Exn → VSt} (hs : X.stack = X.env :: X.outer) (hf : X.env.frame = some X.env.locals) (hN : X.N.Nodup) (hi : X.N[i]? = some n) (hln : X.env.kindOf n = some .local) (hc : Names X x cv) (tk : Takes X wx) (h0 : i ≠ 0)
    (hsb : ∀ C b, sb C b → PySem.W.exmOne X.K (.ref C) cv = some b)
    (hb : ∀ (w2 : WX) (pn : List (Addr × Obj)) (xe : Value → Shared → Prop), Takes (X.tr pn xe) w2 → PassesOwn (model X.prog X.w) X.A X.env xe → VSs (X.tr pn xe) W w2 body pb) (hsu : VX X W i (b0 :: suite) ps) :
    VS X W wx (.Try body [.ExceptHandler (some (.Name x np)) (some n) (b0 :: suite) pos'] [] [] pos) (vTry i sb pb ps) := by
  refine ⟨PS.imp (ps_try_as (tb := fun w2 => lS X.K W w2 pb) (ts := fun a cls d => lX X.K W i a cls d ps) hs hf hN hi hln hc tk (fun w2 pn xe t1 t2 => (hb w2 pn xe t1 t2).ps) (fun a oe cls d pn z1 z2 => hsu.run a oe cls d pn z1 z2)) fun Dd σ H ⟨δ, π, E, s, h, k⟩ => ?_⟩
  refine ⟨δ, π, _, s, h, ⟨k.nx, k.rt, k.bk, k.ct, fun σ1 x1 δ1 q d H1 vs s1 l1 ds1 => ?_⟩⟩
  obtain ⟨hil, bb, q1, q2, q3⟩ := q
  refine ⟨bb, hsb _ _ q1, fun eb a ha => ?_, fun eb => k.ex σ1 _ _ (q3 eb) d H1 vs s1 l1 ds1⟩
  have s2 := (s1.blank (v := some (.ref a))).put hil (.inl h0)
  refine ⟨δ1.set i .un, π, enX E i, x1, vs, s2, l1, ?_, rfl, ds1, q2 eb, ⟨fun δ' z σ' H' s' => ?_, k.rt, fun δ' z σ' H' s' => ?_, fun δ' z σ' H' s' => ?_, fun _ _ _ z => z.elim⟩⟩
  · rw [List.getElem?_set_self]
    rw [s1.len]
    exact hil
  · exact k.nx _ z _ _ (s'.unput h0)
  · exact k.bk _ z _ _ (s'.unput h0)
  · exact k.ct _ z _ _ (s'.unput h0)

/-! ### expressions of a suite -/
def lXE (K : PySem.W.Frag) (W : Wd) (i : Nat) (a : Addr) (cls : Value) (d : Option Addr) (t : Exn → VT) : TE := fun σ H Q => ∃ (δ : List Sl) (π : List Cell) (Qd : Sl → List Sl → Prop) (x : Exn) (vs : List V) (ρ : List Cell),
  SS K W H σ δ (π ++ shs vs x.vals ++ ρ) ∧ vs.length = x.vals.length ∧ σ[i]? = some (some (.ref a)) ∧ cls = .ref x.cls ∧ DS H d x.names vs ∧ t x δ Qd noX ∧
  ∀ rv δ', Qd rv δ' → ∀ v H', SS K W H' σ δ' (π ++ shs vs x.vals ++ ρ ++ [(some v, rv)]) → DS H' d x.names vs → Q v H'
structure XE (X : Cx) (W : Wd) (i : Nat) (e : Expr) (t : Exn → VT) : Prop where
  run : ∀ (a : Addr) (oe : Obj) (cls : Value) (d : Option Addr) (pn : List (Addr × Obj)), Zc cls d oe → (∃ vs, oe.data = .fields vs) → PE (X.suite a ((a, oe) :: pn)) e (lXE X.K W i a cls d t)
theorem xe_bl {i : Nat} {v : Bool} {j : Nat} : XE X W i (.Constant (.bool v) j pos) (fun _ => vC (.bool v)) :=
  ⟨fun a oe cls d pn z1 z2 => PE.imp pe_bl fun σ H Q ⟨δ, π, Qd, x, vs, ρ, s, l, h1, h2, ds, q, k⟩ => k _ _ q _ _ (s.push fun _ => .bl _) ds⟩
theorem xe_int {i : Nat} {v : Int} {j : Nat} : XE X W i (.Constant (.int v) j pos) (fun _ => vC (.int v)) :=
  ⟨fun a oe cls d pn z1 z2 => PE.imp pe_int fun σ H Q ⟨δ, π, Qd, x, vs, ρ, s, l, h1, h2, ds, q, k⟩ => k _ _ q _ _ (s.push fun _ => .int _) ds⟩
theorem xe_non {i : Nat} {j : Nat} : XE X W i (.Constant .none j pos) (fun _ => vC .none) :=
  ⟨fun a oe cls d pn z1 z2 => PE.imp pe_non fun σ H Q ⟨δ, π, Qd, x, vs, ρ, s, l, h1, h2, ds, q, k⟩ => k _ _ q _ _ (s.push fun _ => .non) ds⟩
theorem xe_str {i : Nat} {v : Str} {j : Nat} (hv : okS v = true := by decide +kernel) : XE X W i (.Constant (.str v) j pos) (fun _ => vC (.str v)) :=
  ⟨fun a oe cls d pn z1 z2 => PE.imp pe_str fun σ H Q ⟨δ, π, Qd, x, vs, ρ, s, l, h1, h2, ds, q, k⟩ => k _ _ q _ _ (s.push fun _ => .str _ hv) ds⟩
/-- isinstance(e, T): the exception has no fields -/
def xIs (C : Addr) (b : Bool) : Exn → VT := fun x δ Q _ => x.cls = C ∧ x.names = [] ∧ Q (.sh (.bool b)) δ
theorem xe_is {i : Nat} {C : Addr} {n T : Str} {c : V} {cv : Value} {b : Bool} {pn' pT pI : Pos} (hx : ExcC X.K C) (hT : ∀ (a : Addr) (oe : Obj) (pn : List (Addr × Obj)), PE (X.suite a ((a, oe) :: pn)) (.Name T pT) (tC c)) (hu : ∀ u, RelV c u → u = cv) (hk : PySem.W.kitOne X.K (.ref C) cv = some b)
    (hm : X.mg "isinstance" = none) (hN : X.N[i]? = some n := by rfl) (hv : Vis X.env.scope n := by first | exact Or.inl rfl | exact Or.inr (Or.inl rfl) | exact Or.inr (Or.inr rfl)) (hd : (n == ("__debug__" : Str)) = false := by decide) (hcd : (n == ("__classdict__" : Str)) = false := by decide)
    (hg : Gl X "isinstance" := by rfl) (he : starEach [.Name n pn', .Name T pT] X.env = (false, eval (.Name n pn') X.env) :: starEach [.Name T pT] X.env := by rfl) (he2 : starEach [.Name T pT] X.env = (false, eval (.Name T pT) X.env) :: starEach [] X.env := by rfl)
    (hpl : (backTo pos (starEach [.Name T pT] X.env)).any (·.1) = false := by rfl) : XE X W i (.Call (.Name "isinstance" pI) [.Name n pn', .Name T pT] [] pos) (fun x => xIs C b x) := by
  refine ⟨fun a oe cls d pn z1 z2 => ?_⟩
  cases d with
  | some dd =>
    refine ⟨fun pins sh σ H Q I hh => ?_⟩
    obtain ⟨δ, π, Qd, x, vs, ρ, s, l, h1, h2, ds, q, k⟩ := hh
    obtain ⟨_, q2, _⟩ := q
    rcases ds.2 with ⟨_, z⟩ | ⟨_, _, z, _⟩
    · cases z
    · exact absurd q2 z
  | none =>
    refine ⟨fun pins sh σ H Q I hh => ?_⟩
    obtain ⟨δ, π, Qd, x, vs, ρ, s, l, h1, h2, ds, q, k⟩ := hh
    obtain ⟨q1, q2, q3⟩ := q
    have ec : cls = .ref C := by rw [h2, q1]
    subst ec
    have P : PE (X.suite a ((a, oe) :: pn)) (.Call (.Name "isinstance" pI) [.Name n pn', .Name T pT] [] pos) (tCB (rIsE X.K C a) (tCons (tVar i) (tCons (tC c) tNil))) :=
      pe_callB (call_isE hx z1 z2) hg hm (by decide +kernel) (pa_cons (pe_var hN hv hd hcd) (pa_cons (hT a oe pn) pa_nil he2) he) (by decide) (by decide) he hpl
    refine P.run pins sh σ H Q I ⟨.ref a, h1, c, cv, b, rfl, hu, hk, k _ _ q3 _ _ (s.push fun _ => .bl _) ds⟩
theorem vx_ret {i : Nat} {t : Exn → VT} (h : XE X W i e t) : VX X W i [.Return (some e) pos] (fun x E δ => t x δ E.rt noX) :=
  ⟨fun a oe cls d pn z1 z2 => PSs.imp (pss_one (ps_ret (h.run a oe cls d pn z1 z2))) fun Dd σ H ⟨δ, π, E, x, vs, s, l, h1, h2, ds, q, k⟩ =>
    ⟨δ, π, _, x, vs, [], by rw [List.append_nil]; exact s, l, h1, h2, ds, q, fun rv δ' z v H' s' _ => by
      rw [List.append_nil] at s'
      exact k.rt _ _ z _ _ _ s'.mid⟩⟩
end
end VL

/-! ## VL15 -/
set_option Elab.async false
set_option linter.all false
set_option autoImplicit false
set_option maxRecDepth 100000
set_option maxHeartbeats 4000000
namespace VL
open PySem PySem.Spec PyProof.Rows L2
theorem hu64 {k : Nat} {A : Around} (hr : Room k A) : A.units + 64 < cLine := by
  have := hr.un
  omega
theorem hu65 {k : Nat} {A : Around} (hr : Room k A) : A.units + 65 < cLine := by
  have := hr.un
  omega
/-- what is known of an own class of exceptions without fields -/
structure ExF (K : PySem.W.Frag) (mg : Str → Option Value) (x : Str) (C : Addr) : Prop where
  q : PySem.W.excIn K C [.type "ValueError", .type "Exception", .type "BaseException", .type "object"] "ValueError.__new__" = true
  g : mg x = some (.ref C)
  k : PySem.W.keepIn K (.ref C) = true
  r1 : PySem.W.subIn K (.ref C) (.type "BaseException") = some true
  r2 : PySem.W.typeIn K (.ref C) = some (.type "type")
section
variable {X : Cx} {W : Wd} {wx : WX} {K : PySem.W.Frag} {H H' : Hp} {S : Addr → Prop} {a b : Expr} {pos : Pos}
/-! ### x += e, x -= e -/
def fAug : D → D → Option Sl
  | .int i, .int j => some (.sh (.int (i + j)))
  | .str a, .str b => if a.length + b.length ≤ 1000000 then some (.sh (.str (a ++ b))) else none
  | _, _ => none
abbrev fAuS := fI (fun _ _ => true) (fun i j => .int (i - j))
theorem ip_addV : PIp X .Add (fun x y H Q => (∃ i j, x = .int i ∧ y = .int j ∧ Q (.int (i + j)) H) ∨ rAddS x y H Q) :=
  fun pins s σ H x y v u Q I rx ry q => q.elim (ip_add pins s σ H x y v u Q I rx ry) (in_addS pins s σ H x y v u Q I rx ry)
theorem snd_aug : Snd2 K (fun x y H Q => (∃ i j, x = .int i ∧ y = .int j ∧ Q (.int (i + j)) H) ∨ rAddS x y H Q) fAug := by
  intro S H x y d e res Q hx hy hf hq
  cases d with
  | int i =>
    cases e with
    | int j =>
      cases hf
      exact .inl ⟨i, j, hx.int, hy.int, hq _ _ (.old (.int _))⟩
    | _ => cases hf
  | str a =>
    cases e with
    | str b =>
      have hf' : (if a.length + b.length ≤ 1000000 then some (Sl.sh (.str (a ++ b))) else none) = some res := hf
      by_cases h : a.length + b.length ≤ 1000000
      · rw [if_pos h] at hf'
        cases hf'
        exact .inr ⟨a, b, hx.str, hy.str, le_line h, hq _ _ (.old (.str _ (okS_app hx.okS hy.okS h)))⟩
      · rw [if_neg h] at hf'; cases hf'
    | _ => cases hf
  | _ => cases e <;> cases hf
theorem snd_auS : Snd2 K (fun x y H Q => ∃ i j, x = .int i ∧ y = .int j ∧ Q (.int (i - j)) H) fAuS := snd_sub
end
end VL

/-! ## VL16 -/
set_option Elab.async false
set_option linter.all false
set_option autoImplicit false
set_option maxRecDepth 100000
set_option maxHeartbeats 4000000
namespace VL
open PySem PySem.Spec PyProof.Rows L2
/-! ### s[::-1] of a text -/
def revS (z : Str) : Str := ⟨z.cps.toList.reverse.toArray⟩
theorem rev_idx (n : Nat) : PySem.Builtin.Str.strSliceIndices none none (-1) n = (List.range n).reverse := by
  show PySem.sliceRange ((n : Int) - 1) (-1) (-1) = _
  unfold PySem.sliceRange
  have hc : (if (-1 : Int) > 0 then (if (n : Int) - 1 < -1 then (-1 - ((n : Int) - 1) + -1 - 1) / -1 else 0) else (if (n : Int) - 1 > -1 then ((n : Int) - 1 - -1 - -1 - 1) / - -1 else 0)) = (n : Int) := by
    rw [if_neg (by decide)]
    by_cases h : (n : Int) - 1 > -1
    · rw [if_pos h, show (- -1 : Int) = 1 from rfl, Int.ediv_one]; omega
    · rw [if_neg h]; omega
  show List.map (fun k : Nat => ((n : Int) - 1 + -1 * (k : Int)).toNat) (List.range (Int.toNat (if (-1 : Int) > 0 then (if (n : Int) - 1 < -1 then (-1 - ((n : Int) - 1) + -1 - 1) / -1 else 0) else (if (n : Int) - 1 > -1 then ((n : Int) - 1 - -1 - -1 - 1) / - -1 else 0)))) = _
  rw [hc]
  apply List.ext_getElem
  · simp
  · intro i h1 h2
    simp at h1
    simp
    omega
theorem pick_rev {α : Type} (a : Array α) : (List.range a.size).reverse.filterMap (fun i => a[i]?) = a.toList.reverse := by
  rw [List.filterMap_reverse]
  congr 1
  apply List.ext_getElem?
  intro i
  have : (List.range a.size).filterMap (fun i => a[i]?) = a.toList := by
    have h : ∀ l : List α, (List.range l.length).filterMap (fun i => l[i]?) = l := by
      intro l
      induction l with
      | nil => rfl
      | cons x l ih =>
        rw [List.length_cons, List.range_succ_eq_map, List.filterMap_cons, List.filterMap_map]
        simp only [List.getElem?_cons_zero]
        congr 1
    have := h a.toList
    simpa using this
  rw [this]
section
variable {X : Cx} {W : Wd} {wx : WX} {K : PySem.W.Frag} {H H' : Hp} {S : Addr → Prop} {e a b : Expr} {pos : Pos} {te : TE}
def tRevS (te : TE) : TE := fun σ H Q => te σ H fun x H1 => ∃ z, x = .str z ∧ (revS z).length ≤ sizeLine ∧ Q (.str (revS z)) H1
theorem pe_revS {k : Nat} {p1 p2 p3 : Pos} (he : PE X e te) : PE X (.Subscript e (.Slice none none (some (.UnaryOp .USub (.Constant (.int 1) k p1) p2)) p3) pos) (tRevS te) :=
  ⟨fun pins s σ H Q I h => Subscript_ (thn (he.run pins s σ H _ I h) fun v s1 ⟨x, H1, I1, r1, z, ex, hz, q⟩ => by
    subst ex
    obtain ⟨t, rfl⟩ := r1
    refine wpAny_Slice (thn (po_none.run pins s1 σ H1 (fun o H2 => o = none ∧ H2 = H1) I1 ⟨rfl, rfl⟩) fun vl s2 ⟨o, H2, I2, pl, eo, e2⟩ => ?_)
    subst eo e2
    refine thn (po_none.run pins s2 σ H2 (fun o H3 => o = none ∧ H3 = H2) I2 ⟨rfl, rfl⟩) fun vu s3 ⟨o, H3, I3, pu, eo, e3⟩ => ?_
    subst eo e3
    refine thn ((po_some (pe_un un_neg pe_int)).run pins s3 σ H3 (fun o H4 => o = some (-1) ∧ H4 = H3) I3 ⟨1, rfl, -1, rfl, rfl, rfl⟩) fun vs s4 ⟨o, H4, I4, ps, eo, e4⟩ => ?_
    subst eo e4
    have I5 : L2.Inv X pins σ H4 { heap := s4.heap.push { cls := Value.type "slice", data := Data.fields #[vl, vu, vs] }, gens := s4.gens, drawn := s4.drawn, toks := s4.toks, os := s4.os } := Inv.kept I4 fun b ob q => Heap.get?_push_of_some _ q
    cases pl
    cases pu
    cases ps with
    | int _ ts =>
    refine tail_any (ops := [.str z t, .ref s4.heap.objs.size]) (typeIs_str _ z t) (by rfl) ?_ (by rfl)
    refine wpAny_getItem_str_slice (l := none) (u := none) (st := some (-1, ts)) (Heap.IsSliceOf.new _ _ _ _) (by rfl) ?_
    have em : sliceMade z t none none (some (-1, ts)) = Made.str (revS z) := by
      unfold sliceMade
      rw [if_neg (by
        intro h
        rw [Bool.and_eq_true] at h
        exact absurd h.1 (show ¬ (((-1 : Int) == 1) = true) by decide))]
      congr 2
      show List.toArray (List.filterMap (fun i => z.cps[i]?) (PySem.Builtin.Str.strSliceIndices none none (-1) z.length)) = _
      rw [rev_idx]
      show List.toArray (List.filterMap (fun i => z.cps[i]?) (List.range z.cps.size).reverse) = _
      rw [pick_rev]
    rw [em]
    exact ⟨hz, .str (revS z), H4, Inv.tok I5 _, ⟨_, rfl⟩, q⟩)⟩
def fRev : D → Option Sl
  | .str x => some (.sh (.str (revS x)))
  | _ => none
theorem okS_rev {x : Str} (h : okS x = true) : okS (revS x) = true := by
  unfold okS PyData.strOk at *
  rw [Bool.and_eq_true] at *
  obtain ⟨h1, h2⟩ := h
  have h2 := of_decide_eq_true h2
  unfold revS
  refine ⟨?_, decide_eq_true ?_⟩
  · simp only [Array.all_eq_true_iff_forall_mem] at h1 ⊢
    intro y hy
    simp only [List.mem_toArray, List.mem_reverse] at hy
    exact h1 y (by simpa using hy)
  · show (List.toArray _).size ≤ _
    rw [List.size_toArray, List.length_reverse, Array.length_toList]
    exact h2
theorem ve_rev {oa : Opr} {k : Nat} {p1 p2 p3 : Pos} (ha : VO X W wx a oa) : VE X W wx (.Subscript a (.Slice none none (some (.UnaryOp .USub (.Constant (.int 1) k p1) p2)) p3) pos) (v1 fRev oa) := by
  obtain ⟨ta, A⟩ := ha
  refine ⟨PE.imp (pe_revS A.pe) fun σ H Q h => ?_⟩
  refine run1 (r := fun x H Q => ∃ z, x = .str z ∧ (revS z).length ≤ sizeLine ∧ Q (.str (revS z)) H) A ?_ h
  intro S H x d res Q hx hf hq
  cases d with
  | str z =>
    cases hf
    exact ⟨z, hx.str, by have := okS_rev hx.okS; unfold okS at this; rw [Bool.and_eq_true] at this; exact of_decide_eq_true this.2, hq _ _ (.old (.str _ (okS_rev hx.okS)))⟩
  | _ => cases hf
end
end VL

/-! ## VL17 -/
set_option Elab.async false
set_option linter.all false
set_option autoImplicit false
set_option maxRecDepth 100000
set_option maxHeartbeats 4000000
namespace VL
open PySem PySem.Spec PyProof.Rows L2
/-! ### [own, shared]: a list of an owned item and a shared one -/
section
variable {X : Cx} {W : Wd} {wx : WX} {K : PySem.W.Frag} {H H' : Hp} {S : Addr → Prop} {F : Nat → List Addr} {e a b : Expr} {pos : Pos} {cs : List Cell} {t u : VT} {σ : L2.St} {δ : List Sl} {π : List Cell}
theorem StF.newP {v1 v2 : V} {o : Ot} {d : D} (x : StF K W H (cs ++ [(some v1, .ow o)] ++ [(some v2, .sh d)]) S F) {p : Addr} (hp : H p = none) :
    StF K W (upd H p (.lst [v1, v2])) (cs ++ [(some (.ref p), .ow (.lst [o, .leaf d]))]) (fun b => S b ∨ b = p) (fun i => if i = cs.length then p :: (F cs.length ++ ([] ++ [])) else F i) := by
  have y := x.more (o := .lst [v1, v2]) hp
  have ne : ∀ b, H b ≠ none → b ≠ p := fun b hb z => hb (z ▸ hp)
  have ev : Ev S H (fun b => S b ∨ b = p) (upd H p (.lst [v1, v2])) := ⟨fun b u q _ => by rw [upd_ne (ne b (by rw [q]; exact fun z => nomatch z))]; exact q, fun b hb => hb.elim .inl fun z => .inr (by rw [z]; exact hp)⟩
  have e1 : (cs ++ [(some v1, Sl.ow o)] ++ [(some v2, Sl.sh d)])[cs.length]? = some (some v1, .ow o) := snoc_old snoc_last
  have e2 : (cs ++ [(some v1, Sl.ow o)] ++ [(some v2, Sl.sh d)])[(cs ++ [(some v1, Sl.ow o)]).length]? = some (some v2, .sh d) := snoc_last
  have old : ∀ {i : Nat} {c : Cell}, cs[i]? = some c → (cs ++ [(some v1, Sl.ow o)] ++ [(some v2, Sl.sh d)])[i]? = some c := fun e => snoc_old (snoc_old e)
  have lt : ∀ {i : Nat} {c : Cell}, cs[i]? = some c → i ≠ cs.length := fun {i c} e z => by
    have := (List.getElem?_eq_some_iff.mp e).1
    omega
  have pS : ¬ S p := fun z => x.trk p z hp
  have pF : ∀ {i : Nat} {w : Option V} {q : Ot}, (cs ++ [(some v1, Sl.ow o)] ++ [(some v2, Sl.sh d)])[i]? = some (w, .ow q) → p ∉ F i := fun {i w q} e z => pS (x.fp i w q p e z).1
  have pW : W.H0 p = none := by
    cases q : W.H0 p with
    | none => rfl
    | some o => exact absurd hp (x.th p (by rw [q]; exact fun z => nomatch z))
  refine ⟨x.aw, fun b hb => ?_, fun b hb => .inl (x.sub b hb), y.kp, y.th, fun i w q e => ?_, fun i w q e => ?_, fun i w q b e hb => ?_, fun i j w q u r b n q1 q2 hb => ?_⟩
  · rcases hb with hb | hb
    · exact y.trk b hb
    · subst hb
      rw [upd_same]; exact fun z => nomatch z
  · rcases getElem?_snoc e with ⟨_, e⟩ | ⟨_, e⟩
    · obtain ⟨u, rfl, r⟩ := x.sh i w q (old e)
      exact ⟨u, rfl, Rp.ev ev q u r⟩
    · cases e
  · have up : ∀ {i : Nat} {q : Ot} {u : V}, Ow K S H u q (F i) → Ow K (fun b => S b ∨ b = p) (upd H p (.lst [v1, v2])) u q (F i) := fun {i q u} h =>
      Ow.ev ev q u _ (fun b _ o z => by rw [upd_ne (ne b (by rw [z]; exact fun z => nomatch z))]; exact z) h
    rcases getElem?_snoc e with ⟨_, e⟩ | ⟨ei, e⟩
    · obtain ⟨u, rfl, r⟩ := x.ow i w q (old e)
      rw [if_neg (lt e)]
      exact ⟨u, rfl, up r⟩
    · cases e
      rw [if_pos ei]
      obtain ⟨u1, eu1, r1⟩ := x.ow _ _ _ e1
      cases eu1
      obtain ⟨u2, eu2, r2⟩ := x.sh _ _ _ e2
      cases eu2
      refine ⟨_, rfl, .lst upd_same (.cons (up r1) (.cons (.leaf (Rp.ev ev d v2 r2)) .nil (fun b hb => nomatch hb)) (fun b _ z => nomatch z)) fun z => ?_⟩
      rw [List.append_nil, List.append_nil] at z
      exact pF e1 z
  · rcases getElem?_snoc e with ⟨_, e⟩ | ⟨ei, e⟩
    · rw [if_neg (lt e)] at hb
      obtain ⟨h1, h2⟩ := x.fp i w q b (old e) hb
      exact ⟨.inl h1, h2⟩
    · rw [if_pos ei, List.append_nil, List.append_nil] at hb
      rcases List.mem_cons.mp hb with rfl | hb
      · exact ⟨.inr rfl, .inr pW⟩
      · obtain ⟨h1, h2⟩ := x.fp _ _ _ b e1 hb
        exact ⟨.inl h1, h2⟩
  · rcases getElem?_snoc q1 with ⟨_, k1⟩ | ⟨ei, k1⟩
    · rw [if_neg (lt k1)] at hb
      rcases getElem?_snoc q2 with ⟨_, k2⟩ | ⟨ej, k2⟩
      · rw [if_neg (lt k2)]
        exact x.dj i j w q u r b n (old k1) (old k2) hb
      · rw [if_pos ej, List.append_nil, List.append_nil]
        intro z
        rcases List.mem_cons.mp z with z | z
        · rw [z] at hb; exact pF (old k1) hb
        · exact x.dj i cs.length w q _ _ b (lt k1) (old k1) e1 hb z
    · rw [if_pos ei, List.append_nil, List.append_nil] at hb
      rcases getElem?_snoc q2 with ⟨_, k2⟩ | ⟨ej, k2⟩
      · rw [if_neg (lt k2)]
        intro z
        rcases List.mem_cons.mp hb with hb | hb
        · rw [hb] at z; exact pF (old k2) z
        · exact x.dj j cs.length _ _ _ _ b (lt k2) (old k2) e1 z hb
      · exact absurd (ei.trans ej.symm) n
def vPair (t u : VT) : VT := fun δ Q Xc => t δ (fun ra δ1 => ∃ o, ra = .ow o ∧ u δ1 (fun rb δ2 => ∃ d, rb = .sh d ∧ Q (.ow (.lst [o, .leaf d])) δ2) Xc) Xc
theorem ve_pair (ha : VE X W wx a t) (hb : VE X W wx b u) (he : starEach [a, b] X.env = (false, eval a X.env) :: starEach [b] X.env := by rfl) (he2 : starEach [b] X.env = (false, eval b X.env) :: starEach [] X.env := by rfl) : VE X W wx (.List [a, b] pos) (vPair t u) := by
  refine ⟨PE.imp (pe_lst (pa_cons ha.pe (pa_cons hb.pe pa_nil he2) he)) fun σ H Q ⟨δ, π, Qd, Xd, s, h, kk, xr⟩ => ?_⟩
  refine ⟨δ, π, _, Xd, s, h, fun ra δ1 q v1 H1 s1 => ?_, xr⟩
  obtain ⟨o, rfl, q⟩ := q
  refine ⟨δ1, _, _, Xd, s1, q, fun rb δ2 q v2 H2 s2 => ?_, xr.more⟩
  obtain ⟨d, rfl, q⟩ := q
  refine ⟨by show 2 ≤ sizeLine; decide, fun p hp => ?_⟩
  obtain ⟨S, F, x⟩ := s2.st
  rw [← List.append_assoc, ← List.append_assoc] at x
  have y := x.newP hp
  rw [List.append_assoc] at y
  exact kk _ _ q _ _ ⟨s2.len, s2.io, _, _, y⟩
end
end VL

/-! ## VL18 -/
set_option Elab.async false
set_option linter.all false
set_option autoImplicit false
set_option maxRecDepth 100000
set_option maxHeartbeats 4000000
namespace VL
open PySem PySem.Spec PyProof.Rows L2
/-! ### _law_draw -/
abbrev stO (cs : List Int) (seed : Int) : Ot := .lst [Ot.flat (cs.map .int), .leaf (.int seed)]
def semDraw : SemIO := fun o ds Qd _ => ∃ cs seed many, o = stO cs seed ∧ ds = [.int many] ∧ 0 < many ∧ many.natAbs.log2 < 9000 ∧ ∀ r cs' seed', 0 ≤ r → r < many → Qd (.sh (.int r)) (stO cs' seed')
def rLenQ (K : PySem.W.Frag) : List V → Hp → VK → Prop := fun xs H Q => ∃ p ys, xs = [V.ref p] ∧ (SqL K H p ys ∨ SqT K H p ys) ∧ Q (V.int ys.length) H
def rIntQ : List V → Hp → VK → Prop := fun xs H Q => (∃ i, xs = [V.int i] ∧ Q (V.int i) H) ∨ ∃ k, xs = [V.bl k] ∧ Q (V.int (if k = true then 1 else 0)) H
def tDraw (K : PySem.W.Frag) : TS :=
  tSeq (tAsg (tOp (rIxL K) (tVar 0) (tC (V.int 0))) (gName 2))
  (tSeq (tWhile (tAnd (tTest (tOp (rI0 fun i j => V.bl (decide (j < i))) (tCB (rLenQ K) (tCons (tVar 2) tNil)) (tC (V.int 0)))) (tTest (tOp rEq (tOp (rIxL K) (tVar 2) (tC (V.int 0))) (tC (V.int 0)))))
    (tDrop (tBM K "list" rPopAt (tVar 2) (tCons (tC (V.int 0)) tNil))))
  (tSeq (tIfS (tTest (tOp (rI0 fun i j => V.bl (decide (j < i))) (tCB (rLenQ K) (tCons (tVar 2) tNil)) (tC (V.int 0))))
    (tSeq (tAsg (tOp (rIxL K) (tVar 2) (tC (V.int 0))) (gName 3))
    (tSeq (tAsg (tOp (rI CDivW fun i j => V.int (i / j)) (tVar 3) (tVar 1)) (gSub (tVar 2) (tC (V.int 0)) rSetL))
    (tRet (tOp (rI (fun x j => 0 < j) fun i j => V.int (i % j)) (tCB rIntQ (tCons (tVar 3) tNil)) (tVar 1)))))
    tNext)
  (tSeq (tAsg (tOp (rI (fun x j => 0 < j) fun i j => V.int (i % j)) (tCB rIntQ (tCons (tOp (rI0 fun i j => V.int (i + j)) (tOp (rI CMul fun i j => V.int (i * j)) (tOp (rIxL K) (tVar 0) (tC (V.int 1))) (tC (V.int 48271))) (tC (V.int 12345))) tNil)) (tC (V.int 2147483647))) (gName 4))
  (tSeq (tAsg (tVar 4) (gSub (tVar 0) (tC (V.int 1)) rSetL))
  (tRet (tOp (rI (fun x j => 0 < j) fun i j => V.int (i % j)) (tCB rIntQ (tCons (tOp (rI CDivW fun i j => V.int (i / j)) (tVar 4) (tC (V.int 64))) tNil)) (tVar 1)))))))
section
variable {K : PySem.W.Frag} {A : Addr → Prop} {H H' : Hp} {s c : Addr}
theorem draw_end {cs : List Int} {seed : Int} (hA : ∀ b, A b → H b ≠ none ∧ b ∉ [s, c]) (hs : H s ≠ none) (hc : H c ≠ none) (sc : s ≠ c) (kp : ∀ b, b ≠ s → b ≠ c → H' b = H b) (es : H' s = some (.lst [.ref c, .int seed])) (ec : H' c = some (.lst (cs.map V.int))) (r : Int) :
    VL.St K (wdIO H [s, c] A (.ref s)) H' [(some (.ref s), .ow (stO cs seed)), (some (.int r), .sh (.int r))] := by
  have ni : ∀ b, b ∉ [s, c] → b ≠ s ∧ b ≠ c := fun b n => ⟨fun z => n (by rw [z]; exact List.mem_cons_self), fun z => n (by rw [z]; exact List.mem_cons_of_mem _ List.mem_cons_self)⟩
  refine ⟨fun b => A b ∨ b ∈ [s, c], fun i => if i = 0 then [s, c] else [], ⟨hA, fun b hb => ?_, fun b hb => .inl hb, fun b o q n => ?_, fun b q => ?_, fun i v d q => ?_, fun i v o q => ?_, fun i v o b q hb => ?_, fun i j v o w p b n q1 q2 hb => ?_⟩⟩
  · rcases hb with hb | hb
    · obtain ⟨n1, n2⟩ := ni b (hA b hb).2
      rw [kp b n1 n2]
      exact (hA b hb).1
    · rcases List.mem_cons.mp hb with rfl | hb
      · rw [es]; exact fun z => nomatch z
      · rw [List.mem_singleton] at hb
        rw [hb, ec]; exact fun z => nomatch z
  · obtain ⟨n1, n2⟩ := ni b n
    rw [kp b n1 n2]
    exact q
  · by_cases e1 : b = s
    · rw [e1, es]; exact fun z => nomatch z
    · by_cases e2 : b = c
      · rw [e2, ec]; exact fun z => nomatch z
      · rw [kp b e1 e2]; exact q
  · match i, q with
    | 1, q => cases q; exact ⟨_, rfl, .int _⟩
    | 0, q => cases q
    | i + 2, q => simp at q
  · match i, q with
    | 0, q =>
      cases q
      refine ⟨_, rfl, ?_⟩
      have h1 : Ow K (fun b => A b ∨ b ∈ [s, c]) H' (.ref c) (Ot.flat (cs.map .int)) [c] := Ow.flat ec (Rps.ints cs)
      exact .lst (F := [c] ++ ([] ++ [])) es (.cons h1 (.cons (.leaf (.int _)) .nil (fun b hb => nomatch hb)) (fun b _ z => nomatch z)) (by simp; exact sc)
    | 1, q => cases q
    | i + 2, q => simp at q
  · match i, q with
    | 0, q => exact ⟨.inr hb, .inl hb⟩
    | 1, q => cases q
    | i + 2, q => simp at q
  · match i, j, q1, q2, n with
    | 0, 0, _, _, n => exact absurd rfl n
    | 0, 1, _, q2, _ => cases q2
    | 0, j + 2, _, q2, _ => simp at q2
    | 1, _, q1, _, _ => cases q1
    | i + 2, _, q1, _, _ => simp at q1
theorem draw_run {cs : List Int} {seed many : Int} {v0 : V} {F : List Addr} {Q : VK} (hA : ∀ b, A b → H b ≠ none ∧ b ∉ F) (hO : Ow K (fun b => A b ∨ b ∈ F) H v0 (stO cs seed) F) (m0 : 0 < many) (m1 : many.natAbs.log2 < 9000)
    (q : ∀ r cs' seed', 0 ≤ r → r < many → ∀ v H', VL.St K (wdIO H F A v0) H' [(some v0, .ow (stO cs' seed')), (some v, .sh (.int r))] → Q v H') {E : XK} {nx : L2.St → Hp → Prop} :
    tDraw K { nx := nx, rt := Q } [some v0, some (.int many), none, none, none] H := by
  cases hO with
  | @lst s xs _ F1 hs h2 h3 =>
  cases h2 with
  | @cons x1 xs1 _ _ Fa Ga o1 h2 h4 =>
  cases h2 with
  | @cons x2 xs2 _ _ Fb Gb o2 h2 h5 =>
  cases h2
  cases o2 with
  | leaf o2 =>
  cases o2
  obtain ⟨c, ys, rfl, rfl, hc, hr⟩ := o1.of_flat
  have ey := hr.ints_v
  subst ey
  have sc : s ≠ c := fun z => h3 (by rw [z]; simp)
  have eF : (s :: ([c] ++ ([] ++ [])) : List Addr) = [s, c] := rfl
  rw [eF] at hA q
  have fin : ∀ (H' : Hp) (cs' : List Int) (seed' r : Int), (∀ b, b ≠ s → b ≠ c → H' b = H b) → H' s = some (.lst [.ref c, .int seed']) → H' c = some (.lst (cs'.map V.int)) → 0 ≤ r → r < many → Q (.int r) H' := fun H' cs' seed' r k1 k2 k3 r0 r1 =>
    q r cs' seed' r0 r1 _ H' (draw_end hA (by rw [hs]; exact fun z => nomatch z) (by rw [hc]; exact fun z => nomatch z) sc k1 k2 k3 r)
  have md : ∀ i : Int, 0 ≤ i % many ∧ i % many < many := fun i => ⟨Int.emod_nonneg _ (by omega), Int.emod_lt_of_pos _ m0⟩
  unfold tDraw
  refine ⟨_, rfl, s, _, 0, .ref c, rfl, rfl, SqL.of hs, atI_nat (j := 0) rfl, ?_⟩
  refine ⟨fun m σ H1 => ∃ cs', σ = [some (.ref s), some (.int many), some (.ref c), none, none] ∧ m = cs'.length ∧ (∀ b, b ≠ s → b ≠ c → H1 b = H b) ∧ H1 s = some (.lst [.ref c, .int seed]) ∧ H1 c = some (.lst (cs'.map V.int)), ⟨_, cs, rfl, rfl, fun _ _ _ => rfl, hs, hc⟩, ?_⟩
  intro m σ H1 hW
  obtain ⟨cs1, rfl, rfl, k1, k2, k3⟩ := hW
  have out : ∀ (cs2 : List Int) (H2 : Hp), (∀ b, b ≠ s → b ≠ c → H2 b = H b) → H2 s = some (.lst [.ref c, .int seed]) → H2 c = some (.lst (cs2.map V.int)) → 
    (tSeq (tIfS (tTest (tOp (rI0 fun i j => V.bl (decide (j < i))) (tCB (rLenQ K) (tCons (tVar 2) tNil)) (tC (V.int 0))))
    (tSeq (tAsg (tOp (rIxL K) (tVar 2) (tC (V.int 0))) (gName 3))
    (tSeq (tAsg (tOp (rI CDivW fun i j => V.int (i / j)) (tVar 3) (tVar 1)) (gSub (tVar 2) (tC (V.int 0)) rSetL))
    (tRet (tOp (rI (fun x j => 0 < j) fun i j => V.int (i % j)) (tCB rIntQ (tCons (tVar 3) tNil)) (tVar 1)))))
    tNext)
  (tSeq (tAsg (tOp (rI (fun x j => 0 < j) fun i j => V.int (i % j)) (tCB rIntQ (tCons (tOp (rI0 fun i j => V.int (i + j)) (tOp (rI CMul fun i j => V.int (i * j)) (tOp (rIxL K) (tVar 0) (tC (V.int 1))) (tC (V.int 48271))) (tC (V.int 12345))) tNil)) (tC (V.int 2147483647))) (gName 4))
  (tSeq (tAsg (tVar 4) (gSub (tVar 0) (tC (V.int 1)) rSetL))
  (tRet (tOp (rI (fun x j => 0 < j) fun i j => V.int (i % j)) (tCB rIntQ (tCons (tOp (rI CDivW fun i j => V.int (i / j)) (tVar 4) (tC (V.int 64))) tNil)) (tVar 1)))))) { nx := nx, rt := Q } [some (.ref s), some (.int many), some (.ref c), none, none] H2 := by
    intro cs2 H2 k1 k2 k3
    refine ⟨_, rfl, c, _, rfl, .inl (SqL.of k3), _, _, rfl, rfl, _, rfl, ?_⟩
    cases cs2 with
    | nil =>
      rw [if_neg (by decide)]
      refine ⟨_, rfl, s, _, 1, .int seed, rfl, rfl, SqL.of k2, atI_nat (j := 1) rfl, _, _, rfl, rfl, .inr (by decide), _, _, rfl, rfl, .inl ⟨_, rfl, _, _, rfl, rfl, (by show (0 : Int) < 2147483647; decide), ?_⟩⟩
      refine ⟨_, rfl, _, rfl, s, _, 1, 1, rfl, rfl, k2, rfl, ?_⟩
      refine ⟨_, rfl, _, _, rfl, rfl, ⟨by decide, by decide⟩, .inl ⟨_, rfl, _, rfl, _, _, rfl, rfl, m0, ?_⟩⟩
      obtain ⟨r0, r1⟩ := md ((seed * 48271 + 12345) % 2147483647 / 64)
      refine fin _ [] _ _ (fun b n1 n2 => ?_) upd_same ?_ r0 r1
      · rw [upd_ne n1]; exact k1 b n1 n2
      · rw [upd_ne sc.symm]; exact k3
    | cons x r =>
      rw [if_pos (by rw [decide_eq_true_iff, List.length_map, List.length_cons]; omega)]
      refine ⟨_, rfl, c, _, 0, .int x, rfl, rfl, SqL.of k3, atI_nat (j := 0) rfl, ?_⟩
      refine ⟨_, rfl, _, rfl, _, _, rfl, rfl, ⟨m0, m1⟩, _, rfl, c, _, 0, 0, rfl, rfl, k3, by unfold ixN; rw [if_pos (by decide), if_pos (by rw [List.length_map, List.length_cons]; omega)]; rfl, ?_⟩
      refine ⟨_, rfl, .inl ⟨_, rfl, _, rfl, _, _, rfl, rfl, m0, ?_⟩⟩
      obtain ⟨r0, r1⟩ := md x
      refine fin _ (x / many :: r) seed _ (fun b n1 n2 => ?_) ?_ ?_ r0 r1
      · rw [upd_ne n2]; exact k1 b n1 n2
      · rw [upd_ne sc]; exact k2
      · rw [upd_same]; rfl
  refine ⟨_, rfl, c, _, rfl, .inl (SqL.of k3), _, _, rfl, rfl, _, rfl, ?_⟩
  cases cs1 with
  | nil =>
    rw [if_neg (by decide)]
    exact out [] H1 k1 k2 k3
  | cons x r =>
    rw [if_pos (by rw [decide_eq_true_iff, List.length_map, List.length_cons]; omega)]
    refine ⟨_, rfl, c, _, 0, .int x, rfl, rfl, SqL.of k3, atI_nat (j := 0) rfl, rfl, _, rfl, ?_⟩
    show (if decide (V.int x = V.int 0) = true then _ else _)
    by_cases hx : V.int x = V.int 0
    · rw [if_pos (decide_eq_true hx)]
      refine ⟨fun σ' H' => ∃ m', m' < (x :: r).length ∧ ∃ cs' : List Int, σ' = [some (.ref s), some (.int many), some (.ref c), none, none] ∧ m' = cs'.length ∧ (∀ b, b ≠ s → b ≠ c → H' b = H b) ∧ H' s = some (.lst [.ref c, .int seed]) ∧ H' c = some (.lst (cs'.map V.int)), fun σ' H' h => h, ?_⟩
      refine ⟨_, rfl, .inl ⟨rfl, _, SqL.of k3⟩, c, _, 0, 0, .int x, rfl, rfl, k3, by decide, by decide, ?_, rfl, ?_⟩
      · unfold seqIndex?
        show (if (decide ((0 : Int) ≤ 0) && decide ((0 : Int) < ((List.map V.int (x :: r)).length : Int))) = true then some (0 : Int).toNat else none) = some 0
        rw [if_pos (by rw [Bool.and_eq_true, decide_eq_true_iff, decide_eq_true_iff, List.length_map, List.length_cons]; omega)]
        rfl
      · refine ⟨r.length, Nat.lt_succ_self _, r, rfl, rfl, fun b n1 n2 => ?_, ?_, ?_⟩
        · rw [upd_ne n2]; exact k1 b n1 n2
        · rw [upd_ne sc]; exact k2
        · rw [upd_same]; rfl
    · rw [if_neg (fun z => hx (of_decide_eq_true z))]
      exact out (x :: r) H1 k1 k2 k3
theorem fn_draw {P : Program} {w : World} {mg : Str → Option Value} {base : Heap} {x qual : Str} {st : Stmt} {f : Addr} {fd : FuncData} (F : Fun K x qual st f fd) (S : FnScope ["state", "many", "cells", "value", "mixed"] ["state", "many"] (defScope st))
    (der : ∀ (cdv : Value) (A : Around) (outer : List Env) (s : Shared) (H : Hp) (E : XK), PassesOwn (model P w) (A.deeper (envOfC qual (defScope st) s.heap.objs.size f cdv)) (envOfC qual (defScope st) s.heap.objs.size f cdv) (cxOf (L2.CX P w) P w K mg base ["state", "many", "cells", "value", "mixed"] qual (defScope st) f cdv A outer s H E).xe →
      PSs (cxOf (L2.CX P w) P w K mg base ["state", "many", "cells", "value", "mixed"] qual (defScope st) f cdv A outer s H E) (defBody st) (tDraw K)) : FnOk P w K mg base (L2.CX P w) 1 f fd ["state", "many"] (spIO K 1 semDraw) := by
  refine F.okX S (fun vs H Q E h => ?_) (fun cdv A outer s H vs Q E hr h => ⟨tDraw K, der cdv A outer s H E (passes_of rfl), ?_⟩)
  · obtain ⟨A, Fo, v0, us, o, ds, Qd, Xd, rfl, h1, _⟩ := h
    rw [List.length_cons, h1]
    rfl
  · obtain ⟨Av, Fo, v0, us, o, ds, Qd, Xd, rfl, h1, h2, h3, h4, h5, h6, h7, h8, h9⟩ := h
    obtain ⟨cs, seed, many, rfl, rfl, m0, m1, k⟩ := h7
    cases h6 with
    | cons r1 r2 =>
    cases r1
    cases r2
    exact draw_run (E := E) h3 h5 m0 m1 (fun r cs' seed' r0 r1 v H' z => h8 _ _ (k r cs' seed' r0 r1) v H' z)
end
end VL

/-! ## VL19 -/
set_option Elab.async false
set_option linter.all false
set_option autoImplicit false
set_option maxRecDepth 100000
set_option maxHeartbeats 4000000
namespace VL
open PySem PySem.Spec PyProof.Rows L2
/-! ### texts as lists of signs -/
abbrev Sx (l : List Nat) : Str := ⟨l.toArray⟩
def tx (l : List Nat) : D := .str (Sx l)
theorem Sx_len (l : List Nat) : (Sx l).length = l.length := List.size_toArray
theorem Sx_inj {l m : List Nat} (h : Sx l = Sx m) : l = m := by
  have := congrArg (fun s : Str => s.cps.toList) h
  simpa using this
theorem Sx_app (l m : List Nat) : Sx l ++ Sx m = Sx (l ++ m) := by
  show Str.mk (l.toArray ++ m.toArray) = _
  rw [List.append_toArray]
theorem tx_len (l : List Nat) : fLen (tx l) = some (.sh (.int l.length)) := by
  show some (Sl.sh (.int ((Sx l).length : Nat))) = _
  rw [Sx_len]
theorem tx_add (l m : List Nat) (h : l.length + m.length ≤ 1000000) : fAdd (tx l) (tx m) = some (.sh (tx (l ++ m))) := by
  show (if (Sx l).length + (Sx m).length ≤ 1000000 then some (Sl.sh (.str (Sx l ++ Sx m))) else none) = _
  rw [Sx_len, Sx_len, if_pos h, Sx_app]
  rfl
def cutL (l : List Nat) (lo hi : Option Int) : List Nat := (l.drop (HT.sIx l.length 0 lo)).take (HT.sIx l.length l.length hi - HT.sIx l.length 0 lo)
theorem tx_sl (l : List Nat) (lo hi : Option Int) : slD (tx l) lo hi = some (.sh (tx (cutL l lo hi))) := by
  show some (Sl.sh (.str (cutT (Sx l) lo hi))) = _
  unfold cutT cutS tx cutL
  rw [Sx_len]
theorem tx_slU (l : List Nat) (h : Int) : fSlU (tx l) (.int h) = some (.sh (tx (cutL l none (some h)))) := tx_sl l none (some h)
theorem tx_slL (l : List Nat) (h : Int) : fSlL (tx l) (.int h) = some (.sh (tx (cutL l (some h) none))) := tx_sl l (some h) none
theorem cutL_to (l : List Nat) (b : Int) (h : 0 ≤ b) : cutL l none (some b) = l.take b.toNat := by
  obtain ⟨n, rfl⟩ := Int.eq_ofNat_of_zero_le h
  unfold cutL
  rw [HT.sIx_none, HT.sIx_nat, List.drop_zero, Nat.sub_zero, Int.toNat_natCast]
  rw [← List.take_take, List.take_length]
theorem cutL_from (l : List Nat) (b : Int) (h : 0 ≤ b) : cutL l (some b) none = l.drop b.toNat := by
  obtain ⟨n, rfl⟩ := Int.eq_ofNat_of_zero_le h
  unfold cutL
  rw [HT.sIx_none, HT.sIx_nat, Int.toNat_natCast]
  by_cases h : n ≤ l.length
  · rw [Nat.min_eq_left h, List.take_of_length_le (by rw [List.length_drop]; exact Nat.le_refl _)]
  · rw [Nat.min_eq_right (by omega), List.drop_of_length_le (i := n) (by omega), List.drop_length, List.take_nil]
theorem cutL_both (l : List Nat) (a b : Int) (h : 0 ≤ a) (h2 : 0 ≤ b) : cutL l (some a) (some b) = (l.take b.toNat).drop a.toNat := by
  obtain ⟨n, rfl⟩ := Int.eq_ofNat_of_zero_le h
  obtain ⟨m, rfl⟩ := Int.eq_ofNat_of_zero_le h2
  unfold cutL
  rw [HT.sIx_nat, HT.sIx_nat, Int.toNat_natCast, Int.toNat_natCast, List.drop_take]
  by_cases h : n ≤ l.length
  · rw [Nat.min_eq_left h]
    by_cases h3 : m ≤ l.length
    · rw [Nat.min_eq_left h3]
    · rw [Nat.min_eq_right (by omega), List.take_of_length_le (by rw [List.length_drop]; exact Nat.le_refl _), List.take_of_length_le (by rw [List.length_drop]; omega)]
  · rw [Nat.min_eq_right (a := n) (by omega), List.drop_length, List.drop_of_length_le (i := n) (by omega), List.take_nil, List.take_nil]
theorem tx_ix (l : List Nat) (i : Int) : fIx (tx l) (.int i) = (L2.atI l i).map fun c => .sh (tx [c]) := by
  show (L2.atI (Sx l).cps.toList i).map (fun c => Sl.sh (.str ⟨#[c]⟩)) = _
  rfl
theorem atI_pos {α : Type} (l : List α) (i : Int) (h : 0 ≤ i) : L2.atI l i = l[i.toNat]? := by
  obtain ⟨n, rfl⟩ := Int.eq_ofNat_of_zero_le h
  rw [Int.toNat_natCast]
  cases e : l[n]? with
  | some x => exact atI_nat e
  | none =>
    have := List.getElem?_eq_none_iff.mp e
    unfold L2.atI ixN
    rw [if_pos h, if_neg (by omega)]
    rfl
theorem atI_negV {α : Type} (l : List α) (i : Int) (h : i < 0) (h2 : -(l.length : Int) ≤ i) : L2.atI l i = l[(i + l.length).toNat]? := by
  unfold L2.atI ixN
  rw [if_neg (by omega), if_pos h2]
  rfl
theorem tx_rev (l : List Nat) : fRev (tx l) = some (.sh (tx l.reverse)) := by
  show some (Sl.sh (.str (revS (Sx l)))) = _
  unfold revS
  rw [show (Sx l).cps.toList = l from rfl]
  rfl
/-! ### equality -/
theorem eqv_tx (l m : List Nat) : PyData.eqv (tx l) (tx m) = decide (l = m) := by
  show PyData.eqv (.str (Sx l)) (.str (Sx m)) = _
  rw [show PyData.eqv (.str (Sx l)) (.str (Sx m)) = decide (Sx l = Sx m) from by simp [PyData.eqv]; rw [Bool.eq_iff_iff]; simp]
  by_cases h : l = m
  · subst h; simp
  · rw [decide_eq_false h, decide_eq_false (fun z => h (Sx_inj z))]
theorem eqv_int (i j : Int) : PyData.eqv (.int i) (.int j) = decide (i = j) := by
  rw [Bool.eq_iff_iff]; simp [PyData.eqv]
theorem eqv_tup2 (a b c d : D) : PyData.eqv (.tuple [a, b]) (.tuple [c, d]) = (PyData.eqv a c && PyData.eqv b d) := by
  simp [PyData.eqv, PyData.eqvAll]
theorem eqv_tup3 (a b c d e f : D) : PyData.eqv (.tuple [a, b, e]) (.tuple [c, d, f]) = (PyData.eqv a c && (PyData.eqv b d && PyData.eqv e f)) := by
  simp [PyData.eqv, PyData.eqvAll]
theorem dep_tx (l : List Nat) : dep (tx l) = true := by simp [dep, tx, PyData.depth]
theorem dep_int (i : Int) : dep (.int i) = true := by simp [dep, PyData.depth]
theorem dep_iit (i j : Int) (l : List Nat) : dep (.tuple [.int i, .int j, tx l]) = true := by simp [dep, tx, PyData.depth, PyData.depthAll]
theorem dep_ii (i j : Int) : dep (.tuple [.int i, .int j]) = true := by simp [dep, PyData.depth, PyData.depthAll]
theorem fEq_tx (l m : List Nat) : fEq (tx l) (tx m) = some (.sh (.bool (decide (l = m)))) := by
  unfold fEq; rw [dep_tx, dep_tx, eqv_tx]; rfl
theorem fNe_tx (l m : List Nat) : fNe (tx l) (tx m) = some (.sh (.bool (!decide (l = m)))) := by
  unfold fNe; rw [dep_tx, dep_tx, eqv_tx]; rfl
theorem fEq_int (l m : Int) : fEq (.int l) (.int m) = some (.sh (.bool (decide (l = m)))) := by
  unfold fEq; rw [dep_int, dep_int, eqv_int]; rfl
theorem fNe_int (l m : Int) : fNe (.int l) (.int m) = some (.sh (.bool (!decide (l = m)))) := by
  unfold fNe; rw [dep_int, dep_int, eqv_int]; rfl
theorem fNe_ii (i j k l : Int) : fNe (.tuple [.int i, .int j]) (.tuple [.int k, .int l]) = some (.sh (.bool (!(decide (i = k) && decide (j = l))))) := by
  unfold fNe; rw [dep_ii, dep_ii, eqv_tup2, eqv_int, eqv_int]; rfl
theorem fNe_iit (i j k l : Int) (s t : List Nat) : fNe (.tuple [.int i, .int j, tx s]) (.tuple [.int k, .int l, tx t]) = some (.sh (.bool (!(decide (i = k) && (decide (j = l) && decide (s = t)))))) := by
  unfold fNe; rw [dep_iit, dep_iit, eqv_tup3, eqv_int, eqv_int, eqv_tx]; rfl
theorem tru_bool (b : Bool) : truD (.bool b) = some b := rfl
/-! ### join of signs -/
theorem joinE : ∀ ps : List (List Nat), TL.joinL [] ps = ps.flatten
  | [] => rfl
  | [p] => by simp [TL.joinL]
  | p :: q :: r => by
    show p ++ ([] ++ TL.joinL [] (q :: r)) = _
    rw [joinE (q :: r)]
    rfl
theorem strs_tx : ∀ ls : List (List Nat), strs? (ls.map tx) = some (ls.map Sx)
  | [] => rfl
  | l :: ls => by
    rw [List.map_cons, show strs? (tx l :: ls.map tx) = (strs? (ls.map tx)).map (Sx l :: ·) from rfl, strs_tx ls]
    rfl
theorem tx_join (ls : List (List Nat)) (h : (ls.map List.length).sum ≤ 1000000) : fJoin (Str.ofString "") (.list (ls.map tx)) = some (.sh (tx ls.flatten)) := by
  unfold fJoin
  show (strs? (ls.map tx)).bind _ = _
  rw [strs_tx]
  show (if ((ls.map Sx).map (·.length)).sum + (ls.map Sx).length * (Str.ofString "").length ≤ 1000000 then some (Sl.sh (.str (joinS (Str.ofString "") (ls.map Sx)))) else none) = _
  have e0 : (Str.ofString "").length = 0 := by decide +kernel
  have e1 : (ls.map Sx).map (·.length) = ls.map List.length := by
    rw [List.map_map]
    exact List.map_congr_left fun l _ => Sx_len l
  rw [e0, Nat.mul_zero, Nat.add_zero, e1, if_pos h]
  congr 2
  unfold tx
  congr 1
  have hc := joinS_codes (Str.ofString "") (ls.map Sx)
  have e2 : (Str.ofString "").cps.toList = [] := by decide +kernel
  rw [e2, joinE] at hc
  have e3 : (ls.map Sx).map (fun y => y.cps.toList) = ls := by
    rw [List.map_map]
    exact (List.map_congr_left fun l _ => rfl).trans (List.map_id ls)
  rw [e3] at hc
  have : joinS (Str.ofString "") (ls.map Sx) = Sx ((joinS (Str.ofString "") (ls.map Sx)).cps.toList) := rfl
  rw [this, hc]
theorem tx_ixn (l : List Nat) (k : Nat) : fIx (tx l) (.int (k : Int)) = (l[k]?).map fun c => .sh (tx [c]) := by
  rw [tx_ix, atI_pos _ _ (Int.natCast_nonneg k), Int.toNat_natCast]
def slotInt (δ : List Sl) (i : Nat) : Int := match δ[i]? with
  | some (.sh (.int k)) => k
  | _ => 0
def cp : List Nat → List Nat → Nat
  | x :: xs, y :: ys => if x = y then cp xs ys + 1 else 0
  | _, _ => 0
theorem cp_le : ∀ x y, cp x y ≤ x.length ∧ cp x y ≤ y.length
  | [], y => by simp [cp]
  | x :: xs, [] => by simp [cp]
  | x :: xs, y :: ys => by
    have := cp_le xs ys
    unfold cp
    split <;> simp <;> omega
theorem cp_at : ∀ x y k, k < cp x y → x[k]? = y[k]?
  | [], y, k, h => by simp [cp] at h
  | x :: xs, [], k, h => by simp [cp] at h
  | x :: xs, y :: ys, k, h => by
    unfold cp at h
    split at h
    · rename_i e
      subst e
      cases k with
      | zero => simp
      | succ k => simpa using cp_at xs ys k (by omega)
    · omega
theorem cp_end : ∀ x y, cp x y < x.length → cp x y < y.length → x[cp x y]? ≠ y[cp x y]?
  | [], y, h, _ => by simp at h
  | x :: xs, [], _, h => by simp at h
  | x :: xs, y :: ys, h1, h2 => by
    by_cases e : x = y
    · subst e
      have e2 : cp (x :: xs) (x :: ys) = cp xs ys + 1 := by rw [cp, if_pos rfl]
      rw [e2] at h1 h2 ⊢
      simp at h1 h2 ⊢
      exact cp_end xs ys h1 h2
    · have e2 : cp (x :: xs) (y :: ys) = 0 := by rw [cp, if_neg e]
      rw [e2]
      simpa using e
theorem cp_iff {x y : List Nat} {k : Nat} (hk : k ≤ cp x y) (h1 : k < x.length) (h2 : k < y.length) : x[k] = y[k] ↔ k < cp x y := by
  constructor
  · intro e
    by_cases h : k < cp x y
    · exact h
    · have ek : k = cp x y := by omega
      subst ek
      exact absurd (by rw [List.getElem?_eq_getElem h1, List.getElem?_eq_getElem h2, e]) (cp_end x y h1 h2)
  · intro h
    have := cp_at x y k h
    rw [List.getElem?_eq_getElem h1, List.getElem?_eq_getElem h2] at this
    exact Option.some.inj this
theorem vWh_by {c : VTt} {pb : VSt} {E : En} {δ : List Sl} (I : List Sl → Prop) (μ : List Sl → Nat) (h0 : I δ) (hs : ∀ δ1, I δ1 → c δ1 (fun b δ2 => if b = true then pb ⟨fun δ' => I δ' ∧ μ δ' < μ δ1, E.rt, E.nx, fun δ' => I δ' ∧ μ δ' < μ δ1, E.ex⟩ δ2 else E.nx δ2) E.ex) : vWh c pb E δ := ⟨I, μ, h0, hs⟩
theorem tup3_0 (a b c : D) : fIx (.tuple [a, b, c]) (.int 0) = some (.sh a) := rfl
theorem tup3_1 (a b c : D) : fIx (.tuple [a, b, c]) (.int 1) = some (.sh b) := rfl
theorem tup3_2 (a b c : D) : fIx (.tuple [a, b, c]) (.int 2) = some (.sh c) := rfl
theorem lst2_0 (a b : D) : fIx (.list [a, b]) (.int 0) = some (.sh a) := rfl
theorem lst2_1 (a b : D) : fIx (.list [a, b]) (.int 1) = some (.sh b) := rfl
def LC (g : D → List Sl → Option (List Sl)) (cond : VTt) (te : VT) (vs : List Nat) (its : List D) (δ1 : List Sl) (Q : Sl → List Sl → Prop) : Prop := its.length ≤ 1000000 ∧ ∃ I : Nat → List D → List Sl → Prop, I 0 [] (wipeD δ1 vs) ∧
  (∀ k d acc δ2, its[k]? = some d → acc.length ≤ k → I k acc δ2 → ∃ δ3, g d δ2 = some δ3 ∧ cond δ3 (fun b δ4 => if b = true then te δ4 (fun rv δ5 => rv.isIn = true ∧ I (k + 1) (acc ++ [rv.get]) (wipeD δ5 vs)) noX else I (k + 1) acc (wipeD δ4 vs)) noX) ∧
  ∀ acc δ2, I its.length acc δ2 → Q (.ow (Ot.flat acc)) δ2
def FO (g : D → List Sl → Option (List Sl)) (pb : VSt) (E : En) (its : List D) (δ1 : List Sl) : Prop := ∃ I : Nat → List Sl → Prop, I 0 δ1 ∧
  (∀ k d δ2, its[k]? = some d → I k δ2 → ∃ δ3, g d δ2 = some δ3 ∧ pb ⟨I (k + 1), E.rt, E.nx, I (k + 1), E.ex⟩ δ3) ∧ ∀ δ2, I its.length δ2 → E.nx δ2
theorem vLc_eq (it : VTs) (g : D → List Sl → Option (List Sl)) (cond : VTt) (te : VT) (vs : List Nat) (δ : List Sl) (Q : Sl → List Sl → Prop) (Xc : Exn → List Sl → Prop) : vLc it g cond te vs δ Q Xc = it δ (fun its δ1 => LC g cond te vs its δ1 Q) Xc := rfl
theorem vFor_eq (it : VTs) (g : D → List Sl → Option (List Sl)) (pb : VSt) (E : En) (δ : List Sl) : vFor it g pb E δ = it δ (fun its δ1 => FO g pb E its δ1) E.ex := rfl
theorem LC_by {g : D → List Sl → Option (List Sl)} {cond : VTt} {te : VT} {vs : List Nat} {its : List D} {δ1 : List Sl} {Q : Sl → List Sl → Prop} (I : Nat → List D → List Sl → Prop) (hl : its.length ≤ 1000000) (h0 : I 0 [] (wipeD δ1 vs))
    (hs : ∀ k d acc δ2, its[k]? = some d → acc.length ≤ k → I k acc δ2 → ∃ δ3, g d δ2 = some δ3 ∧ cond δ3 (fun b δ4 => if b = true then te δ4 (fun rv δ5 => rv.isIn = true ∧ I (k + 1) (acc ++ [rv.get]) (wipeD δ5 vs)) noX else I (k + 1) acc (wipeD δ4 vs)) noX)
    (he : ∀ acc δ2, I its.length acc δ2 → Q (.ow (Ot.flat acc)) δ2) : LC g cond te vs its δ1 Q := ⟨hl, I, h0, hs, he⟩
theorem FO_by {g : D → List Sl → Option (List Sl)} {pb : VSt} {E : En} {its : List D} {δ1 : List Sl} (I : Nat → List Sl → Prop) (h0 : I 0 δ1)
    (hs : ∀ k d δ2, its[k]? = some d → I k δ2 → ∃ δ3, g d δ2 = some δ3 ∧ pb ⟨I (k + 1), E.rt, E.nx, I (k + 1), E.ex⟩ δ3) (he : ∀ δ2, I its.length δ2 → E.nx δ2) : FO g pb E its δ1 := ⟨I, h0, hs, he⟩
theorem rngD_len (lo : Int) (n : Nat) : (rngD lo n).length = n := by unfold rngD; rw [List.length_map, List.length_range]
theorem leaves_tx (ls : List (List Nat)) : Ot.leaves? (ls.map (Ot.leaf ∘ tx)) = some (ls.map tx) := by
  rw [← List.map_map, leaves_map]
theorem tup3_to2 (a b c : D) : fSlU (.tuple [a, b, c]) (.int 2) = some (.sh (.tuple [a, b])) := rfl
theorem cutL_fromN (l : List Nat) (b : Nat) : cutL l (some (b : Int)) none = l.drop b := by
  rw [cutL_from _ _ (Int.natCast_nonneg b), Int.toNat_natCast]
theorem fAug_int (i j : Int) : fAug (.int i) (.int j) = some (.sh (.int (i + j))) := rfl
theorem fAdd_int (i j : Int) : fAdd (.int i) (.int j) = some (.sh (.int (i + j))) := rfl
end VL

/-! ## VL20 -/
set_option Elab.async false
set_option linter.all false
set_option autoImplicit false
set_option maxRecDepth 100000
set_option maxHeartbeats 4000000
namespace VL
open PySem PySem.Spec PyProof.Rows L2
theorem cx_no {P : Program} {w : World} {o : List Env} {H : Hp} {s : Shared} {u : Value} {s' : Shared} (h : L2.CX P w o H s (fun _ _ _ => False) u s') : False := by
  obtain ⟨_, _, _, _, _, _, _, _, _, _, _, _, h⟩ := h
  exact h
theorem ints_in {K : PySem.W.Frag} {H : Hp} {a : Addr} {ns : List Int} (h : SqL K H a (ns.map V.int)) : Rp K (fun _ => False) H (.ref a) (.list (ns.map .int)) :=
  .lst (h.elim (fun h => .inl ⟨h, fun z => z⟩) fun h => .inr (.inr h)) (Rps.ints ns)
theorem law_in {K : PySem.W.Frag} {sem : SemV} {H : Hp} {a : Addr} {ns : List Int} (hS : SqL K H a (ns.map V.int)) (h : sem [.list (ns.map .int)] (fun rv => rv = .sh (.bool true)) (fun _ => False)) :
    spV K 1 sem [V.ref a] H (fun v x => v = V.bl true) (fun _ _ _ => False) := by
  refine ⟨fun _ => False, [.list (ns.map .int)], _, _, rfl, rfl, fun _ z => z.elim, .cons (ints_in hS) .nil, h, fun rv hrv v H' z => ?_, fun _ z => z.elim⟩
  subst hrv
  obtain ⟨S, F, y⟩ := z
  obtain ⟨u, eu, r⟩ := y.sh 0 _ _ rfl
  cases eu
  cases r
  rfl
theorem exm_cls {K : PySem.W.Frag} {C T : Addr} (h1 : PySem.W.subIn K (.ref T) (.type "BaseException") = some true) (h2 : PySem.W.isClsIn K T = true) (h3 : PySem.W.typeIn K (.ref T) = some (.type "type")) (h4 : PySem.W.subIn K (.ref C) (.ref T) = some true) : PySem.W.exmOne K (.ref C) (.ref T) = some true := by
  have h2' : (PySem.W.clsIn K T).isSome = true := h2
  unfold PySem.W.exmOne PySem.W.kitCls
  rw [if_pos (by rw [h1]; rfl)]
  show (if ((PySem.W.clsIn K T).isSome && PySem.W.typeIn K (Value.ref T) == some (Value.type "type")) = true then PySem.W.subIn K (.ref C) (Value.ref T) else none) = _
  rw [if_pos (by rw [h2', h3]; rfl), h4]
theorem kit_cls {K : PySem.W.Frag} {C T : Addr} (h2 : PySem.W.isClsIn K T = true) (h3 : PySem.W.typeIn K (.ref T) = some (.type "type")) (h4 : PySem.W.subIn K (.ref C) (.ref T) = some true) : PySem.W.kitOne K (.ref C) (.ref T) = some true := by
  have h2' : (PySem.W.clsIn K T).isSome = true := h2
  unfold PySem.W.kitOne PySem.W.kitCls
  split
  · rfl
  · show (if ((PySem.W.clsIn K T).isSome && PySem.W.typeIn K (Value.ref T) == some (Value.type "type")) = true then PySem.W.subIn K (.ref C) (Value.ref T) else none) = _
    rw [if_pos (by rw [h2', h3]; rfl), h4]
end VL

/-! ## VL21 -/
set_option Elab.async false
set_option linter.all false
set_option autoImplicit false
set_option maxRecDepth 100000
set_option maxHeartbeats 4000000
namespace VL
open PySem PySem.Spec PyProof.Rows L2
/-! ### enumerate(text) -/
def ItEs (x : Str) : It where
  go := fun i _ => i < x.cps.size
  yld := fun i H v H' => ∃ (T : Addr) (c : Nat), v = .ref T ∧ H T = none ∧ H' = upd H T (.tup [.int i, .str ⟨#[c]⟩]) ∧ x.cps[i]? = some c
  stop := fun i _ => x.cps.size ≤ i
theorem turn_enumS {P : Program} {w : World} {K : PySem.W.Frag} {elts : List Expr} {kk : Nat} {tpos : Pos} (x : Str) (t : Tok) (e it : Addr) (ty : String) (hty : ty = "str_ascii_iterator" ∨ ty = "str_iterator") :
    Turn P w K (.Tuple elts kk tpos) (ItEs x) [e, it] e (fun i h => (∃ old, IsEnum h e it (i : Int) old) ∧ h.IsStrIter it ty x t i ∧ e ≠ it ∧ i ≤ x.cps.size) := by
  have dr : ∀ {A : Around}, A.handled = none → Draws P w A it [it] x.cps.size (fun i v => ∃ c u, x.cps[i]? = some c ∧ v = Value.str { cps := #[c] } u) (fun i h => h.IsStrIter it ty x t i) := fun {A} hA => by
    rcases hty with rfl | rfl
    · exact Draws.strAscii hA it x t
    · exact Draws.strWide hA it x t
  have me : e ∈ [e, it] := List.mem_cons_self
  have mi : it ∈ [e, it] := List.mem_cons_of_mem _ List.mem_cons_self
  have cs : ∀ {b : Addr}, b ∈ [e, it] → b = e ∨ b = it := fun {b} hb => by simpa using hb
  refine ⟨me, fun i h st b hb => ?_, fun i h h' st k => ?_, fun X hP hw hK hc i pins s σ H E I hf st hg => ?_, fun X hP hw hK hc i pins s σ H E I hf st hg => ?_, fun A i s Q E st h => ?_⟩
  · obtain ⟨⟨old, he⟩, ⟨o, ho, _, hd⟩, _⟩ := st
    rcases cs hb with rfl | rfl
    · exact ⟨_, he, fun v q => nomatch q⟩
    · exact ⟨o, ho, fun v q => by rw [hd] at q; cases q⟩
  · obtain ⟨⟨old, he⟩, ⟨o, ho, hc, hd⟩, hne, hle⟩ := st
    exact ⟨⟨old, k e me _ he⟩, ⟨o, k it mi _ ho, hc, hd⟩, hne, hle⟩
  · subst hP hw hK
    obtain ⟨⟨old, he⟩, hit, hne, hle⟩ := st
    have hel := Heap.lt_size he
    have hil : it < s.heap.objs.size := by
      obtain ⟨o, ho, _⟩ := hit
      exact Heap.lt_size ho
    refine wpAny_pyNext_enum_itemD (dr (A := X.A.in1) (I.ok.hd hc)) he hit hg hne (by simpa using hne) fun xv h' tk px ho hit' hT hsz hk => ?_
    obtain ⟨c, u, hcx, rfl⟩ := px
    refine ⟨_, rfl, wpAny_letOwnedTupleGo_enum ho fun h'' he' sb => ?_⟩
    have hT2 := (sb.2 s.heap.objs.size (Nat.ne_of_gt hel)).trans hT
    have new : ObjOk X.prog X.w (upd H s.heap.objs.size (.tup [.int i, .str ⟨#[c]⟩])) h'' s.heap.objs.size (.tup [.int i, .str ⟨#[c]⟩]) :=
      ⟨by show 2 ≤ sizeLine; decide, [Value.int (i : Int) tk, Value.str { cps := #[c] } u], .cons ⟨tk, rfl⟩ (.cons ⟨u, rfl⟩ .nil), _, hT2, rfl, 0, rfl⟩
    have I1 := Inv.turnedNew (t' := tk + 1) (ch := [e, it]) I (fun b ob hb q => (sb.2 b fun z => hb (z ▸ me)).trans (hk b ob (fun z => hb (z ▸ me)) (fun z => hb (z ▸ mi)) q)) hf (Nat.le_refl s.heap.objs.size) new
    refine ⟨.ref s.heap.objs.size, _, I1, rfl, ⟨s.heap.objs.size, c, rfl, HOk.fresh I.hok (Nat.le_refl _), rfl, hcx⟩, ⟨⟨_, by
      have e1 : ((i + 1 : Nat) : Int) = (i : Int) + 1 := by omega
      rw [e1]
      exact he'⟩, ?_, hne, hg⟩, fun b hb => ?_⟩
    · obtain ⟨o, ho2, q1, q2⟩ := hit'
      exact ⟨o, (sb.2 it (Ne.symm hne)).trans ho2, q1, q2⟩
    · have hb' : b < s.heap.objs.size := by
        rcases cs hb with rfl | rfl
        · exact hel
        · exact hil
      rw [upd_ne (Nat.ne_of_lt hb')]
      exact (hf b hb).1
  · subst hP hw hK
    obtain ⟨⟨old, he⟩, hit, hne, hle⟩ := st
    have hst : x.cps.size ≤ i := hg
    have hi : i = x.cps.size := Nat.le_antisymm hle hst
    subst hi
    obtain ⟨f0, f1, f2, f3, f4, f5⟩ := hf it mi
    exact wpAny_pyNext_enum_endD (dr (A := X.A.in1) (I.ok.hd hc)) he hit fun h' eb => ⟨rfl, Inv.turned I (fun b o hb q => eb b o hb q) f0 f1 f3 f4 f5⟩
  · obtain ⟨⟨old, he⟩, _⟩ := st
    exact wpAny_pyIter_enum he h
section
variable {X : Cx} {W : Wd} {wx : WX} {K : PySem.W.Frag} {H H' : Hp} {σ : L2.St} {δ δ' : List Sl} {π : List Cell} {S : Addr → Prop} {e a b c : Expr} {t u : VT} {ta : TA} {pos p : Pos}
def iEnumS (ta : TA) : TI := fun σ H R => ta σ H fun vs H1 => ∃ x, vs = [.str x] ∧ R (ItEs x) H1
theorem pi_enumS {elts : List Expr} {kk : Nat} {tpos : Pos} (hg : Gl X "enumerate") (hm : X.mg "enumerate" = none) (ha : PA X [e] ta) (hs : starEach [e] X.env = [(false, eval e X.env)] := by rfl) :
    PI X (.Tuple elts kk tpos) (.Call (.Name "enumerate" p) [e] [] pos) (iEnumS ta) :=
  ⟨fun pins s σ H R I h => Call_ (ld_blt I hg hm boot_enumerate (PyProof.Rows.callWith_type1 (thn (ha.run pos pins s σ H (fun vs H1 => ∃ x, vs = [.str x] ∧ R (ItEs x) H1) I h) fun us s1 ⟨vs, H1, I1, r1, x, ex, q⟩ => by
    subst ex
    cases r1 with
    | cons r rr =>
    cases rr
    obtain ⟨t, rfl⟩ := r
    refine call_enumerate_str fun h' he hit hsz hk => wpAny_pyIter_enum he ?_
    have I2 := Inv.kept (t' := s1.toks) I1 hk
    have hty : strIterType x = "str_ascii_iterator" ∨ strIterType x = "str_iterator" := by
      unfold strIterType
      split
      · exact .inl rfl
      · exact .inr rfl
    refine ⟨_, [s1.heap.objs.size + 1, s1.heap.objs.size], _, ItEs x, H1, rfl, I2, turn_enumS x t (s1.heap.objs.size + 1) s1.heap.objs.size (strIterType x) hty, ⟨⟨_, he⟩, hit, Nat.succ_ne_self _, Nat.zero_le _⟩, fun b hb => ?_, q⟩
    have hle : s1.heap.objs.size ≤ b := by
      rcases (show b = s1.heap.objs.size + 1 ∨ b = s1.heap.objs.size by simpa using hb) with z | z
      · rw [z]; exact Nat.le_succ _
      · rw [z]; exact Nat.le_refl _
    exact Inv.fpOk I1 hle (HOk.fresh I1.hok hle)) hs rfl) (by decide) (by decide)) rfl⟩
end
end VL

/-! ## VL22 -/
set_option Elab.async false
set_option linter.all false
set_option autoImplicit false
set_option maxRecDepth 100000
set_option maxHeartbeats 4000000
namespace VL
open PySem PySem.Spec PyProof.Rows L2
section
variable {X : Cx} {W : Wd} {wx : WX} {K : PySem.W.Frag} {H H' : Hp} {σ : L2.St} {δ δ' : List Sl} {π : List Cell} {S : Addr → Prop} {a b c : Expr} {t u : VT} {pos p : Pos}
/-! ### for i, c in enumerate(text) -/
theorem itok_enumS {x : Str} (ok : okS x = true) : ItOk K W (ItEs x) (enumD (signD x)) [] where
  stop := fun σ δ H π ρ i s hi => by
    rw [enumD_length] at hi
    unfold signD at hi
    rw [List.length_map, Array.length_toList] at hi
    exact hi
  go := fun σ δ H π ρ i d s hd => by
    obtain ⟨S, F, x'⟩ := s.st
    obtain ⟨y, hy, rfl⟩ := enumD_get hd
    unfold signD at hy
    rw [List.getElem?_map] at hy
    obtain ⟨c, h1, rfl⟩ := Option.map_eq_some_iff.mp hy
    have h2 : x.cps[i]? = some c := by rw [← Array.getElem?_toList]; exact h1
    refine ⟨(Array.getElem?_eq_some_iff.mp h2).1, fun z H' hz => ?_⟩
    obtain ⟨T, c', rfl, hT, rfl, e⟩ := hz
    rw [h2] at e
    cases e
    exact s.new x' (.tup hT (.cons (.int _) (.cons (.str _ (okS_sign ok (List.mem_of_getElem? h1))) .nil)))
def iEnS (t : VT) : VTs := fun δ Q Xc => vCons t vNil δ (fun ds δ' => ∃ x, ds = [.str x] ∧ Q (enumD (signD x)) δ') Xc
theorem vi_enumS {elts : List Expr} {kk : Nat} {tpos : Pos} (hm : X.mg "enumerate" = none) (he : VE X W wx a t) (hg : Gl X "enumerate" := by rfl) (hs : starEach [a] X.env = [(false, eval a X.env)] := by rfl) :
    VI X W wx (.Tuple elts kk tpos) (.Call (.Name "enumerate" p) [a] [] pos) (iEnS t) :=
  ⟨PI.imp (pi_enumS hg hm (va_cons he va_nil hs).pa hs) fun σ H R ⟨δ, π, Qd, Xd, s, h, k, xr⟩ => ⟨δ, π, _, Xd, s, h, fun ds δ' q vs H' l n s' => by
    obtain ⟨x, rfl, q⟩ := q
    obtain ⟨v, rfl⟩ := len1 l
    rw [shs_cons, shs_nil] at s'
    obtain ⟨rfl, ok⟩ := s'.str
    exact ⟨x, rfl, k _ _ q _ [] _ (by rw [List.append_nil]; exact s'.drop) (itok_enumS ok)⟩, xr⟩⟩
/-! ### list(range(n)) -/
def vLRg (t : VT) : VT := fun δ Q Xc => vCons t vNil δ (fun ds δ' => ∃ j : Int, ds = [.int j] ∧ 0 ≤ j ∧ j ≤ 1000000 ∧ Q (.ow (Ot.flat (rngD 0 j.toNat))) δ') Xc
theorem rgV_rngD (j : Int) : Rps K S H (rgV 0 j) (rngD 0 j.toNat) := by
  unfold rgV rngD
  rw [Int.sub_zero]
  have e : (List.range j.toNat).map (fun i : Nat => V.int (0 + (i : Int))) = ((List.range j.toNat).map fun i : Nat => (0 + (i : Int) : Int)).map V.int := by rw [List.map_map]; rfl
  have e2 : (List.range j.toNat).map (fun i : Nat => PyData.int (0 + (i : Int))) = ((List.range j.toNat).map fun i : Nat => (0 + (i : Int) : Int)).map PyData.int := by rw [List.map_map]; rfl
  rw [e, e2]
  exact Rps.ints _
theorem ve_lrg {p2 pos2 : Pos} (hc : X.calm = true) (hm : X.mg "list" = none) (hm2 : X.mg "range" = none) (he : VE X W wx a t) (hg : Gl X "list" := by rfl) (hg2 : Gl X "range" := by rfl) (hs : starEach [a] X.env = (false, eval a X.env) :: starEach [] X.env := by rfl)
    : VE X W wx (.Call (.Name "list" p) [.Call (.Name "range" p2) [a] [] pos2] [] pos) (vLRg t) := by
  refine ⟨PE.imp (pe_listRg hc hg hm (prg_1 hg2 hm2 he.pe hs)) fun σ H Q ⟨δ, π, Qd, Xd, s, h, k, xr⟩ => ?_⟩
  show lE X.K W wx t σ H _
  refine ⟨δ, π, _, Xd, s, h, fun rv δ1 q v H1 s1 => ?_, xr⟩
  obtain ⟨q0, j, ej, j0, j1, q⟩ := q
  have s2 := s1.shr q0
  have ej' : rv.get = .int j := (List.cons.inj ej).1
  rw [ej'] at s2
  obtain rfl := s2.int
  refine ⟨j, rfl, ⟨by omega, by omega, by omega, by omega, by omega⟩, fun p hp => ?_⟩
  obtain ⟨S, F, x⟩ := s2.st
  exact k _ _ q _ _ (s2.drop.new (SS.restrict x) (.lst hp (rgV_rngD j)))
/-! ### min of three -/
def fMin3 : D → D → D → Option Sl
  | .int i, .int j, .int k => some (.sh (.int (min (min i j) k)))
  | _, _, _ => none
theorem snd_min3 : Snd3 K (fun x y z => rNuC3 nuMin3 [x, y, z]) fMin3 := by
  intro S H x y z d e g res Q hx hy hz hf hq
  cases d with
  | int i =>
    cases e with
    | int j =>
      cases g with
      | int k =>
        cases hf
        rw [hx.int, hy.int, hz.int]
        have e1 : nuMin2 (.int i) (.int j) = some (.int (min i j)) := by
          show some (if decide (j < i) = true then V.int j else V.int i) = _
          by_cases h : j < i
          · rw [if_pos (decide_eq_true h), Int.min_eq_right (by omega)]
          · rw [if_neg (by simpa using h), Int.min_eq_left (by omega)]
        have e2 : ∀ m : Int, nuMin2 (.int m) (.int k) = some (.int (min m k)) := fun m => by
          show some (if decide (k < m) = true then V.int k else V.int m) = _
          by_cases h : k < m
          · rw [if_pos (decide_eq_true h), Int.min_eq_right (by omega)]
          · rw [if_neg (by simpa using h), Int.min_eq_left (by omega)]
        exact ⟨_, _, _, .int (min (min i j) k), rfl, by unfold nuMin3; rw [e1]; exact e2 _, hq _ _ (.old (.int _))⟩
      | _ => cases hf
    | _ => cases hf
  | _ => cases hf
theorem ve_b3 {id : String} {x : Str} {r : List V → Hp → VK → Prop} {f : D → D → D → Option Sl} {oa ob oc : Opr} (hc : CallR X (.builtin id) r) (snd : Snd3 X.K (fun x y z => r [x, y, z]) f) (hm : X.mg x = none) (hv : bootBuiltins x = some (.builtin id)) (ha : VO X W wx a oa) (hb : VO X W wx b ob) (hcc : VO X W wx c oc)
    (hg : Gl X x := by rfl) (hn : x ≠ "__name__" := by decide) (hdb : (x == ("__debug__" : Str)) = false := by decide) (he : starEach [a, b, c] X.env = (false, eval a X.env) :: starEach [b, c] X.env := by rfl) (he2 : starEach [b, c] X.env = (false, eval b X.env) :: starEach [c] X.env := by rfl)
    (he3 : starEach [c] X.env = (false, eval c X.env) :: starEach [] X.env := by rfl) (hpl : (backTo pos (starEach [b, c] X.env)).any (·.1) = false := by rfl) : VE X W wx (.Call (.Name x p) [a, b, c] [] pos) (v3 f oa ob oc) := by
  obtain ⟨ta, A⟩ := ha
  obtain ⟨tb, B⟩ := hb
  obtain ⟨tc, C⟩ := hcc
  exact ⟨PE.imp (pe_callB hc hg hm hv (pa_cons A.pe (pa_cons B.pe (pa_cons C.pe pa_nil he3) he2) he) hn hdb he hpl) fun σ H Q h => by
    show ta σ H fun x H1 => tb σ H1 fun y H2 => tc σ H2 fun z H3 => r [x, y, z] H3 Q
    exact run3 A B C snd h⟩
/-! ### a, b = x, y -/
def vPar (i j : Nat) (ts : VTs) : VSt := fun E δ => ts δ (fun ds δ' => ∃ d e, ds = [d, e] ∧ i < δ'.length ∧ j < δ'.length ∧ E.nx ((δ'.set i (.sh d)).set j (.sh e))) E.ex
theorem vs_par {i j : Nat} {x y : Str} {ts : VTs} {px py pt pt2 : Pos} {kt k2 : Nat} (hc : X.calm = true) (hN : X.N.Nodup) (hi : X.N[i]? = some x) (hj : X.N[j]? = some y) (hij : i ≠ j) (hx : X.env.scope.names.lookup x = some .local) (hy : X.env.scope.names.lookup y = some .local)
    (ha : VA X W wx [a, b] ts) (hw : swappedStores [.Tuple [.Name x px, .Name y py] kt pt] (.Tuple [a, b] k2 pt2) X.env = pure (some [x, y])) (h0 : i ≠ 0 ∨ W.io = none) (h1 : j ≠ 0 ∨ W.io = none)
    (hs : swapsWithSole [.Tuple [.Name x px, .Name y py] kt pt] (.Tuple [a, b] k2 pt2) pos.line X.env = pure false := by rfl) :
    VS X W wx (.Assign [.Tuple [.Name x px, .Name y py] kt pt] (.Tuple [a, b] k2 pt2) pos) (vPar i j ts) :=
  ⟨PS.imp (ps_par hc hN hi hj hij hx hy ha.pa hw hs) fun Dd σ H ⟨δ, π, E, s, h, k⟩ => ⟨δ, π, _, _, s, h, fun ds δ' q vs H' l n s' => by
    obtain ⟨d, e, rfl, q1, q2, q⟩ := q
    obtain ⟨v, w, rfl⟩ := len2 l
    rw [shs_cons, shs_cons, shs_nil] at s'
    refine ⟨v, w, rfl, k.nx _ q _ _ ?_⟩
    have s2 : SS X.K W H' σ δ' ((π ++ [(some v, Sl.sh d)]) ++ [(some w, Sl.sh e)]) := by rw [List.append_assoc]; exact s'
    have s3 : SS X.K W H' (σ.set j (some w)) (δ'.set j (.sh e)) (π ++ [(some v, Sl.sh d)]) := s2.put q2 h1
    have s4 := s3.put (by rw [List.length_set]; exact q1) h0
    rw [List.set_comm _ _ hij, List.set_comm _ _ hij]
    exact s4, k.ex σ⟩⟩
/-! ### x[::-1] of a list -/
def fRevL : D → Option Sl
  | .list ds => some (.ow (Ot.flat ds.reverse))
  | _ => none
theorem ve_revL {oa : Opr} {k : Nat} {p1 p2 p3 : Pos} (ha : VO X W wx a oa) : VE X W wx (.Subscript a (.Slice none none (some (.UnaryOp .USub (.Constant (.int 1) k p1) p2)) p3) pos) (v1 fRevL oa) := by
  obtain ⟨ta, A⟩ := ha
  refine ⟨PE.imp (pe_revL A.pe) fun σ H Q h => ?_⟩
  refine run1 (r := fun x H Q => ∃ a xs, x = .ref a ∧ SqL X.K H a xs ∧ ∀ p, H p = none → Q (.ref p) (upd H p (.lst xs.reverse))) A ?_ h
  intro S H x d res Q hx hf hq
  cases d with
  | list ds =>
    cases hf
    obtain ⟨p, xs, rfl, h1, h2⟩ := hx.list
    exact ⟨p, xs, rfl, h1, fun q hq' => hq _ _ (.lst hq' h2.reverse)⟩
  | _ => cases hf
end
end VL

/-! ## VL23 -/
set_option Elab.async false
set_option linter.all false
set_option autoImplicit false
set_option maxRecDepth 100000
set_option maxHeartbeats 4000000
namespace VL
open PySem PySem.Spec PyProof.Rows L2
section
variable {X : Cx} {W : Wd} {wx : WX} {K : PySem.W.Frag} {H H' : Hp} {σ : L2.St} {δ δ' : List Sl} {π : List Cell} {S : Addr → Prop} {a b c : Expr} {t u : VT} {pos p : Pos}
/-! ### isinstance -/
def tyD : D → Option String
  | .none => some "NoneType"
  | .bool _ => some "bool"
  | .int _ => some "int"
  | .str _ => some "str"
  | .list _ => some "list"
  | .tuple _ => some "tuple"
  | .dict _ => none
theorem Rq.ty {v : V} {d : D} {T : String} (h : Rq K S H v d) (e : tyD d = some T) : TyX K H v (.type T) := by
  rcases h with h | ⟨p, xs, ds, rfl, rfl, h1, h2⟩
  · cases h with
    | non => cases e; exact .base .non
    | bl b => cases e; exact .base (.bl b)
    | int i => cases e; exact .base (.int i)
    | str x _ => cases e; exact .base (.str x)
    | lst h1 h2 =>
      cases e
      rcases h1 with ⟨h1 | ⟨o, h1⟩, _⟩ | h1 | ⟨o, its, n, q1, q2, _⟩
      · exact .base (.lst h1)
      · exact .base (.frz h1)
      · exact (Rd.no h1).elim
      · exact .kList q1 q2
    | tup h1 h2 =>
      cases e
      rcases h1 with ⟨h1 | ⟨o, h1⟩, _⟩ | h1 | ⟨o, its, n, q1, q2, _⟩
      · exact .base (.tup h1)
      · exact .fTuple h1
      · exact (Rd.no h1).elim
      · exact .kTuple q1 q2
  · cases e
    exact .base (.lst h1)
def isB (T : String) (d : D) : Option Bool := (tyD d).bind fun a => kitB a T
def isT (T : String) (d : D) : Option Sl := (isB T d).map fun b => .sh (.bool b)
def isT2 (T U : String) (d : D) : Option Sl := (isB T d).bind fun b => (isB U d).map fun c => .sh (.bool (b || c))
theorem ve_isi {T : String} {x : Str} {oa : Opr} {px pT : Pos} (hm : X.mg "isinstance" = none) (hx : X.mg x = none) (hb : bootBuiltins x = some (.type T)) (ha : VO X W wx a oa) (hg : Gl X "isinstance" := by rfl) (hgx : Gl X x := by rfl) (hnx : x ≠ "__name__" := by decide) (hdx : (x == ("__debug__" : Str)) = false := by decide)
    (he : starEach [a, .Name x pT] X.env = (false, eval a X.env) :: starEach [.Name x pT] X.env := by rfl) (he2 : starEach [.Name x pT] X.env = (false, eval (.Name x pT) X.env) :: starEach [] X.env := by rfl) (hpl : (backTo pos (starEach [.Name x pT] X.env)).any (·.1) = false := by rfl) :
    VE X W wx (.Call (.Name "isinstance" px) [a, .Name x pT] [] pos) (v1 (isT T) oa) := by
  obtain ⟨ta, A⟩ := ha
  refine ⟨PE.imp (pe_callB call_isi hg hm (by decide +kernel) (pa_cons A.pe (pa_cons (pe_bltn (v := .ty T) hgx hx hb rfl hnx hdx) pa_nil he2) he) (by decide) (by decide) he hpl) fun σ H Q h => ?_⟩
  show ta σ H fun x H1 => rIsi X.K [x, .ty T] H1 Q
  refine run1 (r := fun v H Q => rIsi X.K [v, .ty T] H Q) A ?_ h
  intro S H x d res Q hx hf hq
  unfold isT isB at hf
  cases e : tyD d with
  | none => rw [e] at hf; cases hf
  | some a =>
    rw [e] at hf
    cases e2 : kitB a T with
    | none => rw [show (some a).bind (fun a => kitB a T) = kitB a T from rfl, e2] at hf; cases hf
    | some b =>
      rw [show (some a).bind (fun a => kitB a T) = kitB a T from rfl, e2] at hf
      cases hf
      exact ⟨x, .ty T, .type a, .type T, b, rfl, .ty T, hx.ty e, kit_ty e2, hq _ _ (.old (.bl b))⟩
theorem kit2 {t u1 u2 : Value} {b c : Bool} (h1 : PySem.W.kitOne K t u1 = some b) (h2 : PySem.W.kitOne K t u2 = some c) : PySem.W.kitAny K t [u1, u2] = some (b || c) := by
  cases b <;> cases c <;> simp [PySem.W.kitAny, h1, h2]
theorem ve_isi2 {T U : String} {x y : Str} {oa : Opr} {px pT pU pt : Pos} {kk : Nat} (hm : X.mg "isinstance" = none) (hx : X.mg x = none) (hy : X.mg y = none) (hb : bootBuiltins x = some (.type T)) (hb2 : bootBuiltins y = some (.type U)) (ha : VO X W wx a oa)
    (hg : Gl X "isinstance" := by rfl) (hgx : Gl X x := by rfl) (hgy : Gl X y := by rfl) (hnx : x ≠ "__name__" := by decide) (hdx : (x == ("__debug__" : Str)) = false := by decide) (hny : y ≠ "__name__" := by decide) (hdy : (y == ("__debug__" : Str)) = false := by decide)
    (he : starEach [a, .Tuple [.Name x pT, .Name y pU] kk pt] X.env = (false, eval a X.env) :: starEach [.Tuple [.Name x pT, .Name y pU] kk pt] X.env := by rfl) (he2 : starEach [.Tuple [.Name x pT, .Name y pU] kk pt] X.env = (false, eval (.Tuple [.Name x pT, .Name y pU] kk pt) X.env) :: starEach [] X.env := by rfl)
    (he3 : starEach [.Name x pT, .Name y pU] X.env = (false, eval (.Name x pT) X.env) :: starEach [.Name y pU] X.env := by rfl) (he4 : starEach [.Name y pU] X.env = (false, eval (.Name y pU) X.env) :: starEach [] X.env := by rfl) (hpl : (backTo pos (starEach [.Tuple [.Name x pT, .Name y pU] kk pt] X.env)).any (·.1) = false := by rfl) :
    VE X W wx (.Call (.Name "isinstance" px) [a, .Tuple [.Name x pT, .Name y pU] kk pt] [] pos) (v1 (isT2 T U) oa) := by
  obtain ⟨ta, A⟩ := ha
  refine ⟨PE.imp (pe_callB call_isiT hg hm (by decide +kernel) (pa_cons A.pe (pa_cons (pe_tup (pa_cons (pe_bltn (v := .ty T) hgx hx hb rfl hnx hdx) (pa_cons (pe_bltn (v := .ty U) hgy hy hb2 rfl hny hdy) pa_nil he4) he3)) pa_nil he2) he) (by decide) (by decide) he hpl) fun σ H Q ⟨δ, π, Qd, Xd, s, h, k, xr⟩ => ?_⟩
  refine A.run σ H δ π _ Xd _ s h xr fun ra δ1 q v H1 s1 i1 => ?_
  obtain ⟨x, res, e1, e2, q⟩ := q
  obtain ⟨S, F, y⟩ := s1.st
  refine ⟨by show 2 ≤ sizeLine; decide, fun p hp => ?_⟩
  have z := y.more (o := .tup [.ty T, .ty U]) hp
  have rq := Opr.read (ρ := []) s1.len z i1 e1
  unfold isT2 isB at e2
  cases e : tyD x with
  | none => rw [e] at e2; cases e2
  | some a =>
    rw [e] at e2
    cases e3 : kitB a T with
    | none => rw [show (some a).bind (fun a => kitB a T) = kitB a T from rfl, e3] at e2; cases e2
    | some b =>
      rw [show (some a).bind (fun a => kitB a T) = kitB a T from rfl, show (some a).bind (fun a => kitB a U) = kitB a U from rfl, e3] at e2
      cases e4 : kitB a U with
      | none => rw [e4] at e2; cases e2
      | some c =>
        rw [e4] at e2
        cases e2
        have s2 : SS X.K W (upd H1 p (.tup [.ty T, .ty U])) σ δ1 (π ++ [(some v, ra)]) := ⟨s1.len, s1.io, S, F, z⟩
        exact ⟨v, p, [.ty T, .ty U], .type a, [.type T, .type U], b || c, rfl, upd_same, .cons (.ty T) (.cons (.ty U) .nil), rq.ty e, kit2 (kit_ty e3) (kit_ty e4), k _ _ q _ _ (s2.drop.push fun _ => .bl _)⟩
/-! ### a < b < c -/
def vChain (f g : D → D → Option Sl) (a b c : Opr) : VT := fun δ Q Xc => a.ev δ (fun ra δ1 => b.ev δ1 (fun rb δ2 => ∃ x y k, a.fin ra δ2 = some x ∧ b.fin rb δ2 = some y ∧ f x y = some (.sh (.bool k)) ∧
  if k = true then c.ev δ2 (fun rc δ3 => ∃ y z r, b.fin rb δ3 = some y ∧ c.fin rc δ3 = some z ∧ g y z = some r ∧ Q r δ3) Xc else Q (.sh (.bool false)) δ2) Xc) Xc
theorem chain_run {r r' : R2} {f g : D → D → Option Sl} {oa ob oc : Opr} {ta tb tc : TE} {Q : VK} (A : VOt X W wx a oa ta) (B : VOt X W wx b ob tb) (C : VOt X W wx c oc tc) (snd : Snd2 X.K r f) (snd' : Snd2 X.K r' g) (h : lE X.K W wx (vChain f g oa ob oc) σ H Q) : tChain r r' ta tb tc σ H Q := by
  obtain ⟨δ, π, Qd, Xd, s, h, k, xr⟩ := h
  refine A.run σ H δ π _ Xd _ s h xr fun ra δ1 q v H1 s1 i1 => ?_
  refine B.run σ H1 δ1 _ _ Xd _ s1 q xr.more fun rb δ2 q u H2 s2 i2 => ?_
  obtain ⟨x, y, kk, e1, e2, e3, q⟩ := q
  obtain ⟨S, F, z⟩ := s2.st
  have z1 : StF X.K W H2 (σ.zip δ2 ++ (π ++ ((some v, ra) :: [(some u, rb)]))) S F := by
    rw [List.append_assoc] at z
    exact z
  refine snd S H2 v u x y _ _ (Opr.read s2.len z1 i1 e1) (Opr.read (ρ := []) s2.len z i2 e2) e3 fun v' H' nv => ?_
  cases nv with
  | old rr =>
  cases rr
  refine ⟨kk, rfl, ?_⟩
  cases kk with
  | false =>
    rw [if_neg (by decide)] at q
    rw [if_neg (by decide)]
    exact k _ _ q _ _ (s2.drop.drop.push fun _ => .bl _)
  | true =>
    rw [if_pos rfl] at q
    rw [if_pos rfl]
    refine C.run σ _ δ2 _ _ Xd _ s2 q xr.more.more fun rc δ3 q w H4 s3 i3 => ?_
    obtain ⟨y', z', r'', e4, e5, e6, q⟩ := q
    obtain ⟨S3, F3, zz⟩ := s3.st
    have z2 : StF X.K W H4 (σ.zip δ3 ++ ((π ++ [(some v, ra)]) ++ ((some u, rb) :: [(some w, rc)]))) S3 F3 := by
      rw [List.append_assoc (π ++ [(some v, ra)])] at zz
      exact zz
    exact snd' S3 H4 u w y' z' r'' Q (Opr.read s3.len z2 i2 e4) (Opr.read (ρ := []) s3.len zz i3 e5) e6 fun v' H' nv => k _ _ q _ _ (s3.drop.drop.drop.new (SS.restrict (SS.restrict (SS.restrict zz))) nv)
theorem ve_chain {op op' : CmpOp} {r r' : R2} {f g : D → D → Option Sl} {oa ob oc : Opr} (ho : OpR X (compareOp op) r) (snd : Snd2 X.K r f) (ho' : OpR X (compareOp op') r') (snd' : Snd2 X.K r' g) (ha : VO X W wx a oa) (hb : VO X W wx b ob) (hc : VO X W wx c oc) (hm : lastMarks [op, op'] [b, c] = false := by rfl) :
    VE X W wx (.Compare a [op, op'] [b, c] pos) (vChain f g oa ob oc) := by
  obtain ⟨ta, A⟩ := ha
  obtain ⟨tb, B⟩ := hb
  obtain ⟨tc, C⟩ := hc
  exact ⟨PE.imp (pe_chain ho ho' A.pe B.pe C.pe hm) fun σ H Q h => chain_run A B C snd snd' h⟩
theorem vc_chain {op op' : CmpOp} {r r' : R2} {f g : D → D → Option Sl} {oa ob oc : Opr} (ho : OpR X (compareOp op) r) (snd : Snd2 X.K r f) (ho' : OpR X (compareOp op') r') (snd' : Snd2 X.K r' g) (ha : VO X W wx a oa) (hb : VO X W wx b ob) (hc : VO X W wx c oc) (hm : lastMarks [op, op'] [b, c] = false := by rfl) :
    VC X W wx (.Compare a [op, op'] [b, c] pos) (vB (vChain f g oa ob oc)) := by
  obtain ⟨ta, A⟩ := ha
  obtain ⟨tb, B⟩ := hb
  obtain ⟨tc, C⟩ := hc
  refine ⟨PT.imp (pt_chain ho ho' A.pe B.pe C.pe hm) fun σ H Q ⟨δ, π, Qd, Xd, s, h, k, xr⟩ => ?_⟩
  show tChain r r' ta tb tc σ H _
  refine chain_run A B C snd snd' ⟨δ, π, _, Xd, s, h, fun rv δ' q v H' s' => ?_, xr⟩
  obtain ⟨b, rfl, q⟩ := q
  obtain rfl := s'.bool
  exact ⟨b, rfl, k _ _ q _ s'.drop⟩
end
end VL

/-! ## VL24 -/
set_option Elab.async false
set_option linter.all false
set_option autoImplicit false
set_option maxRecDepth 100000
set_option maxHeartbeats 4000000
namespace VL
open PySem PySem.Spec PyProof.Rows L2
section
variable {X : Cx} {W : Wd} {wx : WX} {K : PySem.W.Frag} {H H' : Hp} {σ : L2.St} {δ δ' : List Sl} {π : List Cell} {S : Addr → Prop} {F : Nat → List Addr} {cs : List Cell} {a b c : Expr} {es : List Expr} {t u : VT} {ts : VTs} {pos p apos cpos : Pos}
/-! ### [own, shared ..] -/
theorem StF.newN {v1 : V} {o : Ot} {vs : List V} {ds : List D} (x : StF K W H (cs ++ [(some v1, .ow o)] ++ shs vs ds) S F) (l : vs.length = ds.length) {p : Addr} (hp : H p = none) :
    StF K W (upd H p (.lst (v1 :: vs))) (cs ++ [(some (.ref p), .ow (.lst (o :: ds.map .leaf)))]) (fun b => S b ∨ b = p) (fun i => if i = cs.length then p :: (F cs.length ++ []) else F i) := by
  have y := x.more (o := .lst (v1 :: vs)) hp
  have rds := StF.reads x l
  have ne : ∀ b, H b ≠ none → b ≠ p := fun b hb z => hb (z ▸ hp)
  have ev : Ev S H (fun b => S b ∨ b = p) (upd H p (.lst (v1 :: vs))) := ⟨fun b u q _ => by rw [upd_ne (ne b (by rw [q]; exact fun z => nomatch z))]; exact q, fun b hb => hb.elim .inl fun z => .inr (by rw [z]; exact hp)⟩
  have old : ∀ {i : Nat} {c : Cell}, (cs ++ [(some v1, Sl.ow o)])[i]? = some c → (cs ++ [(some v1, Sl.ow o)] ++ shs vs ds)[i]? = some c := fun {i c} e => by
    rw [List.getElem?_append_left (List.getElem?_eq_some_iff.mp e).1]
    exact e
  have e1 : (cs ++ [(some v1, Sl.ow o)] ++ shs vs ds)[cs.length]? = some (some v1, .ow o) := old snoc_last
  have old2 : ∀ {i : Nat} {c : Cell}, cs[i]? = some c → (cs ++ [(some v1, Sl.ow o)] ++ shs vs ds)[i]? = some c := fun e => old (snoc_old e)
  have lt : ∀ {i : Nat} {c : Cell}, cs[i]? = some c → i ≠ cs.length := fun {i c} e z => by
    have := (List.getElem?_eq_some_iff.mp e).1
    omega
  have pS : ¬ S p := fun z => x.trk p z hp
  have pF : ∀ {i : Nat} {w : Option V} {q : Ot}, (cs ++ [(some v1, Sl.ow o)] ++ shs vs ds)[i]? = some (w, .ow q) → p ∉ F i := fun {i w q} e z => pS (x.fp i w q p e z).1
  have pW : W.H0 p = none := by
    cases q : W.H0 p with
    | none => rfl
    | some o => exact absurd hp (x.th p (by rw [q]; exact fun z => nomatch z))
  refine ⟨x.aw, fun b hb => ?_, fun b hb => .inl (x.sub b hb), y.kp, y.th, fun i w q e => ?_, fun i w q e => ?_, fun i w q b e hb => ?_, fun i j w q u r b n q1 q2 hb => ?_⟩
  · rcases hb with hb | hb
    · exact y.trk b hb
    · subst hb
      rw [upd_same]; exact fun z => nomatch z
  · rcases getElem?_snoc e with ⟨_, e⟩ | ⟨_, e⟩
    · obtain ⟨u, rfl, r⟩ := x.sh i w q (old2 e)
      exact ⟨u, rfl, Rp.ev ev q u r⟩
    · cases e
  · have up : ∀ {i : Nat} {q : Ot} {u : V}, Ow K S H u q (F i) → Ow K (fun b => S b ∨ b = p) (upd H p (.lst (v1 :: vs))) u q (F i) := fun {i q u} h =>
      Ow.ev ev q u _ (fun b _ o z => by rw [upd_ne (ne b (by rw [z]; exact fun z => nomatch z))]; exact z) h
    rcases getElem?_snoc e with ⟨_, e⟩ | ⟨ei, e⟩
    · obtain ⟨u, rfl, r⟩ := x.ow i w q (old2 e)
      rw [if_neg (lt e)]
      exact ⟨u, rfl, up r⟩
    · cases e
      rw [if_pos ei]
      obtain ⟨u1, eu1, r1⟩ := x.ow _ _ _ e1
      cases eu1
      refine ⟨_, rfl, .lst upd_same (.cons (up r1) (Ows.leaves (Rps.ev ev ds vs rds)) (fun b _ z => nomatch z)) fun z => ?_⟩
      rw [List.append_nil] at z
      exact pF e1 z
  · rcases getElem?_snoc e with ⟨_, e⟩ | ⟨ei, e⟩
    · rw [if_neg (lt e)] at hb
      obtain ⟨h1, h2⟩ := x.fp i w q b (old2 e) hb
      exact ⟨.inl h1, h2⟩
    · rw [if_pos ei, List.append_nil] at hb
      rcases List.mem_cons.mp hb with rfl | hb
      · exact ⟨.inr rfl, .inr pW⟩
      · obtain ⟨h1, h2⟩ := x.fp _ _ _ b e1 hb
        exact ⟨.inl h1, h2⟩
  · rcases getElem?_snoc q1 with ⟨_, k1⟩ | ⟨ei, k1⟩
    · rw [if_neg (lt k1)] at hb
      rcases getElem?_snoc q2 with ⟨_, k2⟩ | ⟨ej, k2⟩
      · rw [if_neg (lt k2)]
        exact x.dj i j w q u r b n (old2 k1) (old2 k2) hb
      · rw [if_pos ej, List.append_nil]
        intro z
        rcases List.mem_cons.mp z with z | z
        · rw [z] at hb; exact pF (old2 k1) hb
        · exact x.dj i cs.length w q _ _ b (lt k1) (old2 k1) e1 hb z
    · rw [if_pos ei, List.append_nil] at hb
      rcases getElem?_snoc q2 with ⟨_, k2⟩ | ⟨ej, k2⟩
      · rw [if_neg (lt k2)]
        intro z
        rcases List.mem_cons.mp hb with hb | hb
        · rw [hb] at z; exact pF (old2 k2) z
        · exact x.dj j cs.length _ _ _ _ b (lt k2) (old2 k2) e1 z hb
      · exact absurd (ei.trans ej.symm) n
def vOwn (t : VT) (ts : VTs) : VT := fun δ Q Xc => t δ (fun ra δ1 => ∃ o, ra = .ow o ∧ ts δ1 (fun ds δ2 => Q (.ow (.lst (o :: ds.map .leaf))) δ2) Xc) Xc
theorem ve_own (ha : VE X W wx a t) (hb : VA X W wx es ts) (hl : es.length ≤ 999) (he : starEach (a :: es) X.env = (false, eval a X.env) :: starEach es X.env := by rfl) : VE X W wx (.List (a :: es) pos) (vOwn t ts) := by
  refine ⟨PE.imp (pe_lst (pa_cons ha.pe hb.pa he)) fun σ H Q ⟨δ, π, Qd, Xd, s, h, kk, xr⟩ => ?_⟩
  refine ⟨δ, π, _, Xd, s, h, fun ra δ1 q v1 H1 s1 => ?_, xr⟩
  obtain ⟨o, rfl, q⟩ := q
  refine ⟨δ1, _, _, Xd, s1, q, fun ds δ2 q vs H2 l n s2 => ?_, xr.more⟩
  refine ⟨show (v1 :: vs).length ≤ sizeLine from Nat.le_of_lt (small1000 (by rw [List.length_cons]; omega)), fun p hp => ?_⟩
  obtain ⟨S, F, x⟩ := s2.st
  rw [← List.append_assoc, ← List.append_assoc] at x
  have y := x.newN l hp
  rw [List.append_assoc] at y
  exact kk _ _ q _ _ ⟨s2.len, s2.io, _, _, y⟩
/-! ### name.extend([..]) -/
def vExt (i : Nat) (ts : VTs) : VT := fun δ Q Xc => (∃ ds, δ[i]? = some (.ow (Ot.flat ds))) ∧ ts δ (fun es δ1 => ∃ ds, δ1[i]? = some (.ow (Ot.flat ds)) ∧ ds.length + es.length ≤ 1000000 ∧ Q (.sh .none) (δ1.set i (.ow (Ot.flat (ds ++ es))))) Xc
theorem ve_ext {i : Nat} {x : Str} {px pl : Pos} (ha : VA X W wx es ts) (hl : es.length ≤ 1000)
    (hN : X.N[i]? = some x := by rfl) (hv : Vis X.env.scope x := by first | exact Or.inl rfl | exact Or.inr (Or.inl rfl) | exact Or.inr (Or.inr rfl)) (hd : (x == ("__debug__" : Str)) = false := by decide) (hcd : (x == ("__classdict__" : Str)) = false := by decide)
    (hbase : attributeBase (.Name x px) "extend" X.env (eval (.Name x px) X.env) = eval (.Name x px) X.env := by rfl) (hfew : Few X cpos [.List es pl] := by rfl) (hplain : (backTo cpos (starEach [] X.env)).any (·.1) = false := by rfl)
    (hline : (apos.endLine == cpos.line) = true := by rfl) (hs : starEach [.List es pl] X.env = (false, eval (.List es pl) X.env) :: starEach [] X.env := by rfl) :
    VE X W wx (.Call (.Attribute (.Name x px) "extend" apos) [.List es pl] [] cpos) (vExt i ts) := by
  refine ⟨PE.imp (pe_bm PySem.F.plainAttrs_list PySem.F.slot_list_extend PySem.F.type_list_extend mt_extend (pe_var hN hv hd hcd) (pa_cons (pe_lst ha.pa) pa_nil hs) hbase hfew hline hs hplain) fun σ H Q ⟨δ, π, Qd, Xd, s, ⟨⟨ds0, h0⟩, h1⟩, k, xr⟩ => ?_⟩
  obtain ⟨w0, q0, c0⟩ := s.cell h0
  obtain ⟨S0, F0, y0⟩ := s.st
  obtain ⟨p0, xs0, rfl, l0, _⟩ := y0.mut c0
  refine ⟨.ref p0, q0, .inl ⟨rfl, xs0, SqL.of l0⟩, ⟨δ, π, _, Xd, s, h1, fun es' δ1 q vs H1 l n' s1 => ?_, xr⟩⟩
  obtain ⟨ds, e1, hle, q⟩ := q
  refine ⟨Nat.le_of_lt (small1000 (by omega)), fun pn hp => ?_⟩
  obtain ⟨w1, q1, c1⟩ := s1.cell e1
  rw [q0] at q1
  cases q1
  obtain ⟨S, F, y⟩ := s1.st
  have y2 := y.more (o := .lst vs) hp
  have rv := SS.reads y2 l
  obtain ⟨p, xs, ep, hlp, rx, nw⟩ := y2.mut c1
  cases ep
  have hcell := y2.fp i _ _ p0 c1 (by
    obtain ⟨u, eu, ow⟩ := y2.ow i _ _ c1
    cases eu
    obtain ⟨p', xs', e', hF, _⟩ := Ow.of_flat ow
    cases e'
    rw [hF]
    exact List.mem_singleton.mpr rfl)
  have z := nw (xs ++ vs) (ds ++ es') (Rps.append rx rv)
  have hi : i < (σ.zip δ1).length := by rw [zip_length s1.len]; exact (List.getElem?_eq_some_iff.mp e1).1
  rw [List.set_append_left _ _ hi, zip_set q0] at z
  have s2 : SS X.K W (upd (upd H1 pn (.lst vs)) p0 (.lst (xs ++ vs))) σ (δ1.set i (.ow (Ot.flat (ds ++ es')))) (π ++ shs vs es') := ⟨by rw [List.length_set]; exact s1.len, s1.io, S, F, z⟩
  exact ⟨p0, pn, xs, vs, rfl, rfl, hlp, upd_same, le_line (by rw [rx.length, rv.length]; exact hle), k _ _ q _ _ (s2.drop.push fun _ => .non)⟩
end
end VL

/-! ## VL25 -/
set_option Elab.async false
set_option linter.all false
set_option autoImplicit false
set_option maxRecDepth 100000
set_option maxHeartbeats 4000000
namespace VL
open PySem PySem.Spec PyProof.Rows L2
/-! ### _law_draw over four cells -/
abbrev stQ (cs : List Int) (i : Nat) (a b : Int) : Ot := .lst [Ot.flat (cs.map .int), .leaf (.int i), .leaf (.int a), .leaf (.int b)]
def semDrawQ : SemIO := fun o ds Qd _ => ∃ cs i a b many, o = stQ cs i a b ∧ ds = [.int many] ∧ 0 < many ∧ many.natAbs.log2 < 9000 ∧ ∀ r i' a' b', 0 ≤ r → r < many → Qd (.sh (.int r)) (stQ cs i' a' b')
abbrev tI (K : PySem.W.Frag) (n : Int) : TE := tOp (rIxL K) (tVar 0) (tC (V.int n))
abbrev gI (n : Int) : TG := gSub (tVar 0) (tC (V.int n)) rSetL
def tDrawQ1 (K : PySem.W.Frag) : TS :=
  tSeq (tIfS (tTest (tOp (rI0 fun i j => V.bl (decide (j < i))) (tI K 2) (tC (V.int 0))))
    (tSeq (tAsg (tOp (rI (fun x j => 0 < j) fun i j => V.int (i % j)) (tCB rIntQ (tCons (tI K 2) tNil)) (tVar 1)) (gName 3))
    (tSeq (tAsg (tOp (rI CDivW fun i j => V.int (i / j)) (tI K 2) (tVar 1)) (gI 2))
    (tRet (tVar 3)))) tNext)
  (tSeq (tAsg (tOp (rI (fun x j => 0 < j) fun i j => V.int (i % j)) (tCB rIntQ (tCons (tOp (rI0 fun i j => V.int (i + j)) (tOp (rI CMul fun i j => V.int (i * j)) (tI K 3) (tC (V.int 69621))) (tC (V.int 7))) tNil)) (tC (V.int 2147483629))) (gI 3))
  (tRet (tOp (rI (fun x j => 0 < j) fun i j => V.int (i % j)) (tCB rIntQ (tCons (tOp (rI CDivW fun i j => V.int (i / j)) (tI K 3) (tC (V.int 11))) tNil)) (tVar 1))))
def tDrawQ (K : PySem.W.Frag) : TS :=
  tSeq (tIfS (tAnd (tTest (tOp rEq (tI K 2) (tC (V.int 0)))) (tTest (tOp (rI0 fun i j => V.bl (decide (i < j))) (tI K 1) (tCB (rLenQ K) (tCons (tI K 0) tNil)))))
    (tSeq (tAsg (tOp (rIxL K) (tI K 0) (tI K 1)) (gName 2))
    (tSeq (tAsg (tOp (rI0 fun i j => V.int (i + j)) (tI K 1) (tC (V.int 1))) (gI 1))
    (tSeq (tIfS (tTest (tOp (rI0 fun i j => V.bl (decide (j ≤ i))) (tVar 2) (tOp (rI CPow fun i j => V.int (i ^ j.toNat)) (tC (V.int 10)) (tC (V.int 18))))) (tAsg (tVar 2) (gI 2)) tNext)
    (tAsg (tOp (rI (fun x j => 0 < j) fun i j => V.int (i % j)) (tCB rIntQ (tCons (tOp (rI0 fun i j => V.int (i + j)) (tOp (rI0 fun i j => V.int (i + j)) (tOp (rI CMul fun i j => V.int (i * j)) (tI K 3) (tC (V.int 48271))) (tVar 2)) (tC (V.int 13))) tNil)) (tC (V.int 2147483647))) (gI 3)))))
    tNext)
  (tDrawQ1 K)
section
variable {K : PySem.W.Frag} {A : Addr → Prop} {H H' : Hp} {s c : Addr}
theorem drawQ_end {cs : List Int} {i : Nat} {a b : Int} (hA : ∀ b, A b → H b ≠ none ∧ b ∉ [s, c]) (hs : H s ≠ none) (hc : H c = some (.lst (cs.map V.int))) (sc : s ≠ c) (kp : ∀ b, b ≠ s → H' b = H b) (es : H' s = some (.lst [.ref c, .int i, .int a, .int b])) (r : Int) :
    VL.St K (wdIO H [s, c] A (.ref s)) H' [(some (.ref s), .ow (stQ cs i a b)), (some (.int r), .sh (.int r))] := by
  have ni : ∀ b, b ∉ [s, c] → b ≠ s := fun b n z => n (by rw [z]; exact List.mem_cons_self)
  have ec : H' c = some (.lst (cs.map V.int)) := by rw [kp c sc.symm]; exact hc
  refine ⟨fun b => A b ∨ b ∈ [s, c], fun i => if i = 0 then [s, c] else [], ⟨hA, fun b hb => ?_, fun b hb => .inl hb, fun b o q n => ?_, fun b q => ?_, fun i v d q => ?_, fun i v o q => ?_, fun i v o b q hb => ?_, fun i j v o w p b n q1 q2 hb => ?_⟩⟩
  · rcases hb with hb | hb
    · rw [kp b (ni b (hA b hb).2)]
      exact (hA b hb).1
    · rcases List.mem_cons.mp hb with rfl | hb
      · rw [es]; exact fun z => nomatch z
      · rw [List.mem_singleton] at hb
        rw [hb, ec]; exact fun z => nomatch z
  · rw [kp b (ni b n)]
    exact q
  · by_cases e1 : b = s
    · rw [e1, es]; exact fun z => nomatch z
    · rw [kp b e1]; exact q
  · match i, q with
    | 1, q => cases q; exact ⟨_, rfl, .int _⟩
    | 0, q => cases q
    | i + 2, q => simp at q
  · match i, q with
    | 0, q =>
      cases q
      refine ⟨_, rfl, ?_⟩
      have h1 : Ow K (fun b => A b ∨ b ∈ [s, c]) H' (.ref c) (Ot.flat (cs.map .int)) [c] := Ow.flat ec (Rps.ints cs)
      exact .lst (F := [c] ++ ([] ++ ([] ++ ([] ++ [])))) es (.cons h1 (.cons (.leaf (.int _)) (.cons (.leaf (.int _)) (.cons (.leaf (.int _)) .nil (fun b hb => nomatch hb)) (fun b hb => nomatch hb)) (fun b hb => nomatch hb)) (fun b _ z => nomatch z)) (by simp; exact sc)
    | 1, q => cases q
    | i + 2, q => simp at q
  · match i, q with
    | 0, q => exact ⟨.inr hb, .inl hb⟩
    | 1, q => cases q
    | i + 2, q => simp at q
  · match i, j, q1, q2, n with
    | 0, 0, _, _, n => exact absurd rfl n
    | 0, 1, _, q2, _ => cases q2
    | 0, j + 2, _, q2, _ => simp at q2
    | 1, _, q1, _, _ => cases q1
    | i + 2, _, q1, _, _ => simp at q1
theorem drawQ_run {cs : List Int} {i0 : Nat} {a0 b0 many : Int} {v0 : V} {F : List Addr} {Q : VK} (hA : ∀ b, A b → H b ≠ none ∧ b ∉ F) (hO : Ow K (fun b => A b ∨ b ∈ F) H v0 (stQ cs i0 a0 b0) F) (m0 : 0 < many) (m1 : many.natAbs.log2 < 9000)
    (q : ∀ r i' a' b', 0 ≤ r → r < many → ∀ v H', VL.St K (wdIO H F A v0) H' [(some v0, .ow (stQ cs i' a' b')), (some v, .sh (.int r))] → Q v H') {E : XK} {nx : L2.St → Hp → Prop} :
    tDrawQ K { nx := nx, rt := Q } [some v0, some (.int many), none, none] H := by
  cases hO with
  | @lst s xs _ F1 hs h2 h3 =>
  cases h2 with
  | @cons x1 xs1 _ _ Fa Ga o1 h2 h4 =>
  cases h2 with
  | @cons x2 xs2 _ _ Fb Gb o2 h2 h5 =>
  cases h2 with
  | @cons x3 xs3 _ _ Fc Gc o3 h2 h6 =>
  cases h2 with
  | @cons x4 xs4 _ _ Fd Gd o4 h2 h7 =>
  cases h2
  cases o2 with
  | leaf o2 =>
  cases o2
  cases o3 with
  | leaf o3 =>
  cases o3
  cases o4 with
  | leaf o4 =>
  cases o4
  obtain ⟨c, ys, rfl, rfl, hc, hr⟩ := o1.of_flat
  have ey := hr.ints_v
  subst ey
  have sc : s ≠ c := fun z => h3 (by rw [z]; simp)
  have eF : (s :: ([c] ++ ([] ++ ([] ++ ([] ++ [])))) : List Addr) = [s, c] := rfl
  rw [eF] at hA q
  have fin : ∀ (H' : Hp) (i' : Nat) (a' b' r : Int), (∀ b, b ≠ s → H' b = H b) → H' s = some (.lst [.ref c, .int i', .int a', .int b']) → 0 ≤ r → r < many → Q (.int r) H' := fun H' i' a' b' r k1 k2 r0 r1 =>
    q r i' a' b' r0 r1 _ H' (drawQ_end hA (by rw [hs]; exact fun z => nomatch z) hc sc k1 k2 r)
  have md : ∀ i : Int, 0 ≤ i % many ∧ i % many < many := fun i => ⟨Int.emod_nonneg _ (by omega), Int.emod_lt_of_pos _ m0⟩
  have rest : ∀ (y2 y3 : Option V) (H2 : Hp) (i a b : Int), 0 ≤ i → (∀ b, b ≠ s → H2 b = H b) → H2 s = some (.lst [.ref c, .int i, .int a, .int b]) → tDrawQ1 K { nx := nx, rt := Q } [some (.ref s), some (.int many), y2, y3] H2 := by
    intro y2 y3 H2 i a b hi k1 k2
    obtain ⟨n, rfl⟩ := Int.eq_ofNat_of_zero_le hi
    unfold tDrawQ1
    refine ⟨_, rfl, s, _, 2, .int a, rfl, rfl, SqL.of k2, atI_nat (j := 2) rfl, _, _, rfl, rfl, _, rfl, ?_⟩
    show (if decide (0 < a) = true then _ else _)
    by_cases ha : 0 < a
    · rw [if_pos (decide_eq_true ha)]
      refine ⟨_, rfl, s, _, 2, .int a, rfl, rfl, SqL.of k2, atI_nat (j := 2) rfl, .inl ⟨_, rfl, _, rfl, _, _, rfl, rfl, m0, ?_⟩⟩
      refine ⟨_, rfl, s, _, 2, .int a, rfl, rfl, SqL.of k2, atI_nat (j := 2) rfl, _, rfl, _, _, rfl, rfl, ⟨m0, m1⟩, _, rfl, s, _, 2, 2, rfl, rfl, k2, rfl, ?_⟩
      refine ⟨_, rfl, ?_⟩
      obtain ⟨r0, r1⟩ := md a
      exact fin _ n (a / many) b _ (fun b n1 => by rw [upd_ne n1]; exact k1 b n1) upd_same r0 r1
    · rw [if_neg (by simpa using ha)]
      refine ⟨_, rfl, s, _, 3, .int b, rfl, rfl, SqL.of k2, atI_nat (j := 3) rfl, _, _, rfl, rfl, .inr (by decide), _, _, rfl, rfl, .inl ⟨_, rfl, _, _, rfl, rfl, (by show (0 : Int) < 2147483629; decide), ?_⟩⟩
      refine ⟨_, rfl, s, _, 3, 3, rfl, rfl, k2, rfl, ?_⟩
      refine ⟨_, rfl, s, _, 3, .int ((b * 69621 + 7) % 2147483629), rfl, rfl, SqL.of upd_same, atI_nat (j := 3) rfl, _, _, rfl, rfl, ⟨by decide, by decide⟩, .inl ⟨_, rfl, _, rfl, _, _, rfl, rfl, m0, ?_⟩⟩
      obtain ⟨r0, r1⟩ := md ((b * 69621 + 7) % 2147483629 / 11)
      exact fin _ n a _ _ (fun b n1 => by rw [upd_ne n1]; exact k1 b n1) upd_same r0 r1
  unfold tDrawQ
  refine ⟨_, rfl, s, _, 2, .int a0, rfl, rfl, SqL.of hs, atI_nat (j := 2) rfl, rfl, _, rfl, ?_⟩
  show (if decide (V.int a0 = V.int 0) = true then _ else _)
  by_cases ha : V.int a0 = V.int 0
  · rw [if_pos (decide_eq_true ha)]
    refine ⟨_, rfl, s, _, 1, .int i0, rfl, rfl, SqL.of hs, atI_nat (j := 1) rfl, _, rfl, s, _, 0, .ref c, rfl, rfl, SqL.of hs, atI_nat (j := 0) rfl, c, _, rfl, .inl (SqL.of hc), _, _, rfl, rfl, _, rfl, ?_⟩
    show (if decide ((i0 : Int) < ((cs.map V.int).length : Int)) = true then _ else _)
    by_cases hi : (i0 : Int) < ((cs.map V.int).length : Int)
    · rw [if_pos (decide_eq_true hi)]
      have hi' : i0 < cs.length := by rw [List.length_map] at hi; omega
      have g1 : (cs.map V.int)[i0]? = some (.int cs[i0]) := by rw [List.getElem?_map, List.getElem?_eq_getElem hi']; rfl
      refine ⟨_, rfl, s, _, 0, .ref c, rfl, rfl, SqL.of hs, atI_nat (j := 0) rfl, _, rfl, s, _, 1, .int i0, rfl, rfl, SqL.of hs, atI_nat (j := 1) rfl, c, _, i0, .int cs[i0], rfl, rfl, SqL.of hc, atI_nat g1, ?_⟩
      refine ⟨_, rfl, s, _, 1, .int i0, rfl, rfl, SqL.of hs, atI_nat (j := 1) rfl, _, _, rfl, rfl, _, rfl, s, _, 1, 1, rfl, rfl, hs, rfl, ?_⟩
      refine ⟨_, rfl, _, _, rfl, rfl, ⟨by decide, by decide, by decide⟩, _, _, rfl, rfl, _, rfl, ?_⟩
      have tail : ∀ (H2 : Hp) (a : Int), (∀ b, b ≠ s → H2 b = H b) → H2 s = some (.lst [.ref c, .int (i0 + 1), .int a, .int b0]) →
          (tAsg (tOp (rI (fun x j => 0 < j) fun i j => V.int (i % j)) (tCB rIntQ (tCons (tOp (rI0 fun i j => V.int (i + j)) (tOp (rI0 fun i j => V.int (i + j)) (tOp (rI CMul fun i j => V.int (i * j)) (tI K 3) (tC (V.int 48271))) (tVar 2)) (tC (V.int 13))) tNil)) (tC (V.int 2147483647))) (gI 3))
          { nx := tDrawQ1 K { nx := nx, rt := Q }, rt := Q } [some (.ref s), some (.int many), some (.int cs[i0]), none] H2 := by
        intro H2 a k1 k2
        refine ⟨_, rfl, s, _, 3, .int b0, rfl, rfl, SqL.of k2, atI_nat (j := 3) rfl, _, _, rfl, rfl, .inr (by decide), _, rfl, _, _, rfl, rfl, _, _, rfl, rfl, .inl ⟨_, rfl, _, _, rfl, rfl, (by show (0 : Int) < 2147483647; decide), ?_⟩⟩
        refine ⟨_, rfl, s, _, 3, 3, rfl, rfl, k2, rfl, ?_⟩
        exact rest _ _ _ (i0 + 1) a _ (by omega) (fun b n1 => by rw [upd_ne n1]; exact k1 b n1) upd_same
      show (if decide ((10 ^ (18 : Int).toNat : Int) ≤ cs[i0]) = true then _ else _)
      by_cases hb : (10 ^ (18 : Int).toNat : Int) ≤ cs[i0]
      · rw [if_pos (decide_eq_true hb)]
        refine ⟨_, rfl, _, rfl, s, _, 2, 2, rfl, rfl, upd_same, rfl, ?_⟩
        exact tail _ cs[i0] (fun b n1 => by rw [upd_ne n1, upd_ne n1]) upd_same
      · rw [if_neg (by simpa using hb)]
        exact tail _ a0 (fun b n1 => by rw [upd_ne n1]) upd_same
    · rw [if_neg (by simpa using hi)]
      exact rest _ _ _ i0 a0 b0 (by omega) (fun _ _ => rfl) hs
  · rw [if_neg (by simpa using ha)]
    exact rest _ _ _ i0 a0 b0 (by omega) (fun _ _ => rfl) hs
theorem fn_drawQ {P : Program} {w : World} {mg : Str → Option Value} {base : Heap} {x qual : Str} {st : Stmt} {f : Addr} {fd : FuncData} (F : Fun K x qual st f fd) (S : FnScope ["draws", "limit", "cell", "value"] ["draws", "limit"] (defScope st))
    (der : ∀ (cdv : Value) (A : Around) (outer : List Env) (s : Shared) (H : Hp) (E : XK), PassesOwn (model P w) (A.deeper (envOfC qual (defScope st) s.heap.objs.size f cdv)) (envOfC qual (defScope st) s.heap.objs.size f cdv) (cxOf (L2.CX P w) P w K mg base ["draws", "limit", "cell", "value"] qual (defScope st) f cdv A outer s H E).xe →
      PSs (cxOf (L2.CX P w) P w K mg base ["draws", "limit", "cell", "value"] qual (defScope st) f cdv A outer s H E) (defBody st) (tDrawQ K)) : FnOk P w K mg base (L2.CX P w) 1 f fd ["draws", "limit"] (spIO K 1 semDrawQ) := by
  refine F.okX S (fun vs H Q E h => ?_) (fun cdv A outer s H vs Q E hr h => ⟨tDrawQ K, der cdv A outer s H E (passes_of rfl), ?_⟩)
  · obtain ⟨A, Fo, v0, us, o, ds, Qd, Xd, rfl, h1, _⟩ := h
    rw [List.length_cons, h1]
    rfl
  · obtain ⟨Av, Fo, v0, us, o, ds, Qd, Xd, rfl, h1, h2, h3, h4, h5, h6, h7, h8, h9⟩ := h
    obtain ⟨cs, i, a, b, many, rfl, rfl, m0, m1, k⟩ := h7
    cases h6 with
    | cons r1 r2 =>
    cases r1
    cases r2
    exact drawQ_run (E := E) h3 h5 m0 m1 (fun r i' a' b' r0 r1 v H' z => h8 _ _ (k r i' a' b' r0 r1) v H' z)
end
end VL

/-! ## VL26 -/
set_option Elab.async false
set_option linter.all false
set_option autoImplicit false
set_option maxRecDepth 100000
set_option maxHeartbeats 4000000
namespace VL
open PySem PySem.Spec PyProof.Rows L2
section
variable {X : Cx} {W : Wd} {wx : WX} {K : PySem.W.Frag} {H H' : Hp} {σ : L2.St} {δ δ' : List Sl} {π : List Cell} {S : Addr → Prop} {e a b c ie : Expr} {t u ti : VT} {pos p : Pos}
/-! ### all(list of bools), any(..) -/
def bools? : List D → Option (List Bool)
  | [] => some []
  | .bool b :: r => (bools? r).map (b :: ·)
  | _ :: _ => none
theorem bools?_of : ∀ {ds : List D} {bs : List Bool}, bools? ds = some bs → ds = bs.map PyData.bool
  | [], bs, h => by cases h; rfl
  | .bool x :: r, bs, h => by
    obtain ⟨zs, h1, h2⟩ := Option.map_eq_some_iff.mp (show (bools? r).map (x :: ·) = some bs from h)
    subst h2
    rw [bools?_of h1]
    rfl
  | .none :: _, _, h => by cases h
  | .str _ :: _, _, h => by cases h
  | .int _ :: _, _, h => by cases h
  | .list _ :: _, _, h => by cases h
  | .tuple _ :: _, _, h => by cases h
  | .dict _ :: _, _, h => by cases h
theorem bools?_map : ∀ bs : List Bool, bools? (bs.map PyData.bool) = some bs
  | [] => rfl
  | b :: bs => by rw [List.map_cons, bools?, bools?_map bs]; rfl
def fAll (d : D) : Option Sl := match d with
  | .list ds => (bools? ds).map fun bs => .sh (.bool (bs.all id))
  | _ => none
def fAny (d : D) : Option Sl := match d with
  | .list ds => (bools? ds).map fun bs => .sh (.bool (bs.any id))
  | _ => none
theorem snd_all : Snd1 K (fun v H Q => rAll K [v] H Q) fAll := by
  intro S H x d res Q hx hf hq
  cases d with
  | list ds =>
    have hf' : (bools? ds).map (fun bs => Sl.sh (.bool (bs.all id))) = some res := hf
    obtain ⟨bs, h1, rfl⟩ := Option.map_eq_some_iff.mp hf'
    have e := bools?_of h1
    subst e
    obtain ⟨p, xs, rfl, h2, h3⟩ := hx.list
    rw [h3.bools_v] at h2
    exact ⟨p, bs, rfl, h2, hq _ _ (.old (.bl _))⟩
  | _ => cases hf
theorem snd_any : Snd1 K (fun v H Q => rAny K [v] H Q) fAny := by
  intro S H x d res Q hx hf hq
  cases d with
  | list ds =>
    have hf' : (bools? ds).map (fun bs => Sl.sh (.bool (bs.any id))) = some res := hf
    obtain ⟨bs, h1, rfl⟩ := Option.map_eq_some_iff.mp hf'
    have e := bools?_of h1
    subst e
    obtain ⟨p, xs, rfl, h2, h3⟩ := hx.list
    rw [h3.bools_v] at h2
    exact ⟨p, bs, rfl, h2, hq _ _ (.old (.bl _))⟩
  | _ => cases hf
/-! ### str(int) -/
def fStr (d : D) : Option Sl := match d with
  | .int i => if (decide (i.natAbs.log2 < 1920) && okS (Str.ofString (toString i))) = true then some (.sh (.str (Str.ofString (toString i)))) else none
  | _ => none
theorem snd_str1 : Snd1 K (fun v H Q => ∃ i, [v] = [V.int i] ∧ i.natAbs.log2 < 1920 ∧ Q (.str (toString i)) H) fStr := by
  intro S H x d res Q hx hf hq
  cases d with
  | int i =>
    have hf' : (if (decide (i.natAbs.log2 < 1920) && okS (Str.ofString (toString i))) = true then some (Sl.sh (.str (Str.ofString (toString i)))) else none) = some res := hf
    by_cases h : (decide (i.natAbs.log2 < 1920) && okS (Str.ofString (toString i))) = true
    · rw [if_pos h] at hf'
      cases hf'
      rw [Bool.and_eq_true] at h
      exact ⟨i, by rw [hx.int], of_decide_eq_true h.1, hq _ _ (.old (.str _ h.2))⟩
    · rw [if_neg h] at hf'; cases hf'
  | _ => cases hf
/-! ### name[k] = e of an owned flat list -/
def vSetIx (i : Nat) (ti t : VT) : VSt := fun E δ => vS t δ (fun rv δ1 => (∃ ds, δ1[i]? = some (.ow (Ot.flat ds))) ∧ vS ti δ1 (fun rk δ2 => ∃ ds k j, rk = .sh (.int k) ∧ δ2[i]? = some (.ow (Ot.flat ds)) ∧ ixN ds.length k = some j ∧ E.nx (δ2.set i (.ow (Ot.flat (ds.set j rv.get))))) E.ex) E.ex
theorem vs_setIx {i : Nat} {x : Str} {px ps : Pos} (he : VE X W wx e t) (hi : VE X W wx ie ti) (hg : ∀ {t2 : TE}, PE X ie t2 → PG X (.Subscript (.Name x px) ie ps) (gSub (tVar i) t2 rSetL))
    (hs : swapsWithSole [.Subscript (.Name x px) ie ps] e pos.line X.env = pure false := by rfl) (hw : swappedStores [.Subscript (.Name x px) ie ps] e X.env = pure none := by rfl) (h1 : (assignEach [.Subscript (.Name x px) ie ps] X.env).map (·.2) = [assign (.Subscript (.Name x px) ie ps) X.env] := by rfl) :
    VS X W wx (.Assign [.Subscript (.Name x px) ie ps] e pos) (vSetIx i ti t) := by
  refine ⟨PS.imp (ps_asg he.pe (hg hi.pe) hs hw h1) fun Dd σ H ⟨δ, π, E, s, h, k⟩ => ?_⟩
  refine ⟨δ, π, _, _, s, h, fun rv δ1 z v H1 s1 => ?_, k.ex σ⟩
  obtain ⟨z1, ⟨ds0, z2⟩, z3⟩ := z
  have s1' := s1.shr z1
  obtain ⟨w0, q0, c0⟩ := s1'.cell z2
  obtain ⟨S0, F0, y0⟩ := s1'.st
  obtain ⟨p0, xs0, rfl, l0, _⟩ := y0.mut c0
  refine ⟨.ref p0, q0, δ1, _, _, _, s1', z3, fun rk δ2 q kv H2 s2 => ?_, (k.ex σ).more⟩
  obtain ⟨q1, ds, kk, j, q2, q3, q4, q5⟩ := q
  have s2' := s2.shr q1
  have ekk : rk.get = .int kk := by
    have : Sl.sh rk.get = .sh (.int kk) := q2
    exact Sl.sh.inj this
  rw [ekk] at s2'
  obtain rfl := s2'.int
  obtain ⟨w1, q6, c1⟩ := s2'.cell q3
  rw [q0] at q6
  cases q6
  obtain ⟨S, F, y⟩ := s2'.st
  obtain ⟨p, xs, ep, hl, rx, nw⟩ := y.mut c1
  cases ep
  have y2 : StF X.K W H2 (σ.zip δ2 ++ (π ++ ((some v, Sl.sh rv.get) :: [(some (V.int kk), Sl.sh (.int kk))]))) S F := by
    rw [List.append_assoc] at y
    exact y
  have ev : (σ.zip δ2 ++ (π ++ ((some v, Sl.sh rv.get) :: [(some (V.int kk), Sl.sh (.int kk))])))[(σ.zip δ2 ++ π).length]? = some (some v, Sl.sh rv.get) := by
    rw [← List.append_assoc, List.getElem?_append_right (Nat.le_refl _), Nat.sub_self]
    rfl
  obtain ⟨v', ev', rvv⟩ := y2.sh _ _ _ ev
  cases ev'
  have z := nw (xs.set j v) (ds.set j rv.get) (rx.set rvv)
  have hi : i < (σ.zip δ2).length := by rw [zip_length s2.len]; exact (List.getElem?_eq_some_iff.mp q3).1
  rw [List.set_append_left _ _ hi, zip_set q0] at z
  refine ⟨p0, xs, kk, j, rfl, rfl, hl, by rw [rx.length]; exact q4, k.nx _ q5 _ _ ?_⟩
  have s3 : SS X.K W (upd H2 p0 (.lst (xs.set j v))) σ (δ2.set i (.ow (Ot.flat (ds.set j rv.get)))) (π ++ [(some v, Sl.sh rv.get)] ++ [(some (V.int kk), Sl.sh (.int kk))]) := ⟨by rw [List.length_set]; exact s2.len, s2.io, S, F, z⟩
  exact s3.drop.drop
end
end VL

/-! ## VL27 -/
set_option Elab.async false
set_option linter.all false
set_option autoImplicit false
set_option maxRecDepth 100000
set_option maxHeartbeats 4000000
namespace VL
open PySem PySem.Spec PyProof.Rows L2
section
variable {X : Cx} {W : Wd} {wx : WX} {K : PySem.W.Frag} {H H' : Hp} {σ : L2.St} {δ δ' : List Sl} {π : List Cell} {pos pos' p np : Pos} {body suite : List Stmt} {pb : VSt}
/-! ### try .. except C (no name): the suite knows nothing of the exception -/
def vTry0 (sb : Addr → Bool → Prop) (pb ps : VSt) : VSt := fun E δ =>
  pb ⟨E.nx, E.rt, E.bk, E.ct, fun x δ' => ∃ b, sb x.cls b ∧ (b = true → ps ⟨E.nx, E.rt, E.bk, E.ct, noX⟩ δ') ∧ (b = false → E.ex x δ')⟩ δ
theorem vs_try0 {x : Str} {cv : Value} {b0 : Stmt} {sb : Addr → Bool → Prop} {ps : VSt} (hs : X.stack = X.env :: X.outer) (hf : X.env.frame = some X.env.locals) (hc : Names X x cv) (tk : Takes X wx)
    (hsb : ∀ C b, sb C b → PySem.W.exmOne X.K (.ref C) cv = some b)
    (hb : ∀ (w2 : WX) (pn : List (Addr × Obj)) (xe : Value → Shared → Prop), Takes (X.tr pn xe) w2 → PassesOwn (model X.prog X.w) X.A X.env xe → VSs (X.tr pn xe) W w2 body pb)
    (hsu : ∀ (a : Addr) (oe : Obj) (pn : List (Addr × Obj)), VSs (X.suite a ((a, oe) :: pn)) W wx0 (b0 :: suite) ps) :
    VS X W wx (.Try body [.ExceptHandler (some (.Name x np)) none (b0 :: suite) pos'] [] [] pos) (vTry0 sb pb ps) := by
  refine ⟨PS.imp (ps_try_only (tb := fun w2 => lS X.K W w2 pb) (ts := fun a cls d => lS X.K W wx0 ps) hs hf hc tk (fun w2 pn xe t1 t2 => (hb w2 pn xe t1 t2).ps) (fun a oe cls d pn z1 z2 => (hsu a oe pn).ps)) fun Dd σ H ⟨δ, π, E, s, h, k⟩ => ?_⟩
  refine ⟨δ, π, _, s, h, ⟨k.nx, k.rt, k.bk, k.ct, fun σ1 x1 δ1 q d H1 vs s1 l1 ds1 => ?_⟩⟩
  obtain ⟨bb, q1, q2, q3⟩ := q
  refine ⟨bb, hsb _ _ q1, fun eb a ha => ?_, fun eb => k.ex σ1 _ _ (q3 eb) d H1 vs s1 l1 ds1⟩
  exact ⟨δ1, π, _, s1.drop, q2 eb, ⟨k.nx, k.rt, k.bk, k.ct, fun _ _ _ z => z.elim⟩⟩
end
end VL

/-! ## VLx -/
set_option Elab.async false
set_option linter.all false
set_option autoImplicit false
set_option maxRecDepth 100000
set_option maxHeartbeats 4000000
namespace VL
open PySem PySem.Spec PyProof.Rows L2
section
variable {X : Cx} {K : PySem.W.Frag}
def cMulX (i j : Int) : Bool := decide ((Builtin.Int.intBits i : Int) + (Builtin.Int.intBits j : Int) ≤ 134217728)
abbrev fMulX := fI cMulX (fun i j => .int (i * j))
theorem snd_mulX : Snd2 K (rI CMulX fun i j => .int (i * j)) fMulX := snd_I (fun i j h => (of_decide_eq_true h : _ ≤ _)) fun _ _ _ _ => .int _
end
end VL

/-! ## GK50 -/
set_option Elab.async false
set_option linter.all false
set_option autoImplicit false
set_option maxRecDepth 100000
set_option maxHeartbeats 8000000
namespace K50
open PySem PySem.Spec PyProof.Rows L2 VL
def topS (i : Nat) : Stmt := PySem.Challenge.pw_scribeself_k50_wrapped_operations.main.body.getD i (.Pass ⟨0, 0, 0, 0⟩)
abbrev st_wrapped : Stmt := topS 1
abbrev st_wrap : Stmt := topS 3
abbrev st_operate : Stmt := topS 4
abbrev st__law_cell : Stmt := topS 6
abbrev st__law_integer : Stmt := topS 7
abbrev st__law_wrapped : Stmt := topS 8
abbrev st__law_exactly : Stmt := topS 9
abbrev st_law : Stmt := topS 10
/-! ### wrapped -/
abbrev N_wrapped : List Str := ["n"]
abbrev P_wrapped : List Str := ["n"]
theorem sc_wrapped : FnScope N_wrapped P_wrapped (defScope st_wrapped) := ⟨rfl, rfl, rfl, by decide +kernel, rfl, by decide +kernel, by decide +kernel⟩
def t_wrapped  : VSt :=
  (vRet (v2 fSub (.pd (v2 fMod (.pd (v2 fAdd (.pk 0) (.pd (vC (.int 2147483648))))) (.pd (vC (.int 4294967296))))) (.pd (vC (.int 2147483648)))))
theorem der_wrapped {P : Program} {w : World} {K : PySem.W.Frag} {mg : Str → Option Value} {base : Heap} {f : Addr}   (cdv : Value) (A : Around) (outer : List Env) (s : Shared) (H : Hp) (E : XK) (W : Wd) (wx : WX) (hio : W.io = none) (hr : Room 0 (A.deeper (envOfC (Str.ofString "wrapped") (defScope st_wrapped) s.heap.objs.size f cdv)))
    (tk : Takes (cxOf (L2.CX P w) P w K mg base N_wrapped (Str.ofString "wrapped") (defScope st_wrapped) f cdv A outer s H E) wx) (pso : PassesOwn (model P w) (A.deeper (envOfC (Str.ofString "wrapped") (defScope st_wrapped) s.heap.objs.size f cdv)) (envOfC (Str.ofString "wrapped") (defScope st_wrapped) s.heap.objs.size f cdv) (cxOf (L2.CX P w) P w K mg base N_wrapped (Str.ofString "wrapped") (defScope st_wrapped) f cdv A outer s H E).xe) : VSs (cxOf (L2.CX P w) P w K mg base N_wrapped (Str.ofString "wrapped") (defScope st_wrapped) f cdv A outer s H E) W wx (defBody st_wrapped) (t_wrapped ) := by
  have nd := sc_wrapped.nd
  have hu := hu64 hr
  have hu1 := hu65 hr
  exact (vss_one (vs_ret (ve_op op_sub snd_sub (vo_pd (ve_op op_mod snd_mod (vo_pd (ve_op op_addV snd_add (vo_pk 0) (vo_pd (ve_int)))) (vo_pd (ve_int)))) (vo_pd (ve_int)))))
/-! ### wrap -/
abbrev N_wrap : List Str := ["number"]
abbrev P_wrap : List Str := ["number"]
theorem sc_wrap : FnScope N_wrap P_wrap (defScope st_wrap) := ⟨rfl, rfl, rfl, by decide +kernel, rfl, by decide +kernel, by decide +kernel⟩
def t_wrap (s_wrapped : SemV) : VSt :=
  (vRet (vCall s_wrapped (vCons (vV 0) vNil)))
theorem der_wrap {P : Program} {w : World} {K : PySem.W.Frag} {mg : Str → Option Value} {base : Heap} {f : Addr} (s_wrapped : SemV) (G_wrapped : FnV P w K mg base 1 (Str.ofString "wrapped") 1 s_wrapped) (cdv : Value) (A : Around) (outer : List Env) (s : Shared) (H : Hp) (E : XK) (W : Wd) (wx : WX) (hio : W.io = none) (hr : Room 1 (A.deeper (envOfC (Str.ofString "wrap") (defScope st_wrap) s.heap.objs.size f cdv)))
    (tk : Takes (cxOf (L2.CX P w) P w K mg base N_wrap (Str.ofString "wrap") (defScope st_wrap) f cdv A outer s H E) wx) (pso : PassesOwn (model P w) (A.deeper (envOfC (Str.ofString "wrap") (defScope st_wrap) s.heap.objs.size f cdv)) (envOfC (Str.ofString "wrap") (defScope st_wrap) s.heap.objs.size f cdv) (cxOf (L2.CX P w) P w K mg base N_wrap (Str.ofString "wrap") (defScope st_wrap) f cdv A outer s H E).xe) : VSs (cxOf (L2.CX P w) P w K mg base N_wrap (Str.ofString "wrap") (defScope st_wrap) f cdv A outer s H E) W wx (defBody st_wrap) (t_wrap s_wrapped) := by
  have nd := sc_wrap.nd
  have hu := hu64 hr
  have hu1 := hu65 hr
  exact (vss_one (vs_ret (ve_call G_wrapped (hr.mono (by decide)) tk (va_cons (ve_var 0) va_nil) rfl)))
/-! ### operate -/
abbrev N_operate : List Str := ["name", "a", "b"]
abbrev P_operate : List Str := ["name", "a", "b"]
theorem sc_operate : FnScope N_operate P_operate (defScope st_operate) := ⟨rfl, rfl, rfl, by decide +kernel, rfl, by decide +kernel, by decide +kernel⟩
def t_operate (s_wrapped : SemV) : VSt :=
  (vSeq (vIfS (vB (v2 fEq (.pk 0) (.pd (vC (.str (Str.ofString "add")))))) (vRet (vCall s_wrapped (vCons (v2 fAdd (.pk 1) (.pk 2)) vNil))) vEnd)
    (vSeq (vIfS (vB (v2 fEq (.pk 0) (.pd (vC (.str (Str.ofString "sub")))))) (vRet (vCall s_wrapped (vCons (v2 fSub (.pk 1) (.pk 2)) vNil))) vEnd)
    (vSeq (vIfS (vB (v2 fEq (.pk 0) (.pd (vC (.str (Str.ofString "mul")))))) (vRet (vCall s_wrapped (vCons (v2 fMul (.pk 1) (.pk 2)) vNil))) vEnd)
    (vSeq (vIfS (vB (v2 fEq (.pk 0) (.pd (vC (.str (Str.ofString "less")))))) (vRet (vIf (vB (v2 fLt (.pk 1) (.pk 2))) (vC (.int 1)) (vC (.int 0)))) vEnd)
    (vRet (vIf (vB (v2 fEq (.pk 1) (.pk 2))) (vC (.int 1)) (vC (.int 0))))))))
theorem der_operate {P : Program} {w : World} {K : PySem.W.Frag} {mg : Str → Option Value} {base : Heap} {f : Addr} (s_wrapped : SemV) (G_wrapped : FnV P w K mg base 1 (Str.ofString "wrapped") 1 s_wrapped) (cdv : Value) (A : Around) (outer : List Env) (s : Shared) (H : Hp) (E : XK) (W : Wd) (wx : WX) (hio : W.io = none) (hr : Room 1 (A.deeper (envOfC (Str.ofString "operate") (defScope st_operate) s.heap.objs.size f cdv)))
    (tk : Takes (cxOf (L2.CX P w) P w K mg base N_operate (Str.ofString "operate") (defScope st_operate) f cdv A outer s H E) wx) (pso : PassesOwn (model P w) (A.deeper (envOfC (Str.ofString "operate") (defScope st_operate) s.heap.objs.size f cdv)) (envOfC (Str.ofString "operate") (defScope st_operate) s.heap.objs.size f cdv) (cxOf (L2.CX P w) P w K mg base N_operate (Str.ofString "operate") (defScope st_operate) f cdv A outer s H E).xe) : VSs (cxOf (L2.CX P w) P w K mg base N_operate (Str.ofString "operate") (defScope st_operate) f cdv A outer s H E) W wx (defBody st_operate) (t_operate s_wrapped) := by
  have nd := sc_operate.nd
  have hu := hu64 hr
  have hu1 := hu65 hr
  exact (vss_cons (vs_if (vc_cmp (op_eqD hu) snd_eq (vo_pk 0) (vo_pd (ve_str)) (nomark _)) (vss_one (vs_ret (ve_call G_wrapped (hr.mono (by decide)) tk (va_cons (ve_op op_addV snd_add (vo_pk 1) (vo_pk 2)) va_nil) rfl))) vss_nil)
    (vss_cons (vs_if (vc_cmp (op_eqD hu) snd_eq (vo_pk 0) (vo_pd (ve_str)) (nomark _)) (vss_one (vs_ret (ve_call G_wrapped (hr.mono (by decide)) tk (va_cons (ve_op op_sub snd_sub (vo_pk 1) (vo_pk 2)) va_nil) rfl))) vss_nil)
    (vss_cons (vs_if (vc_cmp (op_eqD hu) snd_eq (vo_pk 0) (vo_pd (ve_str)) (nomark _)) (vss_one (vs_ret (ve_call G_wrapped (hr.mono (by decide)) tk (va_cons (ve_op op_mul snd_mul (vo_pk 1) (vo_pk 2)) va_nil) rfl))) vss_nil)
    (vss_cons (vs_if (vc_cmp (op_eqD hu) snd_eq (vo_pk 0) (vo_pd (ve_str)) (nomark _)) (vss_one (vs_ret (ve_if (vc_cmp op_lt snd_lt (vo_pk 1) (vo_pk 2) (nomark _)) (ve_int) (ve_int)))) vss_nil)
    (vss_one (vs_ret (ve_if (vc_cmp (op_eqD hu) snd_eq (vo_pk 1) (vo_pk 2) (nomark _)) (ve_int) (ve_int))))))))
/-! ### _law_cell -/
abbrev N__law_cell : List Str := ["script", "k"]
abbrev P__law_cell : List Str := ["script", "k"]
theorem sc__law_cell : FnScope N__law_cell P__law_cell (defScope st__law_cell) := ⟨rfl, rfl, rfl, by decide +kernel, rfl, by decide +kernel, by decide +kernel⟩
def t__law_cell  : VSt :=
  (vSeq (vIfS (vB (v2 fLt (.pk 1) (.pd (v1 fLen (.pk 0))))) (vRet (v2 fIx (.pk 0) (.pk 1))) vEnd)
    (vRet (vC (.int 0))))
theorem der__law_cell {P : Program} {w : World} {K : PySem.W.Frag} {mg : Str → Option Value} {base : Heap} {f : Addr}  (m_len : mg (Str.ofString "len") = none) (cdv : Value) (A : Around) (outer : List Env) (s : Shared) (H : Hp) (E : XK) (W : Wd) (wx : WX) (hio : W.io = none) (hr : Room 0 (A.deeper (envOfC (Str.ofString "_law_cell") (defScope st__law_cell) s.heap.objs.size f cdv)))
    (tk : Takes (cxOf (L2.CX P w) P w K mg base N__law_cell (Str.ofString "_law_cell") (defScope st__law_cell) f cdv A outer s H E) wx) (pso : PassesOwn (model P w) (A.deeper (envOfC (Str.ofString "_law_cell") (defScope st__law_cell) s.heap.objs.size f cdv)) (envOfC (Str.ofString "_law_cell") (defScope st__law_cell) s.heap.objs.size f cdv) (cxOf (L2.CX P w) P w K mg base N__law_cell (Str.ofString "_law_cell") (defScope st__law_cell) f cdv A outer s H E).xe) : VSs (cxOf (L2.CX P w) P w K mg base N__law_cell (Str.ofString "_law_cell") (defScope st__law_cell) f cdv A outer s H E) W wx (defBody st__law_cell) (t__law_cell ) := by
  have nd := sc__law_cell.nd
  have hu := hu64 hr
  have hu1 := hu65 hr
  exact (vss_cons (vs_if (vc_cmp op_lt snd_lt (vo_pk 1) (vo_pd (ve_b1 call_len snd_len m_len PySem.boot_len (vo_pk 0))) (nomark _)) (vss_one (vs_ret (ve_ix ix_seq snd_ix (vo_pk 0) (vo_pk 1) (fun _ _ => rfl)))) vss_nil)
    (vss_one (vs_ret (ve_int))))
/-! ### _law_integer -/
abbrev N__law_integer : List Str := ["script", "k", "number", "kind"]
abbrev P__law_integer : List Str := ["script", "k"]
theorem sc__law_integer : FnScope N__law_integer P__law_integer (defScope st__law_integer) := ⟨rfl, rfl, rfl, by decide +kernel, rfl, by decide +kernel, by decide +kernel⟩
def t__law_integer (s__law_cell : SemV) : VSt :=
  (vSeq (vSet 2 (vCall s__law_cell (vCons (vV 0) (vCons (vV 1) vNil))))
    (vSeq (vSet 3 (v2 fMod (.pd (v1 fInt (.pd (vCall s__law_cell (vCons (vV 0) (vCons (v2 fAdd (.pk 1) (.pd (vC (.int 1)))) vNil)))))) (.pd (vC (.int 5)))))
    (vSeq (vIfS (vB (v2 fEq (.pk 3) (.pd (vC (.int 1))))) (vRet (v2 fSub (.pd (v2 fAdd (.pd (v2 fMul (.pd (vC (.int 2147483648))) (.pd (v2 fSub (.pd (v2 fMod (.pd (v1 fInt (.pk 2))) (.pd (vC (.int 9))))) (.pd (vC (.int 4))))))) (.pd (v2 fMod (.pd (v1 fInt (.pd (v2 fFdv (.pk 2) (.pd (vC (.int 9))))))) (.pd (vC (.int 3))))))) (.pd (vC (.int 1))))) vEnd)
    (vSeq (vIfS (vB (v2 fEq (.pk 3) (.pd (vC (.int 2))))) (vRet (v2 fSub (.pd (v2 fMod (.pd (v1 fInt (.pk 2))) (.pd (vC (.int 7))))) (.pd (vC (.int 3))))) vEnd)
    (vRet (vV 2))))))
theorem der__law_integer {P : Program} {w : World} {K : PySem.W.Frag} {mg : Str → Option Value} {base : Heap} {f : Addr} (s__law_cell : SemV) (G__law_cell : FnV P w K mg base 1 (Str.ofString "_law_cell") 2 s__law_cell) (m_int : mg (Str.ofString "int") = none) (cdv : Value) (A : Around) (outer : List Env) (s : Shared) (H : Hp) (E : XK) (W : Wd) (wx : WX) (hio : W.io = none) (hr : Room 1 (A.deeper (envOfC (Str.ofString "_law_integer") (defScope st__law_integer) s.heap.objs.size f cdv)))
    (tk : Takes (cxOf (L2.CX P w) P w K mg base N__law_integer (Str.ofString "_law_integer") (defScope st__law_integer) f cdv A outer s H E) wx) (pso : PassesOwn (model P w) (A.deeper (envOfC (Str.ofString "_law_integer") (defScope st__law_integer) s.heap.objs.size f cdv)) (envOfC (Str.ofString "_law_integer") (defScope st__law_integer) s.heap.objs.size f cdv) (cxOf (L2.CX P w) P w K mg base N__law_integer (Str.ofString "_law_integer") (defScope st__law_integer) f cdv A outer s H E).xe) : VSs (cxOf (L2.CX P w) P w K mg base N__law_integer (Str.ofString "_law_integer") (defScope st__law_integer) f cdv A outer s H E) W wx (defBody st__law_integer) (t__law_integer s__law_cell) := by
  have nd := sc__law_integer.nd
  have hu := hu64 hr
  have hu1 := hu65 hr
  exact (vss_cons (vs_set (i := 2) nd rfl (.inl rfl) (ve_call G__law_cell (hr.mono (by decide)) tk (va_cons (ve_var 0) (va_cons (ve_var 1) va_nil)) rfl) (.inl (by decide)))
    (vss_cons (vs_set (i := 3) nd rfl (.inl rfl) (ve_op op_mod snd_mod (vo_pd (ve_t1 call_int1 snd_int m_int (by decide +kernel) (vo_pd (ve_call G__law_cell (hr.mono (by decide)) tk (va_cons (ve_var 0) (va_cons (ve_op op_addV snd_add (vo_pk 1) (vo_pd (ve_int))) va_nil)) rfl)))) (vo_pd (ve_int))) (.inl (by decide)))
    (vss_cons (vs_if (vc_cmp (op_eqD hu) snd_eq (vo_pk 3) (vo_pd (ve_int)) (nomark _)) (vss_one (vs_ret (ve_op op_sub snd_sub (vo_pd (ve_op op_addV snd_add (vo_pd (ve_op op_mul snd_mul (vo_pd (ve_int)) (vo_pd (ve_op op_sub snd_sub (vo_pd (ve_op op_mod snd_mod (vo_pd (ve_t1 call_int1 snd_int m_int (by decide +kernel) (vo_pk 2))) (vo_pd (ve_int)))) (vo_pd (ve_int)))))) (vo_pd (ve_op op_mod snd_mod (vo_pd (ve_t1 call_int1 snd_int m_int (by decide +kernel) (vo_pd (ve_op op_fdivW snd_fdv (vo_pk 2) (vo_pd (ve_int)))))) (vo_pd (ve_int)))))) (vo_pd (ve_int))))) vss_nil)
    (vss_cons (vs_if (vc_cmp (op_eqD hu) snd_eq (vo_pk 3) (vo_pd (ve_int)) (nomark _)) (vss_one (vs_ret (ve_op op_sub snd_sub (vo_pd (ve_op op_mod snd_mod (vo_pd (ve_t1 call_int1 snd_int m_int (by decide +kernel) (vo_pk 2))) (vo_pd (ve_int)))) (vo_pd (ve_int))))) vss_nil)
    (vss_one (vs_ret (ve_var 2)))))))
/-! ### _law_wrapped -/
abbrev N__law_wrapped : List Str := ["actual", "number"]
abbrev P__law_wrapped : List Str := ["actual", "number"]
theorem sc__law_wrapped : FnScope N__law_wrapped P__law_wrapped (defScope st__law_wrapped) := ⟨rfl, rfl, rfl, by decide +kernel, rfl, by decide +kernel, by decide +kernel⟩
def t__law_wrapped  : VSt :=
  (vSeq (vIfS ((vOr (vNot (vTru (.pd (v1 (isT "int") (.pk 0))))) (vTru (.pd (v1 (isT "bool") (.pk 0)))))) (vRet (vC (.bool false))) vEnd)
    (vSeq (vIfS (vNot (vB (vChain fLe fLe (.pd (v1 fNeg (.pd (vC (.int 2147483648))))) (.pk 0) (.pd (vC (.int 2147483647)))))) (vRet (vC (.bool false))) vEnd)
    (vRet (v2 fEq (.pd (v2 fMod (.pd (v1 fInt (.pd (v2 fSub (.pk 1) (.pk 0))))) (.pd (vC (.int 4294967296))))) (.pd (vC (.int 0)))))))
theorem der__law_wrapped {P : Program} {w : World} {K : PySem.W.Frag} {mg : Str → Option Value} {base : Heap} {f : Addr}  (m_bool : mg (Str.ofString "bool") = none) (m_int : mg (Str.ofString "int") = none) (m_isinstance : mg (Str.ofString "isinstance") = none) (cdv : Value) (A : Around) (outer : List Env) (s : Shared) (H : Hp) (E : XK) (W : Wd) (wx : WX) (hio : W.io = none) (hr : Room 0 (A.deeper (envOfC (Str.ofString "_law_wrapped") (defScope st__law_wrapped) s.heap.objs.size f cdv)))
    (tk : Takes (cxOf (L2.CX P w) P w K mg base N__law_wrapped (Str.ofString "_law_wrapped") (defScope st__law_wrapped) f cdv A outer s H E) wx) (pso : PassesOwn (model P w) (A.deeper (envOfC (Str.ofString "_law_wrapped") (defScope st__law_wrapped) s.heap.objs.size f cdv)) (envOfC (Str.ofString "_law_wrapped") (defScope st__law_wrapped) s.heap.objs.size f cdv) (cxOf (L2.CX P w) P w K mg base N__law_wrapped (Str.ofString "_law_wrapped") (defScope st__law_wrapped) f cdv A outer s H E).xe) : VSs (cxOf (L2.CX P w) P w K mg base N__law_wrapped (Str.ofString "_law_wrapped") (defScope st__law_wrapped) f cdv A outer s H E) W wx (defBody st__law_wrapped) (t__law_wrapped ) := by
  have nd := sc__law_wrapped.nd
  have hu := hu64 hr
  have hu1 := hu65 hr
  exact (vss_cons (vs_if (vc_w (vw_or (vc_not (vc_tru (vo_pd (ve_isi m_isinstance m_int (by decide +kernel) (vo_pk 0))))) (vw_or1 (vc_tru (vo_pd (ve_isi m_isinstance m_bool (by decide +kernel) (vo_pk 0))))))) (vss_one (vs_ret (ve_bl))) vss_nil)
    (vss_cons (vs_if (vc_not (vc_chain op_le snd_le op_le snd_le (vo_pd (ve_un un_neg snd_neg (vo_pd (ve_int)))) (vo_pk 0) (vo_pd (ve_int)))) (vss_one (vs_ret (ve_bl))) vss_nil)
    (vss_one (vs_ret (ve_cmp (op_eqD hu) snd_eq (vo_pd (ve_op op_mod snd_mod (vo_pd (ve_t1 call_int1 snd_int m_int (by decide +kernel) (vo_pd (ve_op op_sub snd_sub (vo_pk 1) (vo_pk 0))))) (vo_pd (ve_int)))) (vo_pd (ve_int)) (nomark _))))))
/-! ### _law_exactly -/
abbrev N__law_exactly : List Str := ["actual", "due"]
abbrev P__law_exactly : List Str := ["actual", "due"]
theorem sc__law_exactly : FnScope N__law_exactly P__law_exactly (defScope st__law_exactly) := ⟨rfl, rfl, rfl, by decide +kernel, rfl, by decide +kernel, by decide +kernel⟩
def t__law_exactly  : VSt :=
  (vRet (vAndV (v1 (isT "int") (.pk 0)) (vAndV (vNotV (v1 (isT "bool") (.pk 0))) (v2 fEq (.pk 0) (.pk 1)))))
theorem der__law_exactly {P : Program} {w : World} {K : PySem.W.Frag} {mg : Str → Option Value} {base : Heap} {f : Addr}  (m_bool : mg (Str.ofString "bool") = none) (m_int : mg (Str.ofString "int") = none) (m_isinstance : mg (Str.ofString "isinstance") = none) (cdv : Value) (A : Around) (outer : List Env) (s : Shared) (H : Hp) (E : XK) (W : Wd) (wx : WX) (hio : W.io = none) (hr : Room 0 (A.deeper (envOfC (Str.ofString "_law_exactly") (defScope st__law_exactly) s.heap.objs.size f cdv)))
    (tk : Takes (cxOf (L2.CX P w) P w K mg base N__law_exactly (Str.ofString "_law_exactly") (defScope st__law_exactly) f cdv A outer s H E) wx) (pso : PassesOwn (model P w) (A.deeper (envOfC (Str.ofString "_law_exactly") (defScope st__law_exactly) s.heap.objs.size f cdv)) (envOfC (Str.ofString "_law_exactly") (defScope st__law_exactly) s.heap.objs.size f cdv) (cxOf (L2.CX P w) P w K mg base N__law_exactly (Str.ofString "_law_exactly") (defScope st__law_exactly) f cdv A outer s H E).xe) : VSs (cxOf (L2.CX P w) P w K mg base N__law_exactly (Str.ofString "_law_exactly") (defScope st__law_exactly) f cdv A outer s H E) W wx (defBody st__law_exactly) (t__law_exactly ) := by
  have nd := sc__law_exactly.nd
  have hu := hu64 hr
  have hu1 := hu65 hr
  exact (vss_one (vs_ret (ve_and (ve_isi m_isinstance m_int (by decide +kernel) (vo_pk 0)) (ve_and (ve_not (ve_isi m_isinstance m_bool (by decide +kernel) (vo_pk 0))) (ve_one (ve_cmp (op_eqD hu) snd_eq (vo_pk 0) (vo_pk 1) (nomark _)))))))
/-! ### law -/
abbrev N_law : List Str := ["script", "first", "second", "a", "b"]
abbrev P_law : List Str := ["script"]
theorem sc_law : FnScope N_law P_law (defScope st_law) := ⟨rfl, rfl, rfl, by decide +kernel, rfl, by decide +kernel, by decide +kernel⟩
def q1_law (s__law_cell : SemV) (s__law_exactly : SemV) (s__law_integer : SemV) (s__law_wrapped : SemV) (s_operate : SemV) (s_wrap : SemV) : VSt :=
  (vSet 2 (v2 fAdd (.pk 1) (.pd (v2 fMul (.pd (vC (.int 4294967296))) (.pd (v2 fMod (.pd (v1 fInt (.pd (vCall s__law_cell (vCons (vV 0) (vCons (vC (.int 4)) vNil)))))) (.pd (vC (.int 5)))))))))
def b10_law (s__law_cell : SemV) (s__law_exactly : SemV) (s__law_integer : SemV) (s__law_wrapped : SemV) (s_operate : SemV) (s_wrap : SemV) : VSt :=
  (vRet (vCall s__law_exactly (vCons (vCall s_operate (vCons (vC (.str (Str.ofString "same"))) (vCons (vV 3) (vCons (vV 4) vNil)))) (vCons (v1 fInt (.pd (v2 fEq (.pk 3) (.pk 4)))) vNil))))
def b9_law (s__law_cell : SemV) (s__law_exactly : SemV) (s__law_integer : SemV) (s__law_wrapped : SemV) (s_operate : SemV) (s_wrap : SemV) : VSt :=
  (vSeq (vIfS (vNot (vTru (.pd (vCall s__law_exactly (vCons (vCall s_operate (vCons (vC (.str (Str.ofString "less"))) (vCons (vV 3) (vCons (vV 4) vNil)))) (vCons (v1 fInt (.pd (v2 fLt (.pk 3) (.pk 4)))) vNil)))))) (vRet (vC (.bool false))) vEnd)
    (b10_law s__law_cell s__law_exactly s__law_integer s__law_wrapped s_operate s_wrap))
def b8_law (s__law_cell : SemV) (s__law_exactly : SemV) (s__law_integer : SemV) (s__law_wrapped : SemV) (s_operate : SemV) (s_wrap : SemV) : VSt :=
  (vSeq (vIfS (vNot (vTru (.pd (vCall s__law_wrapped (vCons (vCall s_operate (vCons (vC (.str (Str.ofString "mul"))) (vCons (vV 3) (vCons (vV 4) vNil)))) (vCons (v2 fMulX (.pk 1) (.pk 2)) vNil)))))) (vRet (vC (.bool false))) vEnd)
    (b9_law s__law_cell s__law_exactly s__law_integer s__law_wrapped s_operate s_wrap))
def b7_law (s__law_cell : SemV) (s__law_exactly : SemV) (s__law_integer : SemV) (s__law_wrapped : SemV) (s_operate : SemV) (s_wrap : SemV) : VSt :=
  (vSeq (vIfS (vNot (vTru (.pd (vCall s__law_wrapped (vCons (vCall s_operate (vCons (vC (.str (Str.ofString "sub"))) (vCons (vV 3) (vCons (vV 4) vNil)))) (vCons (v2 fSub (.pk 1) (.pk 2)) vNil)))))) (vRet (vC (.bool false))) vEnd)
    (b8_law s__law_cell s__law_exactly s__law_integer s__law_wrapped s_operate s_wrap))
def b6_law (s__law_cell : SemV) (s__law_exactly : SemV) (s__law_integer : SemV) (s__law_wrapped : SemV) (s_operate : SemV) (s_wrap : SemV) : VSt :=
  (vSeq (vIfS (vNot (vTru (.pd (vCall s__law_wrapped (vCons (vCall s_operate (vCons (vC (.str (Str.ofString "add"))) (vCons (vV 3) (vCons (vV 4) vNil)))) (vCons (v2 fAdd (.pk 1) (.pk 2)) vNil)))))) (vRet (vC (.bool false))) vEnd)
    (b7_law s__law_cell s__law_exactly s__law_integer s__law_wrapped s_operate s_wrap))
def b5_law (s__law_cell : SemV) (s__law_exactly : SemV) (s__law_integer : SemV) (s__law_wrapped : SemV) (s_operate : SemV) (s_wrap : SemV) : VSt :=
  (vSeq (vIfS ((vOr (vNot (vTru (.pd (vCall s__law_wrapped (vCons (vV 3) (vCons (vV 1) vNil)))))) (vNot (vTru (.pd (vCall s__law_wrapped (vCons (vV 4) (vCons (vV 2) vNil)))))))) (vRet (vC (.bool false))) vEnd)
    (b6_law s__law_cell s__law_exactly s__law_integer s__law_wrapped s_operate s_wrap))
def b4_law (s__law_cell : SemV) (s__law_exactly : SemV) (s__law_integer : SemV) (s__law_wrapped : SemV) (s_operate : SemV) (s_wrap : SemV) : VSt :=
  (vSeq (vSet 4 (vCall s_wrap (vCons (vV 2) vNil)))
    (b5_law s__law_cell s__law_exactly s__law_integer s__law_wrapped s_operate s_wrap))
def b3_law (s__law_cell : SemV) (s__law_exactly : SemV) (s__law_integer : SemV) (s__law_wrapped : SemV) (s_operate : SemV) (s_wrap : SemV) : VSt :=
  (vSeq (vSet 3 (vCall s_wrap (vCons (vV 1) vNil)))
    (b4_law s__law_cell s__law_exactly s__law_integer s__law_wrapped s_operate s_wrap))
def b2_law (s__law_cell : SemV) (s__law_exactly : SemV) (s__law_integer : SemV) (s__law_wrapped : SemV) (s_operate : SemV) (s_wrap : SemV) : VSt :=
  (vSeq (vIfS (vB (v2 fEq (.pd (v2 fMod (.pd (v1 fInt (.pd (vCall s__law_cell (vCons (vV 0) (vCons (vC (.int 4)) vNil)))))) (.pd (vC (.int 6))))) (.pd (vC (.int 1))))) (q1_law s__law_cell s__law_exactly s__law_integer s__law_wrapped s_operate s_wrap) vEnd)
    (b3_law s__law_cell s__law_exactly s__law_integer s__law_wrapped s_operate s_wrap))
def b1_law (s__law_cell : SemV) (s__law_exactly : SemV) (s__law_integer : SemV) (s__law_wrapped : SemV) (s_operate : SemV) (s_wrap : SemV) : VSt :=
  (vSeq (vSet 2 (vCall s__law_integer (vCons (vV 0) (vCons (vC (.int 2)) vNil))))
    (b2_law s__law_cell s__law_exactly s__law_integer s__law_wrapped s_operate s_wrap))
def t_law (s__law_cell : SemV) (s__law_exactly : SemV) (s__law_integer : SemV) (s__law_wrapped : SemV) (s_operate : SemV) (s_wrap : SemV) : VSt :=
  (vSeq (vSet 1 (vCall s__law_integer (vCons (vV 0) (vCons (vC (.int 0)) vNil))))
    (b1_law s__law_cell s__law_exactly s__law_integer s__law_wrapped s_operate s_wrap))
theorem der_law {P : Program} {w : World} {K : PySem.W.Frag} {mg : Str → Option Value} {base : Heap} {f : Addr} (s__law_cell : SemV) (s__law_exactly : SemV) (s__law_integer : SemV) (s__law_wrapped : SemV) (s_operate : SemV) (s_wrap : SemV) (G__law_cell : FnV P w K mg base 1 (Str.ofString "_law_cell") 2 s__law_cell) (G__law_exactly : FnV P w K mg base 1 (Str.ofString "_law_exactly") 2 s__law_exactly) (G__law_integer : FnV P w K mg base 2 (Str.ofString "_law_integer") 2 s__law_integer) (G__law_wrapped : FnV P w K mg base 1 (Str.ofString "_law_wrapped") 2 s__law_wrapped) (G_operate : FnV P w K mg base 2 (Str.ofString "operate") 3 s_operate) (G_wrap : FnV P w K mg base 2 (Str.ofString "wrap") 1 s_wrap) (m_int : mg (Str.ofString "int") = none) (cdv : Value) (A : Around) (outer : List Env) (s : Shared) (H : Hp) (E : XK) (W : Wd) (wx : WX) (hio : W.io = none) (hr : Room 2 (A.deeper (envOfC (Str.ofString "law") (defScope st_law) s.heap.objs.size f cdv)))
    (tk : Takes (cxOf (L2.CX P w) P w K mg base N_law (Str.ofString "law") (defScope st_law) f cdv A outer s H E) wx) (pso : PassesOwn (model P w) (A.deeper (envOfC (Str.ofString "law") (defScope st_law) s.heap.objs.size f cdv)) (envOfC (Str.ofString "law") (defScope st_law) s.heap.objs.size f cdv) (cxOf (L2.CX P w) P w K mg base N_law (Str.ofString "law") (defScope st_law) f cdv A outer s H E).xe) : VSs (cxOf (L2.CX P w) P w K mg base N_law (Str.ofString "law") (defScope st_law) f cdv A outer s H E) W wx (defBody st_law) (t_law s__law_cell s__law_exactly s__law_integer s__law_wrapped s_operate s_wrap) := by
  have nd := sc_law.nd
  have hu := hu64 hr
  have hu1 := hu65 hr
  exact (vss_cons (vs_set (i := 1) nd rfl (.inl rfl) (ve_call G__law_integer (hr.mono (by decide)) tk (va_cons (ve_var 0) (va_cons (ve_int) va_nil)) rfl) (.inl (by decide)))
    (vss_cons (vs_set (i := 2) nd rfl (.inl rfl) (ve_call G__law_integer (hr.mono (by decide)) tk (va_cons (ve_var 0) (va_cons (ve_int) va_nil)) rfl) (.inl (by decide)))
    (vss_cons (vs_if (vc_cmp (op_eqD hu) snd_eq (vo_pd (ve_op op_mod snd_mod (vo_pd (ve_t1 call_int1 snd_int m_int (by decide +kernel) (vo_pd (ve_call G__law_cell (hr.mono (by decide)) tk (va_cons (ve_var 0) (va_cons (ve_int) va_nil)) rfl)))) (vo_pd (ve_int)))) (vo_pd (ve_int)) (nomark _)) (vss_one (vs_set (i := 2) nd rfl (.inl rfl) (ve_op op_addV snd_add (vo_pk 1) (vo_pd (ve_op op_mul snd_mul (vo_pd (ve_int)) (vo_pd (ve_op op_mod snd_mod (vo_pd (ve_t1 call_int1 snd_int m_int (by decide +kernel) (vo_pd (ve_call G__law_cell (hr.mono (by decide)) tk (va_cons (ve_var 0) (va_cons (ve_int) va_nil)) rfl)))) (vo_pd (ve_int))))))) (.inl (by decide)))) vss_nil)
    (vss_cons (vs_set (i := 3) nd rfl (.inl rfl) (ve_call G_wrap (hr.mono (by decide)) tk (va_cons (ve_var 1) va_nil) rfl) (.inl (by decide)))
    (vss_cons (vs_set (i := 4) nd rfl (.inl rfl) (ve_call G_wrap (hr.mono (by decide)) tk (va_cons (ve_var 2) va_nil) rfl) (.inl (by decide)))
    (vss_cons (vs_if (vc_w (vw_or (vc_not (vc_tru (vo_pd (ve_call G__law_wrapped (hr.mono (by decide)) tk (va_cons (ve_var 3) (va_cons (ve_var 1) va_nil)) rfl)))) (vw_or1 (vc_not (vc_tru (vo_pd (ve_call G__law_wrapped (hr.mono (by decide)) tk (va_cons (ve_var 4) (va_cons (ve_var 2) va_nil)) rfl))))))) (vss_one (vs_ret (ve_bl))) vss_nil)
    (vss_cons (vs_if (vc_not (vc_tru (vo_pd (ve_call G__law_wrapped (hr.mono (by decide)) tk (va_cons (ve_call G_operate (hr.mono (by decide)) tk (va_cons (ve_str) (va_cons (ve_var 3) (va_cons (ve_var 4) va_nil))) rfl) (va_cons (ve_op op_addV snd_add (vo_pk 1) (vo_pk 2)) va_nil)) rfl)))) (vss_one (vs_ret (ve_bl))) vss_nil)
    (vss_cons (vs_if (vc_not (vc_tru (vo_pd (ve_call G__law_wrapped (hr.mono (by decide)) tk (va_cons (ve_call G_operate (hr.mono (by decide)) tk (va_cons (ve_str) (va_cons (ve_var 3) (va_cons (ve_var 4) va_nil))) rfl) (va_cons (ve_op op_sub snd_sub (vo_pk 1) (vo_pk 2)) va_nil)) rfl)))) (vss_one (vs_ret (ve_bl))) vss_nil)
    (vss_cons (vs_if (vc_not (vc_tru (vo_pd (ve_call G__law_wrapped (hr.mono (by decide)) tk (va_cons (ve_call G_operate (hr.mono (by decide)) tk (va_cons (ve_str) (va_cons (ve_var 3) (va_cons (ve_var 4) va_nil))) rfl) (va_cons (ve_op op_mulX snd_mulX (vo_pk 1) (vo_pk 2)) va_nil)) rfl)))) (vss_one (vs_ret (ve_bl))) vss_nil)
    (vss_cons (vs_if (vc_not (vc_tru (vo_pd (ve_call G__law_exactly (hr.mono (by decide)) tk (va_cons (ve_call G_operate (hr.mono (by decide)) tk (va_cons (ve_str) (va_cons (ve_var 3) (va_cons (ve_var 4) va_nil))) rfl) (va_cons (ve_t1 call_int1 snd_int m_int (by decide +kernel) (vo_pd (ve_cmp op_lt snd_lt (vo_pk 3) (vo_pk 4) (nomark _)))) va_nil)) rfl)))) (vss_one (vs_ret (ve_bl))) vss_nil)
    (vss_one (vs_ret (ve_call G__law_exactly (hr.mono (by decide)) tk (va_cons (ve_call G_operate (hr.mono (by decide)) tk (va_cons (ve_str) (va_cons (ve_var 3) (va_cons (ve_var 4) va_nil))) rfl) (va_cons (ve_t1 call_int1 snd_int m_int (by decide +kernel) (vo_pd (ve_cmp (op_eqD hu) snd_eq (vo_pk 3) (vo_pk 4) (nomark _)))) va_nil)) rfl)))))))))))))
end K50

/-! ## S50 -/
set_option Elab.async false
set_option linter.all false
set_option exponentiation.threshold 10000
set_option autoImplicit false
set_option maxRecDepth 100000
set_option maxHeartbeats 8000000
namespace K50
open PySem PySem.Spec PyProof.Rows L2 VL
theorem fEq_str (a b : Str) (ha : dep (.str a) = true) (hb : dep (.str b) = true) : fEq (.str a) (.str b) = some (.sh (.bool (decide (a = b)))) := by
  unfold fEq; rw [ha, hb]; simp [PyData.eqv]
  by_cases h : a = b
  · simp [h]
  · simp [h]

abbrev bt (n : Int) : Nat := Builtin.Int.intBits n
theorem bt_small {a : Int} (l : -18446744073709551616 < a) (u : a < 18446744073709551616) : bt a ≤ 64 := intBits_le_iff.mpr (by omega)
def wr (n : Int) : Int := (n + 2147483648) % 4294967296 - 2147483648
theorem wr_lo (n : Int) : -2147483648 ≤ wr n := by unfold wr; omega
theorem wr_hi (n : Int) : wr n ≤ 2147483647 := by unfold wr; omega
theorem wr_id {n : Int} (h : -2147483648 ≤ n) (q : n ≤ 2147483647) : wr n = n := by unfold wr; omega
theorem wr_mod (n : Int) : (n - wr n) % 4294967296 = 0 := by unfold wr; omega
def sm_wrapped : SemV := fun ds Qd _ => ∃ n, ds = [.int n] ∧ Qd (.sh (.int (wr n)))
theorem s_wrapped {ds : List D} {Qd : Sl → Prop} {Xd : Exn → Prop} (h : sm_wrapped ds Qd Xd) : t_wrapped (enV Qd Xd) (ini 1 1 ds) := by
  obtain ⟨n, rfl, h1⟩ := h
  simp (decide := true) [-Bool.exists_bool, vSeq, vAsg, vV, vS, vIfS, vOr, vAnd, vNot, vB, v2, v1, Opr.ev, Opr.fin, ini, enV, iniO, enIO, bTup, bCons, bName, bNil, inAt, Sl.rd, Sl.get, Sl.isIn, vC, vEnd, vRaise, fLt, fAdd_int, fGt, fGe, fLe, fSub, fMul, fMod, fI, cMul, fMin2, fMax2, fInt, fAbs, fNeg, Option.bind, tx_len, tx_slU, tx_slL, tx_sl, vSlB, vRet, vSet, vDrp, vCall, vCons, vNil, vTup, vLst, vIf, vTru, tru_bool, fEq_tx, fNe_tx, fEq_int, fNe_int, fNe_ii, fNe_iit, vNotV, tx_rev, tup3_to2, cutL_fromN, vLc_eq, vFor_eq, wipeD, vYes, vPair, iR1, iL, tup3_0, tup3_1, tup3_2, lst2_0, lst2_1, vIO, vAug, fAug_int, slotInt, tx_ixn, t_wrapped]
  exact h1
theorem s_wrap {ds : List D} {Qd : Sl → Prop} {Xd : Exn → Prop} (h : sm_wrapped ds Qd Xd) : t_wrap sm_wrapped (enV Qd Xd) (ini 1 1 ds) := by
  obtain ⟨n, rfl, h1⟩ := h
  simp (decide := true) [-Bool.exists_bool, vSeq, vAsg, vV, vS, vIfS, vOr, vAnd, vNot, vB, v2, v1, Opr.ev, Opr.fin, ini, enV, iniO, enIO, bTup, bCons, bName, bNil, inAt, Sl.rd, Sl.get, Sl.isIn, vC, vEnd, vRaise, fLt, fAdd_int, fGt, fGe, fLe, fSub, fMul, fMod, fI, cMul, fMin2, fMax2, fInt, fAbs, fNeg, Option.bind, tx_len, tx_slU, tx_slL, tx_sl, vSlB, vRet, vSet, vDrp, vCall, vCons, vNil, vTup, vLst, vIf, vTru, tru_bool, fEq_tx, fNe_tx, fEq_int, fNe_int, fNe_ii, fNe_iit, vNotV, tx_rev, tup3_to2, cutL_fromN, vLc_eq, vFor_eq, wipeD, vYes, vPair, iR1, iL, tup3_0, tup3_1, tup3_2, lst2_0, lst2_1, vIO, vAug, fAug_int, slotInt, tx_ixn, t_wrap]
  exact ⟨n, rfl, h1⟩
abbrev A0 : Str := Str.ofString "add"
abbrev A1 : Str := Str.ofString "sub"
abbrev A2 : Str := Str.ofString "mul"
abbrev A3 : Str := Str.ofString "less"
abbrev A4 : Str := Str.ofString "same"
theorem dep_str (a : Str) : dep (.str a) = true := by simp [dep, PyData.depth]
theorem fEq_lit (a b : Str) : fEq (.str a) (.str b) = some (.sh (.bool (decide (a = b)))) := fEq_str a b (dep_str a) (dep_str b)
def sm_op : SemV := fun ds Qd _ => ∃ (nm : Str) (a b : Int), ds = [.str nm, .int a, .int b] ∧ (-2147483648 ≤ a ∧ a ≤ 2147483647) ∧
  ((nm = A0 ∧ Qd (.sh (.int (wr (a + b))))) ∨ (nm = A1 ∧ Qd (.sh (.int (wr (a - b))))) ∨ (nm = A2 ∧ Qd (.sh (.int (wr (a * b))))) ∨ (nm = A3 ∧ Qd (.sh (.int (if a < b then 1 else 0)))) ∨ (nm = A4 ∧ Qd (.sh (.int (if a = b then 1 else 0)))))
theorem s_op {ds : List D} {Qd : Sl → Prop} {Xd : Exn → Prop} (h : sm_op ds Qd Xd) : t_operate sm_wrapped (enV Qd Xd) (ini 3 3 ds) := by
  obtain ⟨nm, a, b, rfl, ⟨ha, hb⟩, h⟩ := h
  have hm : ((-18446744073709551616 < a ∧ a < 18446744073709551616) ∨ (-18446744073709551616 < b ∧ b < 18446744073709551616)) := by omega
  rcases h with ⟨rfl, h⟩ | ⟨rfl, h⟩ | ⟨rfl, h⟩ | ⟨rfl, h⟩ | ⟨rfl, h⟩
  · simp (decide := true) [-Bool.exists_bool, vSeq, vAsg, vV, vS, vIfS, vOr, vAnd, vNot, vB, v2, v1, Opr.ev, Opr.fin, ini, enV, iniO, enIO, bTup, bCons, bName, bNil, inAt, Sl.rd, Sl.get, Sl.isIn, vC, vEnd, vRaise, fLt, fAdd_int, fGt, fGe, fLe, fSub, fMul, fMod, fI, cMul, fMin2, fMax2, fInt, fAbs, fNeg, Option.bind, tx_len, tx_slU, tx_slL, tx_sl, vSlB, vRet, vSet, vDrp, vCall, vCons, vNil, vTup, vLst, vIf, vTru, tru_bool, fEq_tx, fNe_tx, fEq_int, fNe_int, fNe_ii, fNe_iit, vNotV, tx_rev, tup3_to2, cutL_fromN, vLc_eq, vFor_eq, wipeD, vYes, vPair, iR1, iL, tup3_0, tup3_1, tup3_2, lst2_0, lst2_1, vIO, vAug, fAug_int, slotInt, tx_ixn, t_operate, fEq_lit]
    exact ⟨_, rfl, h⟩
  · simp (decide := true) [-Bool.exists_bool, vSeq, vAsg, vV, vS, vIfS, vOr, vAnd, vNot, vB, v2, v1, Opr.ev, Opr.fin, ini, enV, iniO, enIO, bTup, bCons, bName, bNil, inAt, Sl.rd, Sl.get, Sl.isIn, vC, vEnd, vRaise, fLt, fAdd_int, fGt, fGe, fLe, fSub, fMul, fMod, fI, cMul, fMin2, fMax2, fInt, fAbs, fNeg, Option.bind, tx_len, tx_slU, tx_slL, tx_sl, vSlB, vRet, vSet, vDrp, vCall, vCons, vNil, vTup, vLst, vIf, vTru, tru_bool, fEq_tx, fNe_tx, fEq_int, fNe_int, fNe_ii, fNe_iit, vNotV, tx_rev, tup3_to2, cutL_fromN, vLc_eq, vFor_eq, wipeD, vYes, vPair, iR1, iL, tup3_0, tup3_1, tup3_2, lst2_0, lst2_1, vIO, vAug, fAug_int, slotInt, tx_ixn, t_operate, fEq_lit]
    exact ⟨_, rfl, h⟩
  · simp (decide := true) [-Bool.exists_bool, vSeq, vAsg, vV, vS, vIfS, vOr, vAnd, vNot, vB, v2, v1, Opr.ev, Opr.fin, ini, enV, iniO, enIO, bTup, bCons, bName, bNil, inAt, Sl.rd, Sl.get, Sl.isIn, vC, vEnd, vRaise, fLt, fAdd_int, fGt, fGe, fLe, fSub, fMul, fMod, fI, cMul, fMin2, fMax2, fInt, fAbs, fNeg, Option.bind, tx_len, tx_slU, tx_slL, tx_sl, vSlB, vRet, vSet, vDrp, vCall, vCons, vNil, vTup, vLst, vIf, vTru, tru_bool, fEq_tx, fNe_tx, fEq_int, fNe_int, fNe_ii, fNe_iit, vNotV, tx_rev, tup3_to2, cutL_fromN, vLc_eq, vFor_eq, wipeD, vYes, vPair, iR1, iL, tup3_0, tup3_1, tup3_2, lst2_0, lst2_1, vIO, vAug, fAug_int, slotInt, tx_ixn, t_operate, fEq_lit, hm]
    exact ⟨_, rfl, h⟩
  · simp (decide := true) [-Bool.exists_bool, vSeq, vAsg, vV, vS, vIfS, vOr, vAnd, vNot, vB, v2, v1, Opr.ev, Opr.fin, ini, enV, iniO, enIO, bTup, bCons, bName, bNil, inAt, Sl.rd, Sl.get, Sl.isIn, vC, vEnd, vRaise, fLt, fAdd_int, fGt, fGe, fLe, fSub, fMul, fMod, fI, cMul, fMin2, fMax2, fInt, fAbs, fNeg, Option.bind, tx_len, tx_slU, tx_slL, tx_sl, vSlB, vRet, vSet, vDrp, vCall, vCons, vNil, vTup, vLst, vIf, vTru, tru_bool, fEq_tx, fNe_tx, fEq_int, fNe_int, fNe_ii, fNe_iit, vNotV, tx_rev, tup3_to2, cutL_fromN, vLc_eq, vFor_eq, wipeD, vYes, vPair, iR1, iL, tup3_0, tup3_1, tup3_2, lst2_0, lst2_1, vIO, vAug, fAug_int, slotInt, tx_ixn, t_operate, fEq_lit]
    split
    · simpa [*] using h
    · simpa [*] using h
  · simp (decide := true) [-Bool.exists_bool, vSeq, vAsg, vV, vS, vIfS, vOr, vAnd, vNot, vB, v2, v1, Opr.ev, Opr.fin, ini, enV, iniO, enIO, bTup, bCons, bName, bNil, inAt, Sl.rd, Sl.get, Sl.isIn, vC, vEnd, vRaise, fLt, fAdd_int, fGt, fGe, fLe, fSub, fMul, fMod, fI, cMul, fMin2, fMax2, fInt, fAbs, fNeg, Option.bind, tx_len, tx_slU, tx_slL, tx_sl, vSlB, vRet, vSet, vDrp, vCall, vCons, vNil, vTup, vLst, vIf, vTru, tru_bool, fEq_tx, fNe_tx, fEq_int, fNe_int, fNe_ii, fNe_iit, vNotV, tx_rev, tup3_to2, cutL_fromN, vLc_eq, vFor_eq, wipeD, vYes, vPair, iR1, iL, tup3_0, tup3_1, tup3_2, lst2_0, lst2_1, vIO, vAug, fAug_int, slotInt, tx_ixn, t_operate, fEq_lit]
    split
    · simpa [*] using h
    · simpa [*] using h
def sm_cell : SemV := fun ds Qd _ => ∃ (ns : List Int) (k : Nat), ds = [.list (ns.map .int), .int k] ∧ (∀ z ∈ ns, bt z ≤ 1048576) ∧ ∀ z, bt z ≤ 1048576 → Qd (.sh (.int z))
theorem s_cell {ds : List D} {Qd : Sl → Prop} {Xd : Exn → Prop} (h : sm_cell ds Qd Xd) : t__law_cell (enV Qd Xd) (ini 2 2 ds) := by
  obtain ⟨ns, k, rfl, hb, h1⟩ := h
  simp (decide := true) [-Bool.exists_bool, vSeq, vAsg, vV, vS, vIfS, vOr, vAnd, vNot, vB, v2, v1, Opr.ev, Opr.fin, ini, enV, iniO, enIO, bTup, bCons, bName, bNil, inAt, Sl.rd, Sl.get, Sl.isIn, vC, vEnd, vRaise, fLt, fAdd_int, fGt, fGe, fLe, fSub, fMul, fMod, fI, cMul, fMin2, fMax2, fInt, fAbs, fNeg, Option.bind, tx_len, tx_slU, tx_slL, tx_sl, vSlB, vRet, vSet, vDrp, vCall, vCons, vNil, vTup, vLst, vIf, vTru, tru_bool, fEq_tx, fNe_tx, fEq_int, fNe_int, fNe_ii, fNe_iit, vNotV, tx_rev, tup3_to2, cutL_fromN, vLc_eq, vFor_eq, wipeD, vYes, vPair, iR1, iL, tup3_0, tup3_1, tup3_2, lst2_0, lst2_1, vIO, vAug, fAug_int, slotInt, tx_ixn, t__law_cell, fLen]
  split
  · rename_i hk
    have hk' : k < ns.length := by omega
    refine ⟨.sh (.int ns[k]), ?_, h1 _ (hb _ (List.getElem_mem hk'))⟩
    show (L2.atI (ns.map PyData.int) (k : Int)).map Sl.sh = _
    rw [atI_nat (v := .int ns[k]) (by rw [List.getElem?_map, List.getElem?_eq_getElem hk']; rfl)]
    rfl
  · exact h1 0 (by decide)
theorem mul_wr (x y : Int) : wr (wr x * wr y) = wr (x * y) := by
  have e1 : ∃ k, wr x = x + 4294967296 * k := ⟨-((x + 2147483648) / 4294967296), by unfold wr; omega⟩
  have e2 : ∃ k, wr y = y + 4294967296 * k := ⟨-((y + 2147483648) / 4294967296), by unfold wr; omega⟩
  obtain ⟨a, ea⟩ := e1
  obtain ⟨b, eb⟩ := e2
  have : wr x * wr y = x * y + 4294967296 * (x * b + a * y + 4294967296 * (a * b)) := by
    rw [ea, eb, Int.add_mul, Int.mul_add, Int.mul_add, Int.mul_add, Int.mul_add]
    have h1 : x * (4294967296 * b) = 4294967296 * (x * b) := by rw [← Int.mul_assoc, Int.mul_comm x, Int.mul_assoc]
    have h2 : 4294967296 * a * y = 4294967296 * (a * y) := Int.mul_assoc _ _ _
    have h3 : 4294967296 * a * (4294967296 * b) = 4294967296 * (4294967296 * (a * b)) := by
      rw [Int.mul_assoc, ← Int.mul_assoc a, Int.mul_comm a 4294967296, Int.mul_assoc]
    rw [h1, h2, h3]
    omega
  rw [this]
  generalize x * b + a * y + 4294967296 * (a * b) = q
  generalize x * y = p
  unfold wr
  omega
def sm_int : SemV := fun ds Qd _ => ∃ (ns : List Int) (k : Nat), ds = [.list (ns.map .int), .int k] ∧ (∀ z ∈ ns, bt z ≤ 1048576) ∧ ∀ z, bt z ≤ 1048576 → Qd (.sh (.int z))
theorem cdiv9 (z : Int) : cDivD z 9 = true := by unfold cDivD; decide
theorem log9 : (9 : Int).natAbs.log2 < 9000 := by decide
theorem s_int {ds : List D} {Qd : Sl → Prop} {Xd : Exn → Prop} (h : sm_int ds Qd Xd) : t__law_integer sm_cell (enV Qd Xd) (ini 2 4 ds) := by
  obtain ⟨ns, k, rfl, hb, h1⟩ := h
  simp (decide := true) [-Bool.exists_bool, vSeq, vAsg, vV, vS, vIfS, vOr, vAnd, vNot, vB, v2, v1, Opr.ev, Opr.fin, ini, enV, iniO, enIO, bTup, bCons, bName, bNil, inAt, Sl.rd, Sl.get, Sl.isIn, vC, vEnd, vRaise, fLt, fAdd_int, fGt, fGe, fLe, fSub, fMul, fMod, fI, cMul, fMin2, fMax2, fInt, fAbs, fNeg, Option.bind, tx_len, tx_slU, tx_slL, tx_sl, vSlB, vRet, vSet, vDrp, vCall, vCons, vNil, vTup, vLst, vIf, vTru, tru_bool, fEq_tx, fNe_tx, fEq_int, fNe_int, fNe_ii, fNe_iit, vNotV, tx_rev, tup3_to2, cutL_fromN, vLc_eq, vFor_eq, wipeD, vYes, vPair, iR1, iL, tup3_0, tup3_1, tup3_2, lst2_0, lst2_1, vIO, vAug, fAug_int, slotInt, tx_ixn, t__law_integer]
  refine ⟨ns, k, rfl, hb, fun z hz => ?_⟩
  simp (decide := true) [-Bool.exists_bool, vSeq, vAsg, vV, vS, vIfS, vOr, vAnd, vNot, vB, v2, v1, Opr.ev, Opr.fin, ini, enV, iniO, enIO, bTup, bCons, bName, bNil, inAt, Sl.rd, Sl.get, Sl.isIn, vC, vEnd, vRaise, fLt, fAdd_int, fGt, fGe, fLe, fSub, fMul, fMod, fI, cMul, fMin2, fMax2, fInt, fAbs, fNeg, Option.bind, tx_len, tx_slU, tx_slL, tx_sl, vSlB, vRet, vSet, vDrp, vCall, vCons, vNil, vTup, vLst, vIf, vTru, tru_bool, fEq_tx, fNe_tx, fEq_int, fNe_int, fNe_ii, fNe_iit, vNotV, tx_rev, tup3_to2, cutL_fromN, vLc_eq, vFor_eq, wipeD, vYes, vPair, iR1, iL, tup3_0, tup3_1, tup3_2, lst2_0, lst2_1, vIO, vAug, fAug_int, slotInt, tx_ixn]
  refine ⟨ns, k + 1, by simp, hb, fun y hy => ?_⟩
  simp (decide := true) [-Bool.exists_bool, vSeq, vAsg, vV, vS, vIfS, vOr, vAnd, vNot, vB, v2, v1, Opr.ev, Opr.fin, ini, enV, iniO, enIO, bTup, bCons, bName, bNil, inAt, Sl.rd, Sl.get, Sl.isIn, vC, vEnd, vRaise, fLt, fAdd_int, fGt, fGe, fLe, fSub, fMul, fMod, fI, cMul, fMin2, fMax2, fInt, fAbs, fNeg, Option.bind, tx_len, tx_slU, tx_slL, tx_sl, vSlB, vRet, vSet, vDrp, vCall, vCons, vNil, vTup, vLst, vIf, vTru, tru_bool, fEq_tx, fNe_tx, fEq_int, fNe_int, fNe_ii, fNe_iit, vNotV, tx_rev, tup3_to2, cutL_fromN, vLc_eq, vFor_eq, wipeD, vYes, vPair, iR1, iL, tup3_0, tup3_1, tup3_2, lst2_0, lst2_1, vIO, vAug, fAug_int, slotInt, tx_ixn, fEq_int]
  split
  · refine ⟨_, ⟨cdiv9 z, rfl⟩, ?_⟩
    simp (decide := true) [-Bool.exists_bool, vSeq, vAsg, vV, vS, vIfS, vOr, vAnd, vNot, vB, v2, v1, Opr.ev, Opr.fin, ini, enV, iniO, enIO, bTup, bCons, bName, bNil, inAt, Sl.rd, Sl.get, Sl.isIn, vC, vEnd, vRaise, fLt, fAdd_int, fGt, fGe, fLe, fSub, fMul, fMod, fI, cMul, fMin2, fMax2, fInt, fAbs, fNeg, Option.bind, tx_len, tx_slU, tx_slL, tx_sl, vSlB, vRet, vSet, vDrp, vCall, vCons, vNil, vTup, vLst, vIf, vTru, tru_bool, fEq_tx, fNe_tx, fEq_int, fNe_int, fNe_ii, fNe_iit, vNotV, tx_rev, tup3_to2, cutL_fromN, vLc_eq, vFor_eq, wipeD, vYes, vPair, iR1, iL, tup3_0, tup3_1, tup3_2, lst2_0, lst2_1, vIO, vAug, fAug_int, slotInt, tx_ixn]
    exact h1 _ (Nat.le_trans (bt_small (by omega) (by omega)) (by decide))
  · split
    · exact h1 _ (Nat.le_trans (bt_small (by omega) (by omega)) (by decide))
    · exact h1 _ hz
def sm_iw : SemV := fun ds Qd _ => ∃ a n : Int, ds = [.int a, .int n] ∧ a = wr n ∧ Qd (.sh (.bool true))
theorem s_iw {ds : List D} {Qd : Sl → Prop} {Xd : Exn → Prop} (h : sm_iw ds Qd Xd) : t__law_wrapped (enV Qd Xd) (ini 2 2 ds) := by
  obtain ⟨a, n, rfl, e, h1⟩ := h
  have h2 := wr_lo n
  have h3 := wr_hi n
  have h4 := wr_mod n
  rw [← e] at h2 h3 h4
  have i1 : isT "int" (.int a) = some (.sh (.bool true)) := rfl
  have i2 : isT "bool" (.int a) = some (.sh (.bool false)) := rfl
  simp (decide := true) [-Bool.exists_bool, vSeq, vAsg, vV, vS, vIfS, vOr, vAnd, vNot, vB, v2, v1, Opr.ev, Opr.fin, ini, enV, iniO, enIO, bTup, bCons, bName, bNil, inAt, Sl.rd, Sl.get, Sl.isIn, vC, vEnd, vRaise, fLt, fAdd_int, fGt, fGe, fLe, fSub, fMul, fMod, fI, cMul, fMin2, fMax2, fInt, fAbs, fNeg, Option.bind, tx_len, tx_slU, tx_slL, tx_sl, vSlB, vRet, vSet, vDrp, vCall, vCons, vNil, vTup, vLst, vIf, vTru, tru_bool, fEq_tx, fNe_tx, fEq_int, fNe_int, fNe_ii, fNe_iit, vNotV, tx_rev, tup3_to2, cutL_fromN, vLc_eq, vFor_eq, wipeD, vYes, vPair, iR1, iL, tup3_0, tup3_1, tup3_2, lst2_0, lst2_1, vIO, vAug, fAug_int, slotInt, tx_ixn, t__law_wrapped, i1, i2, vChain, fEq_int, h2, h3, h4]
  exact h1
def sm_ex : SemV := fun ds Qd _ => ∃ a : Int, ds = [.int a, .int a] ∧ Qd (.sh (.bool true))
theorem s_ex {ds : List D} {Qd : Sl → Prop} {Xd : Exn → Prop} (h : sm_ex ds Qd Xd) : t__law_exactly (enV Qd Xd) (ini 2 2 ds) := by
  obtain ⟨a, rfl, h1⟩ := h
  have i1 : isT "int" (.int a) = some (.sh (.bool true)) := rfl
  have i2 : isT "bool" (.int a) = some (.sh (.bool false)) := rfl
  simp (decide := true) [-Bool.exists_bool, vSeq, vAsg, vV, vS, vIfS, vOr, vAnd, vNot, vB, v2, v1, Opr.ev, Opr.fin, ini, enV, iniO, enIO, bTup, bCons, bName, bNil, inAt, Sl.rd, Sl.get, Sl.isIn, vC, vEnd, vRaise, fLt, fAdd_int, fGt, fGe, fLe, fSub, fMul, fMod, fI, cMul, fMin2, fMax2, fInt, fAbs, fNeg, Option.bind, tx_len, tx_slU, tx_slL, tx_sl, vSlB, vRet, vSet, vDrp, vCall, vCons, vNil, vTup, vLst, vIf, vTru, tru_bool, fEq_tx, fNe_tx, fEq_int, fNe_int, fNe_ii, fNe_iit, vNotV, tx_rev, tup3_to2, cutL_fromN, vLc_eq, vFor_eq, wipeD, vYes, vPair, iR1, iL, tup3_0, tup3_1, tup3_2, lst2_0, lst2_1, vIO, vAug, fAug_int, slotInt, tx_ixn, t__law_exactly, i1, i2, vAndV, fEq_int]
  exact h1

def sm_law : SemV := fun ds Qd _ => ∃ ns : List Int, ds = [.list (ns.map .int)] ∧ ns.length ≤ 63 ∧ (∀ z ∈ ns, bt z ≤ 1048576) ∧ Qd (.sh (.bool true))
abbrev sms (P : SemV → SemV → SemV → SemV → SemV → SemV → VSt) : VSt := P sm_cell sm_ex sm_int sm_iw sm_op sm_wrapped
theorem l3 {l : List D} {x y : Int} {u v w : Sl} {Qd : Sl → Prop} {Xd : Exn → Prop} (hx : bt x ≤ 1048700) (hy : bt y ≤ 1048700) (h1 : Qd (.sh (.bool true))) : sms b3_law (enV Qd Xd) [.sh (.list l), .sh (.int x), .sh (.int y), u, v] := by
  have hm : cMulX x y = true := decide_eq_true (by show (bt x : Int) + (bt y : Int) ≤ 134217728; omega)
  have mm : fMulX (.int x) (.int y) = some (.sh (.int (x * y))) := by
    show (if cMulX x y = true then some (Sl.sh (.int (x * y))) else none) = _
    rw [if_pos hm]
  have a1 := wr_lo x; have a2 := wr_hi x
  simp (decide := true) [-Bool.exists_bool, vSeq, vAsg, vV, vS, vIfS, vOr, vAnd, vNot, vB, v2, v1, Opr.ev, Opr.fin, ini, enV, iniO, enIO, bTup, bCons, bName, bNil, inAt, Sl.rd, Sl.get, Sl.isIn, vC, vEnd, vRaise, fLt, fAdd_int, fGt, fGe, fLe, fSub, fMul, fMod, fI, cMul, fMin2, fMax2, fInt, fAbs, fNeg, Option.bind, tx_len, tx_slU, tx_slL, tx_sl, vSlB, vRet, vSet, vDrp, vCall, vCons, vNil, vTup, vLst, vIf, vTru, tru_bool, fEq_tx, fNe_tx, fEq_int, fNe_int, fNe_ii, fNe_iit, vNotV, tx_rev, tup3_to2, cutL_fromN, vLc_eq, vFor_eq, wipeD, vYes, vPair, iR1, iL, tup3_0, tup3_1, tup3_2, lst2_0, lst2_1, vIO, vAug, fAug_int, slotInt, tx_ixn, sms, b3_law]
  refine ⟨x, rfl, ?_⟩
  simp (decide := true) [-Bool.exists_bool, vSeq, vAsg, vV, vS, vIfS, vOr, vAnd, vNot, vB, v2, v1, Opr.ev, Opr.fin, ini, enV, iniO, enIO, bTup, bCons, bName, bNil, inAt, Sl.rd, Sl.get, Sl.isIn, vC, vEnd, vRaise, fLt, fAdd_int, fGt, fGe, fLe, fSub, fMul, fMod, fI, cMul, fMin2, fMax2, fInt, fAbs, fNeg, Option.bind, tx_len, tx_slU, tx_slL, tx_sl, vSlB, vRet, vSet, vDrp, vCall, vCons, vNil, vTup, vLst, vIf, vTru, tru_bool, fEq_tx, fNe_tx, fEq_int, fNe_int, fNe_ii, fNe_iit, vNotV, tx_rev, tup3_to2, cutL_fromN, vLc_eq, vFor_eq, wipeD, vYes, vPair, iR1, iL, tup3_0, tup3_1, tup3_2, lst2_0, lst2_1, vIO, vAug, fAug_int, slotInt, tx_ixn, b4_law]
  refine ⟨y, rfl, ?_⟩
  simp (decide := true) [-Bool.exists_bool, vSeq, vAsg, vV, vS, vIfS, vOr, vAnd, vNot, vB, v2, v1, Opr.ev, Opr.fin, ini, enV, iniO, enIO, bTup, bCons, bName, bNil, inAt, Sl.rd, Sl.get, Sl.isIn, vC, vEnd, vRaise, fLt, fAdd_int, fGt, fGe, fLe, fSub, fMul, fMod, fI, cMul, fMin2, fMax2, fInt, fAbs, fNeg, Option.bind, tx_len, tx_slU, tx_slL, tx_sl, vSlB, vRet, vSet, vDrp, vCall, vCons, vNil, vTup, vLst, vIf, vTru, tru_bool, fEq_tx, fNe_tx, fEq_int, fNe_int, fNe_ii, fNe_iit, vNotV, tx_rev, tup3_to2, cutL_fromN, vLc_eq, vFor_eq, wipeD, vYes, vPair, iR1, iL, tup3_0, tup3_1, tup3_2, lst2_0, lst2_1, vIO, vAug, fAug_int, slotInt, tx_ixn, b5_law]
  refine ⟨_, _, rfl, rfl, ?_⟩
  simp (decide := true) [-Bool.exists_bool, vSeq, vAsg, vV, vS, vIfS, vOr, vAnd, vNot, vB, v2, v1, Opr.ev, Opr.fin, ini, enV, iniO, enIO, bTup, bCons, bName, bNil, inAt, Sl.rd, Sl.get, Sl.isIn, vC, vEnd, vRaise, fLt, fAdd_int, fGt, fGe, fLe, fSub, fMul, fMod, fI, cMul, fMin2, fMax2, fInt, fAbs, fNeg, Option.bind, tx_len, tx_slU, tx_slL, tx_sl, vSlB, vRet, vSet, vDrp, vCall, vCons, vNil, vTup, vLst, vIf, vTru, tru_bool, fEq_tx, fNe_tx, fEq_int, fNe_int, fNe_ii, fNe_iit, vNotV, tx_rev, tup3_to2, cutL_fromN, vLc_eq, vFor_eq, wipeD, vYes, vPair, iR1, iL, tup3_0, tup3_1, tup3_2, lst2_0, lst2_1, vIO, vAug, fAug_int, slotInt, tx_ixn]
  refine ⟨_, _, rfl, rfl, ?_⟩
  simp (decide := true) [-Bool.exists_bool, vSeq, vAsg, vV, vS, vIfS, vOr, vAnd, vNot, vB, v2, v1, Opr.ev, Opr.fin, ini, enV, iniO, enIO, bTup, bCons, bName, bNil, inAt, Sl.rd, Sl.get, Sl.isIn, vC, vEnd, vRaise, fLt, fAdd_int, fGt, fGe, fLe, fSub, fMul, fMod, fI, cMul, fMin2, fMax2, fInt, fAbs, fNeg, Option.bind, tx_len, tx_slU, tx_slL, tx_sl, vSlB, vRet, vSet, vDrp, vCall, vCons, vNil, vTup, vLst, vIf, vTru, tru_bool, fEq_tx, fNe_tx, fEq_int, fNe_int, fNe_ii, fNe_iit, vNotV, tx_rev, tup3_to2, cutL_fromN, vLc_eq, vFor_eq, wipeD, vYes, vPair, iR1, iL, tup3_0, tup3_1, tup3_2, lst2_0, lst2_1, vIO, vAug, fAug_int, slotInt, tx_ixn, b6_law]
  refine ⟨_, _, _, rfl, ⟨a1, a2⟩, .inl ⟨rfl, ?_⟩⟩
  simp (decide := true) [-Bool.exists_bool, vSeq, vAsg, vV, vS, vIfS, vOr, vAnd, vNot, vB, v2, v1, Opr.ev, Opr.fin, ini, enV, iniO, enIO, bTup, bCons, bName, bNil, inAt, Sl.rd, Sl.get, Sl.isIn, vC, vEnd, vRaise, fLt, fAdd_int, fGt, fGe, fLe, fSub, fMul, fMod, fI, cMul, fMin2, fMax2, fInt, fAbs, fNeg, Option.bind, tx_len, tx_slU, tx_slL, tx_sl, vSlB, vRet, vSet, vDrp, vCall, vCons, vNil, vTup, vLst, vIf, vTru, tru_bool, fEq_tx, fNe_tx, fEq_int, fNe_int, fNe_ii, fNe_iit, vNotV, tx_rev, tup3_to2, cutL_fromN, vLc_eq, vFor_eq, wipeD, vYes, vPair, iR1, iL, tup3_0, tup3_1, tup3_2, lst2_0, lst2_1, vIO, vAug, fAug_int, slotInt, tx_ixn]
  refine ⟨_, _, rfl, by unfold wr; omega, ?_⟩
  simp (decide := true) [-Bool.exists_bool, vSeq, vAsg, vV, vS, vIfS, vOr, vAnd, vNot, vB, v2, v1, Opr.ev, Opr.fin, ini, enV, iniO, enIO, bTup, bCons, bName, bNil, inAt, Sl.rd, Sl.get, Sl.isIn, vC, vEnd, vRaise, fLt, fAdd_int, fGt, fGe, fLe, fSub, fMul, fMod, fI, cMul, fMin2, fMax2, fInt, fAbs, fNeg, Option.bind, tx_len, tx_slU, tx_slL, tx_sl, vSlB, vRet, vSet, vDrp, vCall, vCons, vNil, vTup, vLst, vIf, vTru, tru_bool, fEq_tx, fNe_tx, fEq_int, fNe_int, fNe_ii, fNe_iit, vNotV, tx_rev, tup3_to2, cutL_fromN, vLc_eq, vFor_eq, wipeD, vYes, vPair, iR1, iL, tup3_0, tup3_1, tup3_2, lst2_0, lst2_1, vIO, vAug, fAug_int, slotInt, tx_ixn, b7_law]
  refine ⟨_, _, _, rfl, ⟨a1, a2⟩, .inr (.inl ⟨rfl, ?_⟩)⟩
  simp (decide := true) [-Bool.exists_bool, vSeq, vAsg, vV, vS, vIfS, vOr, vAnd, vNot, vB, v2, v1, Opr.ev, Opr.fin, ini, enV, iniO, enIO, bTup, bCons, bName, bNil, inAt, Sl.rd, Sl.get, Sl.isIn, vC, vEnd, vRaise, fLt, fAdd_int, fGt, fGe, fLe, fSub, fMul, fMod, fI, cMul, fMin2, fMax2, fInt, fAbs, fNeg, Option.bind, tx_len, tx_slU, tx_slL, tx_sl, vSlB, vRet, vSet, vDrp, vCall, vCons, vNil, vTup, vLst, vIf, vTru, tru_bool, fEq_tx, fNe_tx, fEq_int, fNe_int, fNe_ii, fNe_iit, vNotV, tx_rev, tup3_to2, cutL_fromN, vLc_eq, vFor_eq, wipeD, vYes, vPair, iR1, iL, tup3_0, tup3_1, tup3_2, lst2_0, lst2_1, vIO, vAug, fAug_int, slotInt, tx_ixn]
  refine ⟨_, _, rfl, by unfold wr; omega, ?_⟩
  simp (decide := true) [-Bool.exists_bool, vSeq, vAsg, vV, vS, vIfS, vOr, vAnd, vNot, vB, v2, v1, Opr.ev, Opr.fin, ini, enV, iniO, enIO, bTup, bCons, bName, bNil, inAt, Sl.rd, Sl.get, Sl.isIn, vC, vEnd, vRaise, fLt, fAdd_int, fGt, fGe, fLe, fSub, fMul, fMod, fI, cMul, fMin2, fMax2, fInt, fAbs, fNeg, Option.bind, tx_len, tx_slU, tx_slL, tx_sl, vSlB, vRet, vSet, vDrp, vCall, vCons, vNil, vTup, vLst, vIf, vTru, tru_bool, fEq_tx, fNe_tx, fEq_int, fNe_int, fNe_ii, fNe_iit, vNotV, tx_rev, tup3_to2, cutL_fromN, vLc_eq, vFor_eq, wipeD, vYes, vPair, iR1, iL, tup3_0, tup3_1, tup3_2, lst2_0, lst2_1, vIO, vAug, fAug_int, slotInt, tx_ixn, b8_law, mm]
  refine ⟨_, _, _, rfl, ⟨a1, a2⟩, .inr (.inr (.inl ⟨rfl, ?_⟩))⟩
  simp (decide := true) [-Bool.exists_bool, vSeq, vAsg, vV, vS, vIfS, vOr, vAnd, vNot, vB, v2, v1, Opr.ev, Opr.fin, ini, enV, iniO, enIO, bTup, bCons, bName, bNil, inAt, Sl.rd, Sl.get, Sl.isIn, vC, vEnd, vRaise, fLt, fAdd_int, fGt, fGe, fLe, fSub, fMul, fMod, fI, cMul, fMin2, fMax2, fInt, fAbs, fNeg, Option.bind, tx_len, tx_slU, tx_slL, tx_sl, vSlB, vRet, vSet, vDrp, vCall, vCons, vNil, vTup, vLst, vIf, vTru, tru_bool, fEq_tx, fNe_tx, fEq_int, fNe_int, fNe_ii, fNe_iit, vNotV, tx_rev, tup3_to2, cutL_fromN, vLc_eq, vFor_eq, wipeD, vYes, vPair, iR1, iL, tup3_0, tup3_1, tup3_2, lst2_0, lst2_1, vIO, vAug, fAug_int, slotInt, tx_ixn, mm]
  refine ⟨_, _, rfl, mul_wr x y, ?_⟩
  simp (decide := true) [-Bool.exists_bool, vSeq, vAsg, vV, vS, vIfS, vOr, vAnd, vNot, vB, v2, v1, Opr.ev, Opr.fin, ini, enV, iniO, enIO, bTup, bCons, bName, bNil, inAt, Sl.rd, Sl.get, Sl.isIn, vC, vEnd, vRaise, fLt, fAdd_int, fGt, fGe, fLe, fSub, fMul, fMod, fI, cMul, fMin2, fMax2, fInt, fAbs, fNeg, Option.bind, tx_len, tx_slU, tx_slL, tx_sl, vSlB, vRet, vSet, vDrp, vCall, vCons, vNil, vTup, vLst, vIf, vTru, tru_bool, fEq_tx, fNe_tx, fEq_int, fNe_int, fNe_ii, fNe_iit, vNotV, tx_rev, tup3_to2, cutL_fromN, vLc_eq, vFor_eq, wipeD, vYes, vPair, iR1, iL, tup3_0, tup3_1, tup3_2, lst2_0, lst2_1, vIO, vAug, fAug_int, slotInt, tx_ixn, b9_law]
  refine ⟨_, _, _, rfl, ⟨a1, a2⟩, .inr (.inr (.inr (.inl ⟨rfl, ?_⟩)))⟩
  simp (decide := true) [-Bool.exists_bool, vSeq, vAsg, vV, vS, vIfS, vOr, vAnd, vNot, vB, v2, v1, Opr.ev, Opr.fin, ini, enV, iniO, enIO, bTup, bCons, bName, bNil, inAt, Sl.rd, Sl.get, Sl.isIn, vC, vEnd, vRaise, fLt, fAdd_int, fGt, fGe, fLe, fSub, fMul, fMod, fI, cMul, fMin2, fMax2, fInt, fAbs, fNeg, Option.bind, tx_len, tx_slU, tx_slL, tx_sl, vSlB, vRet, vSet, vDrp, vCall, vCons, vNil, vTup, vLst, vIf, vTru, tru_bool, fEq_tx, fNe_tx, fEq_int, fNe_int, fNe_ii, fNe_iit, vNotV, tx_rev, tup3_to2, cutL_fromN, vLc_eq, vFor_eq, wipeD, vYes, vPair, iR1, iL, tup3_0, tup3_1, tup3_2, lst2_0, lst2_1, vIO, vAug, fAug_int, slotInt, tx_ixn]
  refine ⟨_, rfl, ?_⟩
  simp (decide := true) [-Bool.exists_bool, vSeq, vAsg, vV, vS, vIfS, vOr, vAnd, vNot, vB, v2, v1, Opr.ev, Opr.fin, ini, enV, iniO, enIO, bTup, bCons, bName, bNil, inAt, Sl.rd, Sl.get, Sl.isIn, vC, vEnd, vRaise, fLt, fAdd_int, fGt, fGe, fLe, fSub, fMul, fMod, fI, cMul, fMin2, fMax2, fInt, fAbs, fNeg, Option.bind, tx_len, tx_slU, tx_slL, tx_sl, vSlB, vRet, vSet, vDrp, vCall, vCons, vNil, vTup, vLst, vIf, vTru, tru_bool, fEq_tx, fNe_tx, fEq_int, fNe_int, fNe_ii, fNe_iit, vNotV, tx_rev, tup3_to2, cutL_fromN, vLc_eq, vFor_eq, wipeD, vYes, vPair, iR1, iL, tup3_0, tup3_1, tup3_2, lst2_0, lst2_1, vIO, vAug, fAug_int, slotInt, tx_ixn, b10_law]
  refine ⟨_, _, _, rfl, ⟨a1, a2⟩, .inr (.inr (.inr (.inr ⟨rfl, ?_⟩)))⟩
  simp (decide := true) [-Bool.exists_bool, vSeq, vAsg, vV, vS, vIfS, vOr, vAnd, vNot, vB, v2, v1, Opr.ev, Opr.fin, ini, enV, iniO, enIO, bTup, bCons, bName, bNil, inAt, Sl.rd, Sl.get, Sl.isIn, vC, vEnd, vRaise, fLt, fAdd_int, fGt, fGe, fLe, fSub, fMul, fMod, fI, cMul, fMin2, fMax2, fInt, fAbs, fNeg, Option.bind, tx_len, tx_slU, tx_slL, tx_sl, vSlB, vRet, vSet, vDrp, vCall, vCons, vNil, vTup, vLst, vIf, vTru, tru_bool, fEq_tx, fNe_tx, fEq_int, fNe_int, fNe_ii, fNe_iit, vNotV, tx_rev, tup3_to2, cutL_fromN, vLc_eq, vFor_eq, wipeD, vYes, vPair, iR1, iL, tup3_0, tup3_1, tup3_2, lst2_0, lst2_1, vIO, vAug, fAug_int, slotInt, tx_ixn, fEq_int]
  refine ⟨_, rfl, h1⟩
theorem s_law {ds : List D} {Qd : Sl → Prop} {Xd : Exn → Prop} (h : sm_law ds Qd Xd) : t_law sm_cell sm_ex sm_int sm_iw sm_op sm_wrapped (enV Qd Xd) (ini 1 5 ds) := by
  obtain ⟨ns, rfl, hl, hb, h1⟩ := h
  simp (decide := true) [-Bool.exists_bool, vSeq, vAsg, vV, vS, vIfS, vOr, vAnd, vNot, vB, v2, v1, Opr.ev, Opr.fin, ini, enV, iniO, enIO, bTup, bCons, bName, bNil, inAt, Sl.rd, Sl.get, Sl.isIn, vC, vEnd, vRaise, fLt, fAdd_int, fGt, fGe, fLe, fSub, fMul, fMod, fI, cMul, fMin2, fMax2, fInt, fAbs, fNeg, Option.bind, tx_len, tx_slU, tx_slL, tx_sl, vSlB, vRet, vSet, vDrp, vCall, vCons, vNil, vTup, vLst, vIf, vTru, tru_bool, fEq_tx, fNe_tx, fEq_int, fNe_int, fNe_ii, fNe_iit, vNotV, tx_rev, tup3_to2, cutL_fromN, vLc_eq, vFor_eq, wipeD, vYes, vPair, iR1, iL, tup3_0, tup3_1, tup3_2, lst2_0, lst2_1, vIO, vAug, fAug_int, slotInt, tx_ixn, t_law]
  refine ⟨ns, 0, rfl, hb, fun x hx => ?_⟩
  simp (decide := true) [-Bool.exists_bool, vSeq, vAsg, vV, vS, vIfS, vOr, vAnd, vNot, vB, v2, v1, Opr.ev, Opr.fin, ini, enV, iniO, enIO, bTup, bCons, bName, bNil, inAt, Sl.rd, Sl.get, Sl.isIn, vC, vEnd, vRaise, fLt, fAdd_int, fGt, fGe, fLe, fSub, fMul, fMod, fI, cMul, fMin2, fMax2, fInt, fAbs, fNeg, Option.bind, tx_len, tx_slU, tx_slL, tx_sl, vSlB, vRet, vSet, vDrp, vCall, vCons, vNil, vTup, vLst, vIf, vTru, tru_bool, fEq_tx, fNe_tx, fEq_int, fNe_int, fNe_ii, fNe_iit, vNotV, tx_rev, tup3_to2, cutL_fromN, vLc_eq, vFor_eq, wipeD, vYes, vPair, iR1, iL, tup3_0, tup3_1, tup3_2, lst2_0, lst2_1, vIO, vAug, fAug_int, slotInt, tx_ixn, b1_law]
  refine ⟨ns, 2, rfl, hb, fun y hy => ?_⟩
  simp (decide := true) [-Bool.exists_bool, vSeq, vAsg, vV, vS, vIfS, vOr, vAnd, vNot, vB, v2, v1, Opr.ev, Opr.fin, ini, enV, iniO, enIO, bTup, bCons, bName, bNil, inAt, Sl.rd, Sl.get, Sl.isIn, vC, vEnd, vRaise, fLt, fAdd_int, fGt, fGe, fLe, fSub, fMul, fMod, fI, cMul, fMin2, fMax2, fInt, fAbs, fNeg, Option.bind, tx_len, tx_slU, tx_slL, tx_sl, vSlB, vRet, vSet, vDrp, vCall, vCons, vNil, vTup, vLst, vIf, vTru, tru_bool, fEq_tx, fNe_tx, fEq_int, fNe_int, fNe_ii, fNe_iit, vNotV, tx_rev, tup3_to2, cutL_fromN, vLc_eq, vFor_eq, wipeD, vYes, vPair, iR1, iL, tup3_0, tup3_1, tup3_2, lst2_0, lst2_1, vIO, vAug, fAug_int, slotInt, tx_ixn, b2_law]
  refine ⟨ns, 4, rfl, hb, fun z hz => ?_⟩
  simp (decide := true) [-Bool.exists_bool, vSeq, vAsg, vV, vS, vIfS, vOr, vAnd, vNot, vB, v2, v1, Opr.ev, Opr.fin, ini, enV, iniO, enIO, bTup, bCons, bName, bNil, inAt, Sl.rd, Sl.get, Sl.isIn, vC, vEnd, vRaise, fLt, fAdd_int, fGt, fGe, fLe, fSub, fMul, fMod, fI, cMul, fMin2, fMax2, fInt, fAbs, fNeg, Option.bind, tx_len, tx_slU, tx_slL, tx_sl, vSlB, vRet, vSet, vDrp, vCall, vCons, vNil, vTup, vLst, vIf, vTru, tru_bool, fEq_tx, fNe_tx, fEq_int, fNe_int, fNe_ii, fNe_iit, vNotV, tx_rev, tup3_to2, cutL_fromN, vLc_eq, vFor_eq, wipeD, vYes, vPair, iR1, iL, tup3_0, tup3_1, tup3_2, lst2_0, lst2_1, vIO, vAug, fAug_int, slotInt, tx_ixn, fEq_int]
  split
  · simp (decide := true) [-Bool.exists_bool, vSeq, vAsg, vV, vS, vIfS, vOr, vAnd, vNot, vB, v2, v1, Opr.ev, Opr.fin, ini, enV, iniO, enIO, bTup, bCons, bName, bNil, inAt, Sl.rd, Sl.get, Sl.isIn, vC, vEnd, vRaise, fLt, fAdd_int, fGt, fGe, fLe, fSub, fMul, fMod, fI, cMul, fMin2, fMax2, fInt, fAbs, fNeg, Option.bind, tx_len, tx_slU, tx_slL, tx_sl, vSlB, vRet, vSet, vDrp, vCall, vCons, vNil, vTup, vLst, vIf, vTru, tru_bool, fEq_tx, fNe_tx, fEq_int, fNe_int, fNe_ii, fNe_iit, vNotV, tx_rev, tup3_to2, cutL_fromN, vLc_eq, vFor_eq, wipeD, vYes, vPair, iR1, iL, tup3_0, tup3_1, tup3_2, lst2_0, lst2_1, vIO, vAug, fAug_int, slotInt, tx_ixn, q1_law]
    refine ⟨ns, 4, rfl, hb, fun z2 hz2 => ?_⟩
    simp (decide := true) [-Bool.exists_bool, vSeq, vAsg, vV, vS, vIfS, vOr, vAnd, vNot, vB, v2, v1, Opr.ev, Opr.fin, ini, enV, iniO, enIO, bTup, bCons, bName, bNil, inAt, Sl.rd, Sl.get, Sl.isIn, vC, vEnd, vRaise, fLt, fAdd_int, fGt, fGe, fLe, fSub, fMul, fMod, fI, cMul, fMin2, fMax2, fInt, fAbs, fNeg, Option.bind, tx_len, tx_slU, tx_slL, tx_sl, vSlB, vRet, vSet, vDrp, vCall, vCons, vNil, vTup, vLst, vIf, vTru, tru_bool, fEq_tx, fNe_tx, fEq_int, fNe_int, fNe_ii, fNe_iit, vNotV, tx_rev, tup3_to2, cutL_fromN, vLc_eq, vFor_eq, wipeD, vYes, vPair, iR1, iL, tup3_0, tup3_1, tup3_2, lst2_0, lst2_1, vIO, vAug, fAug_int, slotInt, tx_ixn]
    refine l3 (w := .un) (by omega) ?_ h1
    have := PySem.intBits_add_le hx (bt_small (a := 4294967296 * (z2 % 5)) (by omega) (by omega))
    exact Nat.le_trans this (by decide)
  · exact l3 (w := .un) (by omega) (by omega) h1
end K50

/-! ## E50_mk -/
set_option Elab.async false
set_option linter.all false
set_option autoImplicit false
set_option maxRecDepth 100000
set_option maxHeartbeats 8000000
namespace K50
open PySem PySem.Spec PyProof.Rows L2 VL
theorem all_mk {l : PySem.W.OpenLaw} {w : World} {K : PySem.W.Frag} {h : Heap} {mg : Str → Option Value} {fa f0 f1 f2 f3 f4 f5 f6 f7  : Addr} {od0 an0 : Option Addr} {sl0 : Array (Option Value)} {oc0 kV0 dc0 pm0 cd0 ct0 : Value} {od1 an1 : Option Addr} {sl1 : Array (Option Value)} {oc1 kV1 dc1 pm1 cd1 ct1 : Value} {od2 an2 : Option Addr} {sl2 : Array (Option Value)} {oc2 kV2 dc2 pm2 cd2 ct2 : Value} {od3 an3 : Option Addr} {sl3 : Array (Option Value)} {oc3 kV3 dc3 pm3 cd3 ct3 : Value} {od4 an4 : Option Addr} {sl4 : Array (Option Value)} {oc4 kV4 dc4 pm4 cd4 ct4 : Value} {od5 an5 : Option Addr} {sl5 : Array (Option Value)} {oc5 kV5 dc5 pm5 cd5 ct5 : Value} {od6 an6 : Option Addr} {sl6 : Array (Option Value)} {oc6 kV6 dc6 pm6 cd6 ct6 : Value} {od7 an7 : Option Addr} {sl7 : Array (Option Value)} {oc7 kV7 dc7 pm7 cd7 ct7 : Value} (X : K.In h) (G : h.Ns mainGlobals mg) (hfa : mg "law" = some (.ref fa))
    (a0 : PySem.W.nsIn K mainGlobals "wrapped" = some (some (.ref f0)))
    (l0 : K.lookup f0 = some ⟨oc0, od0, .func (PySem.W.fnOf "wrapped" "wrapped" (defArgs st_wrapped) (defBody st_wrapped) (defScope st_wrapped) .none kV0 dc0 pm0 an0 cd0 ct0), sl0⟩)
    (e0 : PySem.W.codeIn K cd0 "wrapped" = true)
    (k0 : PySem.W.keepIn K (.ref f0) = true)
    (a1 : PySem.W.nsIn K mainGlobals "wrap" = some (some (.ref f1)))
    (l1 : K.lookup f1 = some ⟨oc1, od1, .func (PySem.W.fnOf "wrap" "wrap" (defArgs st_wrap) (defBody st_wrap) (defScope st_wrap) .none kV1 dc1 pm1 an1 cd1 ct1), sl1⟩)
    (e1 : PySem.W.codeIn K cd1 "wrap" = true)
    (k1 : PySem.W.keepIn K (.ref f1) = true)
    (a2 : PySem.W.nsIn K mainGlobals "operate" = some (some (.ref f2)))
    (l2 : K.lookup f2 = some ⟨oc2, od2, .func (PySem.W.fnOf "operate" "operate" (defArgs st_operate) (defBody st_operate) (defScope st_operate) .none kV2 dc2 pm2 an2 cd2 ct2), sl2⟩)
    (e2 : PySem.W.codeIn K cd2 "operate" = true)
    (k2 : PySem.W.keepIn K (.ref f2) = true)
    (a3 : PySem.W.nsIn K mainGlobals "_law_cell" = some (some (.ref f3)))
    (l3 : K.lookup f3 = some ⟨oc3, od3, .func (PySem.W.fnOf "_law_cell" "_law_cell" (defArgs st__law_cell) (defBody st__law_cell) (defScope st__law_cell) .none kV3 dc3 pm3 an3 cd3 ct3), sl3⟩)
    (e3 : PySem.W.codeIn K cd3 "_law_cell" = true)
    (k3 : PySem.W.keepIn K (.ref f3) = true)
    (a4 : PySem.W.nsIn K mainGlobals "_law_integer" = some (some (.ref f4)))
    (l4 : K.lookup f4 = some ⟨oc4, od4, .func (PySem.W.fnOf "_law_integer" "_law_integer" (defArgs st__law_integer) (defBody st__law_integer) (defScope st__law_integer) .none kV4 dc4 pm4 an4 cd4 ct4), sl4⟩)
    (e4 : PySem.W.codeIn K cd4 "_law_integer" = true)
    (k4 : PySem.W.keepIn K (.ref f4) = true)
    (a5 : PySem.W.nsIn K mainGlobals "_law_wrapped" = some (some (.ref f5)))
    (l5 : K.lookup f5 = some ⟨oc5, od5, .func (PySem.W.fnOf "_law_wrapped" "_law_wrapped" (defArgs st__law_wrapped) (defBody st__law_wrapped) (defScope st__law_wrapped) .none kV5 dc5 pm5 an5 cd5 ct5), sl5⟩)
    (e5 : PySem.W.codeIn K cd5 "_law_wrapped" = true)
    (k5 : PySem.W.keepIn K (.ref f5) = true)
    (a6 : PySem.W.nsIn K mainGlobals "_law_exactly" = some (some (.ref f6)))
    (l6 : K.lookup f6 = some ⟨oc6, od6, .func (PySem.W.fnOf "_law_exactly" "_law_exactly" (defArgs st__law_exactly) (defBody st__law_exactly) (defScope st__law_exactly) .none kV6 dc6 pm6 an6 cd6 ct6), sl6⟩)
    (e6 : PySem.W.codeIn K cd6 "_law_exactly" = true)
    (k6 : PySem.W.keepIn K (.ref f6) = true)
    (a7 : PySem.W.nsIn K mainGlobals "law" = some (some (.ref f7)))
    (l7 : K.lookup f7 = some ⟨oc7, od7, .func (PySem.W.fnOf "law" "law" (defArgs st_law) (defBody st_law) (defScope st_law) .none kV7 dc7 pm7 an7 cd7 ct7), sl7⟩)
    (e7 : PySem.W.codeIn K cd7 "law" = true)
    (k7 : PySem.W.keepIn K (.ref f7) = true)
    (z_bool : PySem.W.nsIn K mainGlobals "bool" = some none)
    (z_int : PySem.W.nsIn K mainGlobals "int" = some none)
    (z_isinstance : PySem.W.nsIn K mainGlobals "isinstance" = some none)
    (z_len : PySem.W.nsIn K mainGlobals "len" = some none) :
    ∃ fd : FuncData, (∀ (s : Shared) (v : Value), BindsTo s fd ⟨[v], []⟩ [("script", v)]) ∧ ∀ base : Heap, K.In base → base.Ns mainGlobals mg → FnOk l.prog w K mg base (L2.CX l.prog w) 3 fa fd ["script"] (spV K 1 sm_law) := by
  have e := hfa.symm.trans (PySem.W.mg_of X G a7)
  cases e
  have m_bool := PySem.W.mg_none_of X G z_bool
  have m_int := PySem.W.mg_none_of X G z_int
  have m_isinstance := PySem.W.mg_none_of X G z_isinstance
  have m_len := PySem.W.mg_none_of X G z_len
  have F0 := fun_mk (st := st_wrapped) l0 e0 k0
  have b0 := F0.binds (ps := ["n"]) fun _ _ _ _ _ _ us hl => match us, hl with | [_], _ => rfl
  have F1 := fun_mk (st := st_wrap) l1 e1 k1
  have b1 := F1.binds (ps := ["number"]) fun _ _ _ _ _ _ us hl => match us, hl with | [_], _ => rfl
  have F2 := fun_mk (st := st_operate) l2 e2 k2
  have b2 := F2.binds (ps := ["name", "a", "b"]) fun _ _ _ _ _ _ us hl => match us, hl with | [_, _, _], _ => rfl
  have F3 := fun_mk (st := st__law_cell) l3 e3 k3
  have b3 := F3.binds (ps := ["script", "k"]) fun _ _ _ _ _ _ us hl => match us, hl with | [_, _], _ => rfl
  have F4 := fun_mk (st := st__law_integer) l4 e4 k4
  have b4 := F4.binds (ps := ["script", "k"]) fun _ _ _ _ _ _ us hl => match us, hl with | [_, _], _ => rfl
  have F5 := fun_mk (st := st__law_wrapped) l5 e5 k5
  have b5 := F5.binds (ps := ["actual", "number"]) fun _ _ _ _ _ _ us hl => match us, hl with | [_, _], _ => rfl
  have F6 := fun_mk (st := st__law_exactly) l6 e6 k6
  have b6 := F6.binds (ps := ["actual", "due"]) fun _ _ _ _ _ _ us hl => match us, hl with | [_, _], _ => rfl
  have F7 := fun_mk (st := st_law) l7 e7 k7
  have b7 := F7.binds (ps := ["script"]) fun _ _ _ _ _ _ us hl => match us, hl with | [_], _ => rfl
  have all : ∀ base : Heap, FnOk l.prog w K mg base (L2.CX l.prog w) 3 fa (PySem.W.fnOf "law" "law" (defArgs st_law) (defBody st_law) (defScope st_law) .none kV7 dc7 pm7 an7 cd7 ct7) ["script"] (spV K 1 sm_law) := by
    intro base
    have G0 : FnV l.prog w K mg base 1 "wrapped" 1 sm_wrapped := ⟨⟨_, _, _, fn_v F0 sc_wrapped rfl (fun cdv A outer s H E W wx hio hr tk pso => der_wrapped  cdv A outer s H E W wx hio hr tk pso) (fun ds Qd Xd _ h => s_wrapped h), PySem.W.mg_of X G a0, k0, b0⟩⟩
    have G1 : FnV l.prog w K mg base 2 "wrap" 1 sm_wrapped := ⟨⟨_, _, _, fn_v F1 sc_wrap rfl (fun cdv A outer s H E W wx hio hr tk pso => der_wrap sm_wrapped G0 cdv A outer s H E W wx hio hr tk pso) (fun ds Qd Xd _ h => s_wrap h), PySem.W.mg_of X G a1, k1, b1⟩⟩
    have G2 : FnV l.prog w K mg base 2 "operate" 3 sm_op := ⟨⟨_, _, _, fn_v F2 sc_operate rfl (fun cdv A outer s H E W wx hio hr tk pso => der_operate sm_wrapped G0 cdv A outer s H E W wx hio hr tk pso) (fun ds Qd Xd _ h => s_op h), PySem.W.mg_of X G a2, k2, b2⟩⟩
    have G3 : FnV l.prog w K mg base 1 "_law_cell" 2 sm_cell := ⟨⟨_, _, _, fn_v F3 sc__law_cell rfl (fun cdv A outer s H E W wx hio hr tk pso => der__law_cell m_len cdv A outer s H E W wx hio hr tk pso) (fun ds Qd Xd _ h => s_cell h), PySem.W.mg_of X G a3, k3, b3⟩⟩
    have G4 : FnV l.prog w K mg base 2 "_law_integer" 2 sm_int := ⟨⟨_, _, _, fn_v F4 sc__law_integer rfl (fun cdv A outer s H E W wx hio hr tk pso => der__law_integer sm_cell G3 m_int cdv A outer s H E W wx hio hr tk pso) (fun ds Qd Xd _ h => s_int h), PySem.W.mg_of X G a4, k4, b4⟩⟩
    have G5 : FnV l.prog w K mg base 1 "_law_wrapped" 2 sm_iw := ⟨⟨_, _, _, fn_v F5 sc__law_wrapped rfl (fun cdv A outer s H E W wx hio hr tk pso => der__law_wrapped m_bool m_int m_isinstance cdv A outer s H E W wx hio hr tk pso) (fun ds Qd Xd _ h => s_iw h), PySem.W.mg_of X G a5, k5, b5⟩⟩
    have G6 : FnV l.prog w K mg base 1 "_law_exactly" 2 sm_ex := ⟨⟨_, _, _, fn_v F6 sc__law_exactly rfl (fun cdv A outer s H E W wx hio hr tk pso => der__law_exactly m_bool m_int m_isinstance cdv A outer s H E W wx hio hr tk pso) (fun ds Qd Xd _ h => s_ex h), PySem.W.mg_of X G a6, k6, b6⟩⟩
    exact fn_v F7 sc_law rfl (fun cdv A outer s H E W wx hio hr tk pso => der_law sm_cell sm_ex sm_int sm_iw sm_op sm_wrapped G3 G6 G4 G5 G2 G1 m_int cdv A outer s H E W wx hio hr tk pso) (fun ds Qd Xd _ h => s_law h)
  exact ⟨_, fun s v => .of_eq rfl, fun base _ _ => all base⟩
end K50

/-! ## E50_end -/
open PySem PySem.W PyProof.Rows
set_option maxHeartbeats 0 in
theorem PySem.Challenge.cw_scribeself_k50_wrapped_operations_holds : PySem.Challenge.rw_scribeself_k50_wrapped_operations.Holds := by
  w_on; o_law; k_head; (case hw => w_witness2)
  k_fill
  refine L2.walk_ofB (l := PySem.Challenge.rw_scribeself_k50_wrapped_operations) (n := 63) (k := 3) (x := "script") (CX := L2.CX PySem.Challenge.rw_scribeself_k50_wrapped_operations.prog) (sp := fun w => VL.spV _ 1 K50.sm_law) rfl (by decide) rfl ⟨rfl, by decide, by decide⟩ (fun w h Y => PySem.W.kIn_of Y) ?F (fun w H a ns hl hB _ hS => VL.law_in hS ⟨ns, rfl, hl, hB, rfl⟩) (fun _ _ _ _ _ h => VL.cx_no h)
  case F =>
    intro w mg fa h KX G hmg
    refine' K50.all_mk KX G hmg ?a0 ?l0 ?e0 ?k0 ?a1 ?l1 ?e1 ?k1 ?a2 ?l2 ?e2 ?k2 ?a3 ?l3 ?e3 ?k3 ?a4 ?l4 ?e4 ?k4 ?a5 ?l5 ?e5 ?k5 ?a6 ?l6 ?e6 ?k6 ?a7 ?l7 ?e7 ?k7 ?z_bool ?z_int ?z_isinstance ?z_len
    (case a0 => k_is); (case l0 => k_is); (case e0 => k_is); (case k0 => k_is); (case a1 => k_is); (case l1 => k_is)
    (case e1 => k_is); (case k1 => k_is); (case a2 => k_is); (case l2 => k_is); (case e2 => k_is); (case k2 => k_is)
    (case a3 => k_is); (case l3 => k_is); (case e3 => k_is); (case k3 => k_is); (case a4 => k_is); (case l4 => k_is)
    (case e4 => k_is); (case k4 => k_is); (case a5 => k_is); (case l5 => k_is); (case e5 => k_is); (case k5 => k_is)
    (case a6 => k_is); (case l6 => k_is); (case e6 => k_is); (case k6 => k_is); (case a7 => k_is); (case l7 => k_is)
    (case e7 => k_is); (case k7 => k_is); (case z_bool => k_is); (case z_int => k_is); (case z_isinstance => k_is); (case z_len => k_is)
