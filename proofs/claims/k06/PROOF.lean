import PyProof.Rows.All
import Wide.All
import OpenK.AllK
import Wide.FinOn
import HandS.ForMost
import HandS.IsInst
import HandS.Wide
import HandS.SortInts
import HandS.Deep
import HandS.Hot
import HandS.HotCalls
import HandS.Comp
import HandS.ExcIs
import HandS.ExcCtx
import KE.KExcIs
import HandS.ExcInit
import HandS.ExcField
import HandS.ExcOwn
import HandS.RaiseMore
import HandS.AnyAll
import HandS.Ends
import HandS.EndTab
import HandS.HeadWalk
import HandS.HeadEnd
import HandS.Head0
import HandS.Head1
import HandS.Head2
import HandS.Head3
import HandS.HeadHook1
import HandS.HeadHook2
import HandS.HeadHook3
import HandS.HeadHook4
import HandS.DictComp
import HandS.Walk
import HandS.Lambda
import KE.DataMinKey
import KE.SortData
import KE.KRevSl
import HandS.Dict
import HandS.Iter
import HandS.More
import HandS.Sort
import KE.KDictZip
import KE.KDictList
import HandS.Rev
import HandS.FStrTup
import PyProof.ReprHeads
import PyProof.ReprHeadsEmpty
import PyProof.ReprLen
import PyProof.FitsInt
import HandS.FStr
import PyProof.StrLaws
import HandS.TryOnly
import HandS.Gcd
import KE.DataCmp
import KE.KMinBuiltin
import HandS.Style
import HandS.SuiteRaise
import HandS.Conv
import PySem.Challenge.RW_rootcheap_k06_whole_order_on_great_maps
set_option Elab.async false
set_option linter.all false
set_option maxRecDepth 100000
set_option maxHeartbeats 0
/-! part RcB0 -/
/-! General facts: parts of heaps that stay, data that is read in a part. -/
namespace Rc
open PySem L2
/-- from H with its part Hb to H' with its part Hb': nothing of H but what m names is changed, the part grows by new objects alone -/
structure Sub (m : Addr → Prop) (H Hb H' Hb' : Hp) : Prop where
  old : ∀ b o, ¬ m b → H b = some o → H' b = some o
  ext : Same Hb Hb'
  sub : Same Hb' H'
  new : ∀ b, Hb b = none → H b ≠ none → Hb' b = none
def no : Addr → Prop := fun _ => False
def at1 (d : Addr) : Addr → Prop := fun b => b = d
theorem hp_ne {H : Hp} {b : Addr} {o : HO} (h : H b = some o) : H b ≠ none := fun e => by rw [h] at e; cases e
theorem hp_some {H : Hp} {b : Addr} (h : H b ≠ none) : ∃ o, H b = some o := by
  cases e : H b with
  | none => exact absurd e h
  | some o => exact ⟨o, rfl⟩
theorem same_refl {H : Hp} : Same H H := fun _ _ e => e
theorem same_new {H : Hp} {p : Addr} {o : HO} (h : H p = none) : Same H (upd H p o) := fun b x e => by
  rw [upd_ne (ne_of_none e h)]
  exact e
theorem same_mut {Hb H : Hp} {p : Addr} {o : HO} (s : Same Hb H) (h : Hb p = none) : Same Hb (upd H p o) := fun b x e => by
  rw [upd_ne (ne_of_none e h)]
  exact s b x e
theorem same_both {Hb H : Hp} {p : Addr} {o : HO} (s : Same Hb H) (hn : H p = none) : Same (upd Hb p o) (upd H p o) := fun b x e => by
  by_cases hb : b = p
  · subst hb
    rw [upd_same] at e ⊢
    exact e
  · rw [upd_ne hb] at e ⊢
    exact s b x e
theorem same_pub {Hb H : Hp} {p : Addr} {o : HO} (s : Same Hb H) (h : H p = some o) : Same (upd Hb p o) H := fun b x e => by
  by_cases hb : b = p
  · subst hb
    rw [upd_same] at e
    rw [h]
    exact e
  · rw [upd_ne hb] at e
    exact s b x e
namespace Sub
variable {m : Addr → Prop} {H Hb H' Hb' H2 Hb2 : Hp} {p : Addr} {o : HO}
theorem refl (s : Same Hb H) : Sub m H Hb H Hb := ⟨fun _ _ _ e => e, same_refl, s, fun _ e _ => e⟩
theorem trans (a : Sub m H Hb H' Hb') (b : Sub m H' Hb' H2 Hb2) (hm : ∀ x, m x → H x ≠ none → H' x ≠ none) : Sub m H Hb H2 Hb2 where
  old := fun x u n e => b.old x u n (a.old x u n e)
  ext := a.ext.trans b.ext
  sub := b.sub
  new := fun x e n => b.new x (a.new x e n) (by
    by_cases hx : m x
    · exact hm x hx n
    · obtain ⟨u, hu⟩ := hp_some n
      exact hp_ne (a.old x u hx hu))
theorem trans0 (a : Sub no H Hb H' Hb') (b : Sub no H' Hb' H2 Hb2) : Sub no H Hb H2 Hb2 := a.trans b fun _ h => h.elim
/-- a new object, of the part -/
theorem add (s : Sub m H Hb H' Hb') (hn : H' p = none) (hm : ¬ m p) : Sub m H Hb (upd H' p o) (upd Hb' p o) where
  old := fun x u n e => by
    have q := s.old x u n e
    rw [upd_ne (ne_of_none q hn)]
    exact q
  ext := s.ext.trans (same_new (s.sub.free hn))
  sub := same_both s.sub hn
  new := fun x e n => by
    have hx : x ≠ p := fun z => by
      subst z
      obtain ⟨u, hu⟩ := hp_some n
      have q := s.old x u hm hu
      rw [hn] at q
      cases q
    rw [upd_ne hx]
    exact s.new x e n
/-- a new object, or a change of one that is not of the part -/
theorem put (s : Sub m H Hb H' Hb') (hp : H p = none ∨ m p) (hb : Hb' p = none) : Sub m H Hb (upd H' p o) Hb' where
  old := fun x u n e => by
    have hx : x ≠ p := fun z => by
      subst z
      rcases hp with q | q
      · rw [q] at e; cases e
      · exact n q
    rw [upd_ne hx]
    exact s.old x u n e
  ext := s.ext
  sub := same_mut s.sub hb
  new := s.new
/-- what was made apart comes to the part -/
theorem pub (s : Sub m H Hb H' Hb') (h0 : H p = none) (hb : Hb' p = none) (h : H' p = some o) : Sub m H Hb H' (upd Hb' p o) where
  old := s.old
  ext := s.ext.trans (same_new hb)
  sub := same_pub s.sub h
  new := fun x e n => by
    have hx : x ≠ p := fun z => by subst z; exact n h0
    rw [upd_ne hx]
    exact s.new x e n
theorem free0 (s : Sub no H Hb H' Hb') (h : H' p = none) : H p = none := by
  cases e : H p with
  | none => rfl
  | some u =>
    have q := s.old p u (fun z => z) e
    rw [h] at q
    cases q
theorem old0 (s : Sub no H Hb H' Hb') : Same H H' := fun b o e => s.old b o (fun z => z) e
theorem wide (s : Sub no H Hb H' Hb') : Sub m H Hb H' Hb' := ⟨fun b o _ e => s.old b o (fun z => z) e, s.ext, s.sub, s.new⟩
end Sub
/-! ### data -/
theorem sqT_same {K : PySem.W.Frag} {H H' : Hp} {a : Addr} {xs : List V} (e : Same H H') (h : SqT K H a xs) : SqT K H' a xs := by
  unfold SqT at h ⊢
  rcases h with (h | ⟨o, h⟩) | h
  · exact .inl (.inl (e _ _ h))
  · exact .inl (.inr ⟨o, e _ _ h⟩)
  · exact .inr h
mutual
theorem dp_same {K : PySem.W.Frag} {H H' : Hp} (e : Same H H') : ∀ (d : PyData) (v : V), Dp K H v d → Dp K H' v d
  | .none, _, h => by cases h; exact .non
  | .bool b, _, h => by cases h; exact .bl b
  | .int i, _, h => by cases h; exact .int i
  | .str x, _, h => by cases h; exact .str x
  | .list ds, _, h => by
    cases h with
    | lst hs ha => exact .lst (e.seq hs) (dpAll_same e ds _ ha)
  | .tuple ds, _, h => by
    cases h with
    | tup hs ha => exact .tup (sqT_same e hs) (dpAll_same e ds _ ha)
  | .dict _, _, h => by cases h
theorem dpAll_same {K : PySem.W.Frag} {H H' : Hp} (e : Same H H') : ∀ (ds : List PyData) (vs : List V), DpAll K H vs ds → DpAll K H' vs ds
  | [], _, h => by cases h; exact .nil
  | d :: ds, _, h => by
    cases h with
    | cons h1 h2 => exact .cons (dp_same e d _ h1) (dpAll_same e ds _ h2)
end
theorem dpAll_len {K : PySem.W.Frag} {H : Hp} : ∀ {vs : List V} {ds : List PyData}, DpAll K H vs ds → vs.length = ds.length
  | _, _, .nil => rfl
  | _, _, .cons _ h => by rw [List.length_cons, List.length_cons, dpAll_len h]
theorem dpAll_get {K : PySem.W.Frag} {H : Hp} : ∀ {vs : List V} {ds : List PyData} {i : Nat} {d : PyData}, DpAll K H vs ds → ds[i]? = some d → ∃ v, vs[i]? = some v ∧ Dp K H v d
  | _, _, i, d, .nil, e => by simp at e
  | _, _, 0, d, .cons h1 _, e => by
    have e' : _ = d := Option.some.inj e
    subst e'
    exact ⟨_, rfl, h1⟩
  | _, _, i + 1, d, .cons _ h2, e => dpAll_get (i := i) h2 e
theorem dpAll_get' {K : PySem.W.Frag} {H : Hp} : ∀ {vs : List V} {ds : List PyData} {i : Nat} {v : V}, DpAll K H vs ds → vs[i]? = some v → ∃ d, ds[i]? = some d ∧ Dp K H v d
  | _, _, i, d, .nil, e => by simp at e
  | _, _, 0, d, .cons h1 _, e => by
    have e' : _ = d := Option.some.inj e
    subst e'
    exact ⟨_, rfl, h1⟩
  | _, _, i + 1, d, .cons _ h2, e => dpAll_get' (i := i) h2 e
theorem dpAll_app {K : PySem.W.Frag} {H : Hp} : ∀ {vs ws : List V} {ds es : List PyData}, DpAll K H vs ds → DpAll K H ws es → DpAll K H (vs ++ ws) (ds ++ es)
  | _, _, _, _, .nil, h => h
  | _, _, _, _, .cons h1 h2, h => .cons h1 (dpAll_app h2 h)
theorem dpAll_one {K : PySem.W.Frag} {H : Hp} {v : V} {d : PyData} (h : Dp K H v d) : DpAll K H [v] [d] := .cons h .nil
theorem dpAll_ints {K : PySem.W.Frag} {H : Hp} : ∀ ns : List Int, DpAll K H (ns.map V.int) (ns.map PyData.int)
  | [] => .nil
  | n :: ns => .cons (.int n) (dpAll_ints ns)
theorem dpAll_ints_inv {K : PySem.W.Frag} {H : Hp} : ∀ {ns : List Int} {vs : List V}, DpAll K H vs (ns.map PyData.int) → vs = ns.map V.int
  | [], _, h => by cases h; rfl
  | n :: ns, _, h => by
    cases h with
    | cons h1 h2 =>
      cases h1
      rw [dpAll_ints_inv h2]
      rfl
theorem dp_list_inv {K : PySem.W.Frag} {H : Hp} {v : V} {ds : List PyData} (h : Dp K H v (.list ds)) : ∃ a xs, v = .ref a ∧ SqL K H a xs ∧ DpAll K H xs ds := by
  cases h with
  | lst hs ha => exact ⟨_, _, rfl, hs, ha⟩
theorem dp_tup_inv {K : PySem.W.Frag} {H : Hp} {v : V} {ds : List PyData} (h : Dp K H v (.tuple ds)) : ∃ a xs, v = .ref a ∧ SqT K H a xs ∧ DpAll K H xs ds := by
  cases h with
  | tup hs ha => exact ⟨_, _, rfl, hs, ha⟩
theorem dp_int_inv {K : PySem.W.Frag} {H : Hp} {v : V} {i : Int} (h : Dp K H v (.int i)) : v = .int i := by
  cases h
  rfl
theorem small_line {n : Nat} (h : n ≤ 16777216) : n ≤ sizeLine := by rw [PySem.sizeLine_eq]; exact h
theorem small_lt {n : Nat} (h : n < 16777216) : n < sizeLine := by rw [PySem.sizeLine_eq]; exact h
/-- [a, b, c][i] of a tuple's values -/
theorem int_eq_decide {a b : Int} : decide (V.int a = V.int b) = decide (a = b) := by
  by_cases h : a = b
  · subst h; simp
  · have : V.int a ≠ V.int b := fun e => h (V.int.inj e)
    rw [decide_eq_false h, decide_eq_false this]
end Rc
/-! part RcP -/
namespace Rc
open PySem PySem.Spec PyProof.Rows L2
def topS (i : Nat) : Stmt := PySem.Challenge.pw_rootcheap_k06_whole_order_on_great_maps.main.body.getD i (.Pass ⟨0, 0, 0, 0⟩)
abbrev s_BadMap___init__ : Stmt := inClass (topS 3) 0
abbrev N_BadMap___init__ : List Str := ["self", "at", "why"]
theorem sc_BadMap___init__ : FnScope N_BadMap___init__ ["self", "at", "why"] (defScope s_BadMap___init__) := ⟨rfl, rfl, rfl, by decide +kernel, rfl, by decide +kernel, by decide +kernel⟩
abbrev s_NoTree___init__ : Stmt := inClass (topS 4) 0
abbrev N_NoTree___init__ : List Str := ["self", "left"]
theorem sc_NoTree___init__ : FnScope N_NoTree___init__ ["self", "left"] (defScope s_NoTree___init__) := ⟨rfl, rfl, rfl, by decide +kernel, rfl, by decide +kernel, by decide +kernel⟩
abbrev s_Map___init__ : Stmt := inClass (topS 10) 0
abbrev N_Map___init__ : List Str := ["self", "many", "root", "roads"]
theorem sc_Map___init__ : FnScope N_Map___init__ ["self", "many", "root", "roads"] (defScope s_Map___init__) := ⟨rfl, rfl, rfl, by decide +kernel, rfl, by decide +kernel, by decide +kernel⟩
abbrev s_Map_size : Stmt := inClass (topS 10) 1
abbrev N_Map_size : List Str := ["self"]
theorem sc_Map_size : FnScope N_Map_size ["self"] (defScope s_Map_size) := ⟨rfl, rfl, rfl, by decide +kernel, rfl, by decide +kernel, by decide +kernel⟩
abbrev s_Map_begin : Stmt := inClass (topS 10) 2
abbrev N_Map_begin : List Str := ["self"]
theorem sc_Map_begin : FnScope N_Map_begin ["self"] (defScope s_Map_begin) := ⟨rfl, rfl, rfl, by decide +kernel, rfl, by decide +kernel, by decide +kernel⟩
abbrev s_Map_roads : Stmt := inClass (topS 10) 3
abbrev N_Map_roads : List Str := ["self"]
theorem sc_Map_roads : FnScope N_Map_roads ["self"] (defScope s_Map_roads) := ⟨rfl, rfl, rfl, by decide +kernel, rfl, by decide +kernel, by decide +kernel⟩
abbrev s_roads_by_number : Stmt := topS 11
abbrev N_roads_by_number : List Str := ["chart"]
theorem sc_roads_by_number : FnScope N_roads_by_number ["chart"] (defScope s_roads_by_number) := ⟨rfl, rfl, rfl, by decide +kernel, rfl, by decide +kernel, by decide +kernel⟩
abbrev s_check_map : Stmt := topS 12
abbrev N_check_map : List Str := ["many", "root", "roads", "at", "begin", "goal", "cost"]
theorem sc_check_map : FnScope N_check_map ["many", "root", "roads"] (defScope s_check_map) := ⟨rfl, rfl, rfl, by decide +kernel, rfl, by decide +kernel, by decide +kernel⟩
abbrev s_check_cost : Stmt := topS 13
abbrev N_check_cost : List Str := ["road", "cost"]
theorem sc_check_cost : FnScope N_check_cost ["road", "cost"] (defScope s_check_cost) := ⟨rfl, rfl, rfl, by decide +kernel, rfl, by decide +kernel, by decide +kernel⟩
abbrev s_left_out : Stmt := topS 14
abbrev N_left_out : List Str := ["many", "root", "roads", "_", "goals", "begin", "goal", "reached", "waiting", "here", "place"]
theorem sc_left_out : FnScope N_left_out ["many", "root", "roads"] (defScope s_left_out) := ⟨rfl, rfl, rfl, by decide +kernel, rfl, by decide +kernel, by decide +kernel⟩
abbrev s_is_tree : Stmt := topS 15
abbrev N_is_tree : List Str := ["chart", "roads", "known", "road"]
theorem sc_is_tree : FnScope N_is_tree ["chart", "roads"] (defScope s_is_tree) := ⟨rfl, rfl, rfl, by decide +kernel, rfl, by decide +kernel, by decide +kernel⟩
abbrev s_cost_of : Stmt := topS 16
abbrev N_cost_of : List Str := ["chart", "roads", "known", "road"]
theorem sc_cost_of : FnScope N_cost_of ["chart", "roads"] (defScope s_cost_of) := ⟨rfl, rfl, rfl, by decide +kernel, rfl, by decide +kernel, by decide +kernel⟩
abbrev s_cheapest : Stmt := topS 18
abbrev N_cheapest : List Str := ["chart"]
theorem sc_cheapest : FnScope N_cheapest ["chart"] (defScope s_cheapest) := ⟨rfl, rfl, rfl, by decide +kernel, rfl, by decide +kernel, by decide +kernel⟩
abbrev s_cheapest_among : Stmt := topS 19
abbrev N_cheapest_among : List Str := ["many", "root", "roads", "left", "payments", "tree", "whole", "prices", "road", "group", "price", "_"]
theorem sc_cheapest_among : FnScope N_cheapest_among ["many", "root", "roads"] (defScope s_cheapest_among) := ⟨rfl, rfl, rfl, by decide +kernel, rfl, by decide +kernel, by decide +kernel⟩
abbrev s_pay_roads : Stmt := topS 20
abbrev N_pay_roads : List Str := ["many", "root", "roads", "into", "rest", "place", "done", "payments", "path", "begin", "group", "member", "entering", "price", "paid", "road"]
theorem sc_pay_roads : FnScope N_pay_roads ["many", "root", "roads"] (defScope s_pay_roads) := ⟨rfl, rfl, rfl, by decide +kernel, rfl, by decide +kernel, by decide +kernel⟩
abbrev s_roads_into : Stmt := topS 21
abbrev N_roads_into : List Str := ["many", "roads", "into", "road", "_"]
theorem sc_roads_into : FnScope N_roads_into ["many", "roads"] (defScope s_roads_into) := ⟨rfl, rfl, rfl, by decide +kernel, rfl, by decide +kernel, by decide +kernel⟩
abbrev s_rank : Stmt := topS 22
abbrev N_rank : List Str := ["road"]
theorem sc_rank : FnScope N_rank ["road"] (defScope s_rank) := ⟨rfl, rfl, rfl, by decide +kernel, rfl, by decide +kernel, by decide +kernel⟩
abbrev s_path_with : Stmt := topS 23
abbrev N_path_with : List Str := ["path", "place", "at", "group", "circle", "part", "member"]
theorem sc_path_with : FnScope N_path_with ["path", "place"] (defScope s_path_with) := ⟨rfl, rfl, rfl, by decide +kernel, rfl, by decide +kernel, by decide +kernel⟩
abbrev s_pay : Stmt := topS 24
abbrev N_pay : List Str := ["entering", "rest", "paid", "price", "paid_rank", "road", "cost", "road_rank"]
theorem sc_pay : FnScope N_pay ["entering", "rest"] (defScope s_pay) := ⟨rfl, rfl, rfl, by decide +kernel, rfl, by decide +kernel, by decide +kernel⟩
abbrev s_tree_paid : Stmt := topS 25
abbrev N_tree_paid : List Str := ["payments", "roads", "tree", "group", "_", "road", "entered"]
theorem sc_tree_paid : FnScope N_tree_paid ["payments", "roads"] (defScope s_tree_paid) := ⟨rfl, rfl, rfl, by decide +kernel, rfl, by decide +kernel, by decide +kernel⟩
abbrev s_without : Stmt := topS 27
abbrev N_without : List Str := ["roads", "road", "other"]
theorem sc_without : FnScope N_without ["roads", "road"] (defScope s_without) := ⟨rfl, rfl, rfl, by decide +kernel, rfl, by decide +kernel, by decide +kernel⟩
abbrev s_with_no_other : Stmt := topS 28
abbrev N_with_no_other : List Str := ["roads", "road", "goal", "other"]
theorem sc_with_no_other : FnScope N_with_no_other ["roads", "road"] (defScope s_with_no_other) := ⟨rfl, rfl, rfl, by decide +kernel, rfl, by decide +kernel, by decide +kernel⟩
abbrev s_first_among : Stmt := topS 29
abbrev N_first_among : List Str := ["many", "root", "roads", "tree", "cost", "_"]
theorem sc_first_among : FnScope N_first_among ["many", "root", "roads"] (defScope s_first_among) := ⟨rfl, rfl, rfl, by decide +kernel, rfl, by decide +kernel, by decide +kernel⟩
abbrev s_least_among : Stmt := topS 30
abbrev N_least_among : List Str := ["many", "root", "roads", "first"]
theorem sc_least_among : FnScope N_least_among ["many", "root", "roads"] (defScope s_least_among) := ⟨rfl, rfl, rfl, by decide +kernel, rfl, by decide +kernel, by decide +kernel⟩
abbrev s_least_with : Stmt := topS 31
abbrev N_least_with : List Str := ["chart", "road", "roads"]
theorem sc_least_with : FnScope N_least_with ["chart", "road"] (defScope s_least_with) := ⟨rfl, rfl, rfl, by decide +kernel, rfl, by decide +kernel, by decide +kernel⟩
abbrev s_least_without : Stmt := topS 32
abbrev N_least_without : List Str := ["chart", "road"]
theorem sc_least_without : FnScope N_least_without ["chart", "road"] (defScope s_least_without) := ⟨rfl, rfl, rfl, by decide +kernel, rfl, by decide +kernel, by decide +kernel⟩
abbrev s_best : Stmt := topS 34
abbrev N_best : List Str := ["chart", "many", "tree", "cost", "_", "known", "queue", "found", "kept", "part", "first", "road"]
theorem sc_best : FnScope N_best ["chart", "many"] (defScope s_best) := ⟨rfl, rfl, rfl, by decide +kernel, rfl, by decide +kernel, by decide +kernel⟩
abbrev s_parts_beside : Stmt := topS 35
abbrev N_parts_beside : List Str := ["tree", "roads", "parts", "road"]
theorem sc_parts_beside : FnScope N_parts_beside ["tree", "roads"] (defScope s_parts_beside) := ⟨rfl, rfl, rfl, by decide +kernel, rfl, by decide +kernel, by decide +kernel⟩
abbrev s_margin : Stmt := topS 36
abbrev N_margin : List Str := ["chart", "road", "tree", "cost", "_"]
theorem sc_margin : FnScope N_margin ["chart", "road"] (defScope s_margin) := ⟨rfl, rfl, rfl, by decide +kernel, rfl, by decide +kernel, by decide +kernel⟩
abbrev s_how_much_more : Stmt := topS 37
abbrev N_how_much_more : List Str := ["least", "cost"]
theorem sc_how_much_more : FnScope N_how_much_more ["least", "cost"] (defScope s_how_much_more) := ⟨rfl, rfl, rfl, by decide +kernel, rfl, by decide +kernel, by decide +kernel⟩
abbrev s_how_many : Stmt := topS 39
abbrev N_how_many : List Str := ["chart"]
theorem sc_how_many : FnScope N_how_many ["chart"] (defScope s_how_many) := ⟨rfl, rfl, rfl, by decide +kernel, rfl, by decide +kernel, by decide +kernel⟩
abbrev s_table_of_roads : Stmt := topS 40
abbrev N_table_of_roads : List Str := ["chart", "root", "places", "table", "begin", "goal", "_", "place", "row", "other"]
theorem sc_table_of_roads : FnScope N_table_of_roads ["chart"] (defScope s_table_of_roads) := ⟨rfl, rfl, rfl, by decide +kernel, rfl, by decide +kernel, by decide +kernel⟩
abbrev s_determinant : Stmt := topS 41
abbrev N_determinant : List Str := ["rows", "before", "first", "corner", "row", "at"]
theorem sc_determinant : FnScope N_determinant ["rows"] (defScope s_determinant) := ⟨rfl, rfl, rfl, by decide +kernel, rfl, by decide +kernel, by decide +kernel⟩
abbrev s_dice : Stmt := topS 43
abbrev N_dice : List Str := ["_law_script", "_law_mixed", "_law_cell"]
theorem sc_dice : FnScope N_dice ["_law_script"] (defScope s_dice) := ⟨rfl, rfl, rfl, by decide +kernel, rfl, by decide +kernel, by decide +kernel⟩
abbrev s_next : Stmt := topS 44
abbrev N_next : List Str := ["_law_dice_here", "_law_many", "_law_found", "_law_cell"]
theorem sc_next : FnScope N_next ["_law_dice_here", "_law_many"] (defScope s_next) := ⟨rfl, rfl, rfl, by decide +kernel, rfl, by decide +kernel, by decide +kernel⟩
abbrev s_whole : Stmt := topS 45
abbrev N_whole : List Str := ["_law_found"]
theorem sc_whole : FnScope N_whole ["_law_found"] (defScope s_whole) := ⟨rfl, rfl, rfl, by decide +kernel, rfl, by decide +kernel, by decide +kernel⟩
abbrev s_cost : Stmt := topS 46
abbrev N_cost : List Str := ["_law_d", "_law_way"]
theorem sc_cost : FnScope N_cost ["_law_d"] (defScope s_cost) := ⟨rfl, rfl, rfl, by decide +kernel, rfl, by decide +kernel, by decide +kernel⟩
abbrev s_map : Stmt := topS 47
abbrev N_map : List Str := ["_law_d", "_law_places", "_law_roads", "_law_many", "_law_root", "_law_rows", "_law_k", "_law_begin", "_law_goal"]
theorem sc_map : FnScope N_map ["_law_d", "_law_places", "_law_roads"] (defScope s_map) := ⟨rfl, rfl, rfl, by decide +kernel, rfl, by decide +kernel, by decide +kernel⟩
abbrev s_wide : Stmt := topS 48
abbrev N_wide : List Str := ["_law_d"]
theorem sc_wide : FnScope N_wide ["_law_d"] (defScope s_wide) := ⟨rfl, rfl, rfl, by decide +kernel, rfl, by decide +kernel, by decide +kernel⟩
abbrev s_law : Stmt := topS 49
abbrev N_law : List Str := ["_law_script", "_law_d", "_law_many", "_law_root", "_law_rows", "_law_chart", "_law_asked", "_law_found", "_law_keys", "_law_pair", "_law_fars", "_law_road", "_law_k", "_law_far"]
theorem sc_law : FnScope N_law ["_law_script"] (defScope s_law) := ⟨rfl, rfl, rfl, by decide +kernel, rfl, by decide +kernel, by decide +kernel⟩
end Rc
/-! part RcX1 -/
/-! A list comprehension over a list while an exception is handled. -/
namespace Rc
open PySem PySem.Spec PyProof.Rows L2 L2H HotX
section
variable {prog : Program} {w : World} {A : Around} {E : Value → Shared → Prop} {s : Shared}
/-- the end of a list's walk, an exception being handled -/
theorem list_end_hot {it l x1 : Addr} {i : Nat} {items : Array Value} {Q : Option Value → Shared → Prop} (hot : HotAt A x1 s.heap) (hit : s.heap.IsListIter it l i) (hl : s.heap.IsList l items) (hx : items[i]? = none)
    (nx : x1 ≠ it) (hQ : ∀ h', (∀ b o, b ≠ it → s.heap.get? b = some o → h'.get? b = some o) → Q none { s with heap := h' }) : wpAny (model prog w) A (pyNext (.ref it)) Q E s := by
  obtain ⟨oi, hoi, hci, hdi⟩ := id hit
  obtain ⟨ol, hol, _, nl, hdl⟩ := hl
  obtain ⟨hh, o1, vs1, h1, d1, c1⟩ := hot
  unfold pyNext
  refine wpAny_bind (wpAny_attempt (wpAny_callSpecial?_slot (name := Str.ofString "__next__") hit.typeIs slot_listiter_next (wpAny_call_entry slot_listiter_next hit.typeIs entry_listiter_next ?_ (args_listiter_next _))))
  show wpAny _ _ (field (.ref it) 0 >>= _) _ _ s
  refine wpAny_bind (wpAny_field hoi hdi (x := .ref l) rfl ?_)
  show wpAny _ _ (if (Value.ref l == Value.none) = true then _ else _) _ _ s
  rw [if_neg (show ¬ ((Value.ref l == Value.none) = true) from Bool.false_ne_true)]
  show wpAny _ _ (field (.ref it) 1 >>= _) _ _ s
  refine wpAny_bind (wpAny_field hoi hdi (x := .int i 0) rfl ?_)
  show wpAny _ _ (seqItems? (.ref l) >>= _) _ _ s
  refine wpAny_bind (wpAny_seqItems hol hdl ?_)
  simp only [Int.toNat_natCast, hx]
  refine wpAny_bind (wpAny_rule (wpAny_bind (wpAny_setField hoi hdi (by simp) ?_)))
  refine wpAny_bind ?_
  simp only [newExc, newTuple]
  refine wpAny_bind (wpAny_newObj_type ?_ (by size_fits))
  refine wpAny_bind (m := firstArgMember _ _) (wpAny_of_eq (a := Value.none) (by first | rfl | (simp only [firstArgMember]; rfl)) ?_)
  refine wpAny_newObj_type ?_ (by size_fits)
  have hk : ∀ {f : Obj → Obj} {b : Addr} {o : Obj}, b ≠ it → s.heap.get? b = some o → (s.heap.update it f).get? b = some o := fun nb e => (Heap.get?_update_other _ _ (Ne.symm nb)).trans e
  refine raiseNew_hot ⟨hh, o1, vs1, Heap.get?_push_of_some _ (Heap.get?_push_of_some _ (hk nx h1)), d1, c1⟩ (Nat.ne_of_lt (Heap.lt_size (Heap.get?_push_of_some _ (hk nx h1)))) (Heap.get?_push_size _ rfl) rfl (by first | (simp; done) | (simp; omega)) ?_
  refine wpAny_bind (wpAny_isInstance (T := "StopIteration") (b := true) ⟨_, Heap.get?_update_self _ (Heap.get?_push_size _ rfl) rfl, rfl⟩ isSubtype_stop ?_)
  refine wpAny_pure (hQ _ fun b o nb e => ?_)
  rw [Heap.get?_update_other _ _ (Nat.ne_of_gt (Heap.lt_size (Heap.get?_push_of_some _ (hk nb e))))]
  exact Heap.get?_push_of_some _ (Heap.get?_push_of_some _ (hk nb e))
end
end Rc
/-! part RcX2 -/
namespace Rc
open PySem PySem.Spec PyProof.Rows L2 L2H HotX
/-- [elt for x in l], l a list: Pv by the turn -/
def tLcH (K : PySem.W.Frag) (tl : TE) (g : TG) (te : TE) (vs : List Nat) : TE := fun σ H Q => tl σ H fun x H1 => ∃ (a : Addr) (xs : List V), x = .ref a ∧ SqL K H1 a xs ∧ ∀ D, H1 D = none → ∃ Pv : Nat → Hp → Prop, Pv 0 (upd H1 D (.lst [])) ∧
  (∀ i H', i ≤ xs.length → Pv i H' → SqL K H' a xs) ∧ (∀ i x H', xs[i]? = some x → Pv i H' → g x (wipe σ vs) H' fun σ2 H2 => wipe σ2 vs = wipe σ vs ∧ te σ2 H2 fun y H3 => ∃ acc, H3 D = some (.lst acc) ∧ acc.length < sizeLine ∧ Pv (i + 1) (upd H3 D (.lst (acc ++ [y])))) ∧
  ∀ H', Pv xs.length H' → Q (.ref D) H'
section
variable {X : Cx}
theorem pe_lcH {elt tg l : Expr} {scope : Scope} {own : List (Str × Nat)} {pos : Pos} {tl : TE} {g : TG} {te : TE} (hot : HotC X) (hN : X.N.Nodup) (hl : PE X l tl) (ok : BlkOk X.N X.env.scope scope own)
    (hg : ∀ (s : Shared) (H : Hp) (C : Addr) (cl : List (Str × Addr)) (fp : List Addr), PG (X.blk s H scope (compEnvC scope cl C X.env) fp) tg g)
    (he : ∀ (s : Shared) (H : Hp) (C : Addr) (cl : List (Str × Addr)) (fp : List Addr), PE (X.blk s H scope (compEnvC scope cl C X.env) fp) elt te) (hs : ∀ x, foldedSetIterable l X.env x = pure x := by intro _; rfl) :
    PE X (.ListComp elt [⟨tg, l, [], 0⟩] scope pos) (tLcH X.K tl g te (own.map (·.2))) := by
  refine ⟨fun pins s σ H Q I h => ?_⟩
  rw [eval_ListComp]
  have fr : ∀ y ∈ scope.names, y.2 = .free → ∃ c, X.env.cells.lookup y.1 = some c := fun y hy e => (ok.free y hy e).elim (fun k => I.ok.has _ (.inl k)) fun k => I.ok.has _ (.inr k)
  refine wpAny_comprehension_free (use := none) rfl hs (closure_ok fr) ok.kind (fun y hy e => by rw [ok.uniq y hy, e]) (thn (hl.run pins s σ H _ I h) fun v s1 ⟨x, H1, I1, r1, a, xs, ex, hq, hD⟩ => ?_)
  subst ex
  cases r1
  obtain ⟨its, rv, pl, hz⟩ := I1.list hq
  refine wpAny_pyIter_list pl.isList (wpAny_newObj_type (newEnv_comp ?_) (by show 0 ≤ sizeLine; decide))
  -- the iterator, the new list
  have I2 : Inv X pins σ H1 { s1 with heap := s1.heap.push { cls := .type "list_iterator", data := .fields #[.ref a, .int 0 0] } } := I1.kept (t' := s1.toks) fun b o e => Heap.get?_push_of_some _ e
  have itn : H1 s1.heap.objs.size = none := I1.hok.fresh (Nat.le_refl _)
  have Fi := I1.fpOk (Nat.le_refl _) itn
  generalize hit : s1.heap.objs.size = it at I2 itn Fi ⊢
  have st2 : (s1.heap.push { cls := .type "list_iterator", data := .fields #[.ref a, .int 0 0] }).IsListIter it a 0 := ⟨_, by rw [← hit]; exact Heap.get?_push_size _ rfl, rfl, rfl⟩
  have lt2 : it < (s1.heap.push { cls := .type "list_iterator", data := .fields #[.ref a, .int 0 0] }).objs.size := by rw [Heap.size_push, ← hit]; exact Nat.lt_succ_self _
  generalize hs2 : ({ s1 with heap := s1.heap.push { cls := .type "list_iterator", data := .fields #[.ref a, .int 0 0] } } : Shared) = s2 at I2 ⊢
  have h2 : s2.heap = s1.heap.push { cls := .type "list_iterator", data := .fields #[.ref a, .int 0 0] } := by rw [← hs2]
  rw [← h2] at st2 lt2
  generalize hDe : s2.heap.objs.size = D
  have hDn : H1 D = none := I2.hok.fresh (Nat.le_of_eq hDe)
  obtain ⟨Pv, p0, pl', ps, pd⟩ := hD D hDn
  generalize hs3 : ({ s2 with heap := s2.heap.push { cls := .type "list", data := .seq ([] : List Value).toArray } } : Shared) = s3
  have h3 : s3.heap = s2.heap.push { cls := .type "list", data := .seq ([] : List Value).toArray } := by rw [← hs3]
  have I3 : Inv X pins σ (upd H1 D (.lst [])) s3 := by
    rw [← hs3]
    refine I2.laid (t' := s2.toks) (fun b o e => Heap.get?_push_of_some _ e) (Nat.le_of_eq hDe) ⟨Nat.zero_le _, [], 0, .nil, ?_⟩
    rw [← hDe]
    exact Heap.get?_push_size _ rfl
  have nDi : it ≠ D := by rw [← hDe]; exact Nat.ne_of_lt lt2
  have st3 : s3.heap.IsListIter it a 0 := st2.at fun o e => by rw [h3]; exact Heap.get?_push_of_some _ e
  have f3 : ∀ b ∈ [it], FpOk X pins (upd H1 D (.lst [])) b ∧ b < s3.heap.objs.size := fun b hb => by
    rw [List.mem_singleton.mp hb]
    exact ⟨⟨by rw [upd_ne nDi]; exact itn, Fi.2⟩, by rw [h3, Heap.size_push]; exact Nat.lt_succ_of_lt lt2⟩
  have I4 := block_start I3 ok hN f3
  have pg := hg s3 (upd H1 D (.lst [])) s3.heap.objs.size (cellsFrom (s3.heap.objs.size + 1) scope.names (cloFrom X.env.cells scope.names [])) [it]
  have pe := he s3 (upd H1 D (.lst [])) s3.heap.objs.size (cellsFrom (s3.heap.objs.size + 1) scope.names (cloFrom X.env.cells scope.names [])) [it]
  -- the handled exception stays
  obtain ⟨q0, ⟨hh, v1, e1, c1⟩, hpn⟩ := hot
  obtain ⟨g1, g2, g3, g4, g5⟩ := I3.pin q0 (List.mem_append_left _ hpn)
  have qi : q0.1 ≠ it := fun z => (Nat.lt_irrefl _) (Nat.lt_of_lt_of_le (Heap.lt_size (I1.pin q0 (List.mem_append_left _ hpn)).1) (by rw [z, hit]; exact Nat.le_refl _))
  have qs : q0.1 ∉ frs X.stack := fun hm => (List.mem_cons.mp (I3.stkSub q0.1 hm)).elim g3 g4
  show codeAny _ _ (.compStart (.ListComp elt [⟨tg, l, [], 0⟩] scope pos) 0 (.ref it) (.ref D) (compEnvC scope (cellsFrom (s3.heap.objs.size + 1) scope.names (cloFrom X.env.cells scope.names [])) s3.heap.objs.size X.env)) _ { s3 with heap := pushCells (s3.heap.push { cls := .type "dict", data := .dict #[] }) scope.names }
  generalize hce : compEnvC scope (cellsFrom (s3.heap.objs.size + 1) scope.names (cloFrom X.env.cells scope.names [])) s3.heap.objs.size X.env = ce at I4 pg pe ⊢
  have cL : ce.locals = s3.heap.objs.size := by subst hce; rfl
  have hi3 : (upd H1 D (.lst [])) it = none := (f3 it (List.mem_singleton.mpr rfl)).1.1
  generalize hH3 : upd H1 D (.lst []) = H3 at I3 I4 pg pe p0 f3 g2 hi3
  generalize hs4 : ({ s3 with heap := pushCells (s3.heap.push { cls := .type "dict", data := .dict #[] }) scope.names } : Shared) = s4 at I4 ⊢
  have st4 : s4.heap.IsListIter it a 0 := st3.at fun o e => by rw [← hs4]; exact pushCells_keeps _ _ _ _ (Heap.get?_push_of_some _ e)
  have still : ∀ {σ' : L2.St} {H' : Hp} {s' : Shared}, Inv (X.blk s3 H3 scope ce [it]) [] σ' H' s' → HotAt X.A q0.1 s'.heap := fun {σ' H' s'} I' =>
    ⟨hh, q0.2, v1, I'.base.keep q0.1 q0.2 g1 g2 qs (fun z => qi (List.mem_singleton.mp z)), e1, c1⟩
  have stat : ∀ {σ' : L2.St} {H' : Hp} {s' : Shared}, Inv (X.blk s3 H3 scope ce [it]) [] σ' H' s' → H' it = none → FpOk (X.blk s3 H3 scope ce [it]) [] H' it := fun {σ' H' s'} I' hn =>
    have m : it ∈ [it] := List.mem_singleton.mpr rfl
    ⟨hn, (I'.ok.exf it m).1, I'.ok.exfs it m, .inl m, fun x c e => (I'.ok.exf it m).2 x c e, fun p hp => absurd (show p ∈ ([] : List (Addr × Obj)) ++ [] from hp) (by simp)⟩
  have loop : ∀ R : Result → Shared → Prop, (∀ s' H', Inv X pins σ H' s' → Q (.ref D) H' → (∃ m, s'.heap.Ns s3.heap.objs.size m) → FpOk X pins H' s3.heap.objs.size → R (.ok .next) s') →
      codeAny (model X.prog X.w) X.A (.compLoop (.ListComp elt [⟨tg, l, [], 0⟩] scope pos) 0 (.ref it) (.ref D) ce) R s4 := by
    intro R hR
    refine compLoop_any (fun n s' => ∃ i H', Inv (X.blk s3 H3 scope ce [it]) [] (wipe σ (own.map (·.2))) H' s' ∧ s'.heap.IsListIter it a i ∧ H' it = none ∧ i ≤ xs.length ∧ n = xs.length - i ∧ Pv i H') ?_ xs.length ⟨0, H3, I4, st4, hi3, Nat.zero_le _, rfl, p0⟩
    rintro n s5 ⟨i, H5, I5, st5, n5, hle, rfl, p5⟩
    obtain ⟨its5, rv5, pl5, hz5⟩ := I5.list (pl' i H5 hle p5)
    have hl5 := rv5.length
    obtain ⟨f0, f1, f2, f3', f4, f5⟩ := stat I5 n5
    by_cases lt : i < xs.length
    · have hx := List.getElem?_eq_getElem lt
      obtain ⟨u, hu, ru⟩ := rv5.get hx
      refine thnF (Q := fun r s6 => r = some u ∧ Inv (X.blk s3 H3 scope ce [it]) [] (wipe σ (own.map (·.2))) H5 s6 ∧ s6.heap.IsListIter it a (i + 1))
        (wpAny_pyNext_list_item st5 pl5.isList (x := u) (by simpa using hu) fun h' st' sb => ⟨rfl, I5.turned (t' := s5.toks) (fun b o hb e => (sb.2 b hb).trans e) f0 f1 f3' f4 f5, st'⟩) fun r s6 ⟨er, I6, st6⟩ => ?_
      subst er
      obtain ⟨oi, eoi, ci, di⟩ := id st6
      refine go_of eoi ci di (by decide) ?_
      have I6' := I6.pinned (fp := [it]) (fun b hb => by rw [List.mem_singleton.mp hb]; exact stat I6 n5) (fun b hb => ⟨oi, by rw [List.mem_singleton.mp hb]; exact eoi, fun v z => by rw [di] at z; cases z⟩)
      refine thnF (pg.run _ s6 _ H5 _ u _ I6' ru (ps i _ H5 hx p5)) fun _ s8 ⟨σ8, H8, I8, hw8, q8⟩ => ?_
      refine thnF ((pts_nil (X := X.blk s3 H3 scope ce [it])).run _ s8 σ8 H8 (fun b H9 => b = true ∧ H9 = H8) I8 ⟨rfl, rfl⟩) fun b s9 ⟨H9, I9, eb, e9⟩ => ?_
      subst eb e9
      rw [if_pos rfl]
      refine thnF (pe.run _ s9 σ8 H9 _ I9 q8) fun z s10 ⟨yv, H10, I10, r10, acc, hD10, hz10, nx⟩ => ?_
      refine app_ok (X := X.blk s3 H3 scope ce [it]) I10 hD10 hz10 r10 fun s11 I11 => ?_
      have pin' := I11.pin (it, oi) (List.mem_append_right _ (List.mem_append_right _ (mem_pinsAt (List.mem_singleton.mpr rfl) eoi)))
      have hlw : (wipe σ (own.map (·.2))).length = σ8.length := by rw [← hw8, wipe_length]
      exact ⟨xs.length - (i + 1), by omega, i + 1, _, (I11.unpinned (pins := [])).weak hlw (fun j v e => by rw [← hw8] at e; exact (wipe_some e).1), ⟨oi, pin'.1, ci, di⟩, pin'.2.1, lt, rfl, nx⟩
    · have hend : i = xs.length := by omega
      refine list_end_hot (still I5) st5 pl5.isList (by simp; omega) qi fun h' kb => ?_
      have I6 := I5.turned (t' := s5.toks) (fun b o hb e => kb b o hb e) f0 f1 f3' f4 f5
      have I7 : Inv X pins σ H5 { s5 with heap := h' } := I3.call' (ch := [it]) I6.os I6.base I6.hok I6.bare fun b hb => ⟨(f3 b hb).1.2.2.2.1, (f3 b hb).1.2.1, (f3 b hb).1.2.2.2.2.1, (f3 b hb).1.2.2.2.2.2⟩
      have nC : H5 s3.heap.objs.size = none := by
        have z : H5 ce.locals = none := I6.free
        rw [cL] at z
        exact z
      obtain ⟨m, hn, _⟩ := I6.loc
      rw [hend] at p5
      refine hR _ H5 I7 (pd H5 p5) ⟨m, ?_⟩ (I3.fpOk (Nat.le_refl _) nC)
      have hn2 : ({ s5 with heap := h' } : Shared).heap.Ns ce.locals m := hn
      rw [cL] at hn2
      exact hn2
  have fin : ∀ s' H', Inv X pins σ H' s' → Q (.ref D) H' → (∃ m, s'.heap.Ns s3.heap.objs.size m) → FpOk X pins H' s3.heap.objs.size → compPost (model X.prog X.w) X.A X.xe none (EP X pins σ Q) (.ref D) s3.heap.objs.size (.ok .next) s' := by
    rintro s' H' I' q ⟨m, hn⟩ ⟨k0, k1, k2, k3, k4, k5⟩
    exact ⟨m, hn, fun h'' sb => ⟨.ref D, H', I'.turned (t' := s'.toks) (fun b o hb e => (sb.2 b hb).trans e) k0 k1 k3 k4 k5, rfl, q⟩⟩
  exact codeAny_compStart_list (loop _ fin) (wpAny_pyIter_listiter st4 (loop _ fin))
end
end Rc
/-! part RcX3 -/
/-! Defs that are called while an exception is handled of which something is known. -/
namespace Rc
open PySem PySem.Spec PyProof.Rows L2 L2H HotX
/-- what a def promises there: G is known of the exception's object, sp may name it -/
structure FnG (P : Program) (w : World) (K : PySem.W.Frag) (mg : Str → Option Value) (base : Heap) (k : Nat) (f : Addr) (fd : FuncData) (ps : List Str) (G : Addr × Obj → Prop) (sp : Addr → Sp) : Prop where
  len : ∀ a vs H Q E, sp a vs H Q E → vs.length = ps.length
  run : ∀ (A : Around) (out : List Env) (s : Shared) (H : Hp) (args : Args) (us : List Value) (vs : List V) (Q : VK) (E : XK) (p : Addr × Obj), RoomH k A → Hot1 A p → PinOk out H s p → G p → Env0 P w K mg base A out s H → BindsTo s fd args (ps.zip us) → Vals vs us →
    sp p.1 vs H Q E → codeAny (model P w) A (.call (.ref f) args) (CR CX0 out P w H s Q E) s
theorem Fun.okG {P : Program} {w : World} {K : PySem.W.Frag} {mg : Str → Option Value} {base : Heap} {x qual : Str} {st : Stmt} {f : Addr} {fd : FuncData} {N ps : List Str} {k : Nat} {G : Addr × Obj → Prop} {sp : Addr → Sp} (F : Fun K x qual st f fd)
    (S : FnScope N ps (defScope st)) (len : ∀ a vs H Q E, sp a vs H Q E → vs.length = ps.length)
    (body : ∀ (cdv : Value) (A : Around) (out : List Env) (s : Shared) (H : Hp) (vs : List V) (Q : VK) (E : XK) (p : Addr × Obj), Hot1 A p → G p → RoomH k (A.deeper (envOfC qual (defScope st) s.heap.objs.size f cdv)) → sp p.1 vs H Q E →
      ∃ t, PSs (cxH CX0 P w K mg base N qual (defScope st) f cdv A out s H E p) (defBody st) t ∧ t { nx := fun _ H' => Q .non H', rt := Q } (L2.start N vs) H) : FnG P w K mg base (k + 1) f fd ps G sp := by
  obtain ⟨oc, od, kV, doc, pm, an, cdv, ct, osl, rfl, lk, hcd⟩ := F.ex
  refine ⟨len, fun A out s H args us vs Q E p hr hot hpin hG e0 hb r hsp => ?_⟩
  have hl := len _ _ _ _ _ hsp
  have kx : K.In s.heap := e0.mod.kin.keeps fun b o e => (e0.bs b o e).1
  have lim : s.heap.NoLimit := e0.mod.nolimit.keeps fun b o e => (e0.bs b o e).1
  have kinds : ∀ y ∈ ps.zip us, (defScope st).names.lookup y.1 = some .local ∨ ((defScope st).names.lookup y.1 = some .cell ∧ ((cellsFrom (s.heap.objs.size + 1) (defScope st).names []).lookup y.1).isSome = true) := fun ⟨n, v⟩ hy =>
    (S.par n (List.of_mem_zip hy).1).elim .inl fun q => .inr ⟨q, PySem.W.cellsFrom_some _ _ _ (.inl q)⟩
  refine codeAny_call_function hr.depth (kx _ _ lk) rfl S.co S.gen rfl (PySem.W.codeRec_of kx hcd) (hb _ _ _ _ (wpAny_newFunctionEnv_cells S.kind kinds fun env he s1 y => ?_))
  subst he
  refine ⟨lim.keeps y.toInCall.keep, codeAny_func ?_⟩
  obtain ⟨t, ht, hq⟩ := body cdv A out s H vs Q E p hot hG (hr.deeper _) hsp
  have I := inv_startH (CX := CX0) (cd := cdv) (qual := qual) (E := E) S hpin e0 hl r y
  refine wpAny_mono (ht.run [] s1 (L2.start N vs) H _ I hq) (fun fl s' z => ?_) fun e s' z => z
  cases fl with
  | ret u =>
    obtain ⟨v, σ', H', J, rv, q⟩ := z
    exact ⟨v, H', J.os, J.bare, J.base, J.hok, rv, q⟩
  | next =>
    obtain ⟨σ', H', J, q⟩ := z
    exact ⟨.non, H', J.os, J.bare, J.base, J.hok, rfl, q⟩
  | brk =>
    obtain ⟨_, _, _, q⟩ := z
    exact q.elim
  | cont =>
    obtain ⟨_, _, _, q⟩ := z
    exact q.elim
section
variable {X : Cx} {k : Nat} {f : Addr} {fd : FuncData} {ps : List Str} {x : Str} {q pos : Pos} {e : Expr} {es : List Expr} {ta : TA}
/-- f(e, ..) in a suite, or in a def that is called there: p the handled exception -/
theorem pe_callG {G : Addr × Obj → Prop} {sp : Addr → Sp} {E : XK} {p : Addr × Obj} (F : FnG X.prog X.w X.K X.mg X.base k f fd ps G sp) (hr : RoomH k X.A) (hot : Hot1 X.A p) (hp : p ∈ X.pn) (hG : G p) (hg : Gl X x) (hm : X.mg x = some (.ref f))
    (hk : PySem.W.keepIn X.K (.ref f) = true) (hb : Binds X.K fd ps []) (ha : PA X (e :: es) ta) (hdb : (x == ("__debug__" : Str)) = false := by decide)
    (he : starEach (e :: es) X.env = (false, eval e X.env) :: starEach es X.env := by rfl) (hpl : (backTo pos (starEach es X.env)).any (·.1) = false := by rfl) : PE X (.Call (.Name x q) (e :: es) [] pos) (tCall (sp p.1) [] E ta) := by
  refine ⟨fun pins s σ H Q I h => wpAny_Call_Name_kw (ld_glob I hg hm ?_ hdb)⟩
  refine PySem.W.callWith_K (h₀ := X.base) I.ok.mod.kin hk (thn (ha.run pos pins s σ H _ I h) fun us s1 ⟨vs, H1, I1, r, z⟩ => ⟨I1.kIn, ?_⟩) he hpl
  have z1 : sp p.1 vs H1 Q E := by
    have z' : sp p.1 (vs ++ []) H1 Q E := z
    rw [List.append_nil] at z'
    exact z'
  have hl : us.length = ps.length := by rw [← r.length]; exact F.len _ _ _ _ _ z1
  have b := hb s1 us I1.kIn (by rw [List.append_nil]; exact hl)
  rw [List.append_nil] at b
  obtain ⟨p1, p2, p3, p4, p5⟩ := I1.pin p (List.mem_append_left _ hp)
  have hpin : PinOk X.stack H1 s1 p := ⟨p1, p2, fun m => (List.mem_cons.mp (I1.stkSub p.1 m)).elim p3 p4, p5⟩
  refine wpAny_call (codeAny_mono (F.run X.A X.stack s1 H1 ⟨us, []⟩ us vs Q E p hr hot hpin hG I1.env0 b r z1) fun r s' hq => ?_)
  cases r with
  | error e => exact False.elim hq
  | ok fl =>
    cases fl with
    | ret u => exact I1.after hq
    | next => exact hq.elim
    | brk => exact hq.elim
    | cont => exact hq.elim
end
/-! ### isinstance of an exception with fields -/
def rIsP (K : PySem.W.Frag) (D a dd : Addr) : List V → Hp → VK → Prop := fun xs H Q => ∃ (c : V) (cv : Value) (b : Bool) (fs : List (Str × V)), xs = [.ref a, c] ∧ (∀ u, RelV c u → u = cv) ∧ PySem.W.kitOne K (.ref D) cv = some b ∧ H dd = some (.xd fs) ∧ Q (.bl b) H
structure IsP (p : Addr × Obj) (D dd : Addr) : Prop where
  cls : p.2.cls = .ref D
  dict : p.2.dict = some dd
  data : ∃ vs, p.2.data = .fields vs
theorem call_isP {X : Cx} {D dd : Addr} {p : Addr × Obj} (C : ExcC X.K D) (hp : p ∈ X.pn) (T : IsP p D dd) : CallR X (.builtin "isinstance") (rIsP X.K D p.1 dd) := by
  intro pins s σ H xs us Q I r h
  obtain ⟨c, cv, b, fs, rfl, hcv, e, hd, q⟩ := h
  cases r with
  | cons rx rr =>
    cases rr with
    | cons rt rr =>
      cases rr
      cases rx
      have ec := hcv _ rt
      subst ec
      obtain ⟨hget, _⟩ := I.pin p (List.mem_append_left _ hp)
      obtain ⟨vs, hv⟩ := T.data
      have hx : ObjOk X.prog X.w H s.heap dd (.xd fs) := I.hok dd _ hd
      obtain ⟨mA, hns, _⟩ := hx
      obtain ⟨od, ho, _⟩ := lookIn_ns hns
      have J : PySem.W.InstAt s.heap p.1 p.2 D (some od) := ⟨hget, T.cls, by unfold PySem.W.notCls; rw [hv], by rw [T.dict]; exact ho⟩
      refine PySem.W.kia_one (PySem.W.kitx_exc (od := some od) ?_ C.hg C.hk C.hs C.ha C.hn C.ht C.hm) I.kIn J e (fun z => nomatch z) fun tk => ⟨.bl b, H, I.kept (t' := tk) fun _ _ z => z, rfl, q⟩
      obtain ⟨cd, hc, _⟩ := PySem.W.any_some C.hd
      rw [hc]
      rfl
end Rc
/-! part RcX4 -/
/-! Own exceptions: made by their own __init__, which calls that of a class of their own. -/
namespace Rc
open PySem PySem.Spec PyProof.Rows L2 L2H HotX
/-! ### facts -/
def oexB (K : PySem.W.Frag) (C : Addr) : Bool := (match K.lookup C with
  | some ⟨.type "type", _, .cls cd, sl⟩ => (match cd.mro, sl.toList with
    | .ref C' :: bm, [_, _, _, _, some (.builtin n), _] => decide (C' = C) && (decide (n = "ValueError.__new__") && (!cd.hasDel && (cd.hasDict && PySem.HandSPX.refsVE bm)))
    | _, _ => false)
  | _ => false) && (decide (PySem.W.findIn K (.ref C) "__setattr__" = some (some (.builtin "object.__setattr__"))) && (decide (PySem.W.subIn K (.ref C) (.type "BaseException") = some true) && (decide (PySem.W.typeIn K (.ref C) = some (.type "type")) && PySem.W.keepIn K (.ref C))))
theorem oexB_ok {K : PySem.W.Frag} {C : Addr} (h : oexB K C = true) : OexC K C := by
  obtain ⟨h1, h⟩ := Bool.and_eq_true_iff.mp h
  obtain ⟨h2, h⟩ := Bool.and_eq_true_iff.mp h
  obtain ⟨h3, h⟩ := Bool.and_eq_true_iff.mp h
  obtain ⟨h4, h5⟩ := Bool.and_eq_true_iff.mp h
  refine ⟨?_, of_decide_eq_true h2, of_decide_eq_true h3, of_decide_eq_true h4, h5⟩
  split at h1
  · rename_i dd cd sl ho
    split at h1
    · rename_i C' bm k0 k1 k2 k3 n k5 hm hs
      simp only [Bool.and_eq_true, decide_eq_true_eq, Bool.not_eq_true'] at h1
      obtain ⟨rfl, rfl, hdel, hdict, ht⟩ := h1
      obtain ⟨nm, bs, mro, ns, qn, hd, sn, sub, ab, col, del⟩ := cd
      dsimp only at hm hdel hdict
      subst hm hdel hdict
      have hsl : sl = #[k0, k1, k2, k3, some (.builtin "ValueError.__new__"), k5] := by
        obtain ⟨l⟩ := sl
        dsimp only at hs
        rw [hs]
      subst hsl
      exact ⟨nm, qn, ns, bs, bm, sn, sub, ab, col, dd, k0, k1, k2, k3, k5, ho, ht⟩
    · cases h1
  · cases h1
/-- R.__init__ of a class R of one's own that has none -/
structure IniC (K : PySem.W.Frag) (R : Addr) : Prop where
  ga : PySem.W.specialIn K (.ref R) "__getattribute__" = some (some (.builtin "type.__getattribute__"))
  rd : PySem.W.readsIn K R (.type "type") = true
  it : PySem.W.findCls K (.ref R) (.type "type") "__init__" = some (.val (.builtin "ValueError.__init__"))
def iniB (K : PySem.W.Frag) (R : Addr) : Bool := decide (PySem.W.specialIn K (.ref R) "__getattribute__" = some (some (.builtin "type.__getattribute__"))) && (PySem.W.readsIn K R (.type "type") && (match PySem.W.findCls K (.ref R) (.type "type") "__init__" with
  | some (.val (.builtin n)) => decide (n = "ValueError.__init__")
  | _ => false))
theorem iniB_ok {K : PySem.W.Frag} {R : Addr} (h : iniB K R = true) : IniC K R := by
  obtain ⟨h1, h⟩ := Bool.and_eq_true_iff.mp h
  obtain ⟨h2, h3⟩ := Bool.and_eq_true_iff.mp h
  refine ⟨of_decide_eq_true h1, h2, ?_⟩
  split at h3
  · rename_i n e
    rw [e, of_decide_eq_true h3]
  · cases h3
section
variable {X : Cx} {x : Str} {o e : Expr} {es : List Expr} {te : TE} {ta : TA} {p p1 p2 pos : Pos}
/-- R.__init__(self, ..) -/
theorem pe_rinit {R : Addr} {pl : Sem Bool} (C : IniC X.K R) (hg : Gl X x) (hm : X.mg x = some (.ref R)) (ha : PA X (e :: es) ta) (hdb : (x == ("__debug__" : Str)) = false := by decide)
    (hc : eval (.Call (.Attribute (.Name x p1) "__init__" p2) (e :: es) [] pos) X.env = (do
      let ov ← eval (.Name x p1) X.env
      standAt p2.atName
      let (f, first) ← holding [ov] (getMethod ov "__init__" pl)
      callWith pos f first (backTo pos (starEach (e :: es) X.env)) (backToKw pos (keywordEach [] X.env))) := by rfl)
    (he : starEach (e :: es) X.env = (false, eval e X.env) :: starEach es X.env := by rfl) (hpl : (backTo pos (starEach es X.env)).any (·.1) = false := by rfl) :
    PE X (.Call (.Attribute (.Name x p1) "__init__" p2) (e :: es) [] pos) (tVeI X.K ta) := by
  refine ⟨fun pins s σ H Q I h => PySem.W.methodCall_KW (ld_glob I hg hm ?_ hdb) hc⟩
  refine PySem.W.method_cls I.kIn C.ga (PySem.W.cls_value I.kIn C.rd C.it (by decide +kernel) ?_)
  show wpAny _ _ (callWith pos (Value.builtin "ValueError.__init__") [] (backTo pos (starEach (e :: es) X.env)) []) _ _ _
  refine PyProof.Rows.callWith_method1 (thn (ha.run pos pins _ σ H _ (I.tok _) h) fun us s1 ⟨vs, H1, I1, r1, z⟩ => ?_) he hpl
  obtain ⟨a, D, ws, ev, hl, T, ea, q⟩ := z
  subst ev
  cases r1 with
  | @cons _ u0 _ ur ra rw' =>
    obtain rfl : u0 = Value.ref a := ra
    exact oinit_ok T I1 ea (by rw [← Paired.length rw', sizeLine_eq]; omega) fun s' J => ⟨.non, H1, J, rfl, q⟩
end
end Rc
/-! part RcX5 -/
namespace Rc
open PySem PySem.Spec PyProof.Rows L2 L2H HotX
section
variable {X : Cx} {x : Str} {e : Expr} {es : List Expr} {ta : TA} {p pos : Pos} {C fI : Addr} {k : Nat} {fd : FuncData} {ps : List Str} {sp : Sp}
/-- C(e, ..), an exception with an __init__ of its own; its context is None -/
theorem mk_excN (T : OexC X.K C) (iC : PySem.W.findIn X.K (.ref C) "__init__" = some (some (.ref fI))) (tI : PySem.W.typeIn X.K (.ref fI) = some (.type "function")) (F1 : FnOk X.prog X.w X.K X.mg X.base CX0 k fI fd ps sp) (hr : Room (k + 1) X.A)
    (hb : Binds X.K fd ps []) (hg : Gl X x) (hm : X.mg x = some (.ref C)) (ha : PA X (e :: es) ta) (hdb : (x == ("__debug__" : Str)) = false := by decide)
    (he : starEach (e :: es) X.env = (false, eval e X.env) :: starEach es X.env := by rfl) (hpl : (backTo pos (starEach es X.env)).any (·.1) = false := by rfl) : L2N.PMk X (.Call (.Name x p) (e :: es) [] pos) (tMkO C sp [] ta) := by
  intro pins s σ H Q I h
  obtain ⟨nm, q, N, bs, bm, sn, sub, ab, col, dd, k0, k1, k2, k3, k5, hC, hbm⟩ := T.cls
  refine wpAny_Call_Name_kw (ld_glob I hg hm ?_ hdb)
  refine PySem.W.callWith_K (h₀ := X.base) I.ok.mod.kin T.kC (thn (ha.run pos pins s σ H _ I h) fun us s1 ⟨vs, H1, I1, r1, hz, z⟩ => ⟨I1.kIn, ?_⟩) he hpl
  show wpAny _ _ (call (.ref C) us) _ _ _
  obtain ⟨hp, g, dr, tk, os⟩ := s1
  generalize ha1 : hp.objs.size + 1 = a1
  have le1 : hp.objs.size ≤ a1 := by omega
  have q1 := z a1 (I1.hok.fresh le1)
  rw [List.append_nil] at q1
  have kk : ∀ b o, hp.get? b = some o → ((hp.push (PySem.W.kdv_tup us)).push (PySem.HandSPX.excO C hp.objs.size)).get? b = some o := fun b o y => Heap.get?_push_of_some _ (Heap.get?_push_of_some _ y)
  have at1 : ((hp.push (PySem.W.kdv_tup us)).push (PySem.HandSPX.excO C hp.objs.size)).get? a1 = some (PySem.HandSPX.excO C hp.objs.size) := by
    rw [← ha1]
    heap_get
  have I2 : Inv X pins σ (upd H1 a1 (exo a1 C none)) ⟨(hp.push (PySem.W.kdv_tup us)).push (PySem.HandSPX.excO C hp.objs.size), g, dr, tk, os⟩ := I1.laid (t' := tk) (a := a1) (o := exo a1 C none) (h' := (hp.push (PySem.W.kdv_tup us)).push (PySem.HandSPX.excO C hp.objs.size)) kk le1 (exo_ok at1)
  have r2 : Vals (V.ref a1 :: vs) (Value.ref a1 :: us) := .cons rfl r1
  have hl : (Value.ref a1 :: us).length = ps.length := by rw [← r2.length]; exact F1.len _ _ _ _ q1
  have b2 := hb _ (Value.ref a1 :: us) I2.kIn (by rw [List.append_nil]; exact hl)
  rw [List.append_nil] at b2
  have hus : us.length ≤ sizeLine := by
    have := Paired.length r1
    rw [sizeLine_eq]
    omega
  refine wpAny_call (PySem.HandSPX.call_own F.excBase_ValueError (fun Y => PySem.HandSPX.refsVE_contains Y bm hbm) (I1.kIn _ _ hC) (PySem.W.looks_findIn I1.kIn iC) (fun self => PySem.W.bind_fn I1.kIn self tI) hus ?_)
  rw [ha1]
  refine codeAny_mono (F1.run _ X.stack _ _ ⟨Value.ref a1 :: us, []⟩ (Value.ref a1 :: us) _ _ (fun _ _ _ => False) (hr.make C us []) (I2.env0.make C us []) b2 r2 q1) fun r s' hq => ?_
  cases r with
  | error er => exact False.elim hq
  | ok fl =>
    cases fl with
    | ret u =>
      obtain ⟨v, H2, os2, bare2, un2, hok2, rv, ev, d, fs, ea, ed, hd1, q2⟩ := hq
      subst ev
      obtain ⟨h2, g2, d2, t2, os'⟩ := s'
      obtain ⟨t0, Gh, J, kG, ge, hoe, na⟩ := mk_end0 (d2 := d2) (t2 := t2) I1 le1 kk un2 hok2 os2 bare2 ea ed hd1
      exact ⟨rv, a1, _, _, ⟨Gh, g2, d2, t2, os'⟩, _, .ref C, some d, rfl, J, kG, ge, hoe, ⟨rfl, rfl, fun vs hv => by cases hv; rfl⟩, rfl, rfl, na, rfl, bare2, raises_own T.exC T.tyC, q2⟩
    | next => exact False.elim hq
    | brk => exact False.elim hq
    | cont => exact False.elim hq
/-- C(e, ..), an instance; what is wanted of an exception may depend on the slots -/
def tMakeS (C : Addr) (sp : Sp) (E : L2.St → XK) (t : TA) : TE := fun σ H Q => t σ H fun vs H1 => ∀ x dx, H1 x = none → H1 dx = none → dx ≠ x →
  sp (.ref x :: vs) (upd (upd H1 dx (.own x)) x (.ins C dx [])) (fun v H2 => v = .non ∧ Q (.ref x) H2) (E σ)
theorem pe_makeS {CX : CXT} {E : L2.St → XK} (M : Mk X.K C fI) (F : FnOk X.prog X.w X.K X.mg X.base CX k fI fd ps sp) (hr : Room (k + 1) X.A) (hg : Gl X x) (hm : X.mg x = some (.ref C)) (hb : Binds X.K fd ps []) (hx : ∀ σ, PassesAt CX X σ (E σ)) (ha : PA X (e :: es) ta)
    (hdb : (x == ("__debug__" : Str)) = false := by decide) (he : starEach (e :: es) X.env = (false, eval e X.env) :: starEach es X.env := by rfl) (hpl : (backTo pos (starEach es X.env)).any (·.1) = false := by rfl) :
    PE X (.Call (.Name x p) (e :: es) [] pos) (tMakeS C sp E ta) := by
  refine ⟨fun pins s σ H Q I h => wpAny_Call_Name_kw (ld_glob I hg hm ?_ hdb)⟩
  refine PySem.W.callWith_K (h₀ := X.base) I.ok.mod.kin M.kp (thn (ha.run pos pins s σ H _ I h) fun us s1 ⟨vs, H1, I1, r, z⟩ => ⟨I1.kIn, ?_⟩) he hpl
  show wpAny _ _ (call (.ref C) us) _ _ _
  have lt1 : s1.heap.objs.size ≠ s1.heap.objs.size + 1 := Nat.ne_of_lt (Nat.lt_succ_self _)
  have q1 := z (s1.heap.objs.size + 1) s1.heap.objs.size (I1.hok.fresh (Nat.le_succ _)) (I1.hok.fresh (Nat.le_refl _)) lt1
  have I2 := Inv.made (C := C) I1
  have r2 : Vals (V.ref (s1.heap.objs.size + 1) :: vs) (Value.ref (s1.heap.objs.size + 1) :: us) := .cons rfl r
  have hl : (Value.ref (s1.heap.objs.size + 1) :: us).length = ps.length := by rw [← r2.length]; exact F.len _ _ _ _ q1
  have b2 := hb _ (Value.ref (s1.heap.objs.size + 1) :: us) I2.kIn (by rw [List.append_nil]; exact hl)
  rw [List.append_nil] at b2
  refine wpAny_call (make_map (f := fI) I1.kIn M.makes M.init (beq_iff_eq.mp M.fn) (codeAny_mono (F.run _ X.stack _ _ ⟨Value.ref (s1.heap.objs.size + 1) :: us, []⟩ (Value.ref (s1.heap.objs.size + 1) :: us) _ _ (E σ) (hr.make C us []) (I2.env0.make C us []) b2 r2 q1) fun r s' hq => ?_))
  cases r with
  | error er => exact hx σ pins _ _ er s' I2 hq
  | ok fl =>
    cases fl with
    | ret u =>
      obtain ⟨v, H', I3, rv, ev, q3⟩ := I2.after hq
      subst ev
      exact ⟨rv, V.ref (s1.heap.objs.size + 1), H', I3, rfl, q3⟩
    | next => exact hq.elim
    | brk => exact hq.elim
    | cont => exact hq.elim
end
end Rc
/-! part RcX6 -/
/-! Defs that let something out; what is told of an exception with a dict of its own or without one. -/
namespace Rc
open PySem PySem.Spec PyProof.Rows L2 L2H HotX
theorem Fun.okN {P : Program} {w : World} {K : PySem.W.Frag} {mg : Str → Option Value} {base : Heap} {x qual : Str} {st : Stmt} {f : Addr} {fd : FuncData} {N ps : List Str} {k : Nat} {sp : Sp} (F : Fun K x qual st f fd) (S : FnScope N ps (defScope st)) (len : ∀ vs H Q E, sp vs H Q E → vs.length = ps.length)
    (body : ∀ (cdv : Value) (A : Around) (out : List Env) (s : Shared) (H : Hp) (vs : List V) (Q : VK) (E : XK), Room k (A.deeper (envOfC qual (defScope st) s.heap.objs.size f cdv)) → sp vs H Q E →
      L2N.Takes (cxOf (L2N.CX P w) P w K mg base N qual (defScope st) f cdv A out s H E) (fun cls d _ H' => E cls d H') →
      ∃ t, PSs (cxOf (L2N.CX P w) P w K mg base N qual (defScope st) f cdv A out s H E) (defBody st) t ∧ t { nx := fun _ H' => Q .non H', rt := Q } (start N vs) H) : FnOk P w K mg base (L2N.CX P w) (k + 1) f fd ps sp := by
  obtain ⟨oc, od, kV, doc, pm, an, cdv, ct, osl, rfl, lk, hcd⟩ := F.ex
  exact fn_of lk hcd S len fun A out s H vs Q E hr hsp => body cdv A out s H vs Q E hr hsp (L2N.takes_of rfl rfl rfl rfl)
/-- the def x keeps the promise sp, and lets out what sp says -/
def HasN (P : Program) (w : World) (K : PySem.W.Frag) (mg : Str → Option Value) (base : Heap) (x : Str) (ps : List Str) (k : Nat) (sp : Sp) : Prop :=
  ∃ (f : Addr) (fd : FuncData), mg x = some (.ref f) ∧ PySem.W.keepIn K (.ref f) = true ∧ Binds K fd ps [] ∧ FnOk P w K mg base (L2N.CX P w) k f fd ps sp
def HasCN (P : Program) (w : World) (K : PySem.W.Frag) (mg : Str → Option Value) (base : Heap) (C : Addr) (ps : List Str) (k : Nat) (sp : Sp) : Prop :=
  ∃ (f : Addr) (fd : FuncData), Mk K C f ∧ Binds K fd ps [] ∧ FnOk P w K mg base (L2N.CX P w) k f fd ps sp
/-- .. while an exception is handled -/
def HasG (P : Program) (w : World) (K : PySem.W.Frag) (mg : Str → Option Value) (base : Heap) (x : Str) (ps : List Str) (k : Nat) (G : Addr × Obj → Prop) (sp : Addr → Sp) : Prop :=
  ∃ (f : Addr) (fd : FuncData), mg x = some (.ref f) ∧ PySem.W.keepIn K (.ref f) = true ∧ Binds K fd ps [] ∧ FnG P w K mg base k f fd ps G sp
theorem takes0N {X : Cx} : L2N.Takes X (fun _ _ _ _ => False) := fun _ _ x => by
  obtain ⟨_, _, _, _, _, _, _, _, _, _, _, _, _, _, _, _, z⟩ := x
  exact z.elim
theorem pss_ex {α : Type} {X : Cx} {ss : List Stmt} {p : α → Prop} {t : α → TS} (h : ∀ dd, p dd → PSs X ss (t dd)) : PSs X ss (fun D σ H => ∃ dd, p dd ∧ t dd D σ H) := ⟨fun pins s σ H D I ⟨dd, hp, q⟩ => (h dd hp).run pins s σ H D I q⟩
theorem pe_callP {X : Cx} {k : Nat} {f a : Addr} {oe : Obj} {fd : FuncData} {ps : List Str} {x : Str} {q pos : Pos} {e : Expr} {es : List Expr} {ta : TA} {G : Addr × Obj → Prop} {sp : Addr → Sp} {E : XK} (F : FnG X.prog X.w X.K X.mg X.base k f fd ps G sp) (hr : RoomH k X.A)
    (hot : Hot1 X.A (a, oe)) (hp : (a, oe) ∈ X.pn) (hG : G (a, oe)) (hg : Gl X x) (hm : X.mg x = some (.ref f)) (hk : PySem.W.keepIn X.K (.ref f) = true) (hb : Binds X.K fd ps []) (ha : PA X (e :: es) ta) (hdb : (x == ("__debug__" : Str)) = false := by decide)
    (he : starEach (e :: es) X.env = (false, eval e X.env) :: starEach es X.env := by rfl) (hpl : (backTo pos (starEach es X.env)).any (·.1) = false := by rfl) : PE X (.Call (.Name x q) (e :: es) [] pos) (tCall (sp a) [] E ta) :=
  pe_callG (p := (a, oe)) F hr hot hp hG hg hm hk hb ha hdb he hpl
section
variable {X : Cx}
/-- C(e), an exception of a class of one's own without __init__ -/
theorem mk_own1N {C : Addr} {bmB : List Value} {B newId initId : String} {x : Str} {e : Expr} {ta : TE} {p pos : Pos} (F : ExcBaseFacts B newId initId bmB) (q : PySem.W.excIn X.K C bmB newId = true) (gC : X.mg x = some (.ref C)) (kC : PySem.W.keepIn X.K (.ref C) = true) (r : Raises X (.ref C)) (hg : Gl X x)
    (he : PE X e ta) (hs : starEach [e] X.env = (false, eval e X.env) :: starEach [] X.env := by rfl) (hdb : (x == ("__debug__" : Str)) = false := by decide) :
    L2N.PMk X (.Call (.Name x p) [e] [] pos) (fun σ H Q => ta σ H fun _ H1 => Q (.ref C) none H1) := by
  intro pins s σ H Q I h
  refine wpAny_Call_Name_kw (ld_glob I hg gC ?_ hdb)
  refine PySem.W.callWith_K (h₀ := X.base) I.ok.mod.kin kC ?_ hs (by rfl)
  rw [hs]
  show wpAny _ _ (spliced ((false, eval e X.env) :: backTo pos (starEach [] X.env))) _ _ s
  refine Calls.spliced_cons (thn (he.run pins s σ H _ I h) fun u s1 ⟨v, H1, I1, r1, q1⟩ => ?_)
  refine Calls.spliced_nil ⟨I1.kIn, ?_⟩
  show wpAny _ _ (call (.ref C) [u]) _ _ _
  obtain ⟨bm, N, nm, qn, bs, hdct, sn, sub, ab, col, dd, k0, k1, k2, k3, k5, mN, hC, hN, hni, T⟩ := exc_obj I1.kIn q
  refine wpAny_call_exc_subT F T hC hN hni (fun h' e hm => ?_) (by show 1 ≤ sizeLine; rw [sizeLine_eq]; omega)
  exact L2N.mk_of I1 hm r q1 (I1.hok.gone hm.new)
end
/-! ### isinstance -/
structure IsQ (p : Addr × Obj) (D : Addr) (od : Option Addr) : Prop where
  cls : p.2.cls = .ref D
  dict : p.2.dict = od
  data : ∃ vs, p.2.data = .fields vs
def rIsQ (K : PySem.W.Frag) (D a : Addr) (od : Option Addr) : List V → Hp → VK → Prop := fun xs H Q => ∃ (c : V) (cv : Value) (b : Bool), xs = [.ref a, c] ∧ (∀ u, RelV c u → u = cv) ∧ PySem.W.kitOne K (.ref D) cv = some b ∧ (∀ dd, od = some dd → ∃ fs, H dd = some (.xd fs)) ∧ Q (.bl b) H
theorem call_isQ {X : Cx} {D : Addr} {od : Option Addr} {p : Addr × Obj} (C : ExcC X.K D) (hp : p ∈ X.pn) (T : IsQ p D od) : CallR X (.builtin "isinstance") (rIsQ X.K D p.1 od) := by
  intro pins s σ H xs us Q I r h
  obtain ⟨c, cv, b, rfl, hcv, e, hd, q⟩ := h
  cases r with
  | cons rx rr =>
    cases rr with
    | cons rt rr =>
      cases rr
      cases rx
      have ec := hcv _ rt
      subst ec
      obtain ⟨hget, _⟩ := I.pin p (List.mem_append_left _ hp)
      obtain ⟨vs, hv⟩ := T.data
      have J : ∃ od', PySem.W.InstAt s.heap p.1 p.2 D od' := by
        cases od with
        | none => exact ⟨none, hget, T.cls, by unfold PySem.W.notCls; rw [hv], by rw [T.dict]; trivial⟩
        | some dd =>
          obtain ⟨fs, hd⟩ := hd dd rfl
          have hx : ObjOk X.prog X.w H s.heap dd (.xd fs) := I.hok dd _ hd
          obtain ⟨mA, hns, _⟩ := hx
          obtain ⟨od, ho, _⟩ := lookIn_ns hns
          exact ⟨some od, hget, T.cls, by unfold PySem.W.notCls; rw [hv], by rw [T.dict]; exact ho⟩
      obtain ⟨od', J⟩ := J
      refine PySem.W.kia_one (PySem.W.kitx_exc (od := od') ?_ C.hg C.hk C.hs C.ha C.hn C.ht C.hm) I.kIn J e (fun z => nomatch z) fun tk => ⟨.bl b, H, I.kept (t' := tk) fun _ _ z => z, rfl, q⟩
      obtain ⟨cd, hc, _⟩ := PySem.W.any_some C.hd
      rw [hc]
      rfl
end Rc
/-! part RcD1 -/
namespace Rc
open PySem PySem.Spec PyProof.Rows L2
/-! ### the dice -/
/-- the dice's list: the script at a, how many were taken, the mixed number, the digits left -/
def dl (a : Addr) (i x c : Int) : List V := [.ref a, .int i, .int x, .int c]
structure DOk (i x : Int) : Prop where
  i0 : 0 ≤ i
  x0 : 0 ≤ x
  x1 : x < 2147483647
/-- the dice stands at d, beside the part Hb, in which its script is -/
structure Dice (K : PySem.W.Frag) (H Hb : Hp) (d : Addr) : Prop where
  sub : Same Hb H
  dn : Hb d = none
  dd : ∃ (a : Addr) (ns : List Int) (i x c : Int), H d = some (.lst (dl a i x c)) ∧ DOk i x ∧ SqL K Hb a (ns.map V.int)
structure Txt0 (mg : Str → Option Value) : Prop where
  len : mg "len" = none
  int : mg "int" = none
  range : mg "range" = none
def spDice (K : PySem.W.Frag) : Sp := fun vs H Q _ => ∃ (a : Addr) (ns : List Int), vs = [.ref a] ∧ SqL K H a (ns.map V.int) ∧
  ∀ H' d, Dice K H' H d → Q (.ref d) H'
def spNext (K : PySem.W.Frag) : Sp := fun vs H Q _ => ∃ (Hb : Hp) (d : Addr) (n : Int), vs = [.ref d, .int n] ∧ Dice K H Hb d ∧ 0 < n ∧ n < 2 ^ 62 ∧
  ∀ H' r, Sub (at1 d) H Hb H' Hb → Dice K H' Hb d → 0 ≤ r → r < n → Q (.int r) H'
section
variable {P : Program} {w : World} {K : PySem.W.Frag} {mg : Str → Option Value} {base : Heap}
theorem nz : (2147483647 : Int) ≠ 0 := by decide
theorem mod_lt {x n : Int} (h : 0 < n) : 0 ≤ x.fmod n ∧ x.fmod n < n := by
  rw [Int.fmod_eq_emod_of_nonneg x (Int.le_of_lt h)]
  exact ⟨Int.emod_nonneg _ (by omega), Int.emod_lt_of_pos _ h⟩
theorem ok_dice {f : Addr} {fd : FuncData} {k : Nat} (F : Fun K "_law_dice" "_law_dice" s_dice f fd) (T : Txt0 mg) : FnOk P w K mg base CX0 (k + 1) f fd ["_law_script"] (spDice K) := by
  refine F.ok sc_dice (fun vs H Q E h => ?_) (fun cdv A outer s H vs Q E hr h => ?_)
  · obtain ⟨a, ns, rfl, _⟩ := h
    rfl
  · obtain ⟨a, ns, rfl, hS, q⟩ := h
    refine ⟨_, pss_cons (ps_set (i := 1) sc_dice.nd rfl (Or.inl rfl) pe_int)
      (pss_cons (ps_for PassesOwn.never rfl (pi_list (pv 0)) (pg_name (i := 2) sc_dice.nd rfl (Or.inl rfl))
        (pss_one (ps_set (i := 1) sc_dice.nd rfl (Or.inl rfl) (pe_op op_modN (pe_op op_add (pe_op op_add (pe_op op_mul (pv 1) pe_int) (pe_op op_mul (pe_op op_modN (pv 2) pe_int) pe_int)) pe_int) pe_int))))
      (pss_one (ps_ret (pe_lst (pa_cons (pv 0) (pa_cons pe_int (pa_cons (pe_op op_mul (pv 1) (pe_callTy call_int1 (by rfl) T.int (by decide +kernel) (pa_cons (pe_cmpR op_gt (pe_callB call_len_seq (by rfl) T.len PySem.boot_len (pa_cons (pv 0) pa_nil)) pe_int (nomark _)) pa_nil))) (pa_cons pe_int pa_nil)))))))), ?_⟩
    refine ⟨_, rfl, a, rfl, ⟨_, hS⟩, for_list (K := K) (a := a) (xs := ns.map V.int) (fun i σ H' => H' = H ∧ ∃ (x : Int) (v : Option V), σ = [some (.ref a), some (.int x), v] ∧ 0 ≤ x ∧ x < 2147483647)
      ⟨rfl, 0, none, rfl, by decide, by decide⟩ (fun i σ H' _ ⟨e, _⟩ => e ▸ hS) ?_ ?_⟩
    · rintro i y σ H' hi ⟨rfl, x, v, rfl, h0, h1⟩
      obtain ⟨u, rfl⟩ : ∃ u, y = V.int u := by
        rw [List.getElem?_map] at hi
        cases e : ns[i]? with
        | none => rw [e] at hi; cases hi
        | some u => rw [e] at hi; exact ⟨u, (Option.some.inj hi).symm⟩
      refine ⟨_, rfl, _, _, rfl, rfl, .inr ⟨by decide, by decide⟩, _, rfl, _, _, rfl, rfl, nz, _, _, rfl, rfl, .inr ⟨by decide, by decide⟩, _, _, rfl, rfl, _, _, rfl, rfl, _, _, rfl, rfl, nz, ?_⟩
      exact ⟨rfl, _, _, rfl, (mod_lt (by decide)).1, (mod_lt (by decide)).2⟩
    · rintro σ H' ⟨rfl, x, v, rfl, h0, h1⟩
      refine ⟨_, rfl, _, rfl, _, rfl, a, _, rfl, .inl hS, _, _, rfl, rfl, .inr ⟨_, rfl, _, _, rfl, rfl, .inl ⟨by omega, by omega⟩, ?_⟩⟩
      refine ⟨(by show 4 ≤ sizeLine; decide), fun d hd => ?_⟩
      refine q _ d ⟨same_new hd, hd, a, ns, 0, _, 0, upd_same, ⟨by omega, ?_, ?_⟩, hS⟩
      · split
        · omega
        · omega
      · split
        · omega
        · omega
theorem sqL_of {H : Hp} {a : Addr} {xs : List V} (h : H a = some (.lst xs)) : SqL K H a xs := SqL.of h
theorem wdiv {i j : Int} (h : 0 < j) (hb : j < 2 ^ 62) : CDivW i j := wide_div (b := 62) h (by omega) (by decide) (by decide)
theorem ok_next {f : Addr} {fd : FuncData} {k : Nat} (F : Fun K "_law_next" "_law_next" s_next f fd) (T : Txt0 mg) : FnOk P w K mg base CX0 (k + 1) f fd ["_law_dice_here", "_law_many"] (spNext K) := by
  refine F.ok sc_next (fun vs H Q E h => ?_) (fun cdv A outer s H vs Q E hr h => ?_)
  · obtain ⟨Hb, d, n, rfl, _⟩ := h
    rfl
  · obtain ⟨Hb, d, n, rfl, ⟨sub, dn, a, ns, i, x, c, hd, ok, hs⟩, n0, n1, q⟩ := h
    have hS : SqL K H a (ns.map V.int) := sub.seq hs
    refine ⟨_, (pss_cons (ps_if (pt_cmpR op_gt (pe_ix ix_list (pv 0) pe_int (fun _ _ => rfl)) pe_int (nomark _))
   (pss_cons (ps_set (i := 2) sc_next.nd rfl (Or.inl rfl) (pe_op op_modN (pe_ix ix_list (pv 0) pe_int (fun _ _ => rfl)) (pv 1)))
  (pss_cons (ps_asg (pe_op op_fdivW (pe_ix ix_list (pv 0) pe_int (fun _ _ => rfl)) (pv 1)) (pg_sub (pv 0) pe_int set_list))
  (pss_one (ps_ret (pv 2)))))
   pss_nil)
  (pss_cons (ps_asg (pe_op op_add (pe_ix ix_list (pv 0) pe_int (fun _ _ => rfl)) pe_int) (pg_sub (pv 0) pe_int set_list))
  (pss_cons (ps_if (pt_cmpR op_le (pe_ix ix_list (pv 0) pe_int (fun _ _ => rfl)) (pe_callB call_len_seq (by rfl) T.len PySem.boot_len (pa_cons (pe_ix ix_list (pv 0) pe_int (fun _ _ => rfl)) pa_nil)) (nomark _))
   (pss_cons (ps_set (i := 3) sc_next.nd rfl (Or.inl rfl) (pe_ix ix_list (pe_ix ix_list (pv 0) pe_int (fun _ _ => rfl)) (pe_op op_sub (pe_ix ix_list (pv 0) pe_int (fun _ _ => rfl)) pe_int) (fun _ _ => rfl)))
  (pss_cons (ps_asg (pe_ifExp (pt_cmpR op_ge (pv 3) (pe_op op_pow pe_int pe_int) (nomark _)) (pe_op op_fdivW (pv 3) (pv 1)) pe_int) (pg_sub (pv 0) pe_int set_list))
  (pss_one (ps_ret (pe_op op_modN (pv 3) (pv 1))))))
   pss_nil)
  (pss_cons (ps_asg (pe_op op_modN (pe_op op_mul (pe_ix ix_list (pv 0) pe_int (fun _ _ => rfl)) pe_int) pe_int) (pg_sub (pv 0) pe_int set_list))
  (pss_one (ps_ret (pe_op op_modN (pe_op op_fdivW (pe_ix ix_list (pv 0) pe_int (fun _ _ => rfl)) pe_int) (pv 1)))))))), ?_⟩
    have step : ∀ i' x' c', DOk i' x' → ∀ r : Int, 0 ≤ r → r < n → Q (.int r) (upd H d (.lst (dl a i' x' c'))) := fun i' x' c' ok' r r0 r1 =>
      q _ r (Sub.put (.refl sub) (.inr rfl) dn) ⟨same_mut sub dn, dn, a, ns, i', x', c', upd_same, ok', hs⟩ r0 r1
    refine ⟨_, rfl, _, _, _, _, rfl, rfl, .of hd, atI_nat (j := 3) rfl, _, _, rfl, rfl, _, rfl, ite2 (fun c1 => ?_) (fun c1 => ?_)⟩
    · refine ⟨_, rfl, _, _, _, _, rfl, rfl, .of hd, atI_nat (j := 3) rfl, _, rfl, _, _, rfl, rfl, by omega, ?_⟩
      refine ⟨_, rfl, _, _, _, _, rfl, rfl, .of hd, atI_nat (j := 3) rfl, _, rfl, _, _, rfl, rfl, wdiv n0 n1, _, rfl, d, _, 3, 3, rfl, rfl, hd, rfl, ?_⟩
      exact ⟨_, rfl, step i x _ ok _ (mod_lt n0).1 (mod_lt n0).2⟩
    · refine ⟨_, rfl, _, _, _, _, rfl, rfl, .of hd, atI_nat (j := 1) rfl, _, _, rfl, rfl, _, rfl, d, _, 1, 1, rfl, rfl, hd, rfl, ?_⟩
      obtain ⟨i0, x0, x1⟩ := ok
      refine ⟨_, rfl, _, _, _, _, rfl, rfl, .of upd_same, atI_nat (j := 1) rfl, _, rfl, _, _, _, _, rfl, rfl, .of upd_same, atI_nat (j := 0) rfl, _, _, rfl, .inl ((same_mut sub dn).seq hs), _, _, rfl, rfl, _, rfl, ite2 (fun c2 => ?_) (fun c2 => ?_)⟩
      · have c2' := of_decide_eq_true c2
        rw [List.length_map] at c2'
        obtain ⟨j, rfl⟩ : ∃ j : Nat, i = (j : Int) := ⟨i.toNat, by omega⟩
        have hj : j < ns.length := by omega
        have hc : atI (ns.map V.int) ((j : Int) + 1 - 1) = some (.int ns[j]) := by
          rw [show (j : Int) + 1 - 1 = (j : Int) by omega]
          exact atI_nat (by rw [List.getElem?_map, List.getElem?_eq_getElem hj]; rfl)
        refine ⟨_, rfl, _, _, _, _, rfl, rfl, .of upd_same, atI_nat (j := 0) rfl, _, rfl, _, _, _, _, rfl, rfl, .of upd_same, atI_nat (j := 1) rfl, _, _, rfl, rfl, _, _, _, _, rfl, rfl, (same_mut sub dn).seq hs, hc, ?_⟩
        refine ⟨_, rfl, _, _, rfl, rfl, ⟨by decide, by decide, by decide⟩, _, _, rfl, rfl, _, rfl, ite2 (fun c3 => ?_) (fun c3 => ?_)⟩
        · refine ⟨_, rfl, _, rfl, _, _, rfl, rfl, wdiv n0 n1, _, rfl, d, _, 3, 3, rfl, rfl, upd_same, rfl, ?_⟩
          refine ⟨_, rfl, _, rfl, _, _, rfl, rfl, by omega, ?_⟩
          rw [upd_upd]
          exact step _ x _ ⟨by omega, x0, x1⟩ _ (mod_lt n0).1 (mod_lt n0).2
        · refine ⟨_, rfl, d, _, 3, 3, rfl, rfl, upd_same, rfl, ?_⟩
          refine ⟨_, rfl, _, rfl, _, _, rfl, rfl, by omega, ?_⟩
          rw [upd_upd]
          exact step _ x _ ⟨by omega, x0, x1⟩ _ (mod_lt n0).1 (mod_lt n0).2
      · refine ⟨_, rfl, _, _, _, _, rfl, rfl, .of upd_same, atI_nat (j := 2) rfl, _, _, rfl, rfl, .inr ⟨by decide, by decide⟩, _, _, rfl, rfl, nz, _, rfl, d, _, 2, 2, rfl, rfl, upd_same, rfl, ?_⟩
        refine ⟨_, rfl, _, _, _, _, rfl, rfl, .of upd_same, atI_nat (j := 2) rfl, _, _, rfl, rfl, wdiv (by decide) (by decide), _, rfl, _, _, rfl, rfl, by omega, ?_⟩
        rw [upd_upd]
        exact step _ _ _ ⟨by omega, (mod_lt (by decide)).1, (mod_lt (by decide)).2⟩ _ (mod_lt n0).1 (mod_lt n0).2
end
end Rc
/-! part RcD2 -/
namespace Rc
open PySem PySem.Spec PyProof.Rows L2
/-- a road -/
structure Row where
  b : Int
  g : Int
  c : Int
def Row.dat (r : Row) : PyData := .tuple [.int r.b, .int r.g, .int r.c]
structure Row.Ok (many : Int) (r : Row) : Prop where
  b0 : 0 ≤ r.b
  b1 : r.b < many
  g0 : 0 ≤ r.g
  g1 : r.g < many
  ne : r.b ≠ r.g
  c0 : 0 ≤ r.c
  c1 : r.c ≤ 1000000000
def rowsDat (rows : List Row) : PyData := .list (rows.map Row.dat)
def chartDat (many root : Int) (rows : List Row) : PyData := .tuple [.int many, .int root, rowsDat rows]
structure ChartOk (many root : Int) (rows : List Row) : Prop where
  m0 : 1 ≤ many
  m1 : many ≤ 20
  r0 : 0 ≤ root
  r1 : root < many
  len : rows.length ≤ 60
  rows : ∀ r ∈ rows, Row.Ok many r
theorem Dice.step {K : PySem.W.Frag} {m : Addr → Prop} {H Hb H' Hb' : Hp} {d : Addr} (D : Dice K H Hb d) (s : Sub m H Hb H' Hb') (hm : ¬ m d) : Dice K H' Hb' d := by
  obtain ⟨sub, dn, a, ns, i, x, c, hd, ok, hs⟩ := D
  exact ⟨s.sub, s.new d dn (hp_ne hd), a, ns, i, x, c, s.old d _ hm hd, ok, s.ext.seq hs⟩
theorem Dice.live {K : PySem.W.Frag} {H Hb : Hp} {d : Addr} (D : Dice K H Hb d) : H d ≠ none := by
  obtain ⟨sub, dn, a, ns, i, x, c, hd, ok, hs⟩ := D
  exact hp_ne hd
/-- a new part of the same heap, without the dice -/
theorem Dice.with {K : PySem.W.Frag} {H Hb Hb' : Hp} {d : Addr} (D : Dice K H Hb d) (e : Same Hb Hb') (s : Same Hb' H) (n : Hb' d = none) : Dice K H Hb' d := by
  obtain ⟨sub, dn, a, ns, i, x, c, hd, ok, hs⟩ := D
  exact ⟨s, n, a, ns, i, x, c, hd, ok, e.seq hs⟩
theorem Sub.dtrans {K : PySem.W.Frag} {H Hb H' Hb' H2 Hb2 : Hp} {d : Addr} (a : Sub (at1 d) H Hb H' Hb') (b : Sub (at1 d) H' Hb' H2 Hb2) (D : Dice K H' Hb' d) : Sub (at1 d) H Hb H2 Hb2 :=
  a.trans b fun x (e : x = d) _ => e ▸ D.live
def spCost (K : PySem.W.Frag) : Sp := fun vs H Q _ => ∃ (Hb : Hp) (d : Addr), vs = [.ref d] ∧ Dice K H Hb d ∧
  ∀ H' r, Sub (at1 d) H Hb H' Hb → Dice K H' Hb d → 0 ≤ r → r ≤ 1000000000 → Q (.int r) H'
def spMap (K : PySem.W.Frag) : Sp := fun vs H Q _ => ∃ (Hb : Hp) (d : Addr) (p r : Int), vs = [.ref d, .int p, .int r] ∧ Dice K H Hb d ∧ 1 ≤ p ∧ p ≤ 20 ∧ 0 ≤ r ∧ r ≤ 60 ∧
  ∀ H' Hb' v many root rows, Sub (at1 d) H Hb H' Hb' → Dice K H' Hb' d → Dp K Hb' v (chartDat many root rows) → ChartOk many root rows → many ≤ p → (rows.length : Int) ≤ r → Q v H'
/-- the def x keeps the promise sp -/
def Has (P : Program) (w : World) (K : PySem.W.Frag) (mg : Str → Option Value) (base : Heap) (x : Str) (ps : List Str) (k : Nat) (sp : Sp) : Prop :=
  ∃ (f : Addr) (fd : FuncData), mg x = some (.ref f) ∧ PySem.W.keepIn K (.ref f) = true ∧ Binds K fd ps [] ∧ FnOk P w K mg base CX0 k f fd ps sp
section
variable {P : Program} {w : World} {K : PySem.W.Frag} {mg : Str → Option Value} {base : Heap}
theorem ok_cost {f : Addr} {fd : FuncData} {k : Nat} (F : Fun K "_law_cost" "_law_cost" s_cost f fd) (T : Txt0 mg) (hN : Has P w K mg base "_law_next" ["_law_dice_here", "_law_many"] k (spNext K)) :
    FnOk P w K mg base CX0 (k + 1) f fd ["_law_d"] (spCost K) := by
  obtain ⟨fN, fdN, gN, kN, bN, GN⟩ := hN
  refine F.ok sc_cost (fun vs H Q E h => ?_) (fun cdv A outer s H vs Q E hr h => ?_)
  · obtain ⟨Hb, d, rfl, _⟩ := h
    rfl
  · obtain ⟨Hb, d, rfl, D, q⟩ := h
    refine ⟨_, (pss_cons (ps_set (i := 1) sc_cost.nd rfl (Or.inl rfl) (pe_call GN hr (by rfl) gN kN bN .nil pass0 (pa_cons (pv 0) (pa_cons pe_int pa_nil))))
  (pss_cons (ps_if (pt_cmpR op_lt (pv 1) pe_int (nomark _))
   (pss_one (ps_ret (pe_call GN hr (by rfl) gN kN bN .nil pass0 (pa_cons (pv 0) (pa_cons (pe_op op_add pe_int (pe_op op_mul pe_int (pv 1))) pa_nil)))))
   pss_nil)
  (pss_one (ps_ret (pe_call GN hr (by rfl) gN kN bN .nil pass0 (pa_cons (pv 0) (pa_cons (pe_ix ix_list (pe_lst (pa_cons pe_int (pa_cons (pe_op op_add (pe_op op_pow pe_int pe_int) pe_int) pa_nil))) (pe_op op_sub (pv 1) pe_int) (fun _ _ => rfl)) pa_nil))))))), ?_⟩
    refine ⟨_, rfl, Hb, d, 6, rfl, D, by decide, by decide, fun H1 r S1 D1 r0 r1 => ?_⟩
    refine ⟨_, rfl, _, _, rfl, rfl, _, rfl, ite2 (fun c => ?_) (fun c => ?_)⟩
    · have c' := of_decide_eq_true c
      refine ⟨_, rfl, _, rfl, _, _, rfl, rfl, .inl ⟨by decide, by decide⟩, _, _, rfl, rfl, Hb, d, _, rfl, D1, by omega, by omega, fun H2 r2 S2 D2 h0 h1 => ?_⟩
      exact q H2 r2 (S1.dtrans S2 D1) D2 h0 (by omega)
    · have c' : ¬ r < 4 := fun z => c (decide_eq_true z)
      refine ⟨_, rfl, _, _, rfl, rfl, ⟨by decide, by decide, by decide⟩, _, _, rfl, rfl, (by show 2 ≤ sizeLine; decide), fun l hl => ?_⟩
      have S2 : Sub (at1 d) H1 Hb (upd H1 l (.lst [.int 200, .int (10 ^ 9 + 1)])) Hb := .put (.refl D1.sub) (.inl hl) (D1.sub.free hl)
      have nld : d ≠ l := fun e => D1.live (e ▸ hl)
      have D2 : Dice K (upd H1 l (.lst [.int 200, .int (10 ^ 9 + 1)])) Hb d := by
        obtain ⟨sub, dn, a, ns, i, x, c, hd, ok, hs⟩ := D1
        exact ⟨S2.sub, dn, a, ns, i, x, c, by rw [upd_ne nld]; exact hd, ok, hs⟩
      have h45 : r = 4 ∨ r = 5 := by omega
      have fin : ∀ z : Int, (z = 200 ∨ z = 10 ^ 9 + 1) → spNext K [.ref d, .int z] (upd H1 l (.lst [.int 200, .int (10 ^ 9 + 1)])) Q E := fun z hz =>
        ⟨Hb, d, z, rfl, D2, by omega, by omega, fun H2 r2 S3 D3 h0 h1 => q H2 r2 ((S1.dtrans S2 D1).dtrans S3 D2) D3 h0 (by omega)⟩
      rcases h45 with rfl | rfl
      · exact ⟨_, rfl, _, _, rfl, rfl, _, _, _, _, rfl, rfl, .of upd_same, atI_nat (j := 0) rfl, fin _ (.inl rfl)⟩
      · exact ⟨_, rfl, _, _, rfl, rfl, _, _, _, _, rfl, rfl, .of upd_same, atI_nat (j := 1) rfl, fin _ (.inr rfl)⟩
end
end Rc
/-! part RcD3 -/
namespace Rc
open PySem PySem.Spec PyProof.Rows L2
theorem Sub.dlast {K : PySem.W.Frag} {H Hb H' Hb' H2 Hb2 : Hp} {d : Addr} (a : Sub (at1 d) H Hb H' Hb') (D : Dice K H' Hb' d) (b : Sub (at1 d) H' Hb' H2 Hb2) : Sub (at1 d) H Hb H2 Hb2 := a.dtrans b D
/-- the rows that are being collected: at l, made apart -/
structure Rows (K : PySem.W.Frag) (H Hb H' Hb' : Hp) (d l : Addr) (many : Int) (n : Nat) : Prop where
  sub : Sub (at1 d) H Hb H' Hb'
  dice : Dice K H' Hb' d
  new : H l = none
  apart : Hb' l = none
  ld : l ≠ d
  has : ∃ (vs : List V) (rows : List Row), H' l = some (.lst vs) ∧ DpAll K Hb' vs (rows.map Row.dat) ∧ (∀ r ∈ rows, Row.Ok many r) ∧ rows.length ≤ n
/-- a call with the dice keeps what is made apart -/
theorem Rows.call {K : PySem.W.Frag} {H Hb H' Hb' H2 : Hp} {d l : Addr} {many : Int} {n : Nat} (R : Rows K H Hb H' Hb' d l many n) (S : Sub (at1 d) H' Hb' H2 Hb') (D : Dice K H2 Hb' d) : Rows K H Hb H2 Hb' d l many n := by
  obtain ⟨sub, dice, new, ap, ld, vs, rows, hl, hd, hk, hn⟩ := R
  exact ⟨sub.dlast dice S, D, new, ap, ld, vs, rows, S.old l _ ld hl, hd, hk, hn⟩
theorem Dice.sub_up {K : PySem.W.Frag} {H Hb : Hp} {d t : Addr} {o : HO} (D : Dice K H Hb d) (ht : H t = none) : Dice K (upd H t o) (upd Hb t o) d := by
  obtain ⟨sub, dn, a, ns, i, x, c, hd, ok, hs⟩ := D
  have ne : d ≠ t := ne_of_none hd ht
  exact ⟨same_both sub ht, by rw [upd_ne ne]; exact dn, a, ns, i, x, c, by rw [upd_ne ne]; exact hd, ok, (same_new (sub.free ht)).seq hs⟩
theorem Dice.put_up {K : PySem.W.Frag} {H Hb : Hp} {d t : Addr} {o : HO} (D : Dice K H Hb d) (ht : Hb t = none) (ne : d ≠ t) : Dice K (upd H t o) Hb d := by
  obtain ⟨sub, dn, a, ns, i, x, c, hd, ok, hs⟩ := D
  exact ⟨same_mut sub ht, dn, a, ns, i, x, c, by rw [upd_ne ne]; exact hd, ok, hs⟩
theorem Rows.push {K : PySem.W.Frag} {H Hb H' Hb' : Hp} {d l t : Addr} {many : Int} {n : Nat} {r : Row} {vs : List V} (R : Rows K H Hb H' Hb' d l many n) (ht : H' t = none) (ok : Row.Ok many r) (hvs : H' l = some (.lst vs)) :
    Rows K H Hb (upd (upd H' t (.tup [.int r.b, .int r.g, .int r.c])) l (.lst (vs ++ [.ref t]))) (upd Hb' t (.tup [.int r.b, .int r.g, .int r.c])) d l many (n + 1) := by
  obtain ⟨sub, dice, new, ap, ld, vs', rows, hl, hd, hk, hn⟩ := R
  rw [hvs] at hl
  cases hl
  have nlt : l ≠ t := ne_of_none hvs ht
  have ndt : t ≠ d := fun e => dice.live (e ▸ ht)
  have hbt : Hb' t = none := sub.sub.free ht
  have D2 : Dice K (upd H' t (.tup [.int r.b, .int r.g, .int r.c])) (upd Hb' t (.tup [.int r.b, .int r.g, .int r.c])) d := dice.sub_up ht
  have ap2 : (upd Hb' t (.tup [.int r.b, .int r.g, .int r.c])) l = none := by rw [upd_ne nlt]; exact ap
  refine ⟨(sub.add ht ndt).put (.inl new) ap2, D2.put_up ap2 (Ne.symm ld), new, ap2, ld, _, rows ++ [r], upd_same, ?_, ?_, ?_⟩
  · rw [List.map_append]
    exact dpAll_app (dpAll_same (same_new hbt) _ _ hd) (dpAll_one (.tup (SqT.of upd_same) (.cons (.int _) (.cons (.int _) (.cons (.int _) .nil)))))
  · intro x hx
    rcases List.mem_append.mp hx with z | z
    · exact hk x z
    · rw [List.mem_singleton.mp z]
      exact ok
  · rw [List.length_append, List.length_singleton]
    omega
theorem neq {b g : Int} (h : (!decide (V.int b = V.int g)) = true) : b ≠ g := fun e => by
  subst e
  simp at h
theorem Rows.up {K : PySem.W.Frag} {H Hb H' Hb' : Hp} {d l : Addr} {many : Int} {n : Nat} (R : Rows K H Hb H' Hb' d l many n) : Rows K H Hb H' Hb' d l many (n + 1) := by
  obtain ⟨sub, dice, new, ap, ld, vs', rows, hl, hd, hk, hn⟩ := R
  exact ⟨sub, dice, new, ap, ld, vs', rows, hl, hd, hk, by omega⟩
section
variable {P : Program} {w : World} {K : PySem.W.Frag} {mg : Str → Option Value} {base : Heap}
theorem ok_map {f : Addr} {fd : FuncData} {k : Nat} (F : Fun K "_law_map" "_law_map" s_map f fd) (T : Txt0 mg) (hN : Has P w K mg base "_law_next" ["_law_dice_here", "_law_many"] k (spNext K)) (hC : Has P w K mg base "_law_cost" ["_law_d"] k (spCost K)) :
    FnOk P w K mg base CX0 (k + 1) f fd ["_law_d", "_law_places", "_law_roads"] (spMap K) := by
  obtain ⟨fN, fdN, gN, kN, bN, GN⟩ := hN
  obtain ⟨fC, fdC, gC, kC, bC, GC⟩ := hC
  refine F.ok sc_map (fun vs H Q E h => ?_) (fun cdv A outer s H vs Q E hr h => ?_)
  · obtain ⟨Hb, d, p, r, rfl, _⟩ := h
    rfl
  · obtain ⟨Hb, d, p, r, rfl, D, p0, p1, r0, r1, q⟩ := h
    refine ⟨_, (pss_cons (ps_set (i := 3) sc_map.nd rfl (Or.inl rfl) (pe_op op_add pe_int (pe_call GN hr (by rfl) gN kN bN .nil pass0 (pa_cons (pv 0) (pa_cons (pv 1) pa_nil)))))
  (pss_cons (ps_set (i := 4) sc_map.nd rfl (Or.inl rfl) (pe_call GN hr (by rfl) gN kN bN .nil pass0 (pa_cons (pv 0) (pa_cons (pv 3) pa_nil))))
  (pss_cons (ps_set (i := 5) sc_map.nd rfl (Or.inl rfl) (pe_lst pa_nil))
  (pss_cons (ps_if (pt_cmpR op_gt (pv 3) pe_int (nomark _))
   (pss_one (ps_for PassesOwn.never rfl (pi_range1 (by rfl) T.range (pa_cons (pe_call GN hr (by rfl) gN kN bN .nil pass0 (pa_cons (pv 0) (pa_cons (pe_op op_add (pv 2) pe_int) pa_nil))) pa_nil)) (pg_name (i := 6) sc_map.nd rfl (Or.inl rfl))
   (pss_cons (ps_set (i := 7) sc_map.nd rfl (Or.inl rfl) (pe_call GN hr (by rfl) gN kN bN .nil pass0 (pa_cons (pv 0) (pa_cons (pv 3) pa_nil))))
  (pss_cons (ps_set (i := 8) sc_map.nd rfl (Or.inl rfl) (pe_op op_modN (pe_op op_add (pe_op op_add (pv 7) pe_int) (pe_call GN hr (by rfl) gN kN bN .nil pass0 (pa_cons (pv 0) (pa_cons (pe_op op_sub (pv 3) pe_int) pa_nil)))) (pv 3)))
  (pss_cons (ps_if (PW.pt (pw_and (pt_cmpR op_gt (pe_call GN hr (by rfl) gN kN bN .nil pass0 (pa_cons (pv 0) (pa_cons pe_int pa_nil))) pe_int (nomark _)) (pw_and1 (pt_cmpR op_lt (pv 6) (pv 3) (nomark _)))))
   (pss_cons (ps_set (i := 8) sc_map.nd rfl (Or.inl rfl) (pe_op op_modN (pe_op op_add (pe_op op_add (pv 4) pe_int) (pv 6)) (pv 3)))
  (pss_one (ps_set (i := 7) sc_map.nd rfl (Or.inl rfl) (pe_op op_modN (pe_op op_add (pv 4) (pe_call GN hr (by rfl) gN kN bN .nil pass0 (pa_cons (pv 0) (pa_cons (pe_op op_add (pv 6) pe_int) pa_nil)))) (pv 3)))))
   pss_nil)
  (pss_one (ps_if (pt_cmpR op_ne (pv 7) (pv 8) (nomark _))
   (pss_one (ps_expr (pe_bm PySem.F.plainAttrs_list PySem.F.slot_list_append PySem.F.type_list_append mt_append (pv 5) (pa_cons (pe_tup (pa_cons (pv 7) (pa_cons (pv 8) (pa_cons (pe_call GC hr (by rfl) gC kC bC .nil pass0 (pa_cons (pv 0) pa_nil)) pa_nil)))) pa_nil))))
   pss_nil)))))))
   pss_nil)
  (pss_one (ps_ret (pe_tup (pa_cons (pv 3) (pa_cons (pv 4) (pa_cons (pv 5) pa_nil)))))))))), ?_⟩
    refine ⟨_, rfl, _, rfl, Hb, d, p, rfl, D, by omega, by omega, fun H1 m S1 D1 m0 m1 => ⟨_, _, rfl, rfl, ?_⟩⟩
    refine ⟨_, rfl, _, rfl, Hb, d, _, rfl, D1, by omega, by omega, fun H2 root S2 D2 t0 t1 => ?_⟩
    have S12 := S1.dlast D1 S2
    refine ⟨Nat.zero_le _, fun l hl => ?_⟩
    have nld : l ≠ d := fun e => D2.live (e ▸ hl)
    have hbl : Hb l = none := D2.sub.free hl
    have new0 : H l = none := by
      cases e : H l with
      | none => rfl
      | some o =>
        have z := S12.old l o nld e
        rw [hl] at z
        cases z
    have R0 : Rows K H Hb (upd H2 l (.lst [])) Hb d l (1 + m) 0 := ⟨S12.put (.inl new0) hbl, D2.put_up hbl (Ne.symm nld), new0, hbl, nld, [], [], upd_same, .nil, (fun x hx => nomatch hx), Nat.le_refl _⟩
    -- the end: return (many, root, rows)
    have fin : ∀ (H4 Hb4 : Hp) {n : Nat}, Rows K H Hb H4 Hb4 d l (1 + m) n → n ≤ r.toNat → (0 : Nat) + 3 ≤ sizeLine ∧ ∀ t, H4 t = none → Q (.ref t) (upd H4 t (.tup [.int (1 + m), .int root, .ref l])) := by
      intro H4 Hb4 n R4 hn4
      refine ⟨(by decide), fun t ht => ?_⟩
      obtain ⟨sub, dice, new, ap, ld, vs, rows, hl4, hd4, hk4, hn⟩ := R4
      have ndt : t ≠ d := fun e => dice.live (e ▸ ht)
      have S5 := sub.pub new ap hl4
      have D5 : Dice K H4 (upd Hb4 l (.lst vs)) d := dice.with (same_new ap) S5.sub (by rw [upd_ne (Ne.symm ld)]; exact dice.dn)
      refine q _ _ _ (1 + m) root rows (S5.add ht ndt) (D5.sub_up ht) (.tup (SqT.of upd_same) (.cons (.int _) (.cons (.int _) (.cons ?_ .nil)))) ⟨by omega, by omega, t0, t1, by omega, hk4⟩ (by omega) (by omega)
      have nlt : l ≠ t := ne_of_none hl4 ht
      exact .lst (SqL.of (by rw [upd_ne nlt, upd_same])) (dpAll_same ((same_new ap).trans (same_new (S5.sub.free ht))) _ _ hd4)
    refine ⟨_, rfl, _, _, rfl, rfl, _, rfl, ite2 (fun c => ?_) (fun c => ?_)⟩
    · have c' := of_decide_eq_true c
      refine ⟨_, rfl, _, rfl, _, _, rfl, rfl, Hb, d, _, rfl, R0.dice, by omega, by omega, fun H3 n S3 D3 n0 n1 => ?_⟩
      have R1 := R0.call S3 D3
      refine ⟨n, rfl, by omega, by omega, for_range (n := n.toNat) (fun i σ H' => ∃ (Hb' : Hp) (v6 v7 v8 : Option V), σ = [some (.ref d), some (.int p), some (.int r), some (.int (1 + m)), some (.int root), some (.ref l), v6, v7, v8] ∧ Rows K H Hb H' Hb' d l (1 + m) i)
        ⟨Hb, none, none, none, rfl, R1⟩ ?_ ?_⟩
      · rintro i σ H4 hi ⟨Hb4, v6, v7, v8, rfl, R4⟩
        refine ⟨_, rfl, _, rfl, Hb4, d, _, rfl, R4.dice, by omega, by omega, fun H5 bb S5 D5 b0 b1 => ?_⟩
        have R5 := R4.call S5 D5
        refine ⟨_, rfl, _, _, rfl, rfl, _, rfl, _, rfl, _, _, rfl, rfl, Hb4, d, _, rfl, D5, by omega, by omega, fun H6 z S6 D6 z0 z1 => ⟨_, _, rfl, rfl, _, rfl, _, _, rfl, rfl, by omega, ?_⟩⟩
        have R6 := R5.call S6 D6
        have gm := mod_lt (x := bb + 1 + z) (show 0 < 1 + m by omega)
        refine ⟨_, rfl, Hb4, d, _, rfl, D6, by decide, by decide, fun Hx y S7 Dx y0 y1 => ?_⟩
        have Rx := R6.call S7 Dx
        refine ⟨_, _, rfl, rfl, _, rfl, ite2 (fun cA => ?_) (fun cA => ?_)⟩
        · refine ⟨_, rfl, _, rfl, _, _, rfl, rfl, _, rfl, ite2 (fun cB => ?_) (fun cB => ?_)⟩
          · have cB' := of_decide_eq_true cB
            refine ⟨_, rfl, _, _, rfl, rfl, _, rfl, _, _, rfl, rfl, _, rfl, _, _, rfl, rfl, by omega, ?_⟩
            have gm := mod_lt (x := root + 1 + (0 + (i : Int))) (show 0 < 1 + m by omega)
            refine ⟨_, rfl, _, rfl, _, rfl, _, _, rfl, rfl, Hb4, d, _, rfl, Dx, by omega, by omega, fun Hy y2 S8 Dy h0 h1 => ⟨_, _, rfl, rfl, _, rfl, _, _, rfl, rfl, by omega, ?_⟩⟩
            have bm := mod_lt (x := root + y2) (show 0 < 1 + m by omega)
            have Rx := Rx.call S8 Dy
            refine ⟨_, rfl, _, rfl, rfl, _, rfl, ite2 (fun cD => ?_) (fun cD => ?_)⟩
            · obtain ⟨_, _, _, _, _, vs, rws, hl4, _⟩ := id Rx
              refine ⟨_, rfl, .inl ⟨rfl, _, SqL.of hl4⟩, _, rfl, _, rfl, _, rfl, Hb4, d, rfl, Rx.dice, fun Hc cc Sc Dc h0 h1 => ⟨(by show 3 ≤ sizeLine; decide), fun t ht => ?_⟩⟩
              have Rc := Rx.call Sc Dc
              obtain ⟨_, _, _, _, _, vs2, rws2, hl5, hd5, _, hn5⟩ := id Rc
              refine ⟨l, _, _, rfl, rfl, Eq.trans (upd_ne (ne_of_none hl5 ht)) hl5, ?_, ?_⟩
              · have q5 := dpAll_len hd5
                rw [List.length_map] at q5
                exact small_lt (by omega)
              · exact ⟨_, _, _, _, rfl, Rc.push (r := ⟨_, _, cc⟩) ht ⟨bm.1, bm.2, gm.1, gm.2, neq cD, h0, h1⟩ hl5⟩
            · exact ⟨Hb4, _, _, _, rfl, Rx.up⟩
          · have bm : 0 ≤ bb ∧ bb < 1 + m := ⟨b0, b1⟩
            refine ⟨_, rfl, _, rfl, rfl, _, rfl, ite2 (fun cD => ?_) (fun cD => ?_)⟩
            · obtain ⟨_, _, _, _, _, vs, rws, hl4, _⟩ := id Rx
              refine ⟨_, rfl, .inl ⟨rfl, _, SqL.of hl4⟩, _, rfl, _, rfl, _, rfl, Hb4, d, rfl, Rx.dice, fun Hc cc Sc Dc h0 h1 => ⟨(by show 3 ≤ sizeLine; decide), fun t ht => ?_⟩⟩
              have Rc := Rx.call Sc Dc
              obtain ⟨_, _, _, _, _, vs2, rws2, hl5, hd5, _, hn5⟩ := id Rc
              refine ⟨l, _, _, rfl, rfl, Eq.trans (upd_ne (ne_of_none hl5 ht)) hl5, ?_, ?_⟩
              · have q5 := dpAll_len hd5
                rw [List.length_map] at q5
                exact small_lt (by omega)
              · exact ⟨_, _, _, _, rfl, Rc.push (r := ⟨_, _, cc⟩) ht ⟨bm.1, bm.2, gm.1, gm.2, neq cD, h0, h1⟩ hl5⟩
            · exact ⟨Hb4, _, _, _, rfl, Rx.up⟩
        · have bm : 0 ≤ bb ∧ bb < 1 + m := ⟨b0, b1⟩
          refine ⟨_, rfl, _, rfl, rfl, _, rfl, ite2 (fun cD => ?_) (fun cD => ?_)⟩
          · obtain ⟨_, _, _, _, _, vs, rws, hl4, _⟩ := id Rx
            refine ⟨_, rfl, .inl ⟨rfl, _, SqL.of hl4⟩, _, rfl, _, rfl, _, rfl, Hb4, d, rfl, Rx.dice, fun Hc cc Sc Dc h0 h1 => ⟨(by show 3 ≤ sizeLine; decide), fun t ht => ?_⟩⟩
            have Rc := Rx.call Sc Dc
            obtain ⟨_, _, _, _, _, vs2, rws2, hl5, hd5, _, hn5⟩ := id Rc
            refine ⟨l, _, _, rfl, rfl, Eq.trans (upd_ne (ne_of_none hl5 ht)) hl5, ?_, ?_⟩
            · have q5 := dpAll_len hd5
              rw [List.length_map] at q5
              exact small_lt (by omega)
            · exact ⟨_, _, _, _, rfl, Rc.push (r := ⟨_, _, cc⟩) ht ⟨bm.1, bm.2, gm.1, gm.2, neq cD, h0, h1⟩ hl5⟩
          · exact ⟨Hb4, _, _, _, rfl, Rx.up⟩
      · rintro σ H4 ⟨Hb4, v6, v7, v8, rfl, R4⟩
        exact ⟨_, rfl, _, rfl, _, rfl, fin H4 Hb4 R4 (by omega)⟩
    · exact ⟨_, rfl, _, rfl, _, rfl, fin _ Hb R0 (by omega)⟩
end
end Rc
/-! part RcD4 -/
namespace Rc
open PySem PySem.Spec PyProof.Rows L2
/-- plain data, at most so deep -/
def Plain : Nat → PyData → Prop
  | _, .int _ => True
  | _, .str _ => True
  | _, .none => True
  | n + 1, .list ds => ds.length ≤ 1000 ∧ ∀ d ∈ ds, Plain n d
  | n + 1, .tuple ds => ds.length ≤ 1000 ∧ ∀ d ∈ ds, Plain n d
  | _, _ => False
theorem tyL {K : PySem.W.Frag} {H : Hp} {a : Addr} {xs : List V} (h : SqL K H a xs) : TyX K H (.ref a) (.type "list") := by
  rcases h with (h | ⟨o, h⟩) | ⟨o, its, n, h, hc, _⟩
  · exact .base (.lst h)
  · exact .base (.frz h)
  · exact .kList h hc
theorem tyT {K : PySem.W.Frag} {H : Hp} {a : Addr} {xs : List V} (h : SqT K H a xs) : TyX K H (.ref a) (.type "tuple") := by
  rcases h with (h | ⟨o, h⟩) | ⟨o, its, n, h, hc, _⟩
  · exact .base (.tup h)
  · exact .fTuple h
  · exact .kTuple h hc
/-- isinstance(x, T), both built in: the answer by their names -/
theorem isi {K : PySem.W.Frag} {H : Hp} {Q : VK} {x : V} {t c : String} {b : Bool} (ty : TyX K H x (.type t)) (e : kitB t c = some b) (q : Q (.bl b) H) : rIsi K [x, .ty c] H Q := ⟨x, .ty c, _, _, b, rfl, .ty c, ty, kit_ty e, q⟩
/-- what the parts of plain data are -/
def PlainC : Nat → PyData → Prop
  | 0, _ => False
  | n + 1, d => Plain n d
structure TxtL (mg : Str → Option Value) : Prop extends Txt0 mg where
  isi : mg "isinstance" = none
  str : mg "str" = none
  tuple : mg "tuple" = none
  list : mg "list" = none
  bool : mg "bool" = none
def spLike (K : PySem.W.Frag) (n : Nat) : Sp := fun vs H Q _ => ∃ (x y : V) (e : PyData), vs = [x, y] ∧ Dp K H x e ∧ Dp K H y e ∧ Plain n e ∧ Q (.bl true) H
section
variable {P : Program} {w : World} {K : PySem.W.Frag} {mg : Str → Option Value} {base : Heap}
end
end Rc
/-! part RcG -/
/-! all(..), any(..) of a generator expression over a list or a tuple, its element by the model's own words. -/
namespace Rc
open PySem PySem.Spec PyProof.Rows L2
/-- the generator's frame, at a turn: its scope, the cells that it has from the def, and what stood when it was made -/
structure El (X : Cx) (scope : Scope) (P : Addr) (s1 : Shared) (cenv : Env) (s₂ : Shared) : Prop where
  sc : cenv.scope = scope
  cl : cenv.cells = cloFrom X.env.cells scope.names []
  gl : cenv.globals = mainGlobals
  bl : cenv.builtins = builtinsNs
  keep : ∀ b o, b ≠ P → s1.heap.get? b = some o → s₂.heap.get? b = some o
/-- the element at the items xs: its truth is pb -/
def EltOk (X : Cx) (scope : Scope) (P : Addr) (x : Str) (elt : Expr) (xs : List V) (pb : Nat → Bool) (σ : L2.St) (H1 : Hp) : Prop :=
  ∀ (pins : List (Addr × Obj)) (s1 : Shared), Inv X pins σ H1 s1 → ∀ (cenv : Env) (A' : Around) (E' : Value → Shared → Prop) (i : Nat) (y : V) (v : Value) (s₂ : Shared) (m₂ : Str → Option Value),
    El X scope P s1 cenv s₂ → A'.handled = none → A'.depth ≤ X.A.depth + 1 → A'.units ≤ X.A.units + 8 → xs[i]? = some y → RelV y v → s₂.heap.Ns cenv.locals m₂ → m₂ x = some v →
    wpAny (model X.prog X.w) A' (eval elt cenv) (fun r s₃ => r = .bool (pb i) ∧ Keeps s₂ s₃) E' s₂
def SqX (K : PySem.W.Frag) (H : Hp) (a : Addr) (xs : List V) : Prop := SqL K H a xs ∨ SqT K H a xs
section
variable {X : Cx} {pins : List (Addr × Obj)} {σ : L2.St} {H : Hp} {s : Shared}
theorem seq_walk {a : Addr} {xs : List V} {A : Around} {E : Value → Shared → Prop} {Q : Value → Shared → Prop} (I : Inv X pins σ H s) (h : SqX X.K H a xs)
    (hQ : ∀ (its : List Value) (o : Obj) (St : Nat → Heap → Prop), Vals xs its → (∃ o, s.heap.get? a = some o ∧ o.cls ≠ .none) →
      (∀ A' : Around, A'.handled = none → Walks X.prog X.w A' s.heap.objs.size [s.heap.objs.size, a] [s.heap.objs.size] its.length (fun i v => its[i]? = some v) St) →
      St 0 (s.heap.push o) → Q (.ref s.heap.objs.size) { s with heap := s.heap.push o }) :
    wpAny (model X.prog X.w) A (pyIter (.ref a)) Q E s := by
  rcases h with h | h
  · obtain ⟨its, rv, pl, _⟩ := I.list h
    have il : s.heap.IsList a its.toArray := pl.isList
    have cl : ∃ o, s.heap.get? a = some o ∧ o.cls ≠ .none := by
      obtain ⟨o, ho, hc, _⟩ := il
      exact ⟨o, ho, fun z => by rw [hc] at z; cases z⟩
    have lt : a < s.heap.objs.size := by
      obtain ⟨o, ho, _⟩ := il
      exact Heap.lt_size ho
    refine wpAny_pyIter_list il (hQ its _ (fun i h => h.IsListIter s.heap.objs.size a i ∧ h.IsList a its.toArray) rv cl (fun A' hA => ?_) ?_)
    · have w := Walks.list (prog := X.prog) (w := X.w) hA s.heap.objs.size a (Nat.ne_of_lt lt) its.toArray
      simpa using w
    · refine ⟨⟨_, Heap.get?_push_size _ rfl, rfl, rfl⟩, ?_⟩
      obtain ⟨o, ho, r⟩ := il
      exact ⟨o, Heap.get?_push_of_some _ ho, r⟩
  · obtain ⟨its, rv, pl, _⟩ := I.tuple h
    have il : s.heap.IsTuple a its.toArray := pl
    have cl : ∃ o, s.heap.get? a = some o ∧ o.cls ≠ .none := by
      obtain ⟨o, ho, hc, _⟩ := il
      exact ⟨o, ho, fun z => by rw [hc] at z; cases z⟩
    have lt : a < s.heap.objs.size := by
      obtain ⟨o, ho, _⟩ := il
      exact Heap.lt_size ho
    refine wpAny_pyIter_tuple il (hQ its _ (fun i h => h.IsTupleIter s.heap.objs.size a i ∧ h.IsTuple a its.toArray) rv cl (fun A' hA => ?_) ?_)
    · have w := Walks.tuple (prog := X.prog) (w := X.w) hA s.heap.objs.size a (Nat.ne_of_lt lt) its.toArray
      simpa using w
    · refine ⟨⟨_, Heap.get?_push_size _ rfl, rfl, rfl⟩, ?_⟩
      obtain ⟨o, ho, r⟩ := il
      exact ⟨o, Heap.get?_push_of_some _ ho, r⟩
/-- the generator at g, ready to be asked n times -/
def ReadyQ (X : Cx) (pins : List (Addr × Obj)) (σ : L2.St) (H1 : Hp) (P : Addr) (n : Nat) (pb : Nat → Bool) (g : Addr) (s5 : Shared) : Prop :=
  ∃ (fp wr : List Addr) (G : Array GenState → Array GenState → Prop) (F : Nat → Value → Prop) (St : Nat → Shared → Prop),
    WalksS X.prog X.w X.A.in1 g fp wr G n F St ∧ St 0 s5 ∧ TruthOf X.prog X.w X.A.in1 F pb ∧
      ∀ s', Moved wr G s5 s' → ∃ H2, GxR.Tabbed P H1 H2 ∧ Inv X pins σ H2 s'
theorem gen_seq {c P : Addr} {elt iter : Expr} {x : Str} {px gpos : Pos} {scope : Scope} {te : TE} {k : Nat} {Q' : Value → Shared → Prop} {R : List V → (Nat → Bool) → Hp → Prop}
    (hr : Room k X.A) (TB : GxR.TabB X.base X.mg c P) (hcode : X.env.code = .ref c) (S : GxR.GenS X.env scope x) (hi : PE X iter te) (hs : ∀ v, genFold iter X.env v = pure v) (I : Inv X pins σ H s)
    (h : te σ H fun v H1 => ∃ a xs pb, v = .ref a ∧ SqX X.K H1 a xs ∧ EltOk X scope P x elt xs pb σ H1 ∧ GxR.TabG H1 P ∧ R xs pb H1)
    (hQ : ∀ xs pb H1 g s5, R xs pb H1 → ReadyQ X pins σ H1 P xs.length pb g s5 → Q' (.ref g) s5) :
    wpAny (model X.prog X.w) X.A (eval (.GeneratorExp elt [⟨.Name x px, iter, [], 0⟩] scope gpos) X.env) Q' X.xe s := by
  have hdp : X.A.depth < recursionLimit := by
    have := hr.dp
    omega
  refine wpAny_GeneratorExp_walksQD hr.hd S.co (closure_ok S.free) S.cell S.dot S.loc S.kind hdp ?_ hs
  refine thn (hi.run pins s σ H _ I h) fun xv s1 ⟨v, H1, I1, r1, q1⟩ => ?_
  obtain ⟨a, xs, pb, rfl, hseq, hel, ⟨ps, hP, ht⟩, hR⟩ := q1
  obtain rfl : xv = Value.ref a := r1
  refine seq_walk I1 hseq fun its o St rv hcl W hst => ?_
  have lenE : xs.length = its.length := rv.length
  have tab1 : s1.heap.get? P = some { cls := .none, data := .fields ps } := I1.hok P _ hP
  have ltP : P < s1.heap.objs.size := Heap.lt_size tab1
  have aP : a ≠ P := by
    obtain ⟨oa, ha, hca⟩ := hcl
    intro z
    rw [z, tab1] at ha
    exact hca (by rw [← Option.some.inj ha])
  have lta : a < s1.heap.objs.size := by
    obtain ⟨oa, ha, _⟩ := hcl
    exact Heap.lt_size ha
  have tab2 : (s1.heap.push o).get? P = some { cls := .none, data := .fields ps } := Heap.get?_push_of_some _ tab1
  have codeP : PySem.W.CodeHd (s1.heap.push o) c P := TB.code.keeps fun b u e => Heap.get?_push_of_some _ (I1.bk b u e)
  have noLim : (s1.heap.push o).NoLimit := I1.nolimit.push o
  have sz2 : (s1.heap.push o).objs.size = s1.heap.objs.size + 1 := Heap.size_push ..
  -- behind the code object: h3 holds all but a grown table
  have rest : ∀ (code : Value) (h3 : Heap) (tk : Nat) (ps' : Array Value), Heap.ExtBut P (s1.heap.push o) h3 → (s1.heap.push o).objs.size ≤ h3.objs.size →
      h3.get? P = some { cls := .none, data := .fields ps' } → (∃ more, ps' = ps ++ more) → TriplesOk ps'.toList →
      wpAny (model X.prog X.w) X.A (builtinsFor X.env.globals X.env.builtins) (fun bi s₄ =>
        ∃ Ia fp wr n₀ Pf St₀ pz F, Value.ref s1.heap.objs.size = .ref Ia ∧ (∀ A' : Around, A'.handled = none → Walks X.prog X.w A' Ia fp wr n₀ Pf St₀) ∧ St₀ 0 s₄.heap ∧ (∀ b ∈ fp, b < s₄.heap.objs.size) ∧ s₄.heap.NoLimit ∧ cStatics ∉ wr ∧
          (∀ href : Heap, (∀ b o, s₄.heap.get? b = some o → href.get? b = some o) →
            QuietGenD X.prog X.w (genEnv scope (cloFrom X.env.cells scope.names []) s₄.heap.objs.size code bi X.env) x [] elt (List.range s₄.heap.objs.size) wr Pf pz F href (X.A.depth + 1) (X.A.units + 8)) ∧
          (∀ g h₅ tk gs, gs.bare = true → s₄.heap.objs.size < g → h₅.objs.size = g + 1 → (∀ b o, s₄.heap.get? b = some o → h₅.get? b = some o) →
            WalksS X.prog X.w X.A.in4 g (g :: s₄.heap.objs.size :: List.range s₄.heap.objs.size) (s₄.heap.objs.size :: wr) (GenOnlyQ s₄.gens.size) (passing pz n₀ 0).length
              (fun j y => ∃ i, (passing pz n₀ 0)[j]? = some i ∧ F i y) (GenAt X.prog X.w X.A.in4 g s₄.gens.size s₄.heap.objs.size (List.range s₄.heap.objs.size) wr pz n₀ F) →
            GenAt X.prog X.w X.A.in4 g s₄.gens.size s₄.heap.objs.size (List.range s₄.heap.objs.size) wr pz n₀ F 0 { s₄ with gens := s₄.gens.push gs, toks := tk, heap := h₅ } →
            Q' (.ref g) { s₄ with gens := s₄.gens.push gs, toks := tk, heap := h₅ })) X.xe { s1 with heap := h3, toks := tk } := by
    intro code h3 tk ps' hx hsz tab3 hmore ht3
    obtain ⟨bm, ob, e1, e2, e3, e4, e5, e6, e7, e8⟩ := TB.bm
    have keep3 : ∀ b u, b ≠ P → s1.heap.get? b = some u → h3.get? b = some u := fun b u hb e => hx b u hb (Heap.get?_push_of_some _ e)
    have stat : cStatics ≠ P ∧ cStatics < s1.heap.objs.size := by
      obtain ⟨m', hns, _⟩ := I1.nolimit
      refine ⟨fun e => ?_, hns.lt⟩
      obtain ⟨o', es, ep, ho, hd, _⟩ := hns
      rw [e, tab1] at ho
      cases ho
      cases hd
    refine wpAny_builtinsFor (m := X.mg) (by rw [I1.ok.glob]; exact ((I1.mod.glob.keeps I1.bk).push o).extBut hx TB.gP) e1 e2 (keep3 _ _ e4 (I1.bk _ _ e5)) e6 e7 e8 ?_
    refine ⟨s1.heap.objs.size, [s1.heap.objs.size, a], [s1.heap.objs.size], its.length, (fun i v => its[i]? = some v), St, (fun _ => true), (fun i y => y = .bool (pb i)), rfl, W, ?_, ?_, noLim.extBut hx stat.1, ?_, ?_, ?_⟩
    · refine (W X.A hr.hd).frame _ _ _ hst fun b hb u e => hx b u (fun z => ?_) e
      simp only [List.mem_cons, List.not_mem_nil, or_false] at hb
      rcases hb with q | q
      · exact Nat.ne_of_lt ltP (z.symm.trans q)
      · exact aP (q.symm.trans z)
    · intro b hb
      simp only [List.mem_cons, List.not_mem_nil, or_false] at hb
      have le3 : s1.heap.objs.size + 1 ≤ h3.objs.size := by
        rw [← sz2]
        exact hsz
      rcases hb with q | q
      · rw [q]
        exact le3
      · rw [q]
        exact Nat.lt_of_lt_of_le lta (Nat.le_trans (Nat.le_succ _) le3)
    · intro z
      simp only [List.mem_cons, List.not_mem_nil, or_false] at z
      exact Nat.ne_of_lt stat.2 z
    · intro href hhref
      refine ⟨fun A' E' i v s₂ m₂ hA _ _ hPv hn hm hk => ?_, fun A' E' i v s₂ m₂ hA hdA huA hPv hp hn hm hk => ?_⟩
      · simp only [List.forIn_nil]
        exact wpAny_pure ⟨rfl, GxR.keeps_refl _⟩
      · obtain ⟨y, hy, ry⟩ : ∃ y, xs[i]? = some y ∧ RelV y v := by
          have hi' : i < xs.length := by
            rw [lenE]
            exact (List.getElem?_eq_some_iff.mp hPv).1
          obtain ⟨u, hu, ru⟩ := rv.get (List.getElem?_eq_getElem hi')
          rw [hPv] at hu
          cases hu
          exact ⟨_, List.getElem?_eq_getElem hi', ru⟩
        refine hel pins s1 I1 _ A' E' i y v s₂ m₂ ⟨rfl, rfl, I1.ok.glob, rfl, fun b u hb e => ?_⟩ hA hdA huA hy ry hn hm
        have l3 : h3.get? b = some u := keep3 b u hb e
        exact hk b (List.mem_range.mpr (Heap.lt_size l3)) (fun z => by
          simp only [List.mem_cons, List.not_mem_nil, or_false] at z
          exact absurd (Heap.lt_size e) (by rw [z]; exact Nat.lt_irrefl _)) u (hhref b u l3)
    · intro g h5 tk5 gs hgb hag hsz5 hk5 W5 hat
      simp only [GxR.passing_true, List.length_range] at W5
      refine hQ xs pb H1 g _ hR ?_
      rw [lenE]
      refine ⟨_, _, _, _, _, W5.in4_1, hat, ?_, fun s' hm => ?_⟩
      · intro j y sj Qj Ej hy hQj
        obtain ⟨i, hij, rfl⟩ := hy
        obtain ⟨hj, ej⟩ := List.getElem?_eq_some_iff.mp hij
        rw [List.getElem_range] at ej
        subst ej
        exact wpAny_truthy_bool hQj
      · obtain ⟨more, em⟩ := hmore
        have old : ∀ b u, s1.heap.get? b = some u → b ∉ h3.objs.size :: [s1.heap.objs.size] := fun b u e hb => by
          have hl := Heap.lt_size e
          simp only [List.mem_cons, List.not_mem_nil, or_false] at hb
          have h9 : (s1.heap.objs.size : Nat) ≤ h3.objs.size := by omega
          rcases hb with z | z
          · rw [z] at hl
            exact absurd (Nat.lt_of_lt_of_le hl h9) (Nat.lt_irrefl _)
          · rw [z] at hl
            exact Nat.lt_irrefl _ hl
        have J := GxR.inv_tab (more := more) (h' := s'.heap) (g' := s'.gens) (d' := s'.drawn) (t' := s'.toks) I1 hP (fun b u hb e => hm.heap b u (old b u e) (hk5 b u (keep3 b u hb e)))
          (by rw [← em]; exact hm.heap P _ (old P _ tab1) (hk5 P _ tab3)) (AllBare.movedS (I1.bare.push hgb) hm)
        rw [GxR.sh_eta s1 s' hm.os] at J
        exact ⟨_, ⟨⟨ps ++ more, upd_same, by rw [← em]; exact ht3⟩, fun b hb => upd_ne hb⟩, J⟩
  refine ⟨noLim, ?_⟩
  cases hf : codeAmong gpos ps.toList with
  | none =>
    refine wpAny_genexprCodeX hcode (codeP.code tab2 ht) (codeP.tab tab2) hf fun c' h' tk hx hge hlt hco' _ htab' _ => ?_
    obtain ⟨o1, vs, f1, tf, fl, tg, inF, tx, tt, op, _, _, _, _, _, _, _, _, _, htr, _⟩ := hco'
    exact rest _ h' tk _ hx (Nat.le_trans hge (Nat.le_of_lt hlt)) htab'.2 ⟨_, rfl⟩ htr
  | some cv =>
    refine wpAny_genexprCode_hit hcode (codeP.code tab2 ht) hf ?_
    exact rest cv (s1.heap.push o) s1.toks ps (Heap.ExtBut.refl _ _) (Nat.le_refl _) tab2 ⟨#[], by simp⟩ ht
/-- all(e for x in xs), any(..): behind it the def's table may have grown -/
def tAllQ (X : Cx) (scope : Scope) (P : Addr) (x : Str) (elt : Expr) (te : TE) : TE := fun σ H Q => te σ H fun v H1 => ∃ a xs pb, v = .ref a ∧ SqX X.K H1 a xs ∧ EltOk X scope P x elt xs pb σ H1 ∧ GxR.TabG H1 P ∧
  ∀ H2, GxR.Tabbed P H1 H2 → Q (.bl ((List.range xs.length).all pb)) H2
def tAnyQ (X : Cx) (scope : Scope) (P : Addr) (x : Str) (elt : Expr) (te : TE) : TE := fun σ H Q => te σ H fun v H1 => ∃ a xs pb, v = .ref a ∧ SqX X.K H1 a xs ∧ EltOk X scope P x elt xs pb σ H1 ∧ GxR.TabG H1 P ∧
  ∀ H2, GxR.Tabbed P H1 H2 → Q (.bl ((List.range xs.length).any pb)) H2
theorem pe_allQ {c P : Addr} {elt iter : Expr} {x : Str} {px p pos gpos : Pos} {scope : Scope} {te : TE} {k : Nat} (hr : Room k X.A) (hg : Gl X "all") (hm : X.mg "all" = none) (TB : GxR.TabB X.base X.mg c P)
    (hcode : X.env.code = .ref c) (S : GxR.GenS X.env scope x) (hi : PE X iter te) (hs : ∀ v, genFold iter X.env v = pure v := by intro _; rfl)
    (he : starEach [.GeneratorExp elt [⟨.Name x px, iter, [], 0⟩] scope gpos] X.env = (false, eval (.GeneratorExp elt [⟨.Name x px, iter, [], 0⟩] scope gpos) X.env) :: starEach [] X.env := by rfl) :
    PE X (.Call (.Name "all" p) [.GeneratorExp elt [⟨.Name x px, iter, [], 0⟩] scope gpos] [] pos) (tAllQ X scope P x elt te) := by
  refine ⟨fun pins s σ H Q I h => ?_⟩
  refine wpAny_Call_Name_kw (ld_blt I hg hm (u := .builtin "all") (by decide +kernel) ?_)
  refine PyProof.Rows.callWith_builtin1 ?_ he (by rfl)
  rw [he]
  refine Calls.spliced_cons (gen_seq (R := fun xs pb H1 => ∀ H2, GxR.Tabbed P H1 H2 → Q (.bl ((List.range xs.length).all pb)) H2) hr TB hcode S hi hs I h fun xs pb H1 g s5 hR hG => ?_)
  obtain ⟨fp, wr, G, F, St, W, hst, htr, hI⟩ := hG
  refine Calls.spliced_nil (call_all_walkS (W.self 0 _ _ _ hst ⟨g, fp, wr, G, _, F, St, _, rfl, W, hst, htr, fun s' hmv => ?_⟩))
  obtain ⟨H2, hT, J⟩ := hI s' hmv
  exact ⟨.bl _, H2, J, rfl, hR H2 hT⟩
theorem pe_anyQ {c P : Addr} {elt iter : Expr} {x : Str} {px p pos gpos : Pos} {scope : Scope} {te : TE} {k : Nat} (hr : Room k X.A) (hg : Gl X "any") (hm : X.mg "any" = none) (TB : GxR.TabB X.base X.mg c P)
    (hcode : X.env.code = .ref c) (S : GxR.GenS X.env scope x) (hi : PE X iter te) (hs : ∀ v, genFold iter X.env v = pure v := by intro _; rfl)
    (he : starEach [.GeneratorExp elt [⟨.Name x px, iter, [], 0⟩] scope gpos] X.env = (false, eval (.GeneratorExp elt [⟨.Name x px, iter, [], 0⟩] scope gpos) X.env) :: starEach [] X.env := by rfl) :
    PE X (.Call (.Name "any" p) [.GeneratorExp elt [⟨.Name x px, iter, [], 0⟩] scope gpos] [] pos) (tAnyQ X scope P x elt te) := by
  refine ⟨fun pins s σ H Q I h => ?_⟩
  refine wpAny_Call_Name_kw (ld_blt I hg hm (u := .builtin "any") (by decide +kernel) ?_)
  refine PyProof.Rows.callWith_builtin1 ?_ he (by rfl)
  rw [he]
  refine Calls.spliced_cons (gen_seq (R := fun xs pb H1 => ∀ H2, GxR.Tabbed P H1 H2 → Q (.bl ((List.range xs.length).any pb)) H2) hr TB hcode S hi hs I h fun xs pb H1 g s5 hR hG => ?_)
  obtain ⟨fp, wr, G, F, St, W, hst, htr, hI⟩ := hG
  refine Calls.spliced_nil (call_any_walkS (W.self 0 _ _ _ hst ⟨g, fp, wr, G, _, F, St, _, rfl, W, hst, htr, fun s' hmv => ?_⟩))
  obtain ⟨H2, hT, J⟩ := hI s' hmv
  exact ⟨.bl _, H2, J, rfl, hR H2 hT⟩
end
end Rc
/-! part RcG2 -/
namespace Rc
open PySem PySem.Spec PyProof.Rows L2
section
variable {X : Cx} {pins : List (Addr × Obj)} {σ : L2.St} {H : Hp} {s1 s₂ : Shared} {scope : Scope} {P : Addr} {cenv : Env}
/-- the table's place holds no other thing -/
theorem tab_ne (I : Inv X pins σ H s1) (T : GxR.TabG H P) {b : Addr} {o : Obj} (h : s1.heap.get? b = some o) (hd : ∀ vs, o.data ≠ .fields vs) : b ≠ P := by
  obtain ⟨ps, hP, _⟩ := T
  have e : s1.heap.get? P = some { cls := .none, data := .fields ps } := I.hok P _ hP
  intro z
  rw [z, e] at h
  exact hd ps (by rw [← Option.some.inj h])
theorem El.ns (E : El X scope P s1 cenv s₂) (I : Inv X pins σ H s1) (T : GxR.TabG H P) {b : Addr} {m : Str → Option Value} (h : s1.heap.Ns b m) : s₂.heap.Ns b m := by
  obtain ⟨o, es, ep, ho, hd, r⟩ := h
  exact ⟨o, es, ep, E.keep b o (tab_ne I T ho fun vs z => by rw [hd] at z; cases z) ho, hd, r⟩
theorem El.cell (E : El X scope P s1 cenv s₂) (I : Inv X pins σ H s1) (T : GxR.TabG H P) {b : Addr} {v : Option Value} (h : s1.heap.IsCell b v) : s₂.heap.IsCell b v := by
  obtain ⟨o, ho, hd⟩ := h
  exact ⟨o, E.keep b o (tab_ne I T ho fun vs z => by rw [hd] at z; cases z) ho, hd⟩
/-- a captured name's value, in the generator's frame -/
theorem El.free {A : Around} {E' : Value → Shared → Prop} {Q : Value → Shared → Prop} {y : Str} {j : Nat} {v : V} {pos : Pos} (E : El X scope P s1 cenv s₂) (I : Inv X pins σ H s1) (T : GxR.TabG H P)
    (hk : scope.kind = .function) (hN : X.N[j]? = some y) (hs : σ[j]? = some (some v)) (hx : X.env.scope.names.lookup y = some .cell) (hf : scope.names.lookup y = some .free)
    (h : ∀ u, RelV v u → Q u s₂) (hd : (y == ("__debug__" : Str)) = false := by decide +kernel) (hn : (y == ("__classdict__" : Str)) = false := by decide +kernel) :
    wpAny (model X.prog X.w) A (eval (.Name y pos) cenv) Q E' s₂ := by
  obtain ⟨m, _, hl⟩ := I.loc
  obtain ⟨u, ru, lk⟩ := hl j y v hN hs (.inr (.inl hx))
  have kx : X.env.kindOf y = some .cell := hx
  rcases lk with ⟨k1, _⟩ | ⟨_, c, ec, hc⟩
  · rw [kx] at k1
    cases k1
  · have hfm : (y, NameKind.free) ∈ scope.names := PySem.mem_of_lookup hf
    have hm : (y, (X.env.cells.lookup y).getD 0) ∈ cenv.cells := by
      rw [E.cl]
      exact cloFrom_has hfm
    obtain ⟨c', hc'⟩ := mem_lookup hm
    have ec' : c' = c := by
      have q := PySem.mem_of_lookup hc'
      rw [E.cl] at q
      rcases cloFrom_mem q with z | ⟨_, z⟩
      · exact absurd z (by simp)
      · rw [z, ec]
        rfl
    subst ec'
    exact wpAny_Name (wpAny_loadName_free (by rw [E.sc]; exact hk) (show cenv.scope.names.lookup y = some .free by rw [E.sc]; exact hf) hc' (E.cell I T hc) (h u ru) hn) hd
/-- the walked name's value -/
theorem El.loc {A : Around} {E' : Value → Shared → Prop} {Q : Value → Shared → Prop} {x : Str} {m₂ : Str → Option Value} {v : Value} {pos : Pos} (E : El X scope P s1 cenv s₂)
    (hk : scope.kind = .function) (hf : scope.names.lookup x = some .local) (hn : s₂.heap.Ns cenv.locals m₂) (hm : m₂ x = some v) (h : Q v s₂) (hd : (x == ("__debug__" : Str)) = false := by decide +kernel) :
    wpAny (model X.prog X.w) A (eval (.Name x pos) cenv) Q E' s₂ :=
  wpAny_Name (wpAny_loadName_local (by rw [E.sc]; exact hk) (show cenv.scope.names.lookup x = some .local by rw [E.sc]; exact hf) hn hm h) hd
/-- a built-in's name -/
theorem El.blt {A : Around} {E' : Value → Shared → Prop} {Q : Value → Shared → Prop} {x : Str} {u : Value} {pos : Pos} (E : El X scope P s1 cenv s₂) (I : Inv X pins σ H s1) (T : GxR.TabG H P)
    (hk : scope.kind = .function) (hf : scope.names.lookup x = some .globalImplicit) (hm : X.mg x = none) (hv : bootBuiltins x = some u) (h : Q u s₂)
    (hn : x ≠ "__name__" := by decide +kernel) (hd : (x == ("__debug__" : Str)) = false := by decide +kernel) :
    wpAny (model X.prog X.w) A (eval (.Name x pos) cenv) Q E' s₂ := by
  obtain ⟨mb, h1, h2⟩ := I.mod.blt
  exact Calls.Name_function_global (by rw [E.sc]; exact hk) (show cenv.scope.names.lookup x = some .globalImplicit by rw [E.sc]; exact hf)
    (Calls.loadGlobal_builtin (by rw [E.gl]; exact E.ns I T (I.mod.glob.keeps I.bk)) hm (by rw [E.bl]; exact E.ns I T (h1.keeps I.bk)) ((h2 x hn).trans hv) h) hd
end
/-- 0 <= x < len(y), x walks whole numbers, y a captured list or tuple -/
theorem elt_len {X : Cx} {scope : Scope} {P : Addr} {x y : Str} {σ : L2.St} {H1 : Hp} {is : List Int} {l : Addr} {ks : List V} {j : Nat} {j0 : Nat} {p0 p1 p2 p3 p4 pos : Pos} (T : GxR.TabG H1 P)
    (hk : scope.kind = .function) (hx : scope.names.lookup x = some .local) (hy : scope.names.lookup y = some .free) (hl : scope.names.lookup ("len" : Str) = some NameKind.globalImplicit) (hm : X.mg "len" = none)
    (hN : X.N[j]? = some y) (hs : σ[j]? = some (some (.ref l))) (hc : X.env.scope.names.lookup y = some .cell) (hL : SqX X.K H1 l ks)
    (d1 : (x == ("__debug__" : Str)) = false := by decide +kernel) (d2 : (y == ("__debug__" : Str)) = false := by decide +kernel) (d3 : (y == ("__classdict__" : Str)) = false := by decide +kernel) :
    EltOk X scope P x (.Compare (.Constant (.int 0) j0 p0) [.LtE, .Lt] [.Name x p1, .Call (.Name "len" p2) [.Name y p3] [] p4] pos) (is.map V.int)
      (fun i => decide (0 ≤ is.getD i 0) && decide (is.getD i 0 < (ks.length : Int))) σ H1 := by
  intro pins s1 I cenv A' E' i z v s₂ m₂ E hA hd hu hi rv hn hmx
  obtain ⟨n, hn', rfl⟩ : ∃ n, is[i]? = some n ∧ z = .int n := by
    rw [List.getElem?_map] at hi
    cases e : is[i]? with
    | none => rw [e] at hi; cases hi
    | some n => rw [e] at hi; exact ⟨n, rfl, (Option.some.inj hi).symm⟩
  have eD : is.getD i 0 = n := by rw [List.getD_eq_getElem?_getD, hn']; rfl
  dsimp only
  rw [eD]
  obtain ⟨t, rfl⟩ := rv
  refine Compare_chain (wpAny_Constant_int (chain_link ?_))
  have E2 : El X scope P s1 cenv { s₂ with toks := s₂.toks + 1 } := ⟨E.sc, E.cl, E.gl, E.bl, E.keep⟩
  refine E2.loc hk hx hn hmx (le_int ?_) d1
  refine wpAny_truthy_bool ?_
  by_cases h0 : 0 ≤ n
  · rw [decide_eq_true h0]
    refine ite_tt (chain_last ?_)
    refine wpAny_Call_Name_kw (E2.blt I T hk hl hm PySem.boot_len ?_)
    refine PyProof.Rows.callWith_builtin1 ?_ (by rfl) (by rfl)
    refine Calls.spliced_cons (E2.free I T hk hN hs hc hy (fun u ru => ?_) d2 d3)
    obtain rfl : u = Value.ref l := ru
    refine Calls.spliced_nil ?_
    rcases hL with hL | hL
    · obtain ⟨its, rv, pl, hz⟩ := I.list hL
      have e := rv.length
      obtain ⟨o, ho, hcl, m, hdt⟩ := pl.isList
      have il : s₂.heap.IsList l its.toArray := ⟨o, E.keep l o (tab_ne I T ho fun vs z => by rw [hdt] at z; cases z) ho, hcl, m, hdt⟩
      refine Calls.call_len_list il (by have := line63; simp only [List.size_toArray] <;> omega) ?_
      refine lt_int ⟨?_, _, _, rfl, fun _ _ e => e⟩
      rw [List.size_toArray, e]
      rfl
    · obtain ⟨its, rv, pl, hz⟩ := I.tuple hL
      have e := rv.length
      obtain ⟨o, ho, hcl, m, hdt⟩ := pl
      have il : IsTup s₂.heap l its.toArray := ⟨o, E.keep l o (tab_ne I T ho fun vs z => by rw [hdt] at z; cases z) ho, hcl, m, hdt⟩
      refine len_tuple il (by have := line63; simp only [List.size_toArray] <;> omega) ?_
      refine lt_int ⟨?_, _, _, rfl, fun _ _ e => e⟩
      rw [List.size_toArray, e]
      rfl
  · rw [decide_eq_false h0]
    exact ite_ff ⟨rfl, _, _, rfl, fun _ _ e => e⟩
end Rc
/-! part RcM -/
namespace Rc
open PySem PySem.Spec PyProof.Rows L2
/-- for i, x in enumerate(xs): Pv by the turn -/
theorem for_enum {K : PySem.W.Frag} {a : Addr} {xs : List V} {g : TG} {tb : TS} {D : Ends} {σ : L2.St} {H : Hp} (Pv : Nat → L2.St → Hp → Prop) (h0 : Pv 0 σ H)
    (hl : ∀ i σ H, i ≤ xs.length → Pv i σ H → SqL K H a xs)
    (hs : ∀ i x T σ H, xs[i]? = some x → Pv i σ H → H T = none → g (.ref T) σ (upd H T (.tup [.int (i : Nat), x])) fun σ2 H2 => tb { D with nx := Pv (i + 1), ct := Pv (i + 1), bk := D.nx } σ2 H2)
    (hd : ∀ σ H, Pv xs.length σ H → D.nx σ H) :
    ∃ W : Nat → Nat → L2.St → Hp → Prop, (∃ m, W 0 m σ H) ∧ ∀ i m σ H, W i m σ H →
      ((Ite K a).stop i H ∧ D.nx σ H) ∨ ((Ite K a).go i H ∧ ∃ N : L2.St → Hp → Prop, (∀ σ' H', N σ' H' → ∃ m', m' < m ∧ W (i + 1) m' σ' H') ∧
        ∀ x H', (Ite K a).yld i H x H' → g x σ H' fun σ2 H2 => tb { D with nx := N, ct := N, bk := D.nx } σ2 H2) := by
  refine ⟨fun i m σ H => m = xs.length - i ∧ i ≤ xs.length ∧ Pv i σ H, ⟨_, rfl, Nat.zero_le _, h0⟩, ?_⟩
  rintro i m σ H ⟨rfl, hi, p⟩
  have sq := hl i σ H hi p
  by_cases lt : i < xs.length
  · refine .inr ⟨⟨xs, xs[i], sq, List.getElem?_eq_getElem lt⟩, Pv (i + 1), fun σ' H' q => ⟨_, by omega, rfl, lt, q⟩, fun v H' hy => ?_⟩
    obtain ⟨T, x, rfl, hT, rfl, hx⟩ := hy
    exact hs i x T σ H (hx xs sq) p hT
  · have e : i = xs.length := by omega
    subst e
    exact .inl ⟨⟨xs, sq, Nat.le_refl _⟩, hd σ H p⟩
/-! ### a map -/
def mfs (n r : Int) (l : Addr) : List (Str × V) := [("_many", .int n), ("_root", .int r), ("_roads", .ref l)]
def MapAt (K : PySem.W.Frag) (C : Addr) (H : Hp) (p : Addr) (n r : Int) (rows : List Row) : Prop :=
  ∃ (dx l : Addr), H p = some (.ins C dx (mfs n r l)) ∧ Dp K H (.ref l) (rowsDat rows)
theorem MapAt.same {K : PySem.W.Frag} {C : Addr} {H H' : Hp} {p : Addr} {n r : Int} {rows : List Row} (h : MapAt K C H p n r rows) (e : Same H H') : MapAt K C H' p n r rows := by
  obtain ⟨dx, l, h1, h2⟩ := h
  exact ⟨dx, l, e _ _ h1, dp_same e _ _ h2⟩
structure TxtM (K : PySem.W.Frag) (mg : Str → Option Value) (C : Addr) : Prop extends TxtL mg where
  cl : Cls K C
  nM : NoAttr K C "_many"
  nR : NoAttr K C "_root"
  nL : NoAttr K C "_roads"
  mgC : mg "Map" = some (.ref C)
  enum : mg "enumerate" = none
  gP : ∃ t, mg "MOST_PLACES" = some (.int 20 t)
  gR : ∃ t, mg "MOST_ROADS" = some (.int 60 t)
  gC : ∃ t, mg "MOST_COST" = some (.int 1000000000 t)
def spCheck (K : PySem.W.Frag) : Sp := fun vs H Q _ => ∃ (many root : Int) (v : V) (rows : List Row), vs = [.int many, .int root, v] ∧ Dp K H v (rowsDat rows) ∧ ChartOk many root rows ∧ ∀ H', Same H H' → Q .non H'
theorem no_not {p : Prop} [Decidable p] (h : p) : ¬ ((!decide p) = true) := by simp [h]
theorem no_dec {p : Prop} [Decidable p] (h : ¬ p) : ¬ (decide p = true) := by simp [h]
theorem ne_root : ¬ (("_many" : Str) = "_root") := by decide +kernel
theorem ne_m_roads : ¬ (("_many" : Str) = "_roads") := by decide +kernel
theorem ne_r_roads : ¬ (("_root" : Str) = "_roads") := by decide +kernel
section
variable {P : Program} {w : World} {K : PySem.W.Frag} {mg : Str → Option Value} {base : Heap}
/-- a cost that a road can have -/
def spCheckCost : Sp := fun vs H Q _ => ∃ (i c : Int), vs = [.int i, .int c] ∧ 0 ≤ c ∧ c ≤ 1000000000 ∧ Q .non H
theorem ok_check_cost {f C : Addr} {fd : FuncData} {k : Nat} (F : Fun K "check_cost" "check_cost" s_check_cost f fd) (T : TxtM K mg C) : FnOk P w K mg base CX0 (k + 1) f fd ["road", "cost"] spCheckCost := by
  obtain ⟨tC, gC⟩ := T.gC
  refine F.ok sc_check_cost (fun vs H Q E h => ?_) (fun cdv A outer s H vs Q E hr h => ?_)
  · obtain ⟨i, c, rfl, _⟩ := h
    rfl
  · obtain ⟨i, c, rfl, c0, c1, q⟩ := h
    refine ⟨_, (pss_one (ps_if (pt_not (pt_chain op_le op_le pe_int (pv 1) (pe_glob (v := .int 1000000000) rfl gC ⟨_, rfl⟩)))
   (pss_one ps_never)
   pss_nil)), ?_⟩
    refine ⟨_, rfl, _, _, rfl, rfl, _, rfl, ite2 (fun _ => ?_) (fun c => absurd (decide_eq_true c0) c)⟩
    refine ⟨_, _, rfl, rfl, _, rfl, ite2 (fun c => absurd c (no_not c1)) (fun _ => ?_)⟩
    exact q
theorem ok_check {f C : Addr} {fd : FuncData} {k : Nat} (F : Fun K "check_map" "check_map" s_check_map f fd) (T : TxtM K mg C) (hC : Has P w K mg base "check_cost" ["road", "cost"] k spCheckCost) : FnOk P w K mg base CX0 (k + 1) f fd ["many", "root", "roads"] (spCheck K) := by
  obtain ⟨fC, fdC, gCC, kC, bC, GC⟩ := hC
  obtain ⟨tP, gP⟩ := T.gP
  obtain ⟨tR, gR⟩ := T.gR
  refine F.ok sc_check_map (fun vs H Q E h => ?_) (fun cdv A outer s H vs Q E hr h => ?_)
  · obtain ⟨many, root, v, rows, rfl, _⟩ := h
    rfl
  · obtain ⟨many, root, v, rows, rfl, hD, ok, q⟩ := h
    refine ⟨_, (pss_cons (ps_if (pt_not (pt_chain op_le op_le pe_int (pv 0) (pe_glob (v := .int 20) rfl gP ⟨_, rfl⟩)))
   (pss_one ps_never)
   pss_nil)
  (pss_cons (ps_if (pt_not (pt_chain op_le op_lt pe_int (pv 1) (pv 0)))
   (pss_one ps_never)
   pss_nil)
  (pss_cons (ps_if (pt_cmpR op_gt (pe_callB call_len_seq (by rfl) T.len PySem.boot_len (pa_cons (pv 2) pa_nil)) (pe_glob (v := .int 60) rfl gR ⟨_, rfl⟩) (nomark _))
   (pss_one ps_never)
   pss_nil)
  (pss_one (ps_for PassesOwn.never rfl (pi_enum (by rfl) T.enum (pa_cons (pv 2) pa_nil)) (pg_tup (by rfl) (pgs_cons (pg_name (i := 3) sc_check_map.nd rfl (Or.inl rfl)) (pgs_cons (pg_tup (by rfl) (pgs_cons (pg_name (i := 4) sc_check_map.nd rfl (Or.inl rfl)) (pgs_cons (pg_name (i := 5) sc_check_map.nd rfl (Or.inl rfl)) (pgs_cons (pg_name (i := 6) sc_check_map.nd rfl (Or.inl rfl)) pgs_nil)))) pgs_nil)))
   (pss_cons (ps_if (PW.pt (pw_or (pt_cmpR op_eq (pv 4) (pv 5) (nomark _)) (pw_or (pt_not (pt_chain op_le op_lt pe_int (pv 4) (pv 0))) (pw_or1 (pt_not (pt_chain op_le op_lt pe_int (pv 5) (pv 0)))))))
   (pss_one ps_never)
   pss_nil)
  (pss_one (ps_expr (pe_call GC hr (by rfl) gCC kC bC .nil pass0 (pa_cons (pv 3) (pa_cons (pv 6) pa_nil))))))))))), ?_⟩
    obtain ⟨m0, m1, r0, r1, hlen, hrows⟩ := ok
    obtain ⟨a, xs, rfl, hS, hA⟩ := dp_list_inv hD
    have hlen' : xs.length = rows.length := by rw [dpAll_len hA, List.length_map]
    refine ⟨_, rfl, _, _, rfl, rfl, _, rfl, ite2 (fun _ => ?_) (fun c => absurd (decide_eq_true m0) c)⟩
    refine ⟨_, _, rfl, rfl, _, rfl, ite2 (fun c => absurd c (no_not m1)) (fun _ => ?_)⟩
    refine ⟨_, rfl, _, _, rfl, rfl, _, rfl, ite2 (fun _ => ?_) (fun c => absurd (decide_eq_true r0) c)⟩
    refine ⟨_, rfl, _, _, rfl, rfl, _, rfl, ite2 (fun c => absurd c (no_not r1)) (fun _ => ?_)⟩
    refine ⟨_, rfl, _, _, rfl, .inl hS, _, _, rfl, rfl, _, rfl, ite2 (fun c => absurd c (no_dec (by omega))) (fun _ => ?_)⟩
    refine ⟨_, rfl, a, xs, rfl, hS, for_enum (K := K) (a := a) (xs := xs) (fun i σ H' => Same H H' ∧ ∃ v3 v4 v5 v6 : Option V, σ = [some (.int many), some (.int root), some (.ref a), v3, v4, v5, v6])
      ⟨same_refl, _, _, _, _, rfl⟩ (fun i σ H' _ ⟨e, _⟩ => e.seq hS) ?_ ?_⟩
    · rintro i x t σ H' hi ⟨e, v3, v4, v5, v6, rfl⟩ ht
      obtain ⟨d, hd, hx⟩ := dpAll_get' hA hi
      obtain ⟨r, hr', rfl⟩ : ∃ r, rows[i]? = some r ∧ d = r.dat := by
        rw [List.getElem?_map] at hd
        cases er : rows[i]? with
        | none => rw [er] at hd; cases hd
        | some r => rw [er] at hd; exact ⟨r, rfl, (Option.some.inj hd).symm⟩
      have rok := hrows r (List.mem_of_getElem? hr')
      obtain ⟨t2, ys, rfl, hT, hY⟩ := dp_tup_inv hx
      have hY' : ys = [.int r.b, .int r.g, .int r.c] := by
        cases hY with
        | cons h1 h2 =>
          cases h1
          cases h2 with
          | cons h1 h2 =>
            cases h1
            cases h2 with
            | cons h1 h2 =>
              cases h1
              cases h2
              rfl
      subst hY'
      have e2 : Same H (upd H' t (.tup [.int (i : Nat), .ref t2])) := e.trans (same_new ht)
      refine ⟨t, _, rfl, .of upd_same, rfl, .int (i : Nat), _, rfl, .ref t2, _, rfl, ⟨t2, _, rfl, sqT_same e2 hT, rfl, _, _, rfl, _, _, rfl, _, _, rfl, rfl, rfl, ?_⟩⟩
      refine ⟨_, rfl, _, rfl, rfl, _, rfl, ite2 (fun c => absurd (V.int.inj (of_decide_eq_true c)) rok.ne) (fun _ => ?_)⟩
      refine ⟨_, rfl, _, _, rfl, rfl, _, rfl, ite2 (fun _ => ?_) (fun c => absurd (decide_eq_true rok.b0) c)⟩
      refine ⟨_, rfl, _, _, rfl, rfl, _, rfl, ite2 (fun c => absurd c (no_not rok.b1)) (fun _ => ?_)⟩
      refine ⟨_, rfl, _, _, rfl, rfl, _, rfl, ite2 (fun _ => ?_) (fun c => absurd (decide_eq_true rok.g0) c)⟩
      refine ⟨_, rfl, _, _, rfl, rfl, _, rfl, ite2 (fun c => absurd c (no_not rok.g1)) (fun _ => ?_)⟩
      refine ⟨_, rfl, _, rfl, _, _, rfl, rok.c0, rok.c1, ?_⟩
      exact ⟨e2, _, _, _, _, rfl⟩
    · rintro σ H' ⟨e, v3, v4, v5, v6, rfl⟩
      exact q H' e
theorem putF1 (n : Int) : putF "_many" (.int n) [] = [(("_many" : Str), V.int n)] := rfl
theorem putF2 (n r : Int) : putF "_root" (.int r) [(("_many" : Str), V.int n)] = [(("_many" : Str), V.int n), ("_root", .int r)] := by
  show (if ("_many" : Str) = "_root" then _ else _) = _
  rw [if_neg ne_root]
  rfl
theorem putF3 (n r : Int) (l : Addr) : putF "_roads" (.ref l) [(("_many" : Str), V.int n), ("_root", .int r)] = mfs n r l := by
  show (if ("_many" : Str) = "_roads" then _ else (("_many" : Str), V.int n) :: (if ("_root" : Str) = "_roads" then _ else _)) = _
  rw [if_neg ne_m_roads, if_neg ne_r_roads]
  rfl
theorem beq_rm : (("_root" : Str) == "_many") = false := by decide +kernel
theorem beq_lm : (("_roads" : Str) == "_many") = false := by decide +kernel
theorem beq_lr : (("_roads" : Str) == "_root") = false := by decide +kernel
theorem look_many (n r : Int) (l : Addr) : (mfs n r l).lookup ("_many" : Str) = some (.int n) := by simp [mfs, List.lookup]
theorem look_root (n r : Int) (l : Addr) : (mfs n r l).lookup ("_root" : Str) = some (.int r) := by simp [mfs, List.lookup, beq_rm]
theorem look_roads (n r : Int) (l : Addr) : (mfs n r l).lookup ("_roads" : Str) = some (.ref l) := by simp [mfs, List.lookup, beq_lm, beq_lr]
theorem look_no (n r : Int) (l : Addr) {m : Str} (h1 : (m == "_many") = false) (h2 : (m == "_root") = false) (h3 : (m == "_roads") = false) : (mfs n r l).lookup m = none := by simp [mfs, List.lookup, h1, h2, h3]
def spInit (K : PySem.W.Frag) (C : Addr) : Sp := fun vs H Q _ => ∃ (p dx : Addr) (many root : Int) (v : V) (rows : List Row), vs = [.ref p, .int many, .int root, v] ∧ H p = some (.ins C dx []) ∧ Dp K H v (rowsDat rows) ∧ ChartOk many root rows ∧
  ∀ (H' : Hp) (l : Addr) (xs : List V), (∀ b o, b ≠ p → H b = some o → H' b = some o) → H l = none → l ≠ p → H' l = some (.lst xs) → DpAll K H xs (rows.map Row.dat) → H' p = some (.ins C dx (mfs many root l)) → Q .non H'
theorem sqL_ins {H : Hp} {a p C C' dx dx' : Addr} {fs fs' : List (Str × V)} {xs : List V} (h : SqL K H a xs) (hp : H p = some (.ins C dx fs)) : SqL K (upd H p (.ins C' dx' fs')) a xs := by
  rcases h with (h | ⟨o, h⟩) | h
  · exact .inl (.inl (by rw [upd_ne (ne_of h hp (by intro z; cases z))]; exact h))
  · exact .inl (.inr ⟨o, by rw [upd_ne (ne_of h hp (by intro z; cases z))]; exact h⟩)
  · exact .inr h
theorem ok_init {f C : Addr} {fd : FuncData} {k : Nat} (F : Fun K "__init__" "Map.__init__" s_Map___init__ f fd) (T : TxtM K mg C) (hC : Has P w K mg base "check_map" ["many", "root", "roads"] k (spCheck K)) :
    FnOk P w K mg base CX0 (k + 1) f fd ["self", "many", "root", "roads"] (spInit K C) := by
  obtain ⟨fC, fdC, gC, kC, bC, GC⟩ := hC
  refine F.ok sc_Map___init__ (fun vs H Q E h => ?_) (fun cdv A outer s H vs Q E hr h => ?_)
  · obtain ⟨p, dx, many, root, v, rows, rfl, _⟩ := h
    rfl
  · obtain ⟨p, dx, many, root, v, rows, rfl, hp, hD, ok, q⟩ := h
    refine ⟨_, (pss_cons (ps_expr (pe_call GC hr (by rfl) gC kC bC .nil pass0 (pa_cons (pv 1) (pa_cons (pv 2) (pa_cons (pv 3) pa_nil)))))
  (pss_cons (ps_fld (pv 0) (pv 1) rfl)
  (pss_cons (ps_fld (pv 0) (pv 2) rfl)
  (pss_one (ps_fld (pv 0) (pe_callTy call_list_of (by rfl) T.list (by decide +kernel) (pa_cons (pv 3) pa_nil)) rfl))))), ?_⟩
    refine ⟨_, rfl, _, rfl, _, rfl, many, root, v, rows, rfl, hD, ok, fun H1 e1 => ?_⟩
    have h1 := e1 _ _ hp
    refine ⟨_, rfl, _, rfl, p, C, dx, _, rfl, h1, T.cl, T.nM, (by show 0 < 1000; decide), ?_⟩
    refine ⟨_, rfl, _, rfl, p, C, dx, _, rfl, upd_same, T.cl, T.nR, (by rw [putF1]; show 1 < 1000; decide), ?_⟩
    rw [upd_upd, putF1, putF2]
    obtain ⟨a, xs, rfl, hS, hA⟩ := dp_list_inv hD
    have hS1 := sqL_ins (e1.seq hS) h1 (C' := C) (dx' := dx) (fs' := [(("_many" : Str), V.int many), ("_root", .int root)])
    refine ⟨_, rfl, a, xs, rfl, .inl hS1, fun l hl => ?_⟩
    have nlp : l ≠ p := fun e => by
      rw [e, upd_same] at hl
      cases hl
    have hl1 : H1 l = none := by
      rw [upd_ne nlp] at hl
      exact hl
    refine ⟨_, rfl, p, C, dx, _, rfl, Eq.trans (upd_ne (Ne.symm nlp)) upd_same, T.cl, T.nL, (by show 2 < 1000; decide), ?_⟩
    rw [putF3]
    refine q _ l xs (fun b o nb e => ?_) (e1.free hl1) nlp (by rw [upd_ne nlp, upd_same]) hA upd_same
    have nbl : b ≠ l := ne_of_none (e1 _ _ e) hl1
    rw [upd_ne nb, upd_ne nbl, upd_ne nb]
    exact e1 _ _ e
end
end Rc
/-! part RcM2 -/
namespace Rc
open PySem PySem.Spec PyProof.Rows L2
def spSize (K : PySem.W.Frag) (C : Addr) : Sp := fun vs H Q _ => ∃ (p : Addr) (n r : Int) (rows : List Row), vs = [.ref p] ∧ MapAt K C H p n r rows ∧ Q (.int n) H
def spBegin (K : PySem.W.Frag) (C : Addr) : Sp := fun vs H Q _ => ∃ (p : Addr) (n r : Int) (rows : List Row), vs = [.ref p] ∧ MapAt K C H p n r rows ∧ Q (.int r) H
def spRoads (K : PySem.W.Frag) (C : Addr) : Sp := fun vs H Q _ => ∃ (p : Addr) (n r : Int) (rows : List Row), vs = [.ref p] ∧ MapAt K C H p n r rows ∧
  ∀ l xs, H l = none → DpAll K H xs (rows.map Row.dat) → Q (.ref l) (upd H l (.lst xs))
/-- the method m of the class keeps the promise -/
def HasM (P : Program) (w : World) (K : PySem.W.Frag) (mg : Str → Option Value) (base : Heap) (C : Addr) (m : Str) (ps : List Str) (k : Nat) (sp : Sp) : Prop :=
  ∃ (f : Addr) (fd : FuncData), Meth K C m f ∧ Binds K fd ps [] ∧ FnOk P w K mg base CX0 k f fd ps sp
/-- the class can be made, by an __init__ with the promise -/
def HasC (P : Program) (w : World) (K : PySem.W.Frag) (mg : Str → Option Value) (base : Heap) (C : Addr) (ps : List Str) (k : Nat) (sp : Sp) : Prop :=
  ∃ (f : Addr) (fd : FuncData), Mk K C f ∧ Binds K fd ps [] ∧ FnOk P w K mg base CX0 k f fd ps sp
theorem no_size : (("size" : Str) == "_many") = false ∧ (("size" : Str) == "_root") = false ∧ (("size" : Str) == "_roads") = false := by decide +kernel
theorem no_begin : (("begin" : Str) == "_many") = false ∧ (("begin" : Str) == "_root") = false ∧ (("begin" : Str) == "_roads") = false := by decide +kernel
theorem no_roads : (("roads" : Str) == "_many") = false ∧ (("roads" : Str) == "_root") = false ∧ (("roads" : Str) == "_roads") = false := by decide +kernel
theorem lk_size {n r : Int} {l : Addr} : (mfs n r l).lookup ("size" : Str) = none := look_no n r l no_size.1 no_size.2.1 no_size.2.2
theorem lk_begin {n r : Int} {l : Addr} : (mfs n r l).lookup ("begin" : Str) = none := look_no n r l no_begin.1 no_begin.2.1 no_begin.2.2
theorem lk_roads {n r : Int} {l : Addr} : (mfs n r l).lookup ("roads" : Str) = none := look_no n r l no_roads.1 no_roads.2.1 no_roads.2.2
theorem row_inv {K : PySem.W.Frag} {H : Hp} {v : V} {r : Row} (h : Dp K H v r.dat) : ∃ t, v = .ref t ∧ SqT K H t [.int r.b, .int r.g, .int r.c] := by
  obtain ⟨t, ys, rfl, hT, hY⟩ := dp_tup_inv h
  refine ⟨t, rfl, ?_⟩
  cases hY with
  | cons h1 h2 =>
    cases h1
    cases h2 with
    | cons h1 h2 =>
      cases h1
      cases h2 with
      | cons h1 h2 =>
        cases h1
        cases h2
        exact hT
theorem rows_get {K : PySem.W.Frag} {H : Hp} {xs : List V} {rows : List Row} {i : Nat} {x : V} (h : DpAll K H xs (rows.map Row.dat)) (e : xs[i]? = some x) : ∃ r, rows[i]? = some r ∧ Dp K H x r.dat := by
  obtain ⟨d, hd, hx⟩ := dpAll_get' h e
  rw [List.getElem?_map] at hd
  cases er : rows[i]? with
  | none => rw [er] at hd; cases hd
  | some r =>
    rw [er] at hd
    exact ⟨r, rfl, (Option.some.inj hd) ▸ hx⟩
theorem rows_at {K : PySem.W.Frag} {H : Hp} {xs : List V} {rows : List Row} {i : Nat} {r : Row} (h : DpAll K H xs (rows.map Row.dat)) (e : rows[i]? = some r) : ∃ t, xs[i]? = some (.ref t) ∧ SqT K H t [.int r.b, .int r.g, .int r.c] := by
  obtain ⟨v, hv, hd⟩ := dpAll_get (i := i) (d := r.dat) h (by rw [List.getElem?_map, e]; rfl)
  obtain ⟨t, rfl, hT⟩ := row_inv hd
  exact ⟨t, hv, hT⟩
theorem ints_get {K : PySem.W.Frag} {H : Hp} {xs : List V} {is : List Int} {i : Nat} {x : V} (h : DpAll K H xs (is.map PyData.int)) (e : xs[i]? = some x) : ∃ n, is[i]? = some n ∧ x = .int n := by
  rw [dpAll_ints_inv h, List.getElem?_map] at e
  cases er : is[i]? with
  | none => rw [er] at e; cases e
  | some r =>
    rw [er] at e
    exact ⟨r, rfl, (Option.some.inj e).symm⟩
/-- what some roads cost together -/
def costOf (rows : List Row) (is : List Int) : Int := (is.map fun i => (rows[i.toNat]?.map Row.c).getD 0).sum
def RoadsOk (rows : List Row) (is : List Int) : Prop := ∀ i ∈ is, 0 ≤ i ∧ i < (rows.length : Int)
def spCostOf (K : PySem.W.Frag) (C : Addr) : Sp := fun vs H Q _ => ∃ (p : Addr) (n r : Int) (rows : List Row) (v : V) (is : List Int), vs = [.ref p, v] ∧ MapAt K C H p n r rows ∧ Dp K H v (.list (is.map .int)) ∧ RoadsOk rows is ∧ is.length ≤ 1000 ∧
  ∀ H', Same H H' → Q (.int (costOf rows is)) H'
theorem take_succ {α : Type} {l : List α} {i : Nat} {x : α} (h : l[i]? = some x) : l.take (i + 1) = l.take i ++ [x] := by
  rw [List.take_add_one, h]
  rfl
section
variable {P : Program} {w : World} {K : PySem.W.Frag} {mg : Str → Option Value} {base : Heap}
theorem ok_size {f C : Addr} {fd : FuncData} {k : Nat} (F : Fun K "size" "Map.size" s_Map_size f fd) (T : TxtM K mg C) : FnOk P w K mg base CX0 (k + 1) f fd ["self"] (spSize K C) := by
  refine F.ok sc_Map_size (fun vs H Q E h => ?_) (fun cdv A outer s H vs Q E hr h => ?_)
  · obtain ⟨p, n, r, rows, rfl, _⟩ := h
    rfl
  · obtain ⟨p, n, r, rows, rfl, ⟨dx, l, hp, hD⟩, q⟩ := h
    exact ⟨_, pss_one (ps_ret (pe_fld (pv 0) rfl)), _, rfl, p, C, dx, _, _, rfl, hp, T.cl, T.nM, look_many _ _ _, q⟩
theorem ok_begin {f C : Addr} {fd : FuncData} {k : Nat} (F : Fun K "begin" "Map.begin" s_Map_begin f fd) (T : TxtM K mg C) : FnOk P w K mg base CX0 (k + 1) f fd ["self"] (spBegin K C) := by
  refine F.ok sc_Map_begin (fun vs H Q E h => ?_) (fun cdv A outer s H vs Q E hr h => ?_)
  · obtain ⟨p, n, r, rows, rfl, _⟩ := h
    rfl
  · obtain ⟨p, n, r, rows, rfl, ⟨dx, l, hp, hD⟩, q⟩ := h
    exact ⟨_, pss_one (ps_ret (pe_fld (pv 0) rfl)), _, rfl, p, C, dx, _, _, rfl, hp, T.cl, T.nR, look_root _ _ _, q⟩
theorem ok_roads {f C : Addr} {fd : FuncData} {k : Nat} (F : Fun K "roads" "Map.roads" s_Map_roads f fd) (T : TxtM K mg C) : FnOk P w K mg base CX0 (k + 1) f fd ["self"] (spRoads K C) := by
  refine F.ok sc_Map_roads (fun vs H Q E h => ?_) (fun cdv A outer s H vs Q E hr h => ?_)
  · obtain ⟨p, n, r, rows, rfl, _⟩ := h
    rfl
  · obtain ⟨p, n, r, rows, rfl, ⟨dx, l, hp, hD⟩, q⟩ := h
    obtain ⟨a, xs, e, hS, hA⟩ := dp_list_inv hD
    cases e
    exact ⟨_, pss_one (ps_ret (pe_callTy call_list_of (by rfl) T.list (by decide +kernel) (pa_cons (pe_fld (pv 0) rfl) pa_nil))), _, rfl, p, C, dx, _, _, rfl, hp, T.cl, T.nL, look_roads _ _ _, l, xs, rfl, .inl hS, fun l2 hl => q l2 xs hl hA⟩
theorem ok_cost_of {f C : Addr} {fd : FuncData} {k : Nat} (F : Fun K "cost_of" "cost_of" s_cost_of f fd) (T : TxtM K mg C) (sm : mg "sum" = none) (hR : HasM P w K mg base C "roads" ["self"] k (spRoads K C)) :
    FnOk P w K mg base CX0 (k + 1) f fd ["chart", "roads"] (spCostOf K C) := by
  obtain ⟨fR, fdR, mR, bR, GR⟩ := hR
  refine F.ok sc_cost_of (fun vs H Q E h => ?_) (fun cdv A outer s H vs Q E hr h => ?_)
  · obtain ⟨p, n, r, rows, v, is, rfl, _⟩ := h
    rfl
  · obtain ⟨p, n, r, rows, v, is, rfl, hM, hV, hok, hlen, q⟩ := h
    refine ⟨_, (pss_cons (ps_set (i := 2) sc_cost_of.nd rfl (Or.inr rfl) (pe_meth0 (pv 0) T.cl mR GR hr bR .nil pass0))
  (pss_one (ps_ret (pe_callB (cr_sum rfl) (by rfl) sm (by decide +kernel) (pa_cons (pe_lc (own := [("road", 3)]) (g := gName 3) (tt := tYes) rfl sc_cost_of.nd (pi_list (pv 1)) (blkOk_by (N := N_cost_of) (sc := defScope s_cost_of) (by decide +kernel)) (fun _ _ _ _ _ => (pg_name (i := 3) sc_cost_of.nd rfl (Or.inl rfl))) (fun _ _ _ _ _ => pts_nil) (fun _ _ _ _ _ => (pe_ix (r := rIxT K) ix_tup (pe_ix (r := rIxL K) ix_list (pv 2) (pv 3) (fun _ _ => rfl)) pe_int (fun _ _ => rfl)))) pa_nil))))), ?_⟩
    obtain ⟨dx, l0, hp, hD⟩ := id hM
    obtain ⟨a, vs, rfl, hS, hA⟩ := dp_list_inv hV
    refine ⟨_, rfl, p, dx, _, rfl, hp, lk_roads, p, n, r, rows, rfl, hM, fun l xs hl hX => ?_⟩
    have s1 : Same H (upd H l (.lst xs)) := same_new hl
    refine ⟨_, rfl, a, rfl, ⟨_, s1.seq hS⟩, fun D hD => lc_list (K := K) (a := a) (xs := vs)
      (fun i H' => Same (upd H l (.lst xs)) H' ∧ H' D = some (.lst ((is.take i).map fun j => V.int ((rows[j.toNat]?.map Row.c).getD 0)))) ⟨same_new hD, upd_same⟩ (fun i H' _ e => (s1.trans e.1).seq hS) ?_ ?_⟩
    · rintro i x H' hi ⟨e, eD⟩
      obtain ⟨j, hj, rfl⟩ := ints_get hA hi
      obtain ⟨j0, j1⟩ := hok j (List.mem_of_getElem? hj)
      obtain ⟨m, rfl⟩ : ∃ m : Nat, j = (m : Int) := ⟨j.toNat, by omega⟩
      have hm : m < rows.length := by omega
      obtain ⟨t, ht, hT⟩ := rows_at hX (List.getElem?_eq_getElem hm)
      refine ⟨rfl, ?_⟩
      refine ⟨_, rfl, _, rfl, l, xs, _, _, rfl, rfl, e.seq (SqL.of upd_same), atI_nat ht, t, _, _, .int rows[m].c, rfl, rfl, sqT_same (s1.trans e) hT, atI_nat (j := 2) rfl, ?_⟩
      refine ⟨_, eD, ?_, same_mut e hD, ?_⟩
      · rw [List.length_map, List.length_take]
        exact small_lt (by omega)
      · rw [upd_same, take_succ hj, List.map_append]
        simp [hm]
    · rintro H' ⟨e, eD⟩
      have hl2 : vs.length = is.length := by rw [dpAll_len hA, List.length_map]
      refine ⟨D, is.map (fun j : Int => (rows[j.toNat]?.map Row.c).getD 0), rfl, ?_, q H' (s1.trans e)⟩
      refine .of ?_
      rw [eD, hl2, List.take_length, List.map_map]
      rfl
end
end Rc
/-! part RcHx -/
/-! Promises at a higher level; facts of exceptions by a Bool. -/
namespace Rc
open PySem PySem.Spec PyProof.Rows L2 L2H
section
variable {P : Program} {w : World} {K : PySem.W.Frag} {mg : Str → Option Value} {base : Heap} {x m : Str} {ps : List Str} {j k : Nat} {sp sp' : Sp} {C : Addr}
theorem Has.up (h : Has P w K mg base x ps j sp) (e : j ≤ k) : Has P w K mg base x ps k sp := by
  obtain ⟨f, fd, h1, h2, h3, h4⟩ := h
  exact ⟨f, fd, h1, h2, h3, FnOk.mono h4 e⟩
theorem HasN.up (h : HasN P w K mg base x ps j sp) (e : j ≤ k) : HasN P w K mg base x ps k sp := by
  obtain ⟨f, fd, h1, h2, h3, h4⟩ := h
  exact ⟨f, fd, h1, h2, h3, FnOk.mono h4 e⟩
theorem HasN.imp (h : HasN P w K mg base x ps k sp) (i : ∀ vs H Q E, sp' vs H Q E → sp vs H Q E) : HasN P w K mg base x ps k sp' := by
  obtain ⟨f, fd, h1, h2, h3, h4⟩ := h
  exact ⟨f, fd, h1, h2, h3, h4.imp i⟩
theorem Has.imp (h : Has P w K mg base x ps k sp) (i : ∀ vs H Q E, sp' vs H Q E → sp vs H Q E) : Has P w K mg base x ps k sp' := by
  obtain ⟨f, fd, h1, h2, h3, h4⟩ := h
  exact ⟨f, fd, h1, h2, h3, h4.imp i⟩
theorem HasC.up (h : HasC P w K mg base C ps j sp) (e : j ≤ k) : HasC P w K mg base C ps k sp := by
  obtain ⟨f, fd, h1, h2, h3⟩ := h
  exact ⟨f, fd, h1, h2, FnOk.mono h3 e⟩
theorem HasM.up (h : HasM P w K mg base C m ps j sp) (e : j ≤ k) : HasM P w K mg base C m ps k sp := by
  obtain ⟨f, fd, h1, h2, h3⟩ := h
  exact ⟨f, fd, h1, h2, FnOk.mono h3 e⟩
end
def excB (K : PySem.W.Frag) (D : Addr) : Bool := decide (PySem.W.findIn K (.ref D) "__getattribute__" = some (some (.builtin "BaseException.__getattribute__"))) && (decide (PySem.W.findIn K (.ref D) "__getattr__" = some none) && (decide (PySem.W.subIn K (.ref D) (.type "BaseException") = some true) &&
  (PySem.W.hasDictIn K D && (decide (PySem.W.findIn K (.ref D) "__class__" = some (some (.builtin "object.__class__"))) && (decide (PySem.W.specialIn K (.builtin "object.__class__") "__get__" = some (some (.builtin "getset_descriptor.__get__"))) &&
  (decide (PySem.W.takesIn K (.builtin "object.__class__") = some true) && decide (PySem.W.mroIn K D (.type "object") = some true)))))))
theorem excB_ok {K : PySem.W.Frag} {D : Addr} (h : excB K D = true) : ExcC K D := by
  unfold excB at h
  simp only [Bool.and_eq_true, decide_eq_true_eq] at h
  obtain ⟨h1, h2, h3, h4, h5, h6, h7, h8⟩ := h
  exact ⟨h1, h2, h3, h4, h5, h6, h7, h8⟩
def kitB2 (K : PySem.W.Frag) (D : Addr) (c : Value) (b : Bool) : Bool := decide (PySem.W.kitOne K (.ref D) c = some b)
theorem kitB2_ok {K : PySem.W.Frag} {D : Addr} {c : Value} {b : Bool} (h : kitB2 K D c b = true) : PySem.W.kitOne K (.ref D) c = some b := of_decide_eq_true h
end Rc
/-! part RcH0 -/
/-! The head: what stands behind the top, told by names. -/
namespace Rc
open PySem PySem.Spec PyProof.Rows L2
def defD (x q : Str) (o : Option Str) (st : Stmt) : He.DefD := ⟨(match o with | none => (q, none) | some c => (c, some x)), x, q, defArgs st, defBody st, defScope st, [], []⟩
def fnL : List He.DefD := [
  defD "__init__" "NoTree.__init__" (some "NoTree") s_NoTree___init__,
  defD "__init__" "Map.__init__" (some "Map") s_Map___init__,
  defD "size" "Map.size" (some "Map") s_Map_size,
  defD "begin" "Map.begin" (some "Map") s_Map_begin,
  defD "roads" "Map.roads" (some "Map") s_Map_roads,
  defD "roads_by_number" "roads_by_number" none s_roads_by_number,
  defD "check_map" "check_map" none s_check_map,
  defD "check_cost" "check_cost" none s_check_cost,
  defD "left_out" "left_out" none s_left_out,
  defD "is_tree" "is_tree" none s_is_tree,
  defD "cost_of" "cost_of" none s_cost_of,
  defD "cheapest" "cheapest" none s_cheapest,
  defD "cheapest_among" "cheapest_among" none s_cheapest_among,
  defD "pay_roads" "pay_roads" none s_pay_roads,
  defD "roads_into" "roads_into" none s_roads_into,
  defD "rank" "rank" none s_rank,
  defD "path_with" "path_with" none s_path_with,
  defD "pay" "pay" none s_pay,
  defD "tree_paid" "tree_paid" none s_tree_paid,
  defD "without" "without" none s_without,
  defD "with_no_other" "with_no_other" none s_with_no_other,
  defD "first_among" "first_among" none s_first_among,
  defD "least_among" "least_among" none s_least_among,
  defD "least_with" "least_with" none s_least_with,
  defD "least_without" "least_without" none s_least_without,
  defD "best" "best" none s_best,
  defD "parts_beside" "parts_beside" none s_parts_beside,
  defD "margin" "margin" none s_margin,
  defD "how_much_more" "how_much_more" none s_how_much_more,
  defD "how_many" "how_many" none s_how_many,
  defD "table_of_roads" "table_of_roads" none s_table_of_roads,
  defD "determinant" "determinant" none s_determinant,
  defD "_law_dice" "_law_dice" none s_dice,
  defD "_law_next" "_law_next" none s_next,
  defD "_law_whole" "_law_whole" none s_whole,
  defD "_law_cost" "_law_cost" none s_cost,
  defD "_law_map" "_law_map" none s_map,
  defD "_law_wide" "_law_wide" none s_wide,
  defD "law" "law" none s_law]
def faL : List He.Fa := [
  .glo "roads_by_number", .glo "check_map", .glo "check_cost", .glo "left_out", .glo "is_tree", .glo "cost_of", .glo "cheapest", .glo "cheapest_among", .glo "pay_roads", .glo "roads_into", .glo "rank", .glo "path_with", .glo "pay", .glo "tree_paid", .glo "without", .glo "with_no_other", .glo "first_among", .glo "least_among", .glo "least_with", .glo "least_without", .glo "best", .glo "parts_beside", .glo "margin", .glo "how_much_more", .glo "how_many", .glo "table_of_roads", .glo "determinant", .glo "_law_dice", .glo "_law_next", .glo "_law_whole", .glo "_law_cost", .glo "_law_map", .glo "_law_wide", .glo "law", .glo "BadMap", .glo "Map", .glo "NoTree", .glo "NoRoad", .glo "RootError", .free "len", .free "int", .free "range", .free "isinstance", .free "str", .free "tuple", .free "list", .free "bool", .free "enumerate", .free "sum", .free "sorted", .free "any", .free "all", .free "min", .free "dict", .free "reversed", .free "ValueError", .int "MOST_PLACES" 20, .int "MOST_ROADS" 60, .int "MOST_COST" 1000000000, .cls "Map", .noat "Map" "_many", .noat "Map" "_root", .noat "Map" "_roads", .meth "Map" "size", .meth "Map" "begin", .meth "Map" "roads", .mkr "Map", .noat "NoTree" "left", .meth "NoTree" "__init__", .exm "NoTree" "NoTree" true, .exc "NoRoad", .exm "NoRoad" "RootError" true, .exm "NoTree" "RootError" true]
def tfL : List He.Defn := [("pay", none), ("tree_paid", none), ("is_tree", none)]
def exL (K : PySem.W.Frag) : Bool := oexB K (He.ga K "NoTree") && (iniB K (He.ga K "RootError") && (decide (PySem.W.nsIn K mainGlobals "heappop" = some (some (.builtin "_heapq.heappop"))) && (decide (PySem.W.nsIn K mainGlobals "heappush" = some (some (.builtin "_heapq.heappush"))) && (decide ((He.cT K ("pay", none)).2 ≠ (He.cT K ("tree_paid", none)).2) && (decide ((He.cT K ("pay", none)).2 ≠ (He.cT K ("is_tree", none)).2) && (decide ((He.cT K ("tree_paid", none)).2 ≠ (He.cT K ("is_tree", none)).2)))))))
abbrev Rw : PySem.W.OpenRow := PySem.W.OpenLaw.row PySem.Challenge.rw_rootcheap_k06_whole_order_on_great_maps
/-! the hook: what the module's names reach, and the class statics; the empty tables apart -/
def reach (g : Addr → Option Obj) : List Addr := cStatics :: He.asD g 5
abbrev AlZ : Type := He.AlD × Bool
def obsZ (g : Addr → Option Obj) : AlZ := (He.obsD faL fnL (He.frT g (reach g)), exL (He.frT g (reach g)) && He.tabsB g tfL (He.frT g (reach g)))
structure SaysZ (h : Heap) (K : PySem.W.Frag) : Prop where
  d : He.SaysD faL fnL K
  more : exL K = true
  tabs : ∀ p ∈ tfL, PySem.W.codeHdIn K (He.cT K p).1 (He.cT K p).2 = true ∧ K.lookup (He.cT K p).2 = none ∧ h.get? (He.cT K p).2 = some { cls := .none, data := .fields #[] }
theorem saysZ_of {h : Heap} (e : obsZ h.get? = (He.valD fnL, true)) : SaysZ h (He.frT h.get? (reach h.get?)) := by
  have e2 : (exL (He.frT h.get? (reach h.get?)) && He.tabsB h.get? tfL (He.frT h.get? (reach h.get?))) = true := congrArg Prod.snd e
  have e3 := (Bool.and_eq_true_iff.mp e2).2
  refine ⟨congrArg Prod.fst e, (Bool.and_eq_true_iff.mp e2).1, fun p hp => ?_⟩
  have e4 := Bool.and_eq_true_iff.mp (List.all_eq_true.mp e3 p hp)
  refine ⟨e4.1, ?_⟩
  have e5 := e4.2
  split at e5
  · rename_i o q
    exact ⟨He.frT_none q e5, by rw [q, He.emptyTab_eq e5]⟩
  · exact absurd e5 Bool.false_ne_true
def hk : PySem.W.Hook where
  α := AlZ
  obs := fun s => obsZ s.heap.get?
  val := fun _ => (He.valD fnL, true)
  says := fun _ h => ∃ K : PySem.W.Frag, K.In h ∧ SaysZ h K
  of := fun _ _ e => ⟨_, He.frT_in, saysZ_of e⟩
  keeps := fun _ _ _ ⟨K, hK, c⟩ k => ⟨K, PySem.W.Frag.In.keeps hK k, c.d, c.more, fun p hp => ⟨(c.tabs p hp).1, (c.tabs p hp).2.1, k _ _ (c.tabs p hp).2.2⟩⟩
def ob (s : PySem.W.SharedT) : AlZ := obsZ (HandSHeadRun.getT s)
theorem ob_eq (s : PySem.W.SharedT) : ob s = hk.obs s.abs := by
  have e : HandSHeadRun.getT s = s.abs.heap.get? := funext (HandSHeadRun.getT_eq s)
  unfold ob
  rw [e]
  rfl
def names : List PySem.Str := (["heappop", "heappush", "RootError", "BadMap", "NoTree", "NoRoad", "MOST_PLACES", "MOST_ROADS", "MOST_COST", "Map", "roads_by_number", "check_map", "check_cost", "left_out", "is_tree", "cost_of", "cheapest", "cheapest_among", "pay_roads", "roads_into", "rank", "path_with", "pay", "tree_paid", "without", "with_no_other", "first_among", "least_among", "least_with", "least_without"] : List PySem.Str) ++ (["best", "parts_beside", "margin", "how_much_more", "how_many", "table_of_roads", "determinant", "_law_dice", "_law_next", "_law_whole", "_law_cost", "_law_map", "_law_wide"] : List PySem.Str)
theorem run (w : World) : HandSHeadRun.RunEqI Rw (PySem.W.view Rw.prog [0, 49]) hk ob 6000 names w := by
  unfold HandSHeadRun.RunEqI
  kernel_rfl
end Rc
/-! part RcHt1 -/
/-! While an exception is handled: walks over lists and tuples, list comprehensions over any walk, with the readings of the rules for calm defs. -/
namespace Rc
open PySem PySem.Spec PyProof.Rows L2 L2H HotX
/-- a block's context that keeps what its def has pinned -/
abbrev blkH (X : Cx) (s : Shared) (H : Hp) (scope : Scope) (cenv : Env) (fp : List Addr) : Cx := { X.blk s H scope cenv fp with pn := X.pn }
theorem inv_pn {X : Cx} {pn' pins pins' : List (Addr × Obj)} {σ : L2.St} {H : Hp} {s : Shared} (I : Inv X pins σ H s) (h : ∀ p ∈ pn' ++ pins', s.heap.get? p.1 = some p.2 ∧ H p.1 = none ∧ p.1 ≠ X.env.locals ∧ p.1 ∉ X.fs ∧ ∀ v, p.2.data ≠ .cell v) : Inv { X with pn := pn' } pins' σ H s :=
  ⟨⟨I.ok.mod, I.ok.kind, I.ok.glob, I.ok.blt, I.ok.above, I.ok.inj, I.ok.has, I.ok.cab, I.ok.hd, I.ok.frames, I.ok.stk, I.ok.exf, I.ok.bs, I.ok.bsz, I.ok.noex, I.ok.exfs, I.ok.funs, I.ok.frf⟩, I.os, I.bare, I.base, I.loc, I.cell, I.free, I.freeC, h, I.hok, I.len⟩
theorem turn_listH {P : Program} {w : World} {K : PySem.W.Frag} {tg : Expr} (a it : Addr) : TurnH P w K tg (Itl K a) [it] it (fun i h => h.IsListIter it a i) where
  mem := List.mem_singleton.mpr rfl
  obj := fun i h st b hb => by
    rw [List.mem_singleton.mp hb]
    obtain ⟨o, e, _, d⟩ := st
    exact ⟨o, e, fun v z => by rw [d] at z; cases z⟩
  keep := fun i h h' st k => st.at fun o e => k it (List.mem_singleton.mpr rfl) o e
  item := by
    rintro X rfl rfl rfl hc i pins s σ H E I hf st ⟨xs, x, hq, hx⟩
    obtain ⟨its, rv, p, hz⟩ := I.list hq
    obtain ⟨u, hu, ru⟩ := rv.get hx
    obtain ⟨f0, f1, f2, f3, f4, f5⟩ := hf it (List.mem_singleton.mpr rfl)
    refine wpAny_pyNext_list_item st p.isList (x := u) (by simpa using hu) fun h' st' sb => ?_
    have I1 := I.turned (t' := s.toks) (fun b o hb e => (sb.2 b hb).trans e) f0 f1 f3 f4 f5
    obtain ⟨o, e, c, d⟩ := id st'
    exact ⟨u, rfl, go_of (s := { s with heap := h' }) e c d (by decide) ⟨x, H, I1, ru, ⟨rfl, fun ys hy => by rw [I.list_inj hy hq]; exact hx⟩, st', fun b hb => (hf b hb).1⟩⟩
  done := by
    rintro X rfl rfl rfl hc i pins s σ H E I hf st ⟨xs, hq, hx⟩
    obtain ⟨its, rv, p, hz⟩ := I.list hq
    obtain ⟨f0, f1, f2, f3, f4, f5⟩ := hf it (List.mem_singleton.mpr rfl)
    have hl := rv.length
    obtain ⟨q0, ⟨hh, v1, e1, c1⟩, hpn⟩ := hc
    exact list_end_hot (x1 := q0.1) ⟨hh, q0.2, v1, (I.pin q0 (List.mem_append_left _ hpn)).1, e1, c1⟩ st p.isList (by simp; omega) (f5 q0 (List.mem_append_left _ hpn)) fun h' kb => ⟨rfl, I.turned (t' := s.toks) (fun b o hb e => kb b o hb e) f0 f1 f3 f4 f5⟩
  self := fun _ _ _ _ _ st h => wpAny_pyIter_listiter st h
section
variable {X : Cx}
theorem pi_listH {tg l : Expr} {tl : TE} (hl : PE X l tl) : PIH X tg l (iList X.K tl) := by
  refine ⟨fun pins s σ H R I h => thn (hl.run pins s σ H _ I h) fun v s1 ⟨x, H1, I1, r1, a, e, ⟨xs, hq⟩, q⟩ => ?_⟩
  subst e
  cases r1
  obtain ⟨its, rv, p, hz⟩ := I1.list hq
  refine wpAny_pyIter_list p.isList ⟨s1.heap.objs.size, [s1.heap.objs.size], _, _, H1, rfl, I1.kept (t' := s1.toks) fun b o e => Heap.get?_push_of_some _ e, turn_listH a _, ⟨_, Heap.get?_push_size _ rfl, rfl, rfl⟩, fun b hb => ?_, q⟩
  rw [List.mem_singleton.mp hb]
  exact I1.fpOk (Nat.le_refl _) (I1.hok.fresh (Nat.le_refl _))
/-- the walk of [elt for tg in iter if ..] while an exception is handled -/
theorem lcG_core {pins : List (Addr × Obj)} {s : Shared} {σ : L2.St} {H : Hp} {Q : VK} {elt tg iter : Expr} {ifs : List Expr} {scope : Scope} {own : List (Str × Nat)} {pos pos' : Pos} {wi : TI} {g : TG} {tt : TT} {te : TE} {use : Option (Value → Sem Unit)} {Qf : Value → Shared → Prop}
    (hot : HotC X) (hN : X.N.Nodup) (I : Inv X pins σ H s) (hi : PIH X tg iter wi) (ok : BlkOk X.N X.env.scope scope own)
    (hg : ∀ (s : Shared) (H : Hp) (C : Addr) (cl : List (Str × Addr)) (fp : List Addr), PG (blkH X s H scope (compEnvC scope cl C X.env) fp) tg g) (ht : ∀ (s : Shared) (H : Hp) (C : Addr) (cl : List (Str × Addr)) (fp : List Addr), PTs (blkH X s H scope (compEnvC scope cl C X.env) fp) ifs tt)
    (he : ∀ (s : Shared) (H : Hp) (C : Addr) (cl : List (Str × Addr)) (fp : List Addr), PE (blkH X s H scope (compEnvC scope cl C X.env) fp) elt te) (hs : ∀ x, foldedSetIterable iter X.env x = pure x)
    (h : tLc wi g tt te (own.map (·.2)) σ H Q)
    (hRR : ∀ D C s' m H', Inv X pins σ H' s' → Q (.ref D) H' → s'.heap.Ns C m → FpOk X pins H' C → compPost (model X.prog X.w) X.A X.xe use Qf (.ref D) C (.ok .next) s') :
    wpAny (model X.prog X.w) X.A (comprehension (.ListComp elt [⟨tg, iter, ifs, 0⟩] scope pos) scope X.env pos' (newList []) false (eval iter X.env) use) Qf X.xe s := by
  have fr : ∀ y ∈ scope.names, y.2 = .free → ∃ c, X.env.cells.lookup y.1 = some c := fun y hy e => (ok.free y hy e).elim (fun k => I.ok.has _ (.inl k)) fun k => I.ok.has _ (.inr k)
  refine wpAny_comprehension_free (use := use) rfl hs (closure_ok fr) ok.kind (fun y hy e => by rw [ok.uniq y hy, e]) (thn (hi.run pins s σ H _ I h) fun xv s1 hx => thn hx fun itv s2 h2 => ?_)
  obtain ⟨it, fp, tn, J, H2, e, I2, T, st2, f2, q⟩ := h2
  subst e
  refine wpAny_newObj_type (newEnv_comp ?_) (by show 0 ≤ sizeLine; decide)
  generalize hDe : s2.heap.objs.size = D
  have hDn : H2 D = none := I2.hok.fresh (Nat.le_of_eq hDe)
  obtain ⟨W, ⟨m0, w0⟩, turn⟩ := q D hDn
  generalize hs3 : ({ s2 with heap := s2.heap.push { cls := .type "list", data := .seq ([] : List Value).toArray } } : Shared) = s3
  have h3 : s3.heap = s2.heap.push { cls := .type "list", data := .seq ([] : List Value).toArray } := by rw [← hs3]
  have I3 : Inv X pins σ (upd H2 D (.lst [])) s3 := by
    rw [← hs3]
    refine I2.laid (t' := s2.toks) (fun b o e => Heap.get?_push_of_some _ e) (Nat.le_of_eq hDe) ⟨Nat.zero_le _, [], 0, .nil, ?_⟩
    rw [← hDe]
    exact Heap.get?_push_size _ rfl
  have lt2 : ∀ b ∈ fp, b < s2.heap.objs.size := fun b hb => by
    obtain ⟨o, e, _⟩ := T.obj _ _ st2 b hb
    exact Heap.lt_size e
  have f3 : ∀ b ∈ fp, FpOk X pins (upd H2 D (.lst [])) b ∧ b < s3.heap.objs.size := fun b hb => by
    have l := lt2 b hb
    exact ⟨⟨by rw [upd_ne (by rw [← hDe]; exact Nat.ne_of_lt l)]; exact (f2 b hb).1, (f2 b hb).2⟩, by rw [h3, Heap.size_push]; exact Nat.lt_succ_of_lt l⟩
  have st3 : tn 0 s3.heap := T.keep _ _ _ st2 fun b _ o e => by rw [h3]; exact Heap.get?_push_of_some _ e
  have B4 := block_start I3 ok hN f3
  -- what is pinned stays pinned in the block
  have P3 : ∀ p ∈ X.pn, s3.heap.get? p.1 = some p.2 ∧ (upd H2 D (.lst [])) p.1 = none ∧ p.1 ∉ frs X.stack ∧ (∀ v, p.2.data ≠ .cell v) ∧ p.1 < s3.heap.objs.size := fun p hp => by
    obtain ⟨g1, g2, g3, g4, g5⟩ := I3.pin p (List.mem_append_left _ hp)
    exact ⟨g1, g2, fun hm => (List.mem_cons.mp (I3.stkSub p.1 hm)).elim g3 g4, g5, Heap.lt_size g1⟩
  have pg := hg s3 (upd H2 D (.lst [])) s3.heap.objs.size (cellsFrom (s3.heap.objs.size + 1) scope.names (cloFrom X.env.cells scope.names [])) fp
  have pt := ht s3 (upd H2 D (.lst [])) s3.heap.objs.size (cellsFrom (s3.heap.objs.size + 1) scope.names (cloFrom X.env.cells scope.names [])) fp
  have pe := he s3 (upd H2 D (.lst [])) s3.heap.objs.size (cellsFrom (s3.heap.objs.size + 1) scope.names (cloFrom X.env.cells scope.names [])) fp
  show codeAny _ _ (.compStart (.ListComp elt [⟨tg, iter, ifs, 0⟩] scope pos) 0 (.ref it) (.ref D) (compEnvC scope (cellsFrom (s3.heap.objs.size + 1) scope.names (cloFrom X.env.cells scope.names [])) s3.heap.objs.size X.env)) _ { s3 with heap := pushCells (s3.heap.push { cls := .type "dict", data := .dict #[] }) scope.names }
  generalize hce : compEnvC scope (cellsFrom (s3.heap.objs.size + 1) scope.names (cloFrom X.env.cells scope.names [])) s3.heap.objs.size X.env = ce at B4 pg pt pe ⊢
  have cL : ce.locals = s3.heap.objs.size := by subst hce; rfl
  have nfp : ∀ b ∈ fp, (upd H2 D (.lst [])) b = none := fun b hb => (f3 b hb).1.1
  generalize hH3 : upd H2 D (.lst []) = H3 at I3 B4 pg pt pe w0 f3 P3 nfp
  generalize hs4 : ({ s3 with heap := pushCells (s3.heap.push { cls := .type "dict", data := .dict #[] }) scope.names } : Shared) = s4 at B4 ⊢
  have st4 : tn 0 s4.heap := T.keep _ _ _ st3 fun b _ o e => by rw [← hs4]; exact pushCells_keeps _ _ _ _ (Heap.get?_push_of_some _ e)
  have I4 : Inv (blkH X s3 H3 scope ce fp) [] (wipe σ (own.map (·.2))) H3 s4 := inv_pn B4 fun p hp => by
    rw [List.append_nil] at hp
    obtain ⟨g1, g2, g3, g4, g5⟩ := P3 p hp
    refine ⟨by rw [← hs4]; exact pushCells_keeps _ _ _ _ (Heap.get?_push_of_some _ g1), g2, ?_, g3, g4⟩
    show p.1 ≠ ce.locals
    rw [cL]
    exact Nat.ne_of_lt g5
  have stat : ∀ {σ' : L2.St} {H' : Hp} {s' : Shared}, Inv (blkH X s3 H3 scope ce fp) [] σ' H' s' → (∀ b ∈ fp, H' b = none) → ∀ b ∈ fp, FpOk (blkH X s3 H3 scope ce fp) [] H' b := fun {σ' H' s'} I' hn b hb =>
    ⟨hn b hb, (I'.ok.exf b hb).1, I'.ok.exfs b hb, .inl hb, fun x c e => (I'.ok.exf b hb).2 x c e, fun p hp => (f3 b hb).1.2.2.2.2.2 p (List.mem_append_left _ (by rw [List.append_nil] at hp; exact hp))⟩
  have loop : ∀ R : Result → Shared → Prop, (∀ s' H', Inv X pins σ H' s' → Q (.ref D) H' → (∃ m, s'.heap.Ns s3.heap.objs.size m) → FpOk X pins H' s3.heap.objs.size → R (.ok .next) s') →
      codeAny (model X.prog X.w) X.A (.compLoop (.ListComp elt [⟨tg, iter, ifs, 0⟩] scope pos) 0 (.ref it) (.ref D) ce) R s4 := by
    intro R hR
    refine compLoop_any (fun n s' => ∃ i H', Inv (blkH X s3 H3 scope ce fp) [] (wipe σ (own.map (·.2))) H' s' ∧ tn i s'.heap ∧ (∀ b ∈ fp, H' b = none) ∧ W i n H') ?_ m0 ⟨0, H3, I4, st4, nfp, w0⟩
    rintro n s5 ⟨i, H5, I5, st5, n5, w5⟩
    rcases turn i n H5 w5 with ⟨stop, qq⟩ | ⟨go, Nx, hNx, step⟩
    · refine thnF (T.done (blkH X s3 H3 scope ce fp) rfl rfl rfl hot i [] s5 _ H5 (fun _ _ => False) I5 (stat I5 n5) st5 stop) fun r s6 ⟨hr, I6⟩ => ?_
      subst hr
      have I7 : Inv X pins σ H5 s6 := I3.call' (ch := fp) I6.os I6.base I6.hok I6.bare fun b hb => ⟨(f3 b hb).1.2.2.2.1, (f3 b hb).1.2.1, (f3 b hb).1.2.2.2.2.1, (f3 b hb).1.2.2.2.2.2⟩
      have nC : H5 s3.heap.objs.size = none := by
        have z : H5 ce.locals = none := I6.free
        rw [cL] at z
        exact z
      obtain ⟨m, hn, _⟩ := I6.loc
      refine hR _ H5 I7 qq ⟨m, ?_⟩ (I3.fpOk (Nat.le_refl _) nC)
      have hn2 : s6.heap.Ns ce.locals m := hn
      rw [cL] at hn2
      exact hn2
    · refine thnF (T.item (blkH X s3 H3 scope ce fp) rfl rfl rfl hot i [] s5 _ H5 (fun _ _ => False) I5 (stat I5 n5) st5 go) fun r s6 ⟨u, hr, h6⟩ => ?_
      subst hr
      refine thnF h6 fun _ s7 ⟨x, H7, I7, r7, y7, st7, n7⟩ => ?_
      refine thnF (pg.run _ s7 _ H7 x u _ (I7.pinned (stat I7 n7) (T.obj _ _ st7)) r7 (step x H7 y7)) fun _ s8 ⟨σ8, H8, I8, hw8, q8⟩ => ?_
      refine thnF (pt.run _ s8 σ8 H8 _ I8 q8) fun b s9 ⟨H9, I9, q9⟩ => ?_
      have fin : ∀ {s' : Shared} {H' : Hp}, Inv (blkH X s3 H3 scope ce fp) ([] ++ pinsAt fp s7.heap) σ8 H' s' → Nx H' → ∃ m, m < n ∧ ∃ i H', Inv (blkH X s3 H3 scope ce fp) [] (wipe σ (own.map (·.2))) H' s' ∧ tn i s'.heap ∧ (∀ b ∈ fp, H' b = none) ∧ W i m H' := fun {s' H'} I' nx => by
        obtain ⟨m', hm, w'⟩ := hNx H' nx
        have pin' : ∀ b ∈ fp, ∀ o, s7.heap.get? b = some o → s'.heap.get? b = some o ∧ H' b = none := fun b hb o e =>
          let z := I'.pin (b, o) (List.mem_append_right _ (List.mem_append_right _ (mem_pinsAt hb e)))
          ⟨z.1, z.2.1⟩
        refine ⟨m', hm, i + 1, H', (I'.unpinned (pins := [])).weak (by rw [← hw8, wipe_length]) (fun j v e => by rw [← hw8] at e; exact (wipe_some e).1), T.keep _ _ _ st7 fun b hb o e => (pin' b hb o e).1, fun b hb => ?_, w'⟩
        obtain ⟨o, e, _⟩ := T.obj _ _ st7 b hb
        exact (pin' b hb o e).2
      cases b with
      | false =>
        simp only [Bool.false_eq_true, if_false] at q9 ⊢
        exact fin I9 q9
      | true =>
        simp only [if_true] at q9 ⊢
        refine thnF (pe.run _ s9 σ8 H9 _ I9 q9) fun z s10 ⟨yv, H10, I10, r10, acc, hD10, hz10, nx⟩ => ?_
        exact app_ok (X := blkH X s3 H3 scope ce fp) I10 hD10 hz10 r10 fun s11 I11 => fin I11 nx
  have fin : ∀ s' H', Inv X pins σ H' s' → Q (.ref D) H' → (∃ m, s'.heap.Ns s3.heap.objs.size m) → FpOk X pins H' s3.heap.objs.size → compPost (model X.prog X.w) X.A X.xe use Qf (.ref D) s3.heap.objs.size (.ok .next) s' := by
    rintro s' H' I' q ⟨m, hn⟩ f
    exact hRR _ _ _ m _ I' q hn f
  exact codeAny_compStart_list (loop _ fin) (T.self X.A 0 _ _ _ st4 (loop _ fin))
theorem pe_lcG {elt tg iter : Expr} {ifs : List Expr} {scope : Scope} {own : List (Str × Nat)} {pos : Pos} {wi : TI} {g : TG} {tt : TT} {te : TE} (hot : HotC X) (hN : X.N.Nodup) (hi : PIH X tg iter wi) (ok : BlkOk X.N X.env.scope scope own)
    (hg : ∀ (s : Shared) (H : Hp) (C : Addr) (cl : List (Str × Addr)) (fp : List Addr), PG (blkH X s H scope (compEnvC scope cl C X.env) fp) tg g) (ht : ∀ (s : Shared) (H : Hp) (C : Addr) (cl : List (Str × Addr)) (fp : List Addr), PTs (blkH X s H scope (compEnvC scope cl C X.env) fp) ifs tt)
    (he : ∀ (s : Shared) (H : Hp) (C : Addr) (cl : List (Str × Addr)) (fp : List Addr), PE (blkH X s H scope (compEnvC scope cl C X.env) fp) elt te) (hs : ∀ x, foldedSetIterable iter X.env x = pure x := by intro _; rfl) :
    PE X (.ListComp elt [⟨tg, iter, ifs, 0⟩] scope pos) (tLc wi g tt te (own.map (·.2))) := by
  refine ⟨fun pins s σ H Q I h => ?_⟩
  rw [eval_ListComp]
  refine lcG_core hot hN I hi ok hg ht he hs h fun D C s' m H' I' q hn ⟨k0, k1, k2, k3, k4, k5⟩ => ⟨m, hn, fun h'' sb => ?_⟩
  exact ⟨.ref D, H', I'.turned (t' := s'.toks) (fun b o hb e => (sb.2 b hb).trans e) k0 k1 k3 k4 k5, rfl, q⟩
theorem ps_setLcG {i : Nat} {y : Str} {py : Pos} {elt tg iter : Expr} {ifs : List Expr} {scope : Scope} {own : List (Str × Nat)} {pos spos : Pos} {wi : TI} {g : TG} {tt : TT} {te : TE} (hot : HotC X) (hN : X.N.Nodup) (hy : X.N[i]? = some y) (hyl : X.env.scope.names.lookup y = some .local) (hsw : swapsWith (.ListComp elt [⟨tg, iter, ifs, 0⟩] scope pos) (some (.Name y py)) spos.line X.env = pure true) (hi : PIH X tg iter wi) (ok : BlkOk X.N X.env.scope scope own)
    (hg : ∀ (s : Shared) (H : Hp) (C : Addr) (cl : List (Str × Addr)) (fp : List Addr), PG (blkH X s H scope (compEnvC scope cl C X.env) fp) tg g) (ht : ∀ (s : Shared) (H : Hp) (C : Addr) (cl : List (Str × Addr)) (fp : List Addr), PTs (blkH X s H scope (compEnvC scope cl C X.env) fp) ifs tt)
    (he : ∀ (s : Shared) (H : Hp) (C : Addr) (cl : List (Str × Addr)) (fp : List Addr), PE (blkH X s H scope (compEnvC scope cl C X.env) fp) elt te) (hs : ∀ x, foldedSetIterable iter X.env x = pure x := by intro _; rfl) :
    PS X (.Assign [.Name y py] (.ListComp elt [⟨tg, iter, ifs, 0⟩] scope pos) spos) (tAsg (tLc wi g tt te (own.map (·.2))) (gName i)) := by
  refine ⟨fun pins s σ H D I h => ?_⟩
  rw [exec_Assign_Name_used _ _ _ _ hsw]
  refine wpAny_bind (wpAny_standAt (wpAny_bind ?_))
  show wpAny _ X.A (do let _ ← comprehension (.ListComp elt [⟨tg, iter, ifs, 0⟩] scope pos) scope X.env (firstIterPos [⟨tg, iter, ifs, 0⟩] pos) (newList []) false (eval iter X.env) (some (assign (.Name y py) X.env))) _ _ s
  have h : tLc wi g tt te (own.map (·.2)) σ H (fun x H1 => gName i x σ H1 D.nx) := h
  refine wpAny_bind (thn (lcG_core (Qf := fun _ s' => SP X pins D .next s') hot hN I hi ok hg ht he hs h fun L C s' m H' I' q hn f => ?_) fun _ s' hq => wpAny_pure (wpAny_pure hq))
  show wpAny _ _ (assign (.Name y py) X.env (.ref L)) _ _ _
  refine wpAny_assign_Name (store_ok2 (v := V.ref L) I' hN hy (.inl hyl) rfl (fun s2 I2 ⟨a, sb, ha⟩ => ?_) (.inr hyl))
  obtain ⟨f0, f1, f2, f3, f4, f5⟩ := f
  have haC : C ≠ a := fun e => ha.elim (fun z => f1 (e.trans z)) fun z => f4 y a z e.symm
  exact ⟨m, hn.sameBut sb haC, fun h3 sb3 => ⟨_, H', I2.turned (t' := s2.toks) (fun b o hb e => (sb3.2 b hb).trans e) f0 f1 f3 f4 f5, q⟩⟩
end
end Rc
/-! part RcK1 -/
/-! min(xs, key=lambda x: ..) of a list, the keys pairs of whole numbers. -/
namespace Rc
open PySem PySem.Spec PyProof.Rows L2
/-- a lambda of one parameter -/
structure LamS1 (sc scope : Scope) (x : Str) : Prop where
  kind : scope.kind = .function
  co : scope.isCoroutine = false
  gen : scope.isGenerator = false
  par : scope.names.lookup x = some .local
  cell : ∀ y ∈ scope.names, y.2 ≠ .cell
  free : ∀ y ∈ scope.names, y.2 = .free → sc.names.lookup y.1 = some .cell ∨ sc.names.lookup y.1 = some .free
def lamS1B (sc scope : Scope) (x : Str) : Bool :=
  decide (scope.kind = .function) && (!scope.isCoroutine && (!scope.isGenerator && (decide (scope.names.lookup x = some NameKind.local) && ((scope.names.all fun y => !decide (y.2 = .cell)) &&
    scope.names.all fun y => !decide (y.2 = .free) || (decide (sc.names.lookup y.1 = some NameKind.cell) || decide (sc.names.lookup y.1 = some NameKind.free))))))
theorem lamS1_by {sc scope : Scope} {x : Str} (h : lamS1B sc scope x = true) : LamS1 sc scope x := by
  unfold lamS1B at h
  simp only [Bool.and_eq_true, Bool.or_eq_true, Bool.not_eq_true', decide_eq_true_eq, decide_eq_false_iff_not, List.all_eq_true] at h
  obtain ⟨h1, h2, h3, h4, h5, h6⟩ := h
  refine ⟨h1, h2, h3, h4, h5, fun y hy e => ?_⟩
  rcases h6 y hy with z | z
  · exact absurd e z
  · exact z
/-- the lambda's frame, at a call -/
structure Lm (X : Cx) (scope : Scope) (s1 : Shared) (cenv : Env) (s₂ : Shared) : Prop where
  sc : cenv.scope = scope
  cl : cenv.cells = cloFrom X.env.cells scope.names []
  gl : cenv.globals = mainGlobals
  bl : cenv.builtins = builtinsNs
  keep : Keeps s1 s₂
/-- the lambda's body at the items xs: the pairs at qs -/
def KeyElt (X : Cx) (scope : Scope) (x : Str) (body : Expr) (xs : List V) (qs : Nat → Addr) (σ : L2.St) (H1 : Hp) : Prop :=
  ∀ (pins : List (Addr × Obj)) (s1 : Shared), Inv X pins σ H1 s1 → ∀ (cenv : Env) (A' : Around) (E' : Value → Shared → Prop) (i : Nat) (y : V) (v : Value) (s₂ : Shared) (m₂ : Str → Option Value),
    Lm X scope s1 cenv s₂ → A'.handled = none → A'.units ≤ X.A.units + 8 → xs[i]? = some y → RelV y v → s₂.heap.Ns cenv.locals m₂ → m₂ x = some v →
    wpAny (model X.prog X.w) A' (eval body cenv) (fun r s₃ => r = .ref (qs i) ∧ Keeps s₂ s₃) E' s₂
theorem Lm.inv {X : Cx} {pins : List (Addr × Obj)} {σ : L2.St} {H : Hp} {scope : Scope} {s1 s₂ : Shared} {cenv : Env} (L : Lm X scope s1 cenv s₂) (I : Inv X pins σ H s1) : Inv X pins σ H s₂ := by
  obtain ⟨h', tk, rfl, k⟩ := L.keep
  exact I.kept k
/-- the parameter's value -/
theorem Lm.loc {X : Cx} {scope : Scope} {s1 s₂ : Shared} {cenv : Env} {A : Around} {E' : Value → Shared → Prop} {Q : Value → Shared → Prop} {x : Str} {m₂ : Str → Option Value} {v : Value} {pos : Pos} (E : Lm X scope s1 cenv s₂)
    (hk : scope.kind = .function) (hf : scope.names.lookup x = some .local) (hn : s₂.heap.Ns cenv.locals m₂) (hm : m₂ x = some v) (h : Q v s₂) (hd : (x == ("__debug__" : Str)) = false := by decide +kernel) :
    wpAny (model X.prog X.w) A (eval (.Name x pos) cenv) Q E' s₂ :=
  wpAny_Name (wpAny_loadName_local (by rw [E.sc]; exact hk) (show cenv.scope.names.lookup x = some .local by rw [E.sc]; exact hf) hn hm h) hd
/-- a captured name's value -/
theorem Lm.free {X : Cx} {pins : List (Addr × Obj)} {σ : L2.St} {H : Hp} {scope : Scope} {s1 s₂ : Shared} {cenv : Env} {A : Around} {E' : Value → Shared → Prop} {Q : Value → Shared → Prop} {y : Str} {j : Nat} {v : V} {pos : Pos} (E : Lm X scope s1 cenv s₂) (I : Inv X pins σ H s1)
    (hk : scope.kind = .function) (hN : X.N[j]? = some y) (hs : σ[j]? = some (some v)) (hx : X.env.scope.names.lookup y = some .cell) (hf : scope.names.lookup y = some .free)
    (h : ∀ u, RelV v u → Q u s₂) (hd : (y == ("__debug__" : Str)) = false := by decide +kernel) (hn : (y == ("__classdict__" : Str)) = false := by decide +kernel) :
    wpAny (model X.prog X.w) A (eval (.Name y pos) cenv) Q E' s₂ := by
  obtain ⟨m, _, hl⟩ := (E.inv I).loc
  obtain ⟨u, ru, lk⟩ := hl j y v hN hs (.inr (.inl hx))
  have kx : X.env.kindOf y = some .cell := hx
  rcases lk with ⟨k1, _⟩ | ⟨_, c, ec, hc⟩
  · rw [kx] at k1
    cases k1
  · have hfm : (y, NameKind.free) ∈ scope.names := PySem.mem_of_lookup hf
    have hm : (y, (X.env.cells.lookup y).getD 0) ∈ cenv.cells := by
      rw [E.cl]
      exact cloFrom_has hfm
    obtain ⟨c', hc'⟩ := mem_lookup hm
    have ec' : c' = c := by
      have q := PySem.mem_of_lookup hc'
      rw [E.cl] at q
      rcases cloFrom_mem q with z | ⟨_, z⟩
      · exact absurd z (by simp)
      · rw [z, ec]
        rfl
    subst ec'
    exact wpAny_Name (wpAny_loadName_free (by rw [E.sc]; exact hk) (show cenv.scope.names.lookup y = some .free by rw [E.sc]; exact hf) hc' hc (h u ru) hn) hd
/-- lambda x: d[x], x a whole number, d's values pairs -/
theorem key_dget {X : Cx} {scope : Scope} {x y : Str} {σ : L2.St} {H1 : Hp} {is : List Int} {d : Addr} {kvs : List (Key × V)} {qs : Nat → Addr} {j k : Nat} {p1 p2 p3 : Pos} (hr : Room k X.A)
    (hk : scope.kind = .function) (hx : scope.names.lookup x = some .local) (hy : scope.names.lookup y = some .free) (hN : X.N[j]? = some y) (hs : σ[j]? = some (some (.ref d))) (hc : X.env.scope.names.lookup y = some .cell)
    (ed : H1 d = some (.dK kvs)) (hq : ∀ i n, is[i]? = some n → valV kvs (.inl n) = some (.ref (qs i)))
    (d1 : (x == ("__debug__" : Str)) = false := by decide +kernel) (d2 : (y == ("__debug__" : Str)) = false := by decide +kernel) (d3 : (y == ("__classdict__" : Str)) = false := by decide +kernel) :
    KeyElt X scope x (.Subscript (.Name y p1) (.Name x p2) p3) (is.map V.int) qs σ H1 := by
  intro pins s1 I cenv A' E' i z v s₂ m₂ E hA hu hi rv hn hmx
  obtain ⟨n, he, rfl⟩ : ∃ e, is[i]? = some e ∧ z = .int e := by
    rw [List.getElem?_map] at hi
    cases q : is[i]? with
    | none => rw [q] at hi; cases hi
    | some e => rw [q] at hi; exact ⟨e, rfl, (Option.some.inj hi).symm⟩
  refine subD_of PySem.F.slot_dict_getitem.lookup (fun _ _ => rfl) (E.free I hk hN hs hc hy (fun u ru => ?_) d2 d3)
  obtain rfl : u = Value.ref d := ru
  refine E.loc hk hx hn hmx ?_ d1
  have J := E.inv I
  obtain ⟨z, hd, vs, rel, dd⟩ := dk_rd J.hok (.inl ed)
  refine ⟨dd.typeIs, ?_⟩
  obtain ⟨w', hw, rw'⟩ := RelO.some_of (v := V.ref (qs i)) (o := valueAt vs (.inl n)) (by rw [← hq i n he]; exact rel.val _)
  cases rw'
  exact wpAny_getItem_of (kV_is (k := .inl n) rv) dd.mapOf hw ⟨rfl, _, _, rfl, fun _ _ e => e⟩
theorem keeps_refl {s : Shared} : Keeps s s := ⟨s.heap, s.toks, rfl, fun _ _ e => e⟩
theorem keeps_trans {s s1 s2 : Shared} (a : Keeps s s1) (b : Keeps s1 s2) : Keeps s s2 := by
  obtain ⟨h1, t1, rfl, k1⟩ := a
  obtain ⟨h2, t2, rfl, k2⟩ := b
  exact ⟨h2, t2, rfl, fun b o e => k2 b o (k1 b o e)⟩
theorem keeps_moved {s t t' : Shared} {ch : List Addr} (a : Keeps s t) (hc : ∀ b ∈ ch, s.heap.objs.size ≤ b) (m : Moved ch (fun a b => b = a) t t') : Keeps s t' := by
  obtain ⟨h1, t1, rfl, k1⟩ := a
  obtain ⟨hh, gg, dd, tt, oo⟩ := t'
  have e1 : gg = s.gens := m.gens
  have e2 : dd = s.drawn := m.drawn
  have e3 : oo = s.os := m.os
  subst e1 e2 e3
  exact ⟨hh, tt, rfl, fun b o e => m.heap b o (fun z => absurd (Nat.lt_of_lt_of_le (Heap.lt_size e) (hc b z)) (Nat.lt_irrefl _)) (k1 b o e)⟩
theorem best_ok {bt : Nat → Nat → Bool} (ir : ∀ i, bt i i = false) (tr : ∀ i j k, bt i j = true → bt j k = true → bt i k = true) : ∀ k, argBest bt k ≤ k ∧ ∀ j, j ≤ k → bt j (argBest bt k) = false
  | 0 => ⟨Nat.le_refl _, fun j hj => by
    obtain rfl : j = 0 := by omega
    exact ir _⟩
  | k + 1 => by
    obtain ⟨h1, h2⟩ := best_ok ir tr k
    simp only [argBest]
    cases hb : bt (k + 1) (argBest bt k) with
    | true =>
      simp only [if_true]
      refine ⟨Nat.le_refl _, fun j hj => ?_⟩
      cases hj2 : bt j (k + 1) with
      | false => rfl
      | true =>
        by_cases e : j = k + 1
        · subst e
          rw [ir] at hj2
          exact hj2.symm
        · have := tr _ _ _ hj2 hb
          rw [h2 j (by omega)] at this
          exact this.symm
    | false =>
      simp only [Bool.false_eq_true, if_false]
      refine ⟨Nat.le_succ_of_le h1, fun j hj => ?_⟩
      by_cases e : j = k + 1
      · subst e
        exact hb
      · exact h2 j (by omega)
/-- a pair is less by its first, then by its second -/
def lt2 (p q : Int × Int) : Bool := HT.lexLt [p.1, p.2] [q.1, q.2]
theorem lt2_iff {p q : Int × Int} : lt2 p q = true ↔ p.1 < q.1 ∨ (p.1 = q.1 ∧ p.2 < q.2) := by
  unfold lt2
  simp only [HT.lexLt]
  by_cases h : p.1 = q.1
  · rw [if_pos h]
    by_cases h2 : p.2 = q.2
    · rw [if_pos h2]
      constructor
      · intro z; cases z
      · intro z; omega
    · rw [if_neg h2, decide_eq_true_iff]
      constructor
      · exact fun z => .inr ⟨h, z⟩
      · intro z; omega
  · rw [if_neg h, decide_eq_true_iff]
    constructor
    · exact fun z => .inl z
    · intro z; omega
theorem lt2_irr (p : Int × Int) : lt2 p p = false := by
  cases h : lt2 p p with
  | false => rfl
  | true => have := lt2_iff.mp h; omega
theorem lt2_tr {p q r : Int × Int} (a : lt2 p q = true) (b : lt2 q r = true) : lt2 p r = true := by
  have := lt2_iff.mp a
  have := lt2_iff.mp b
  exact lt2_iff.mpr (by omega)
theorem lt2_neg {p q r : Int × Int} (a : lt2 p q = true) (b : lt2 r q = false) : lt2 p r = true := by
  have h1 := lt2_iff.mp a
  have h2 : ¬ (r.1 < q.1 ∨ (r.1 = q.1 ∧ r.2 < q.2)) := fun z => by
    rw [lt2_iff.mpr z] at b
    cases b
  exact lt2_iff.mpr (by omega)
/-- the best one is less than all ahead of it -/
theorem arg_first {bt : Nat → Nat → Bool} (ir : ∀ i, bt i i = false) (tr : ∀ i j k, bt i j = true → bt j k = true → bt i k = true) (ng : ∀ i j k, bt i j = true → bt k j = false → bt i k = true) : ∀ k j, j < argBest bt k → bt (argBest bt k) j = true
  | 0, j, h => absurd h (by simp [argBest])
  | k + 1, j, h => by
    have ih := arg_first ir tr ng k
    obtain ⟨h1, h2⟩ := best_ok ir tr k
    simp only [argBest] at h ⊢
    cases hb : bt (k + 1) (argBest bt k) with
    | true =>
      rw [hb] at h
      simp only [if_true] at h ⊢
      exact ng _ _ _ hb (h2 j (by omega))
    | false =>
      rw [hb] at h
      simp only [Bool.false_eq_true, if_false] at h ⊢
      exact ih j h
/-- all but what stands at P stays -/
def But (P : Addr) (H H' : Hp) : Prop := ∀ b o, b ≠ P → H b = some o → H' b = some o
theorem but_refl {P : Addr} {H : Hp} : But P H H := fun _ _ _ e => e
/-- a lambda's making, the maker's table alone grows -/
theorem lam_new {X : Cx} {pins : List (Addr × Obj)} {σ : L2.St} {H : Hp} {s : Shared} {c P : Addr} {params : Arguments} {body : Expr} {scope : Scope} {pos : Pos} {E Q : Value → Shared → Prop} (I : Inv X pins σ H s) (TB : LamX.TabB X.base X.mg c P) (hcode : X.env.code = .ref c)
    (hT : LamX.TabS H P (X.env.qual ++ "<lambda>")) (hdef : defaultsOf params X.env = ([], [])) (hfree : ∀ y ∈ scope.names, y.2 = .free → ∃ c, X.env.cells.lookup y.1 = some c)
    (cont : ∀ (f c' : Addr) (pm ctv : Value) (G : Hp) (t : Shared), Inv X pins σ G t → But P H G → LamX.TabS G P (X.env.qual ++ "<lambda>") →
      t.heap.get? f = some (PySem.W.kla_obj "<lambda>" (X.env.qual ++ "<lambda>") params body scope (cloFrom X.env.cells scope.names []) pm c' ctv) → G c' = some (LamX.CodeO c' (X.env.qual ++ "<lambda>")) → Q (.ref f) t) :
    wpAny (model X.prog X.w) X.A (eval (.Lambda params body scope pos) X.env) Q E s := by
  obtain ⟨ps, tab, tri, names⟩ := id hT
  have bP := TB.bm.keeps I.bk
  have there : s.heap.get? P = some { cls := .none, data := .fields ps } := I.hok P _ tab
  refine PySem.W.kla_eval hdef ?_
  cases known : codeAmong pos ps.toList with
  | some cv =>
    obtain ⟨c', rfl, isC⟩ := names pos cv known
    refine PySem.W.kla_makeFunctionHit (ps := ps) (closure_ok hfree) I.ok.glob (I.mod.glob.keeps I.bk) hcode (TB.code.keeps I.bk) there tri known bP fun ctv h' tk old _ => ?_
    exact cont _ c' _ ctv H _ (I.kept fun b o e => Heap.get?_push_of_some _ (old b o e)) but_refl hT (Heap.get?_push_size _ rfl) isC
  | none =>
    refine PySem.W.kla_makeFunction (ps := ps) (closure_ok hfree) I.ok.glob (I.mod.glob.keeps I.bk) hcode (TB.code.keeps I.bk) there tri known TB.gP bP fun c' ctv h' tk old hge hlt rec grown => ?_
    obtain ⟨c2, oc, vs, tq, e2, a1, a2, a3⟩ := rec
    cases e2
    have free : H c' = none := I.hok.fresh hge
    have apart : P ≠ c' := ne_of_none tab free
    have J := LamX.inv_table (t' := tk) (q := X.env.qual ++ "<lambda>") (more := #[rawInt pos.line, rawInt pos.col, .ref c']) (h' := h'.push (PySem.W.kla_obj "<lambda>" (X.env.qual ++ "<lambda>") params body scope (cloFrom X.env.cells scope.names []) ((X.mg "__name__").getD .none) c' ctv)) I tab
      (fun b o nb e => Heap.get?_push_of_some _ (old b o nb e)) (Heap.get?_push_of_some _ grown) hge ⟨oc, vs, tq, Heap.get?_push_of_some _ a1, a2, a3⟩
    have stays : But P H (upd (upd H P (.tbl (ps ++ #[rawInt pos.line, rawInt pos.col, .ref c']))) c' (LamX.CodeO c' (X.env.qual ++ "<lambda>"))) := fun b o nb e => by
      rw [upd_ne (ne_of_none e free), upd_ne nb]
      exact e
    have asL : (ps ++ #[rawInt pos.line, rawInt pos.col, .ref c']).toList = ps.toList ++ [rawInt pos.line, rawInt pos.col, .ref c'] := by simp
    refine cont _ c' _ ctv _ _ J stays ⟨_, by rw [upd_ne apart, upd_same], by rw [asL]; exact PySem.TriplesOk_snoc _ _ _ _ tri, fun p' cv among => ?_⟩ (Heap.get?_push_size _ rfl) upd_same
    rw [asL] at among
    rcases LamX.among_app _ tri among with z | z
    · obtain ⟨c0, e1, e0⟩ := names p' cv z
      refine ⟨c0, e1, stays _ _ (fun y => ?_) e0⟩
      rw [y, tab] at e0
      exact LamX.codeO_ne _ (Option.some.inj e0).symm
    · exact ⟨c', z, upd_same⟩
def tMinKey (X : Cx) (P : Addr) (scope : Scope) (x : Str) (body : Expr) (te : TE) : TE := fun σ H Q => te σ H fun v H1 => LamX.TabS H1 P (X.env.qual ++ "<lambda>") ∧ ∀ H2, But P H1 H2 → LamX.TabS H2 P (X.env.qual ++ "<lambda>") →
  ∃ (a : Addr) (xs : List V) (qs : Nat → Addr) (ks : Nat → Int × Int), v = .ref a ∧ SqL X.K H2 a xs ∧ xs ≠ [] ∧ (∀ i, i < xs.length → SqT X.K H2 (qs i) [.int (ks i).1, .int (ks i).2]) ∧ KeyElt X scope x body xs qs σ H2 ∧
    ∀ i y, xs[i]? = some y → (∀ j, j < xs.length → lt2 (ks j) (ks i) = false) → (∀ j, j < i → lt2 (ks i) (ks j) = true) → Q y H2
section
theorem pe_minKey {X : Cx} {c P : Addr} {e : Expr} {x : Str} {params : Arguments} {body : Expr} {scope : Scope} {te : TE} {k : Nat} {p lpos kpos pos : Pos} (hr : Room (k + 2) X.A) (hg : Gl X "min") (hm : X.mg "min" = none)
    (TB : LamX.TabB X.base X.mg c P) (hcode : X.env.code = .ref c) (L : LamS1 X.env.scope scope x) (he : PE X e te)
    (hdef : defaultsOf params X.env = ([], []) := by rfl)
    (hbind : ∀ (q : Str) (cl : List (Str × Addr)) (pm cv ctv u : Value), bindArgs (PySem.W.kla_fn "<lambda>" q params body scope cl pm cv ctv) ⟨[u], []⟩ = pure [(x, u)] := by intros; rfl)
    (hs : backTo pos (starEach [e] X.env) = (false, eval e X.env) :: backTo pos (starEach [] X.env) := by rfl) (hpl : (backTo pos (starEach [e] X.env)).any (·.1) = false := by rfl) :
    PE X (.Call (.Name "min" p) [e] [⟨some "key", .Lambda params body scope lpos, kpos⟩] pos) (tMinKey X P scope x body te) := by
  refine ⟨fun pins s σ H Q I h => ?_⟩
  refine wpAny_Call_Name_kw (ld_blt I hg hm (u := .builtin "min") (by decide +kernel) ?_)
  refine PyProof.Rows.callWith_kw ?_ hs hpl (by rfl) (by rfl)
  rw [hs]
  refine Calls.spliced_cons (thn (he.run pins s σ H _ I h) fun u s1 ⟨v, H1, I1, ru, hT1, q1⟩ => Calls.spliced_nil ?_)
  have hfree : ∀ y ∈ scope.names, y.2 = .free → ∃ c, X.env.cells.lookup y.1 = some c := fun y hy e => by
    rcases L.free y hy e with k | k
    · exact I1.ok.has _ (.inl k)
    · exact I1.ok.has _ (.inr k)
  show wpAny _ _ (evalAll [(do let v ← eval (.Lambda params body scope lpos) X.env; standAt pos; pure v)]) _ _ s1
  refine wpAny_evalAll_cons (wpAny_bind (lam_new I1 TB hcode hT1 hdef hfree fun f c' pm ctv H2 s2 I2 eN T2 hf hco => wpAny_bind (wpAny_standAt (wpAny_pure (wpAny_evalAll_nil ?_)))))
  obtain ⟨a, xs, qs, ks, rfl, hL, hne, hq, hel, hQ⟩ := q1 H2 eN T2
  obtain rfl : u = Value.ref a := ru
  show wpAny _ _ (call (.builtin "min") [.ref a] [(Str.ofString "key", .ref f)]) _ _ s2
  have hh : X.A.handled = none := hr.hd
  refine call_min_walkK (seq_walk I2 (.inl hL) fun its o St rv hcl W hst => ?_)
  obtain ⟨oa, ha, _⟩ := hcl
  have lta := Heap.lt_size ha
  have sz : (s2.heap.push o).objs.size = s2.heap.objs.size + 1 := Heap.size_push ..
  have hlen : xs.length = its.length := rv.length
  have hpos : 0 < its.length := by
    rw [← hlen]
    exact List.length_pos_iff.mpr hne
  have hch : ∀ b ∈ (s2.heap.push o).objs.size :: [s2.heap.objs.size], s2.heap.objs.size ≤ b := fun b hb => by
    rcases List.mem_cons.mp hb with z | z
    · rw [z, sz]
      exact Nat.le_succ _
    · rw [List.mem_singleton.mp z]
      exact Nat.le_refl _
  refine ⟨s2.heap.objs.size, [s2.heap.objs.size, a], [s2.heap.objs.size], (fun a b => b = a), its.length, _, _, Keeps s2, (fun i k _ => k = .ref (qs i) ∧ i < xs.length), (fun i j => lt2 (ks i) (ks j)), rfl, (W X.A.in1 hh).toS, hst, fun b hb => ?_, hpos, ?_, ?_, ?_⟩
  · show b < (s2.heap.push o).objs.size
    rw [sz]
    rcases List.mem_cons.mp hb with z | z
    · rw [z]
      exact Nat.lt_succ_self _
    · rw [List.mem_singleton.mp z]
      exact Nat.lt_succ_of_lt lta
  · refine ⟨fun t t' hJ hm => keeps_moved hJ hch hm, fun i k t t' hv _ => hv, fun i v t o' Q' E' hi hv hJ hst' hS cont => ?_, fun i j ki kj t Q' E' hJ hi hj hq' => ?_⟩
    · -- the lambda is called
      have hil : i < xs.length := by omega
      obtain ⟨y, hy, ry⟩ : ∃ y, xs[i]? = some y ∧ RelV y v := by
        obtain ⟨u, hu, ru⟩ := rv.get (List.getElem?_eq_getElem hil)
        have hv' : its[i]? = some v := hv
        rw [hv'] at hu
        cases hu
        exact ⟨_, List.getElem?_eq_getElem hil, ru⟩
      obtain ⟨ht, tk, rfl, kt⟩ := id hJ
      have hf' := kt _ _ hf
      obtain ⟨⟨oc, vs', tq, hoc, hdc, hvc⟩, _, _⟩ := I2.hok c' _ hco
      have lim : ht.NoLimit := by
        obtain ⟨mc, w1, w2⟩ := I2.nolimit
        exact ⟨mc, w1.at fun ob e => kt _ _ e, w2⟩
      have hdp : X.A.in1.depth < recursionLimit := hr.in1.depth
      refine wpAny_call (PySem.W.kla_callFunE (s := { s2 with heap := ht, toks := tk }) hdp hf' rfl L.co L.gen rfl ⟨c', oc, vs', tq, rfl, kt _ _ hoc, hdc, hvc⟩ ?_)
      rw [hbind]
      refine wpAny_pure (wpAny_newFunctionEnv (fun y hy => L.cell y hy) (fun z hz => ?_) (fun h₁ hns hsb => ⟨lim.fresh _ hsb, ?_⟩) L.kind)
      · rw [List.mem_singleton.mp hz]
        exact L.par
      have kp : ∀ b o, ht.get? b = some o → h₁.get? b = some o := fun b o e => hsb.extBut b o (Nat.ne_of_lt (Heap.lt_size e)) (Heap.get?_push_of_some _ e)
      refine PySem.W.kla_codeExpr (wpAny_mono (hel pins s2 I2 _ _ _ i y v _ _ ⟨rfl, rfl, rfl, rfl, ⟨_, _, rfl, fun b o e => kp b o (kt b o e)⟩⟩ hh ?_ hy ry hns ?_) (fun r s3 hr3 => ?_) (fun _ _ z => z))
      · show X.A.units + 1 + 3 ≤ X.A.units + 8
        omega
      · show ([(x, v)] : List (Str × Value)).reverse.lookup x = some v
        simp
      · obtain ⟨rfl, hk3⟩ := hr3
        obtain ⟨h3, t3, rfl, k3⟩ := hk3
        have kk : ∀ b o, ht.get? b = some o → h3.get? b = some o := fun b o e => k3 b o (kp b o e)
        refine cont (.ref (qs i)) _ ⟨_, _, rfl, fun b o e => kk b o (kt b o e)⟩ ?_ (kk _ _ hS) ⟨rfl, hil⟩ (fun _ _ z => z)
        exact (W X.A.in1 hh).frame (i + 1) ht h3 hst' fun b _ o e => kk b o e
    · obtain ⟨rfl, hi⟩ := hi
      obtain ⟨rfl, hj⟩ := hj
      obtain ⟨ht, tk, rfl, kt⟩ := hJ
      obtain ⟨i1, r1, ⟨o1, e1, c1, n1, d1⟩, _⟩ := I2.tuple (hq i hi)
      obtain ⟨i2, r2, ⟨o2, e2, c2, n2, d2⟩, _⟩ := I2.tuple (hq j hj)
      show wpAny _ _ (compareOp .Lt (.ref (qs i)) (.ref (qs j))) _ _ _
      refine HT.lt_tupInts (items := i1.toArray) (items2 := i2.toArray) (ns := [(ks i).1, (ks i).2]) (ms := [(ks j).1, (ks j).2]) ⟨o1, kt _ _ e1, c1, n1, d1⟩ ⟨o2, kt _ _ e2, c2, n2, d2⟩ (intsAre_of r1) (intsAre_of r2) ?_ hq'
      show X.A.units + 1 < cLine
      have := hr.un
      omega
  · exact ⟨_, _, rfl, fun b o e => Heap.get?_push_of_some _ e⟩
  · intro v s' hv hJ
    obtain ⟨hb1, hb2⟩ := best_ok (bt := fun i j => lt2 (ks i) (ks j)) (fun i => lt2_irr _) (fun i j k => lt2_tr) (its.length - 1)
    obtain ⟨y, hy, ry⟩ : ∃ y, xs[argBest (fun i j => lt2 (ks i) (ks j)) (its.length - 1)]? = some y ∧ RelV y v := by
      have hil : argBest (fun i j => lt2 (ks i) (ks j)) (its.length - 1) < xs.length := by omega
      obtain ⟨u, hu, ru⟩ := rv.get (List.getElem?_eq_getElem hil)
      have hv' : its[argBest (fun i j => lt2 (ks i) (ks j)) (its.length - 1)]? = some v := hv
      rw [hv'] at hu
      cases hu
      exact ⟨_, List.getElem?_eq_getElem hil, ru⟩
    obtain ⟨h3, t3, rfl, k3⟩ := hJ
    exact ⟨y, H2, I2.kept k3, ry, hQ _ y hy (fun j hj => hb2 j (by omega)) fun j hj => arg_first (bt := fun i j => lt2 (ks i) (ks j)) (fun i => lt2_irr _) (fun i j k => lt2_tr) (fun i j k => lt2_neg) _ j hj⟩
end
end Rc
/-! part RcR0 -/
/-! Which places are reached: the mathematics. -/
namespace Rc
inductive Reach (rows : List Row) (root : Int) : Int → Prop where
  | root : Reach rows root root
  | step {r : Row} (h : r ∈ rows) (p : Reach rows root r.b) : Reach rows root r.g
def Lof (rows : List Row) (j : Nat) : List Int := (rows.filter fun r => decide (r.b = (j : Int))).map Row.g
theorem mem_Lof {rows : List Row} {j : Nat} {g : Int} : g ∈ Lof rows j ↔ ∃ r ∈ rows, r.b = (j : Int) ∧ r.g = g := by
  unfold Lof
  rw [List.mem_map]
  constructor
  · rintro ⟨r, hr, e⟩
    obtain ⟨h1, h2⟩ := List.mem_filter.mp hr
    exact ⟨r, h1, of_decide_eq_true h2, e⟩
  · rintro ⟨r, h1, h2, e⟩
    exact ⟨r, List.mem_filter.mpr ⟨h1, decide_eq_true h2⟩, e⟩
theorem Lof_snoc (rows : List Row) (r : Row) (j : Nat) : Lof (rows ++ [r]) j = if r.b = (j : Int) then Lof rows j ++ [r.g] else Lof rows j := by
  unfold Lof
  rw [List.filter_append, List.map_append]
  by_cases h : r.b = (j : Int)
  · rw [if_pos h]
    simp [h]
  · rw [if_neg h]
    simp [h]
def got (Rs : List Bool) (v : Int) : Prop := Rs[v.toNat]? = some true
def falses (Rs : List Bool) : Nat := Rs.count false
theorem falses_set : ∀ {Rs : List Bool} {j : Nat}, Rs[j]? = some false → falses (Rs.set j true) + 1 = falses Rs
  | [], j, h => by simp at h
  | b :: Rs, 0, h => by
    have e : b = false := Option.some.inj h
    subst e
    simp [falses]
  | b :: Rs, j + 1, h => by
    have ih := falses_set (Rs := Rs) (j := j) h
    unfold falses at ih ⊢
    rw [List.set_cons_succ, List.count_cons, List.count_cons]
    omega
theorem got_set {Rs : List Bool} {j : Nat} {v : Int} (hj : j < Rs.length) : got (Rs.set j true) v ↔ v.toNat = j ∨ got Rs v := by
  unfold got
  rw [List.getElem?_set]
  by_cases h : j = v.toNat
  · rw [if_pos h, if_pos (by omega)]
    exact ⟨fun _ => .inl h.symm, fun _ => rfl⟩
  · rw [if_neg h]
    exact ⟨fun x => .inr x, fun x => x.resolve_left fun z => h z.symm⟩
structure Inv5 (many root : Int) (rows : List Row) (Rs : List Bool) (ws : List Int) (ex : Int → Prop) : Prop where
  len : Rs.length = many.toNat
  gr : got Rs root
  sound : ∀ v, 0 ≤ v → got Rs v → Reach rows root v
  gw : ∀ v ∈ ws, 0 ≤ v ∧ v < many ∧ got Rs v
  closed : ∀ r ∈ rows, got Rs r.b → r.b ∉ ws → ¬ ex r.b → got Rs r.g
def none0 : Int → Prop := fun _ => False
namespace Inv5
variable {many root : Int} {rows : List Row} {Rs : List Bool} {ws : List Int} {h g : Int} {ex : Int → Prop}
theorem pop (I : Inv5 many root rows Rs (ws ++ [h]) none0) : Inv5 many root rows Rs ws (fun v => v = h) :=
  ⟨I.len, I.gr, I.sound, fun v hv => I.gw v (List.mem_append_left _ hv), fun r hr hg hn he => I.closed r hr hg (fun z => by
    rcases List.mem_append.mp z with z | z
    · exact hn z
    · exact he (List.mem_singleton.mp z)) fun z => z⟩
theorem mark (I : Inv5 many root rows Rs ws ex) (g0 : 0 ≤ g) (g1 : g < many) (hr : Reach rows root g) (hrow : ∀ r ∈ rows, 0 ≤ r.b ∧ 0 ≤ r.g) : Inv5 many root rows (Rs.set g.toNat true) (ws ++ [g]) ex := by
  have hj : g.toNat < Rs.length := by rw [I.len]; omega
  have up : ∀ v, got Rs v → got (Rs.set g.toNat true) v := fun v x => (got_set hj).mpr (.inr x)
  refine ⟨by rw [List.length_set]; exact I.len, up _ I.gr, fun v v0 x => ?_, fun v hv => ?_, fun r hr2 hg hn he => ?_⟩
  · rcases (got_set hj).mp x with z | z
    · rw [show v = g by omega]
      exact hr
    · exact I.sound v v0 z
  · rcases List.mem_append.mp hv with z | z
    · obtain ⟨a, b, c⟩ := I.gw v z
      exact ⟨a, b, up v c⟩
    · rw [List.mem_singleton.mp z]
      exact ⟨g0, g1, (got_set hj).mpr (.inl rfl)⟩
  · have nb : r.b ≠ g := fun e => hn (List.mem_append_right _ (by rw [e]; exact List.mem_singleton.mpr rfl))
    have hb := (hrow r hr2).1
    rcases (got_set hj).mp hg with z | z
    · exact absurd (show r.b = g by omega) nb
    · exact up _ (I.closed r hr2 z (fun y => hn (List.mem_append_left _ y)) he)
theorem done (I : Inv5 many root rows Rs ws (fun v => v = h)) (h0 : 0 ≤ h) (hg : ∀ g ∈ Lof rows h.toNat, got Rs g) : Inv5 many root rows Rs ws none0 :=
  ⟨I.len, I.gr, I.sound, I.gw, fun r hr hb hn _ => by
    by_cases e : r.b = h
    · exact hg _ (mem_Lof.mpr ⟨r, hr, by omega, rfl⟩)
    · exact I.closed r hr hb hn e⟩
theorem all (I : Inv5 many root rows Rs [] none0) : ∀ v, Reach rows root v → got Rs v := fun v hv => by
  induction hv with
  | root => exact I.gr
  | step h _ ih => exact I.closed _ h ih (by simp) fun z => z
end Inv5
theorem inv5_start {many root : Int} {rows : List Row} (r0 : 0 ≤ root) (r1 : root < many) (hrow : ∀ r ∈ rows, 0 ≤ r.b) : Inv5 many root rows ((List.range many.toNat).map fun (i : Nat) => decide ((i : Int) = root)) [root] none0 := by
  have hg : ∀ v : Int, 0 ≤ v → got ((List.range many.toNat).map fun (i : Nat) => decide ((i : Int) = root)) v → v = root := fun v v0 h => by
    unfold got at h
    rw [List.getElem?_map] at h
    cases e : (List.range many.toNat)[v.toNat]? with
    | none => rw [e] at h; cases h
    | some i =>
      rw [e] at h
      obtain ⟨hi, ei⟩ := List.getElem?_eq_some_iff.mp e
      rw [List.getElem_range] at ei
      have z := of_decide_eq_true (Option.some.inj h)
      omega
  have hr : got ((List.range many.toNat).map fun (i : Nat) => decide ((i : Int) = root)) root := by
    unfold got
    rw [List.getElem?_map, List.getElem?_eq_getElem (by rw [List.length_range]; omega), List.getElem_range]
    show some (decide ((root.toNat : Int) = root)) = some true
    rw [decide_eq_true (by omega)]
  refine ⟨by simp, hr, fun v v0 h => ?_, fun v hv => ?_, fun r hrr hb hn _ => ?_⟩
  · rw [hg v v0 h]
    exact .root
  · rw [List.mem_singleton.mp hv]
    exact ⟨r0, r1, hr⟩
  · exact absurd (List.mem_singleton.mpr (hg _ (hrow r hrr) hb)) hn
end Rc
/-! part RcR -/
namespace Rc
open PySem PySem.Spec PyProof.Rows L2
/-- a list of new lists of ints: at D, its parts at gs -/
structure Goals (H0 H' : Hp) (D : Addr) (gs : List Addr) (L : Nat → List Int) : Prop where
  dd : H' D = some (.lst (gs.map V.ref))
  nd : gs.Nodup
  nD : D ∉ gs
  new : ∀ g ∈ gs, H0 g = none
  newD : H0 D = none
  has : ∀ j g, gs[j]? = some g → H' g = some (.lst ((L j).map V.int))
theorem nodup_at {α : Type} : ∀ {l : List α} {i j : Nat} {a : α}, l.Nodup → l[i]? = some a → l[j]? = some a → i = j
  | [], i, j, a, _, h, _ => by simp at h
  | b :: l, 0, 0, a, _, _, _ => rfl
  | b :: l, 0, j + 1, a, nd, h, h' => by
    have e : b = a := Option.some.inj h
    exact absurd (List.mem_of_getElem? (show l[j]? = some b by rw [e]; exact h')) (List.nodup_cons.mp nd).1
  | b :: l, i + 1, 0, a, nd, h, h' => by
    have e : b = a := Option.some.inj h'
    exact absurd (List.mem_of_getElem? (show l[i]? = some b by rw [e]; exact h)) (List.nodup_cons.mp nd).1
  | b :: l, i + 1, j + 1, a, nd, h, h' => by rw [nodup_at (l := l) (i := i) (j := j) (List.nodup_cons.mp nd).2 h h']
theorem Goals.there {H0 H' : Hp} {D b : Addr} {gs : List Addr} {L : Nat → List Int} (G : Goals H0 H' D gs L) (h : b = D ∨ b ∈ gs) : ∃ o, H' b = some o := by
  rcases h with z | z
  · exact ⟨_, z ▸ G.dd⟩
  · obtain ⟨j, hj⟩ := List.getElem?_of_mem z
    exact ⟨_, G.has j _ hj⟩
theorem Goals.grow {H0 H' : Hp} {D l : Addr} {gs : List Addr} (G : Goals H0 H' D gs fun _ => []) (hl : H' l = none) (h0 : H0 l = none) :
    Goals H0 (upd (upd H' l (.lst [])) D (.lst (gs.map V.ref ++ [.ref l]))) D (gs ++ [l]) fun _ => [] := by
  have nDl : D ≠ l := ne_of_none G.dd hl
  have nin : l ∉ gs := fun z => by
    obtain ⟨j, hj⟩ := List.getElem?_of_mem z
    have q := G.has j l hj
    rw [hl] at q
    cases q
  refine ⟨by rw [upd_same, List.map_append]; rfl, ?_, ?_, ?_, G.newD, fun j g hg => ?_⟩
  · rw [List.nodup_append]
    refine ⟨G.nd, by simp, fun a ha b hb => ?_⟩
    rw [List.mem_singleton.mp hb]
    exact fun z => nin (z ▸ ha)
  · intro z
    rcases List.mem_append.mp z with z | z
    · exact G.nD z
    · exact nDl (List.mem_singleton.mp z)
  · intro g hg
    rcases List.mem_append.mp hg with z | z
    · exact G.new g z
    · rw [List.mem_singleton.mp z]
      exact h0
  · have hm := List.mem_of_getElem? hg
    have neD : g ≠ D := fun z => by
      rw [z] at hm
      rcases List.mem_append.mp hm with y | y
      · exact G.nD y
      · exact nDl (List.mem_singleton.mp y)
    rw [upd_ne neD]
    by_cases e : g = l
    · rw [e, upd_same]
      rfl
    · rw [upd_ne e]
      by_cases hj : j < gs.length
      · rw [List.getElem?_append_left hj] at hg
        exact G.has j g hg
      · rw [List.getElem?_append_right (by omega)] at hg
        have := List.mem_of_getElem? hg
        exact absurd (List.mem_singleton.mp this) e
theorem Goals.keep {H0 H' H2 : Hp} {D : Addr} {gs : List Addr} {L : Nat → List Int} (G : Goals H0 H' D gs L) (e : ∀ b o, b = D ∨ b ∈ gs → H' b = some o → H2 b = some o) : Goals H0 H2 D gs L :=
  ⟨e _ _ (.inl rfl) G.dd, G.nd, G.nD, G.new, G.newD, fun j g h => e _ _ (.inr (List.mem_of_getElem? h)) (G.has j g h)⟩
theorem Goals.put {H0 H' : Hp} {D g : Addr} {gs : List Addr} {L L' : Nat → List Int} {j : Nat} (G : Goals H0 H' D gs L) (hj : gs[j]? = some g) (hL : ∀ i, i ≠ j → L' i = L i) : Goals H0 (upd H' g (.lst ((L' j).map V.int))) D gs L' := by
  refine ⟨?_, G.nd, G.nD, G.new, G.newD, fun i a h => ?_⟩
  · have ne : D ≠ g := fun e => G.nD (by rw [e]; exact List.mem_of_getElem? hj)
    rw [upd_ne ne]
    exact G.dd
  · by_cases e : i = j
    · subst e
      rw [hj] at h
      cases h
      exact upd_same
    · have ne : a ≠ g := by
        intro z
        rw [z] at h
        exact e (nodup_at G.nd h hj)
      rw [upd_ne ne, hL i e]
      exact G.has i a h
def lenOf : Option HO → Nat
  | some (.lst xs) => xs.length
  | _ => 0
def cntOf : Option HO → Nat
  | some (.lst xs) => xs.countP fun x => decide (x = V.bl false)
  | _ => 0
theorem cnt_bl : ∀ Rs : List Bool, (Rs.map V.bl).countP (fun x => decide (x = V.bl false)) = falses Rs
  | [] => rfl
  | b :: Rs => by
    have ih := cnt_bl Rs
    unfold falses at ih ⊢
    rw [List.map_cons, List.countP_cons, List.count_cons, ih]
    cases b <;> simp
theorem tru_mono {K : PySem.W.Frag} {ta : TE} {σ : L2.St} {H : Hp} {Q Q' : Bool → Hp → Prop} (hm : ∀ (A B : VK), (∀ x H1, A x H1 → B x H1) → ta σ H A → ta σ H B) (h : ∀ b H1, Q b H1 → Q' b H1)
    (x : ta σ H fun x H' => ∃ k, TruV K x H' k ∧ Q k H') : ta σ H fun x H' => ∃ k, TruV K x H' k ∧ Q' k H' :=
  hm _ _ (fun _ _ ⟨k, a, b⟩ => ⟨k, a, h _ _ b⟩) x
theorem Lof_len (rows : List Row) (j : Nat) : (Lof rows j).length ≤ rows.length := by
  unfold Lof
  rw [List.length_map]
  exact List.length_filter_le _ _
def spLeft (K : PySem.W.Frag) : Sp := fun vs H Q _ => ∃ (many root : Int) (v : V) (rows : List Row), vs = [.int many, .int root, v] ∧ Dp K H v (rowsDat rows) ∧ 0 ≤ root ∧ root < many ∧ many ≤ 1000 ∧ rows.length ≤ 1000 ∧
  (∀ r ∈ rows, 0 ≤ r.b ∧ r.b < many ∧ 0 ≤ r.g ∧ r.g < many) ∧
  ∀ H' p (ns : List Int), Same H H' → H p = none → H' p = some (.lst (ns.map V.int)) → (∀ v, v ∈ ns ↔ 0 ≤ v ∧ v < many ∧ ¬ Reach rows root v) → ns.Pairwise (fun a b => a < b) → Q (.ref p) H'
section
variable {P : Program} {w : World} {K : PySem.W.Frag} {mg : Str → Option Value} {base : Heap}
theorem ok_left {f : Addr} {fd : FuncData} {k : Nat} (F : Fun K "left_out" "left_out" s_left_out f fd) (T : Txt0 mg) : FnOk P w K mg base CX0 (k + 1) f fd ["many", "root", "roads"] (spLeft K) := by
  refine F.ok sc_left_out (fun vs H Q E h => ?_) (fun cdv A outer s H vs Q E hr h => ?_)
  · obtain ⟨many, root, v, rows, rfl, _⟩ := h
    rfl
  · obtain ⟨many, root, v, rows, rfl, hD, r0, r1, m1, hlen, hrows, q⟩ := h
    refine ⟨_, (pss_cons (ps_setLc (i := 4) (own := [("_", 3)]) (g := gName 3) (tt := tYes) rfl sc_left_out.nd rfl rfl (sw_true rfl rfl rfl (by decide +kernel)) (pi_range1 (by rfl) T.range (pa_cons (pv 0) pa_nil)) (blkOk_by (N := N_left_out) (sc := defScope s_left_out) (by decide +kernel)) (fun _ _ _ _ _ => (pg_name (i := 3) sc_left_out.nd rfl (Or.inl rfl))) (fun _ _ _ _ _ => pts_nil) (fun _ _ _ _ _ => (pe_lst pa_nil)))
  (pss_cons (ps_for PassesOwn.never rfl (pi_list (pv 2)) (pg_tup (by rfl) (pgs_cons (pg_name (i := 5) sc_left_out.nd rfl (Or.inl rfl)) (pgs_cons (pg_name (i := 6) sc_left_out.nd rfl (Or.inl rfl)) (pgs_cons (pg_name (i := 3) sc_left_out.nd rfl (Or.inl rfl)) pgs_nil))))
   (pss_one (ps_expr (pe_bm PySem.F.plainAttrs_list PySem.F.slot_list_append PySem.F.type_list_append mt_append (pe_ix ix_list (pv 4) (pv 5) (fun _ _ => rfl)) (pa_cons (pv 6) pa_nil)))))
  (pss_cons (ps_set (i := 7) sc_left_out.nd rfl (Or.inr rfl) (pe_lc (own := [("place", 10)]) (g := gName 10) (tt := tYes) rfl sc_left_out.nd (pi_range1 (by rfl) T.range (pa_cons (pv 0) pa_nil)) (blkOk_by (N := N_left_out) (sc := defScope s_left_out) (by decide +kernel)) (fun _ _ _ _ _ => (pg_name (i := 10) sc_left_out.nd rfl (Or.inl rfl))) (fun _ _ _ _ _ => pts_nil) (fun _ _ _ _ _ => (pe_cmpR op_eq (pv 10) (pv 1) (nomark _)))))
  (pss_cons (ps_set (i := 8) sc_left_out.nd rfl (Or.inl rfl) (pe_lst (pa_cons (pv 1) pa_nil)))
  (pss_cons (ps_while PassesOwn.never (pt_truth (pv 8) (by intro _; rfl))
   (pss_cons (ps_set (i := 9) sc_left_out.nd rfl (Or.inl rfl) (pe_bm0 PySem.F.plainAttrs_list PySem.F.slot_list_pop PySem.F.type_list_pop mt_pop (pv 8)))
  (pss_one (ps_for PassesOwn.never rfl (pi_list (pe_ix ix_list (pv 4) (pv 9) (fun _ _ => rfl))) (pg_name (i := 6) sc_left_out.nd rfl (Or.inl rfl))
   (pss_one (ps_if (pt_not (pt_val (pe_ix ix_list (pv 7) (pv 6) (fun _ _ => rfl))))
   (pss_cons (ps_asg pe_bl (pg_sub (pv 7) (pv 6) set_list))
  (pss_one (ps_expr (pe_bm PySem.F.plainAttrs_list PySem.F.slot_list_append PySem.F.type_list_append mt_append (pv 8) (pa_cons (pv 6) pa_nil)))))
   pss_nil))))))
  (pss_one (ps_ret (pe_lc (own := [("place", 10)]) (g := gName 10) (tt := tNot (tTest (tOp (rIxL K) (tVar 7) (tVar 10)))) rfl sc_left_out.nd (pi_range1 (by rfl) T.range (pa_cons (pv 0) pa_nil)) (blkOk_by (N := N_left_out) (sc := defScope s_left_out) (by decide +kernel)) (fun _ _ _ _ _ => (pg_name (i := 10) sc_left_out.nd rfl (Or.inl rfl))) (fun _ _ _ _ _ => (pts_one (pt_not (pt_val (pe_ix (r := rIxL K) ix_list (pv 7) (pv 10) (fun _ _ => rfl)))))) (fun _ _ _ _ _ => (pv 10)))))))))), ?_⟩
    obtain ⟨a, xs, rfl, hS, hA⟩ := dp_list_inv hD
    have hxl : xs.length = rows.length := by rw [dpAll_len hA, List.length_map]
    have nn : (many.toNat : Int) = many := by omega
    refine ⟨_, rfl, many, rfl, by omega, by omega, fun D hDn => lc_range (lo := 0) (n := many.toNat) (fun i H' => ∃ gs : List Addr, gs.length = i ∧ Same H H' ∧ Goals H H' D gs fun _ => [])
      ⟨[], rfl, same_new hDn, upd_same, by simp, by simp, by simp, hDn, by simp⟩ ?_ ?_⟩
    · rintro i H' hi ⟨gs, hgl, e, G⟩
      refine ⟨rfl, Nat.zero_le _, fun l hl => ⟨gs.map V.ref, ?_, ?_, gs ++ [l], ?_, ?_, G.grow hl (e.free hl)⟩⟩
      · rw [upd_ne (ne_of_none G.dd hl)]
        exact G.dd
      · rw [List.length_map]
        exact small_lt (by omega)
      · rw [List.length_append, List.length_singleton, hgl]
      · exact same_mut (e.trans (same_new hl)) G.newD
    · rintro H1 ⟨gs, hgl, e1, G1⟩
      refine ⟨_, rfl, a, rfl, ⟨_, e1.seq hS⟩, for_list (K := K) (a := a) (xs := xs) (fun i σ H' => Same H H' ∧ Goals H H' D gs (Lof (rows.take i)) ∧ ∃ v3 v5 v6 : Option V,
          σ = [some (.int many), some (.int root), some (.ref a), v3, some (.ref D), v5, v6, none, none, none, none])
        ⟨e1, G1, _, _, _, rfl⟩ (fun i σ H' _ ⟨e, _⟩ => e.seq hS) ?_ ?_⟩
      · rintro i x σ H2 hi ⟨e2, G2, v3, v5, v6, rfl⟩
        obtain ⟨r, hri, hx⟩ := rows_get hA hi
        obtain ⟨t, rfl, hT⟩ := row_inv hx
        obtain ⟨b0, b1, g0, g1⟩ := hrows r (List.mem_of_getElem? hri)
        obtain ⟨j, hj⟩ : ∃ j : Nat, r.b = (j : Int) := ⟨r.b.toNat, by omega⟩
        have hjl : j < gs.length := by omega
        have hg : gs[j]? = some gs[j] := List.getElem?_eq_getElem hjl
        have hat : atI (gs.map V.ref) r.b = some (.ref gs[j]) := by
          rw [hj]
          exact atI_nat (by rw [List.getElem?_map, hg]; rfl)
        have hli := G2.has j gs[j] hg
        refine ⟨t, _, rfl, sqT_same e2 hT, rfl, _, _, rfl, _, _, rfl, _, _, rfl, rfl, ?_⟩
        refine ⟨_, rfl, _, rfl, D, _, _, _, rfl, rfl, .of G2.dd, hat, .inl ⟨rfl, _, SqL.of hli⟩, _, rfl, gs[j], _, _, rfl, rfl, hli, ?_, ?_⟩
        · rw [List.length_map]
          have h1 := Lof_len (rows.take i) j
          have h2 : (rows.take i).length ≤ rows.length := by rw [List.length_take]; omega
          exact small_lt (by omega)
        · have eL : Lof (rows.take (i + 1)) j = Lof (rows.take i) j ++ [r.g] := by
            rw [take_succ hri, Lof_snoc, if_pos hj]
          have G3 := G2.put (L' := Lof (rows.take (i + 1))) hg (fun i2 ne => by
            rw [take_succ hri, Lof_snoc, if_neg (fun z => ne (by omega))])
          rw [eL, List.map_append] at G3
          exact ⟨same_mut e2 (G2.new _ (List.getElem_mem _)), G3, _, _, _, rfl⟩
      · rintro σ H2 ⟨e2, G2, v3, v5, v6, rfl⟩
        rw [hxl, List.take_length] at G2
        -- reached = [place == root ..]
        refine ⟨_, rfl, many, rfl, by omega, by omega, fun D2 hD2 => lc_range (lo := 0) (n := many.toNat) (fun i H' => Same H H' ∧ Goals H H' D gs (Lof rows) ∧ H' D2 = some (.lst ((List.range i).map fun (j : Nat) => V.bl (decide ((j : Int) = root)))))
          ⟨e2.trans (same_new hD2), G2.keep (fun b o _ ho => same_new hD2 _ _ ho), upd_same⟩ ?_ ?_⟩
        · rintro i H3 hi ⟨e3, G3, h3⟩
          have nD2 : H2 D2 = none := hD2
          refine ⟨rfl, _, rfl, _, rfl, rfl, _, h3, ?_, ?_, ?_, ?_⟩
          · rw [List.length_map, List.length_range]
            exact small_lt (by omega)
          · exact same_mut e3 (e2.free hD2)
          · refine G3.keep (fun b o hb ho => ?_)
            have ne : b ≠ D2 := by
              obtain ⟨o2, h2⟩ := G2.there hb
              exact ne_of_none h2 hD2
            rw [upd_ne ne]
            exact ho
          · rw [upd_same, List.range_succ, List.map_append]
            show some (HO.lst (_ ++ [V.bl (decide (V.int (0 + (i : Int)) = V.int root))])) = _
            rw [int_eq_decide, Int.zero_add]
            rfl
        · rintro H3 ⟨e3, G3, h3⟩
          -- waiting = [root]
          refine ⟨_, rfl, (by show 1 ≤ sizeLine; decide), fun Wl hW => ?_⟩
          have nD2 : D2 ≠ Wl := ne_of_none h3 hW
          have W0 : H Wl = none := e3.free hW
          have D20 : H D2 = none := e2.free hD2
          -- the while: by what is left
          obtain ⟨Pv, hPv⟩ : ∃ Pv : L2.St → Hp → Prop, ∀ σ H', Pv σ H' ↔ ∃ (Rs : List Bool) (ws : List Int) (v3 v5 v6 v9 v10 : Option V), σ = [some (.int many), some (.int root), some (.ref a), v3, some (.ref D), v5, v6, some (.ref D2), some (.ref Wl), v9, v10] ∧
              Same H H' ∧ Goals H H' D gs (Lof rows) ∧ H' D2 = some (.lst (Rs.map V.bl)) ∧ H' Wl = some (.lst (ws.map V.int)) ∧ Inv5 many root rows Rs ws none0 ∧ ws.length + falses Rs ≤ 2000 := ⟨_, fun _ _ => Iff.rfl⟩
          refine ⟨fun m σ H' => m = lenOf (H' Wl) + cntOf (H' D2) ∧ Pv σ H', ⟨_, rfl, (hPv _ _).mpr ⟨_, [root], _, _, _, _, _, rfl, e3.trans (same_new hW), G3.keep (fun b o _ ho => same_new hW _ _ ho), ?_, upd_same, inv5_start r0 r1 (fun r hr => (hrows r hr).1), ?_⟩⟩, ?_⟩
          · rw [upd_ne nD2, h3, List.map_map]
            rfl
          · have := List.count_le_length (a := false) (l := (List.range many.toNat).map fun (i : Nat) => decide ((i : Int) = root))
            rw [List.length_map, List.length_range] at this
            show 1 + List.count false _ ≤ 2000
            omega
          · rintro m σ H4 ⟨rfl, hp4⟩
            obtain ⟨Rs, ws, v3, v5, v6, v9, v10, rfl, e4, G4, h4, hw4, I4, hb4⟩ := (hPv _ _).mp hp4
            refine ⟨_, rfl, _, .inl ⟨_, .of hw4, rfl⟩, ?_⟩
            rcases List.eq_nil_or_concat ws with ew | ⟨ws', hh, ew⟩
            · subst ew
              refine iteF ?_
              let fl : Nat → List Int := fun i => ((List.range i).filter fun j => Rs[j]? == some false).map fun (j : Nat) => (j : Int)
              have fl_len : ∀ i, (fl i).length ≤ i := fun i => by
                show (List.map _ _).length ≤ i
                rw [List.length_map]
                exact Nat.le_trans (List.length_filter_le _ _) (by rw [List.length_range]; exact Nat.le_refl _)
              have fl_mem : ∀ i v, v ∈ fl i ↔ ∃ j : Nat, j < i ∧ Rs[j]? = some false ∧ (j : Int) = v := fun i v => by
                show v ∈ List.map _ _ ↔ _
                simp only [List.mem_map, List.mem_filter, List.mem_range, beq_iff_eq]
                exact ⟨fun ⟨j, ⟨a, b⟩, c⟩ => ⟨j, a, b, c⟩, fun ⟨j, a, b, c⟩ => ⟨j, ⟨a, b⟩, c⟩⟩
              have fl_succ : ∀ i b, Rs[i]? = some b → fl (i + 1) = if b = false then fl i ++ [(i : Int)] else fl i := fun i b hb => by
                show List.map _ (List.filter _ (List.range (i + 1))) = _
                rw [List.range_succ, List.filter_append, List.map_append]
                cases b with
                | false => simp [hb, fl]
                | true => simp [hb, fl]
              refine ⟨_, rfl, many, rfl, by omega, by omega, fun D3 hD3 => lc_range (lo := 0) (n := many.toNat) (fun i H' => Same H4 H' ∧ H' D3 = some (.lst ((fl i).map V.int))) ⟨same_new hD3, upd_same⟩ ?_ ?_⟩
              · rintro i H5 hi ⟨e5, h5⟩
                have hil : i < Rs.length := by rw [I4.len]; exact hi
                have hb : Rs[i]? = some Rs[i] := List.getElem?_eq_getElem hil
                have hat : atI (Rs.map V.bl) (0 + (i : Int)) = some (.bl Rs[i]) := by
                  rw [Int.zero_add]
                  exact atI_nat (by rw [List.getElem?_map, hb]; rfl)
                refine ⟨rfl, _, rfl, _, rfl, D2, _, _, _, rfl, rfl, .of (e5 _ _ h4), hat, _, rfl, ite2 (fun c => ?_) (fun c => ?_)⟩
                · have cf : Rs[i] = false := by simpa using c
                  refine ⟨_, rfl, _, h5, ?_, same_mut e5 hD3, ?_⟩
                  · rw [List.length_map]
                    have := fl_len i
                    exact small_lt (by omega)
                  · rw [upd_same, fl_succ i _ hb, if_pos cf, List.map_append, Int.zero_add]
                    rfl
                · have ct : Rs[i] = true := by simpa using c
                  refine ⟨e5, ?_⟩
                  rw [h5, fl_succ i _ hb, if_neg (by rw [ct]; simp)]
              · rintro H5 ⟨e5, h5⟩
                refine q H5 D3 (fl many.toNat) (e4.trans e5) (e4.free hD3) h5 (fun v => ?_) ?_
                · rw [fl_mem]
                  constructor
                  · rintro ⟨j, hj, hf, rfl⟩
                    refine ⟨by omega, by omega, fun hr => ?_⟩
                    have := I4.all _ hr
                    unfold got at this
                    rw [show ((j : Int)).toNat = j by omega, hf] at this
                    cases this
                  · rintro ⟨v0, v1, hn⟩
                    have hvl : v.toNat < Rs.length := by rw [I4.len]; omega
                    refine ⟨v.toNat, by omega, ?_, by omega⟩
                    rw [List.getElem?_eq_getElem hvl]
                    cases hb : Rs[v.toNat] with
                    | false => rfl
                    | true => exact absurd (I4.sound v v0 (by unfold got; rw [List.getElem?_eq_getElem hvl, hb])) hn
                · show List.Pairwise _ (List.map _ _)
                  rw [List.pairwise_map]
                  exact (List.pairwise_lt_range.filter _).imp fun h => by omega
            · rw [List.concat_eq_append] at ew
              subst ew
              have hmu : lenOf (H4 Wl) + cntOf (H4 D2) = ws'.length + 1 + falses Rs := by
                rw [hw4, h4]
                show (List.map V.int (ws' ++ [hh])).length + (List.map V.bl Rs).countP _ = _
                rw [cnt_bl, List.length_map, List.length_append, List.length_singleton]
              have hne : (!(List.map V.int (ws' ++ [hh])).isEmpty) = true := by simp
              rw [if_pos hne, hmu]
              refine ⟨fun σ' H' => Pv σ' H' ∧ lenOf (H' Wl) + cntOf (H' D2) < ws'.length + 1 + falses Rs, fun σ' H' z => ⟨_, z.2, rfl, z.1⟩, ?_⟩
              obtain ⟨hh0, hh1, hgot⟩ := I4.gw hh (List.mem_append_right _ (List.mem_singleton.mpr rfl))
              obtain ⟨j, rfl⟩ : ∃ j : Nat, hh = (j : Int) := ⟨hh.toNat, by omega⟩
              have hjl : j < gs.length := by omega
              have hg : gs[j]? = some gs[j] := List.getElem?_eq_getElem hjl
              have hlast : (List.map V.int (ws' ++ [(j : Int)]))[(List.map V.int (ws' ++ [(j : Int)])).length - 1]? = some (.int (j : Int)) := by simp
              have hdrop : (List.map V.int (ws' ++ [(j : Int)])).dropLast = List.map V.int ws' := by simp
              refine ⟨_, rfl, .inl ⟨rfl, _, SqL.of hw4⟩, Wl, _, _, rfl, rfl, hw4, hlast, ?_⟩
              rw [hdrop]
              have nWD : ∀ b, b = D ∨ b ∈ gs → b ≠ Wl := fun b hb => by
                obtain ⟨o, ho⟩ := G3.there hb
                exact ne_of_none ho hW
              have nDD : ∀ b, b = D ∨ b ∈ gs → b ≠ D2 := fun b hb => by
                obtain ⟨o, ho⟩ := G2.there hb
                exact ne_of_none ho hD2
              have G5 : Goals H (upd H4 Wl (.lst (ws'.map V.int))) D gs (Lof rows) := G4.keep (fun b o hb ho => by rw [upd_ne (nWD b hb)]; exact ho)
              have h5 : (upd H4 Wl (.lst (ws'.map V.int))) D2 = some (.lst (Rs.map V.bl)) := by rw [upd_ne nD2]; exact h4
              have hat : atI (gs.map V.ref) (j : Int) = some (.ref gs[j]) := atI_nat (by rw [List.getElem?_map, hg]; rfl)
              refine ⟨_, rfl, _, rfl, D, _, _, _, rfl, rfl, .of G5.dd, hat, gs[j], rfl, ⟨_, .of (G5.has j _ hg)⟩, for_list (K := K) (a := gs[j]) (xs := (Lof rows j).map V.int)
                (fun i σ H5 => ∃ (Rs5 : List Bool) (ws5 : List Int) (v6 : Option V), σ = [some (.int many), some (.int root), some (.ref a), v3, some (.ref D), v5, v6, some (.ref D2), some (.ref Wl), some (.int (j : Int)), v10] ∧
                  Same H H5 ∧ Goals H H5 D gs (Lof rows) ∧ H5 D2 = some (.lst (Rs5.map V.bl)) ∧ H5 Wl = some (.lst (ws5.map V.int)) ∧ Inv5 many root rows Rs5 ws5 (fun v => v = (j : Int)) ∧
                  (∀ g ∈ (Lof rows j).take i, got Rs5 g) ∧ ws5.length + falses Rs5 = ws'.length + falses Rs)
                ⟨Rs, ws', v6, rfl, same_mut e4 W0, G5, h5, upd_same, I4.pop, by simp, rfl⟩ (fun i σ H5 _ ⟨_, _, _, _, _, G, _⟩ => .of (G.has j _ hg)) ?_ ?_⟩
              · rintro i x σ H5 hi ⟨Rs5, ws5, v6, rfl, e5, G5, h5, hw5, I5, hp5, hc5⟩
                obtain ⟨g, hgi, rfl⟩ : ∃ g, (Lof rows j)[i]? = some g ∧ x = .int g := by
                  rw [List.getElem?_map] at hi
                  cases e : (Lof rows j)[i]? with
                  | none => rw [e] at hi; cases hi
                  | some u => rw [e] at hi; exact ⟨u, rfl, (Option.some.inj hi).symm⟩
                obtain ⟨r, hr1, hr2, rfl⟩ := mem_Lof.mp (List.mem_of_getElem? hgi)
                obtain ⟨_, _, g0, g1⟩ := hrows r hr1
                obtain ⟨t, ht⟩ : ∃ t : Nat, r.g = (t : Int) := ⟨r.g.toNat, by omega⟩
                have htl : t < Rs5.length := by rw [I5.len]; omega
                have hat5 : atI (Rs5.map V.bl) r.g = some (.bl Rs5[t]) := by
                  rw [ht]
                  exact atI_nat (by rw [List.getElem?_map, List.getElem?_eq_getElem htl]; rfl)
                refine ⟨_, rfl, _, rfl, D2, _, _, _, rfl, rfl, .of h5, hat5, _, rfl, ite2 (fun c => ?_) (fun c => ?_)⟩
                · have cf : Rs5[t] = false := by simpa using c
                  have hset : ixN (Rs5.map V.bl).length r.g = some t := by
                    unfold ixN
                    rw [List.length_map, if_pos g0, if_pos (by omega)]
                    exact congrArg some (by omega)
                  have hf := falses_set (Rs := Rs5) (j := t) (by rw [List.getElem?_eq_getElem htl, cf])
                  have hw6 : (upd H5 D2 (.lst ((Rs5.map V.bl).set t (.bl true)))) Wl = some (.lst (ws5.map V.int)) := by
                    rw [upd_ne (Ne.symm nD2)]
                    exact hw5
                  refine ⟨_, rfl, _, rfl, D2, _, _, t, rfl, rfl, h5, hset, ?_⟩
                  refine ⟨_, rfl, .inl ⟨rfl, _, SqL.of hw6⟩, _, rfl, Wl, _, _, rfl, rfl, hw6, ?_, ?_⟩
                  · rw [List.length_map]
                    rw [List.length_append, List.length_singleton] at hb4
                    exact small_lt (by omega)
                  · have et : r.g.toNat = t := by omega
                    have M := I5.mark g0 g1 (.step hr1 (by rw [hr2]; exact I4.sound _ hh0 hgot)) (fun r hr => ⟨(hrows r hr).1, (hrows r hr).2.2.1⟩)
                    rw [et] at M
                    refine ⟨Rs5.set t true, ws5 ++ [r.g], _, rfl, same_mut (same_mut e5 D20) W0, ?_, ?_, ?_, M, ?_, ?_⟩
                    · exact G5.keep (fun b o hb ho => by rw [upd_ne (nWD b hb), upd_ne (nDD b hb)]; exact ho)
                    · rw [upd_ne nD2, upd_same, List.map_set]
                    · rw [upd_same, List.map_append]
                      rfl
                    · intro y hy
                      rw [take_succ hgi] at hy
                      rcases List.mem_append.mp hy with z | z
                      · exact (got_set htl).mpr (.inr (hp5 y z))
                      · rw [List.mem_singleton.mp z]
                        exact (got_set htl).mpr (.inl et)
                    · rw [List.length_append, List.length_singleton]
                      omega
                · have ct : Rs5[t] = true := by simpa using c
                  refine ⟨Rs5, ws5, _, rfl, e5, G5, h5, hw5, I5, fun y hy => ?_, hc5⟩
                  rw [take_succ hgi] at hy
                  rcases List.mem_append.mp hy with z | z
                  · exact hp5 y z
                  · rw [List.mem_singleton.mp z]
                    unfold got
                    rw [show r.g.toNat = t by omega, List.getElem?_eq_getElem htl, ct]
              · rintro σ H5 ⟨Rs5, ws5, v6, rfl, e5, G5, h5, hw5, I5, hp5, hc5⟩
                rw [List.length_map, List.take_length] at hp5
                refine ⟨(hPv _ _).mpr ⟨Rs5, ws5, _, _, _, _, _, rfl, e5, G5, h5, hw5, I5.done hh0 hp5, ?_⟩, ?_⟩
                · rw [List.length_append, List.length_singleton] at hb4
                  omega
                · rw [hw5, h5]
                  show (List.map V.int ws5).length + (List.map V.bl Rs5).countP _ < _
                  rw [cnt_bl, List.length_map]
                  omega
end
end Rc
/-! part RcN -/
namespace Rc
open PySem PySem.Spec PyProof.Rows L2
/-- data of whole numbers, lists and tuples, at most so deep -/
def Num : Nat → PyData → Prop
  | _, .int _ => True
  | n + 1, .list ds => ∀ d ∈ ds, Num n d
  | n + 1, .tuple ds => ∀ d ∈ ds, Num n d
  | _, _ => False
mutual
theorem num_ok : ∀ (n : Nat) (d : PyData), Num n d → PyData.canLay0 d = true ∧ PyData.depth d ≤ n
  | _, .int _, _ => ⟨by unfold PyData.canLay0; rfl, by unfold PyData.depth; exact Nat.zero_le _⟩
  | 0, .list _, h => h.elim
  | 0, .tuple _, h => h.elim
  | n + 1, .list ds, h => by
    obtain ⟨a, b⟩ := nums_ok n ds h
    exact ⟨by unfold PyData.canLay0; exact a, by unfold PyData.depth; exact Nat.succ_le_succ b⟩
  | n + 1, .tuple ds, h => by
    obtain ⟨a, b⟩ := nums_ok n ds h
    exact ⟨by unfold PyData.canLay0; exact a, by unfold PyData.depth; exact Nat.succ_le_succ b⟩
  | 0, .none, h => h.elim
  | n + 1, .none, h => h.elim
  | 0, .bool _, h => h.elim
  | n + 1, .bool _, h => h.elim
  | 0, .str _, h => h.elim
  | n + 1, .str _, h => h.elim
  | 0, .dict _, h => h.elim
  | n + 1, .dict _, h => h.elim
theorem nums_ok : ∀ (n : Nat) (ds : List PyData), (∀ d ∈ ds, Num n d) → PyData.canLayAll0 ds = true ∧ PyData.depthAll ds ≤ n
  | _, [], _ => ⟨by unfold PyData.canLayAll0; rfl, by unfold PyData.depthAll; exact Nat.zero_le _⟩
  | n, d :: ds, h => by
    obtain ⟨a, b⟩ := num_ok n d (h d List.mem_cons_self)
    obtain ⟨a', b'⟩ := nums_ok n ds fun e he => h e (List.mem_cons_of_mem _ he)
    exact ⟨by unfold PyData.canLayAll0; rw [a, a']; rfl, by unfold PyData.depthAll; exact Nat.max_le.mpr ⟨b, b'⟩⟩
end
theorem num_shaped {n : Nat} {d : PyData} (h : Num n d) (hn : n ≤ 64) : SeqAt.shaped d = true := by
  obtain ⟨a, b⟩ := num_ok n d h
  unfold SeqAt.shaped
  rw [a, decide_eq_true (Nat.le_trans b hn)]
  rfl
mutual
theorem num_eqv : ∀ (n : Nat) (d e : PyData), Num n d → Num n e → (PyData.eqv d e = true ↔ d = e)
  | n, .int i, .int j, _, _ => by
    unfold PyData.eqv
    simp
  | n + 1, .list ds, .list es, h, h' => by
    unfold PyData.eqv
    rw [nums_eqv n ds es h h']
    simp
  | n + 1, .tuple ds, .tuple es, h, h' => by
    unfold PyData.eqv
    rw [nums_eqv n ds es h h']
    simp
  | n, .int i, .list _, _, _ => by
    unfold PyData.eqv
    simp
  | n, .int i, .tuple _, _, _ => by
    unfold PyData.eqv
    simp
  | n, .list _, .int _, _, _ => by
    unfold PyData.eqv
    simp
  | n, .tuple _, .int _, _, _ => by
    unfold PyData.eqv
    simp
  | n, .list _, .tuple _, _, _ => by
    unfold PyData.eqv
    simp
  | n, .tuple _, .list _, _, _ => by
    unfold PyData.eqv
    simp
  | 0, .list _, .list _, h, _ => h.elim
  | 0, .tuple _, .tuple _, h, _ => h.elim
  | 0, .none, _, h, _ => h.elim
  | n + 1, .none, _, h, _ => h.elim
  | 0, .bool _, _, h, _ => h.elim
  | n + 1, .bool _, _, h, _ => h.elim
  | 0, .str _, _, h, _ => h.elim
  | n + 1, .str _, _, h, _ => h.elim
  | 0, .dict _, _, h, _ => h.elim
  | n + 1, .dict _, _, h, _ => h.elim
  | 0, .int _, .none, _, h => h.elim
  | n + 1, .int _, .none, _, h => h.elim
  | 0, .int _, .bool _, _, h => h.elim
  | n + 1, .int _, .bool _, _, h => h.elim
  | 0, .int _, .str _, _, h => h.elim
  | n + 1, .int _, .str _, _, h => h.elim
  | 0, .int _, .dict _, _, h => h.elim
  | n + 1, .int _, .dict _, _, h => h.elim
  | n + 1, .list _, .none, _, h => h.elim
  | n + 1, .list _, .bool _, _, h => h.elim
  | n + 1, .list _, .str _, _, h => h.elim
  | n + 1, .list _, .dict _, _, h => h.elim
  | n + 1, .tuple _, .none, _, h => h.elim
  | n + 1, .tuple _, .bool _, _, h => h.elim
  | n + 1, .tuple _, .str _, _, h => h.elim
  | n + 1, .tuple _, .dict _, _, h => h.elim
theorem nums_eqv : ∀ (n : Nat) (ds es : List PyData), (∀ d ∈ ds, Num n d) → (∀ d ∈ es, Num n d) → (PyData.eqvAll ds es = true ↔ ds = es)
  | n, [], [], _, _ => by
    unfold PyData.eqvAll
    simp
  | n, [], _ :: _, _, _ => by
    unfold PyData.eqvAll
    simp
  | n, _ :: _, [], _, _ => by
    unfold PyData.eqvAll
    simp
  | n, d :: ds, e :: es, h, h' => by
    unfold PyData.eqvAll
    rw [Bool.and_eq_true, num_eqv n d e (h d List.mem_cons_self) (h' e List.mem_cons_self), nums_eqv n ds es (fun x hx => h x (List.mem_cons_of_mem _ hx)) (fun x hx => h' x (List.mem_cons_of_mem _ hx))]
    simp
end
theorem num_ints {n : Nat} (is : List Int) : Num (n + 1) (.list (is.map .int)) := fun d hd => by
  obtain ⟨i, _, rfl⟩ := List.mem_map.mp hd
  cases n <;> trivial
theorem num_row {n : Nat} (r : Row) : Num (n + 1) r.dat := fun d hd => by
  have : d = .int r.b ∨ d = .int r.g ∨ d = .int r.c := by simpa using hd
  rcases this with rfl | rfl | rfl <;> (cases n <;> trivial)
theorem num_rows {n : Nat} (rows : List Row) : Num (n + 2) (rowsDat rows) := fun d hd => by
  obtain ⟨r, _, rfl⟩ := List.mem_map.mp hd
  exact num_row r
/-! ### tables grow, data stays -/
structure Tabd (m : Addr → Prop) (H H' : Hp) : Prop where
  old : ∀ b o, ¬ m b → H b = some o → H' b = some o
  tab : ∀ b, m b → GxR.TabG H' b
/-- the part of a heap in which nothing is of m -/
noncomputable def sans (m : Addr → Prop) (H : Hp) : Hp := fun b => open Classical in if m b then none else H b
theorem sans_no {m : Addr → Prop} {H : Hp} {b : Addr} (h : ¬ m b) : sans m H b = H b := by
  unfold sans
  rw [if_neg h]
theorem sans_at {m : Addr → Prop} {H : Hp} {b : Addr} (h : m b) : sans m H b = none := by
  unfold sans
  rw [if_pos h]
theorem sans_same {m : Addr → Prop} {H : Hp} : Same (sans m H) H := fun b o e => by
  by_cases h : m b
  · rw [sans_at h] at e
    cases e
  · rw [sans_no h] at e
    exact e
theorem Tabd.sans {m : Addr → Prop} {H H' : Hp} (t : Tabd m H H') : Same (Rc.sans m H) H' := fun b o e => by
  by_cases h : m b
  · rw [sans_at h] at e
    cases e
  · rw [sans_no h] at e
    exact t.old b o h e
section
variable {K : PySem.W.Frag} {m : Addr → Prop} {H : Hp}
theorem tab_no (hm : ∀ b, m b → GxR.TabG H b) {b : Addr} {o : HO} (h : H b = some o) (ho : ∀ ps, o ≠ .tbl ps) : ¬ m b := fun z => by
  obtain ⟨ps, e, _⟩ := hm b z
  rw [h] at e
  exact ho ps (Option.some.inj e)
theorem sqL_sans (hm : ∀ b, m b → GxR.TabG H b) {a : Addr} {xs : List V} (h : SqL K H a xs) : SqL K (sans m H) a xs := by
  rcases h with (h | ⟨o, h⟩) | h
  · exact .inl (.inl (by rw [sans_no (tab_no hm h (by intro ps z; cases z))]; exact h))
  · exact .inl (.inr ⟨o, by rw [sans_no (tab_no hm h (by intro ps z; cases z))]; exact h⟩)
  · exact .inr h
theorem sqT_sans (hm : ∀ b, m b → GxR.TabG H b) {a : Addr} {xs : List V} (h : SqT K H a xs) : SqT K (sans m H) a xs := by
  rcases h with (h | ⟨o, h⟩) | h
  · exact .inl (.inl (by rw [sans_no (tab_no hm h (by intro ps z; cases z))]; exact h))
  · exact .inl (.inr ⟨o, by rw [sans_no (tab_no hm h (by intro ps z; cases z))]; exact h⟩)
  · exact .inr h
mutual
theorem dp_sans (hm : ∀ b, m b → GxR.TabG H b) : ∀ (d : PyData) (v : V), Dp K H v d → Dp K (sans m H) v d
  | .none, _, h => by cases h; exact .non
  | .bool b, _, h => by cases h; exact .bl b
  | .int i, _, h => by cases h; exact .int i
  | .str x, _, h => by cases h; exact .str x
  | .list ds, _, h => by
    cases h with
    | lst hs ha => exact .lst (sqL_sans hm hs) (dpAll_sans hm ds _ ha)
  | .tuple ds, _, h => by
    cases h with
    | tup hs ha => exact .tup (sqT_sans hm hs) (dpAll_sans hm ds _ ha)
  | .dict _, _, h => by cases h
theorem dpAll_sans (hm : ∀ b, m b → GxR.TabG H b) : ∀ (ds : List PyData) (vs : List V), DpAll K H vs ds → DpAll K (sans m H) vs ds
  | [], _, h => by cases h; exact .nil
  | d :: ds, _, h => by
    cases h with
    | cons h1 h2 => exact .cons (dp_sans hm d _ h1) (dpAll_sans hm ds _ h2)
end
theorem map_sans {C p : Addr} {n r : Int} {rows : List Row} (hm : ∀ b, m b → GxR.TabG H b) (h : MapAt K C H p n r rows) : MapAt K C (sans m H) p n r rows := by
  obtain ⟨dx, l, h1, h2⟩ := h
  exact ⟨dx, l, by rw [sans_no (tab_no hm h1 (by intro ps z; cases z))]; exact h1, dp_sans hm _ _ h2⟩
end
theorem Tabd.trans {m : Addr → Prop} {H H1 H2 : Hp} (a : Tabd m H H1) (b : Tabd m H1 H2) : Tabd m H H2 := ⟨fun x o n e => b.old x o n (a.old x o n e), b.tab⟩
theorem Tabd.of_same {m : Addr → Prop} {H H1 : Hp} (e : Same H H1) (hm : ∀ b, m b → GxR.TabG H b) : Tabd m H H1 := ⟨fun x o _ h => e x o h, fun b hb => by
  obtain ⟨ps, h, t⟩ := hm b hb
  exact ⟨ps, e _ _ h, t⟩⟩
theorem Tabd.of_tabbed {P : Addr} {m : Addr → Prop} {H H1 : Hp} (t : GxR.Tabbed P H H1) (hm : ∀ b, m b → GxR.TabG H b) (hP : m P) : Tabd m H H1 := ⟨fun b o n e => by
  rw [t.2 b fun z => n (z ▸ hP)]
  exact e, fun b hb => by
  by_cases e : b = P
  · rw [e]
    exact t.1
  · obtain ⟨ps, h, q⟩ := hm b hb
    exact ⟨ps, by rw [t.2 b e]; exact h, q⟩⟩
end Rc
/-! part RcT -/
namespace Rc
open PySem PySem.Spec PyProof.Rows L2
/-- a def whose code object is known -/
structure FunT (K : PySem.W.Frag) (x qual : Str) (st : Stmt) (f : Addr) (fd : FuncData) (c : Addr) : Prop where
  ex : ∃ (oc : Value) (od : Option Addr) (kV doc pm : Value) (an : Option Addr) (ct : Value) (osl : Array (Option Value)),
    fd = PySem.W.fnOf x qual (defArgs st) (defBody st) (defScope st) .none kV doc pm an (.ref c) ct ∧ K.lookup f = some ⟨oc, od, .func fd, osl⟩ ∧ PySem.W.codeIn K (.ref c) qual = true
  kp : PySem.W.keepIn K (.ref f) = true
theorem FunT.fn {K : PySem.W.Frag} {x qual : Str} {st : Stmt} {f : Addr} {fd : FuncData} {c : Addr} (F : FunT K x qual st f fd c) : Fun K x qual st f fd := by
  obtain ⟨oc, od, kV, doc, pm, an, ct, osl, h1, h2, h3⟩ := F.ex
  exact ⟨⟨oc, od, kV, doc, pm, an, .ref c, ct, osl, h1, h2, h3⟩, F.kp⟩
/-- a generator expression's scope within a def's -/
def genC (sc scope : Scope) (x : Str) : Bool :=
  decide (scope.kind = .function) && (!scope.isCoroutine && (scope.names.all (fun y => !decide (y.2 = .cell)) && (decide (scope.names.lookup (".0" : Str) = some NameKind.local) && (decide (scope.names.lookup x = some NameKind.local) &&
    scope.names.all fun y => !decide (y.2 = .free) || decide (sc.names.lookup y.1 = some NameKind.cell)))))
section
variable {P : Program} {w : World} {K : PySem.W.Frag} {mg : Str → Option Value} {base : Heap}
theorem FunT.ok {x qual : Str} {st : Stmt} {f c : Addr} {fd : FuncData} {N ps : List Str} {k : Nat} {sp : Sp} (F : FunT K x qual st f fd c) (S : FnScope N ps (defScope st)) (len : ∀ vs H Q E, sp vs H Q E → vs.length = ps.length)
    (hbody : ∀ (A : Around) (outer : List Env) (s : Shared) (H : Hp) (vs : List V) (Q : VK) (E : XK), Room k (A.deeper (envOfC qual (defScope st) s.heap.objs.size f (.ref c))) → sp vs H Q E →
      ∃ t, PSs (cxOf CX0 P w K mg base N qual (defScope st) f (.ref c) A outer s H E).nox (defBody st) t ∧ t { nx := fun _ H' => Q .non H', rt := Q } (start N vs) H) :
    FnOk P w K mg base CX0 (k + 1) f fd ps sp := by
  obtain ⟨oc, od, kV, doc, pm, an, ct, osl, rfl, lk, hcd⟩ := F.ex
  refine fn_of lk hcd S len fun A outer s H vs Q E hr hsp => ?_
  obtain ⟨t, h, q⟩ := hbody A outer s H vs Q E hr hsp
  exact ⟨t, h.nox, q⟩
theorem genS_cx {N : List Str} {qual : Str} {sc scope : Scope} {f : Addr} {cd : Value} {A : Around} {outer : List Env} {s : Shared} {H : Hp} {E : XK} {x : Str} (h : genC sc scope x = true) :
    GxR.GenS (cxOf CX0 P w K mg base N qual sc f cd A outer s H E).nox.env scope x := by
  unfold genC at h
  simp only [Bool.and_eq_true, decide_eq_true_eq, Bool.not_eq_true', List.all_eq_true, Bool.or_eq_true, decide_eq_false_iff_not] at h
  obtain ⟨h1, h2, h3, h4, h5, h6⟩ := h
  refine ⟨h1, h2, h3, h4, h5, fun y hy e => ?_⟩
  rcases h6 y hy with z | z
  · exact absurd e z
  · exact cell_has (n := s.heap.objs.size + 1) z
end
/-! ### is_tree -/
def pick (rows : List Row) (is : List Int) : List Row := is.map fun i => (rows[i.toNat]?).getD ⟨0, 0, 0⟩
def IsTree (n root : Int) (rows : List Row) (is : List Int) : Prop := (is.length : Int) = n - 1 ∧ RoadsOk rows is ∧ ∀ v, 0 ≤ v → v < n → Reach (pick rows is) root v
theorem pick_len (rows : List Row) (is : List Int) : (pick rows is).length = is.length := by
  unfold pick
  rw [List.length_map]
/-- the chosen rows, as they stand -/
theorem pick_data {K : PySem.W.Frag} {H : Hp} {xs : List V} {rows : List Row} (h : DpAll K H xs (rows.map Row.dat)) : ∀ {is : List Int}, RoadsOk rows is → DpAll K H (is.map fun i => (xs[i.toNat]?).getD .non) ((pick rows is).map Row.dat)
  | [], _ => .nil
  | i :: is, ok => by
    obtain ⟨i0, i1⟩ := ok i List.mem_cons_self
    have hi : i.toNat < rows.length := by omega
    obtain ⟨t, ht, hT⟩ := rows_at h (List.getElem?_eq_getElem hi)
    obtain ⟨v, hv, hd⟩ := dpAll_get (i := i.toNat) (d := rows[i.toNat].dat) h (by rw [List.getElem?_map, List.getElem?_eq_getElem hi]; rfl)
    have ih := pick_data h (is := is) (fun j hj => ok j (List.mem_cons_of_mem _ hj))
    unfold pick at ih ⊢
    rw [List.map_cons, List.map_cons, List.map_cons, hv, List.getElem?_eq_getElem hi]
    exact .cons hd ih
theorem pick_ok {many : Int} {rows : List Row} {is : List Int} (h : ∀ r ∈ rows, Row.Ok many r) (ok : RoadsOk rows is) : ∀ r ∈ pick rows is, Row.Ok many r := fun r hr => by
  obtain ⟨i, hi, e⟩ := List.mem_map.mp hr
  obtain ⟨i0, i1⟩ := ok i hi
  have hl : i.toNat < rows.length := by omega
  rw [List.getElem?_eq_getElem hl] at e
  have e' : rows[i.toNat] = r := e
  rw [← e']
  exact h _ (List.getElem_mem hl)
theorem all_iff {is : List Int} {n : Nat} : (List.range is.length).all (fun i => decide (0 ≤ is.getD i 0) && decide (is.getD i 0 < (n : Int))) = true ↔ ∀ i ∈ is, 0 ≤ i ∧ i < (n : Int) := by
  rw [List.all_eq_true]
  constructor
  · intro h i hi
    obtain ⟨j, hj⟩ := List.getElem?_of_mem hi
    have q := h j (List.mem_range.mpr (List.getElem?_eq_some_iff.mp hj).1)
    rw [List.getD_eq_getElem?_getD, hj, Bool.and_eq_true] at q
    exact ⟨of_decide_eq_true q.1, of_decide_eq_true q.2⟩
  · intro h j hj
    have hl := List.mem_range.mp hj
    have e : is.getD j 0 = is[j] := by rw [List.getD_eq_getElem?_getD, List.getElem?_eq_getElem hl]; rfl
    obtain ⟨a, b⟩ := h _ (List.getElem_mem hl)
    rw [e, decide_eq_true a, decide_eq_true b]
    rfl
def spIsTree (K : PySem.W.Frag) (C P : Addr) : Sp := fun vs H Q _ => ∃ (p : Addr) (n r : Int) (rows : List Row) (v : V) (is : List Int), vs = [.ref p, v] ∧ MapAt K C H p n r rows ∧ ChartOk n r rows ∧ Dp K H v (.list (is.map .int)) ∧ is.length ≤ 1000 ∧ GxR.TabG H P ∧
  ∀ H' b, Tabd (at1 P) H H' → (b = true ↔ IsTree n r rows is) → Q (.bl b) H'
section
variable {P : Program} {w : World} {K : PySem.W.Frag} {mg : Str → Option Value} {base : Heap}
theorem ok_is_tree {f C c TP : Addr} {fd : FuncData} {k : Nat} (F : FunT K "is_tree" "is_tree" s_is_tree f fd c) (T : TxtM K mg C) (al : mg "all" = none) (TB : GxR.TabB base mg c TP)
    (hR : HasM P w K mg base C "roads" ["self"] k (spRoads K C)) (hZ : HasM P w K mg base C "size" ["self"] k (spSize K C)) (hB : HasM P w K mg base C "begin" ["self"] k (spBegin K C))
    (hL : Has P w K mg base "left_out" ["many", "root", "roads"] k (spLeft K)) : FnOk P w K mg base CX0 (k + 1) f fd ["chart", "roads"] (spIsTree K C TP) := by
  obtain ⟨fR, fdR, mR, bR, GR⟩ := hR
  obtain ⟨fZ, fdZ, mZ, bZ, GZ⟩ := hZ
  obtain ⟨fB, fdB, mB, bB, GB⟩ := hB
  obtain ⟨fL, fdL, gL, kL, bL, GL⟩ := hL
  refine F.ok sc_is_tree (fun vs H Q E h => ?_) (fun A outer s H vs Q E hr h => ?_)
  · obtain ⟨p, n, r, rows, v, is, rfl, _⟩ := h
    rfl
  · obtain ⟨p, n, r, rows, v, is, rfl, hM, ok, hV, hlen, hT, q⟩ := h
    refine ⟨_, (pss_cons (ps_set (i := 2) sc_is_tree.nd rfl (Or.inr rfl) (pe_meth0 (pv 0) T.cl mR GR hr bR .nil pass0))
  (pss_cons (ps_if (pt_cmpR op_ne (pe_callB call_len_seq (by rfl) T.len PySem.boot_len (pa_cons (pv 1) pa_nil)) (pe_op op_sub (pe_meth0 (pv 0) T.cl mZ GZ hr bZ .nil pass0) pe_int) (nomark _))
   (pss_one (ps_ret pe_bl))
   pss_nil)
  (pss_cons (ps_if (pt_not (pt_val (pe_allQ (c := c) (P := TP) hr (by rfl) al TB rfl (genS_cx (by decide +kernel)) (pv 1))))
   (pss_one (ps_ret pe_bl))
   pss_nil)
  (pss_one (ps_ret (pe_cmpR (op_eqD hr.units) (pe_call GL hr (by rfl) gL kL bL .nil pass0 (pa_cons (pe_meth0 (pv 0) T.cl mZ GZ hr bZ .nil pass0) (pa_cons (pe_meth0 (pv 0) T.cl mB GB hr bB .nil pass0) (pa_cons (pe_lc (own := [("road", 3)]) (g := gName 3) (tt := tYes) rfl sc_is_tree.nd (pi_list (pv 1)) (blkOk_by (N := N_is_tree) (sc := defScope s_is_tree) (by decide +kernel)) (fun _ _ _ _ _ => (pg_name (i := 3) sc_is_tree.nd rfl (Or.inl rfl))) (fun _ _ _ _ _ => pts_nil) (fun _ _ _ _ _ => (pe_ix (r := rIxL K) ix_list (pv 2) (pv 3) (fun _ _ => rfl)))) pa_nil)))) (pe_lst pa_nil) (nomark _))))))), ?_⟩
    obtain ⟨dx, l0, hp, hD⟩ := id hM
    obtain ⟨a, vs, rfl, hS, hA⟩ := dp_list_inv hV
    obtain rfl := dpAll_ints_inv hA
    have hm : ∀ b, at1 TP b → GxR.TabG H b := fun b (e : b = TP) => e ▸ hT
    refine ⟨_, rfl, p, dx, _, rfl, hp, lk_roads, p, n, r, rows, rfl, hM, fun l xs hl hX => ?_⟩
    have s1 : Same H (upd H l (.lst xs)) := same_new hl
    have hxl : xs.length = rows.length := by rw [dpAll_len hX, List.length_map]
    refine ⟨_, rfl, a, _, rfl, .inl (s1.seq hS), _, rfl, p, dx, _, rfl, s1 _ _ hp, lk_size, p, n, r, rows, rfl, hM.same s1, _, _, rfl, rfl, rfl, _, rfl, ite2 (fun c => ?_) (fun c => ?_)⟩
    · refine q _ false (.of_same s1 hm) ⟨fun z => Bool.noConfusion z, fun z => ?_⟩
      have := neq c
      rw [List.length_map] at this
      exact absurd z.1 this
    · have elen : (is.length : Int) = n - 1 := by
        have z : V.int ((is.map V.int).length : Int) = V.int (n - 1) := by simpa using c
        have z' := V.int.inj z
        rw [List.length_map] at z'
        exact z'
      have hT1 : GxR.TabG (upd H l (.lst xs)) TP := by
        obtain ⟨ps, e, t⟩ := hT
        exact ⟨ps, s1 _ _ e, t⟩
      refine ⟨_, rfl, a, _, _, rfl, .inl (s1.seq hS), elt_len (j := 2) (l := l) (ks := xs) hT1 rfl (by decide +kernel) (by decide +kernel) (by decide +kernel) T.len rfl rfl (show (defScope s_is_tree).names.lookup ("known" : Str) = some NameKind.cell by decide +kernel) (.inl (.of upd_same)), hT1, fun H2 t2 => ⟨_, rfl, ite2 (fun c2 => ?_) (fun c2 => ?_)⟩⟩
      · have T2 : Tabd (at1 TP) H H2 := (Tabd.of_same s1 hm).trans (.of_tabbed t2 (fun b (e : b = TP) => e ▸ hT1) rfl)
        refine q _ false T2 ⟨fun z => Bool.noConfusion z, fun z => ?_⟩
        have e := (all_iff (is := is) (n := xs.length)).mpr (by rw [hxl]; exact z.2.1)
        rw [List.length_map, e] at c2
        cases c2
      · have e : (List.range is.length).all (fun i => decide (0 ≤ is.getD i 0) && decide (is.getD i 0 < (xs.length : Int))) = true := by
          rw [List.length_map] at c2
          simpa using c2
        have rok : RoadsOk rows is := by
          have z := all_iff.mp e
          rw [hxl] at z
          exact z
        have T2 : Tabd (at1 TP) H H2 := (Tabd.of_same s1 hm).trans (.of_tabbed t2 (fun b (e : b = TP) => e ▸ hT1) rfl)
        -- the part without the table
        have sH : Same (sans (at1 TP) (upd H l (.lst xs))) H2 := (Tabd.of_tabbed (m := at1 TP) t2 (fun b (e : b = TP) => e ▸ hT1) rfl).sans
        have hm1 : ∀ b, at1 TP b → GxR.TabG (upd H l (.lst xs)) b := fun b (e : b = TP) => e ▸ hT1
        have M2 : MapAt K C H2 p n r rows := (map_sans hm1 (hM.same s1)).same sH
        have X2 : DpAll K H2 xs (rows.map Row.dat) := dpAll_same sH _ _ (dpAll_sans hm1 _ _ (dpAll_same s1 _ _ hX))
        have L2' : SqL K H2 l xs := sH.seq (sqL_sans hm1 (.of upd_same))
        have S2 : SqL K H2 a (is.map V.int) := sH.seq (sqL_sans hm1 (s1.seq hS))
        obtain ⟨dx2, l2, hp2, hD2⟩ := id M2
        refine ⟨_, rfl, p, dx2, _, rfl, hp2, lk_size, p, n, r, rows, rfl, M2, _, rfl, p, dx2, _, rfl, hp2, lk_begin, p, n, r, rows, rfl, M2, ?_⟩
        refine ⟨_, rfl, a, rfl, ⟨_, S2⟩, fun D hDn => lc_list (K := K) (a := a) (xs := is.map V.int)
          (fun i H' => Same H2 H' ∧ H' D = some (.lst ((is.take i).map fun j => (xs[j.toNat]?).getD .non))) ⟨same_new hDn, upd_same⟩ (fun i H' _ z => z.1.seq S2) ?_ ?_⟩
        · rintro i x H3 hi ⟨e3, h3⟩
          obtain ⟨j, hj, rfl⟩ : ∃ j, is[i]? = some j ∧ x = .int j := by
            rw [List.getElem?_map] at hi
            cases ei : is[i]? with
            | none => rw [ei] at hi; cases hi
            | some u => rw [ei] at hi; exact ⟨u, rfl, (Option.some.inj hi).symm⟩
          obtain ⟨j0, j1⟩ := rok j (List.mem_of_getElem? hj)
          obtain ⟨m, rfl⟩ : ∃ m : Nat, j = (m : Int) := ⟨j.toNat, by omega⟩
          have hml : m < xs.length := by omega
          refine ⟨rfl, _, rfl, _, rfl, l, xs, _, _, rfl, rfl, e3.seq L2', atI_nat (List.getElem?_eq_getElem hml), _, h3, ?_, same_mut e3 hDn, ?_⟩
          · rw [List.length_map, List.length_take]
            exact small_lt (by omega)
          · rw [upd_same, take_succ hj, List.map_append]
            simp [hml]
        · rintro H3 ⟨e3, h3⟩
          rw [List.length_map, List.take_length] at h3
          have DD : Dp K H3 (.ref D) (rowsDat (pick rows is)) := .lst (.of h3) (dpAll_same e3 _ _ (pick_data X2 rok))
          obtain ⟨m0, m1, r0, r1, hl60, hrows⟩ := ok
          refine ⟨n, r, _, pick rows is, rfl, DD, r0, r1, by omega, by rw [pick_len]; exact hlen, fun x hx => ?_, fun H4 p4 ns e4 hn4 h4 hmem _ => ?_⟩
          · have o := pick_ok hrows rok x hx
            exact ⟨o.b0, o.b1, o.g0, o.g1⟩
          · refine ⟨Nat.zero_le _, fun p5 hp5 => ?_⟩
            have n45 : p4 ≠ p5 := ne_of_none h4 hp5
            refine ⟨.list (ns.map .int), .list [], .lst (.of (by rw [upd_ne n45]; exact h4)) (dpAll_ints ns), .lst (.of upd_same) .nil, num_shaped (num_ints (n := 0) ns) (by decide), num_shaped (n := 1) (fun d hd => by cases hd) (by decide), ?_⟩
            refine q _ _ ((T2.trans (.of_same (e3.trans e4) T2.tab)).trans (.of_same (same_new hp5) fun b hb => ?_)) ?_
            · obtain ⟨ps, x, t⟩ := T2.tab b hb
              exact ⟨ps, (e3.trans e4) _ _ x, t⟩
            · have nilN : Num 1 (.list []) := fun d hd => by cases hd
              rw [num_eqv 1 _ _ (num_ints ns) nilN]
              constructor
              · intro z
                have ens : ns = [] := by
                  cases ns with
                  | nil => rfl
                  | cons x y => simp at z
                refine ⟨elen, rok, fun v v0 v1 => Classical.byContradiction fun hn => ?_⟩
                have := (hmem v).mpr ⟨v0, v1, hn⟩
                rw [ens] at this
                cases this
              · rintro ⟨_, _, hr⟩
                cases ns with
                | nil => rfl
                | cons x y =>
                  obtain ⟨a0, a1, a2⟩ := (hmem x).mp List.mem_cons_self
                  exact absurd (hr x a0 a1) a2
end
end Rc
/-! part RcK2 -/
namespace Rc
open PySem PySem.Spec PyProof.Rows L2
/-- a dict of whole numbers -/
def intD (ks : List Int) (f : Int → V) : List (Key × V) := ks.map fun k => (.inl k, f k)
theorem intD_len (ks : List Int) (f : Int → V) : (intD ks f).length = ks.length := by
  unfold intD
  rw [List.length_map]
theorem valV_intD {f : Int → V} {k : Int} : ∀ {ks : List Int}, k ∈ ks → valV (intD ks f) (.inl k) = some (f k)
  | [], h => by cases h
  | j :: ks, h => by
    by_cases e : j = k
    · subst e
      exact valV_pos (p := (Sum.inl j, f j)) rfl
    · have hk : k ∈ ks := by
        rcases List.mem_cons.mp h with z | z
        · exact absurd z.symm e
        · exact z
      exact (valV_neg (p := (Sum.inl j, f j)) (r := intD ks f) (k := Sum.inl k) (fun z => e (Sum.inl.inj z))).trans (valV_intD hk)
theorem valV_intD_no {f : Int → V} {k : Int} : ∀ {ks : List Int}, k ∉ ks → valV (intD ks f) (.inl k) = none
  | [], _ => rfl
  | j :: ks, h => by
    have e : ¬ j = k := fun z => h (by rw [z]; exact List.mem_cons_self)
    exact (valV_neg (p := (Sum.inl j, f j)) (r := intD ks f) (k := Sum.inl k) (fun z => e (Sum.inl.inj z))).trans (valV_intD_no fun z => h (List.mem_cons_of_mem _ z))
theorem putK_intD {f : Int → V} {k : Int} {v : V} {ks : List Int} (h : k ∈ ks) : putK (intD ks f) (.inl k) v = intD ks fun j => if j = k then v else f j := by
  have hv := valV_intD (f := f) h
  unfold putK
  rw [valV_any, hv]
  simp only [Option.isSome_some, if_true]
  unfold intD
  rw [List.map_map]
  refine List.map_congr_left fun j _ => ?_
  show (if (Sum.inl j : Key) = Sum.inl k then (Sum.inl j, v) else (Sum.inl j, f j)) = (Sum.inl j, if j = k then v else f j)
  by_cases e : j = k
  · subst e
    rw [if_pos rfl, if_pos rfl]
  · rw [if_neg (fun z => e (Sum.inl.inj z)), if_neg e]
theorem putK_intD_new {f : Int → V} {k : Int} {v : V} {ks : List Int} (h : k ∉ ks) : putK (intD ks f) (.inl k) v = intD (ks ++ [k]) fun j => if j = k then v else f j := by
  rw [putK_new v (valV_intD_no h)]
  unfold intD
  rw [List.map_append]
  congr 1
  · refine List.map_congr_left fun j hj => ?_
    have e : ¬ j = k := fun z => h (z ▸ hj)
    show (Sum.inl j, f j) = ((Sum.inl j : Key), if j = k then v else f j)
    rw [if_neg e]
  · simp
/-- what the roads ks still cost: pairs at new places -/
def RestAt (H : Hp) (d : Addr) (ks : List Int) (ρ : Int → Int × Int) : Prop := ∃ as : Int → Addr, H d = some (.dK (intD ks fun k => .ref (as k))) ∧ ∀ k ∈ ks, H (as k) = some (.tup [.int (ρ k).1, .int (ρ k).2])
theorem RestAt.keep {H H' : Hp} {d : Addr} {ks : List Int} {ρ : Int → Int × Int} (R : RestAt H d ks ρ) (h : ∀ b o, (∀ ps, o ≠ .tbl ps) → H b = some o → H' b = some o) : RestAt H' d ks ρ := by
  obtain ⟨as, h1, h2⟩ := R
  exact ⟨as, h _ _ (fun ps z => by cases z) h1, fun k hk => h _ _ (fun ps z => by cases z) (h2 k hk)⟩
/-- the roads es less by what p still costs -/
def lessBy (ρ : Int → Int × Int) (es : List Int) (p : Int) : Int → Int × Int := fun k => if k ∈ es then ((ρ k).1 - (ρ p).1, (ρ k).2 - (ρ p).2) else ρ k
def lamQ : Str := ("pay.<locals>." : Str) ++ "<lambda>"
/-- p is the first of the least -/
def First (es : List Int) (ρ : Int → Int × Int) (p : Int) : Prop := ∃ i : Nat, es[i]? = some p ∧ ∀ (j : Nat) (e : Int), j < i → es[j]? = some e → lt2 (ρ p) (ρ e) = true
def spPay (K : PySem.W.Frag) (TP : Addr) : Sp := fun vs H Q _ => ∃ (a d : Addr) (es ks : List Int) (ρ : Int → Int × Int), vs = [.ref a, .ref d] ∧ SqL K H a (es.map V.int) ∧ RestAt H d ks ρ ∧ es ≠ [] ∧ es.Nodup ∧ (∀ e ∈ es, e ∈ ks) ∧ ks.length ≤ 1000 ∧ LamX.TabS H TP lamQ ∧
  ∀ H' t p, (∀ b o, b ≠ d → b ≠ TP → H b = some o → H' b = some o) → LamX.TabS H' TP lamQ → H t = none → H' t = some (.tup [.int (ρ p).1, .int p]) → RestAt H' d ks (lessBy ρ es p) → p ∈ es → (∀ e ∈ es, lt2 (ρ e) (ρ p) = false) → First es ρ p → Q (.ref t) H'
theorem tabS_ne {H : Hp} {P b : Addr} {q : Str} {o : HO} (T : LamX.TabS H P q) (h : H b = some o) (ho : ∀ ps, o ≠ .tbl ps) : b ≠ P := by
  obtain ⟨ps, e, _⟩ := T
  intro z
  rw [z, e] at h
  exact ho ps (Option.some.inj h).symm
theorem tabS_keep {H H' : Hp} {P : Addr} {q : Str} (T : LamX.TabS H P q) (h : ∀ b o, ((∃ ps, o = HO.tbl ps) ∨ ∃ q, o = LamX.CodeO b q) → H b = some o → H' b = some o) : LamX.TabS H' P q := by
  obtain ⟨ps, h1, h2, h3⟩ := T
  refine ⟨ps, h _ _ (.inl ⟨ps, rfl⟩) h1, h2, fun pos cv hc => ?_⟩
  obtain ⟨c0, e1, e2⟩ := h3 pos cv hc
  exact ⟨c0, e1, h _ _ (.inr ⟨_, rfl⟩) e2⟩
theorem codeO_no {c : Addr} {q : Str} {o : HO} (e : o = LamX.CodeO c q) (h : ∀ φ, o ≠ .ext φ) : False := by
  unfold LamX.CodeO at e
  exact h _ e
theorem tabS_dict {H : Hp} {P d : Addr} {q : Str} {kvs : List (Key × V)} {o : HO} (T : LamX.TabS H P q) (hd : H d = some (.dK kvs)) : LamX.TabS (upd H d o) P q :=
  tabS_keep T fun b u hk hb => by
    have ne : b ≠ d := fun z => by
      rw [z, hd] at hb
      cases hb
      rcases hk with ⟨ps, e⟩ | ⟨q, e⟩
      · cases e
      · exact codeO_no e fun φ z => by cases z
    rw [upd_ne ne]
    exact hb
theorem tabS_new {H : Hp} {P t : Addr} {q : Str} {o : HO} (T : LamX.TabS H P q) (ht : H t = none) : LamX.TabS (upd H t o) P q := T.ext fun b u hb => by
  rw [upd_ne (ne_of_none hb ht)]
  exact hb
theorem sqL_but {K : PySem.W.Frag} {H H' : Hp} {P a : Addr} {q : Str} {xs : List V} (T : LamX.TabS H P q) (e : But P H H') (h : SqL K H a xs) : SqL K H' a xs := by
  rcases h with (h | ⟨o, h⟩) | h
  · exact .inl (.inl (e _ _ (tabS_ne T h fun ps z => by cases z) h))
  · exact .inl (.inr ⟨o, e _ _ (tabS_ne T h fun ps z => by cases z) h⟩)
  · exact .inr h
section
variable {P : Program} {w : World} {K : PySem.W.Frag} {mg : Str → Option Value} {base : Heap}
theorem ok_pay {f c TP : Addr} {fd : FuncData} {k : Nat} (F : FunT K "pay" "pay" s_pay f fd c) (mn : mg "min" = none) (TB : LamX.TabB base mg c TP) : FnOk P w K mg base CX0 (k + 3) f fd ["entering", "rest"] (spPay K TP) := by
  refine F.ok (k := k + 2) sc_pay (fun vs H Q E h => ?_) (fun A outer s H vs Q E hr h => ?_)
  · obtain ⟨a, d, es, ks, ρ, rfl, _⟩ := h
    rfl
  · obtain ⟨a, d, es, ks, ρ, rfl, hE, hR, hne, hnd, hsub, hlen, hT, q⟩ := h
    have hu : (A.deeper (envOfC "pay" (defScope s_pay) s.heap.objs.size f (.ref c))).units + 1 < cLine := by
      have := hr.un
      omega
    refine ⟨_, (pss_cons (ps_set (i := 2) sc_pay.nd rfl (Or.inl rfl) (pe_minKey (k := k) (P := TP) (x := "road") hr (by rfl) mn TB rfl (lamS1_by (sc := defScope s_pay) (by decide +kernel)) (pv 0)))
  (pss_cons (ps_asg (pe_dget hu (pv 1) (pv 2) (fun _ _ => rfl)) (pg_tup (by rfl) (pgs_cons (pg_name (i := 3) sc_pay.nd rfl (Or.inl rfl)) (pgs_cons (pg_name (i := 4) sc_pay.nd rfl (Or.inl rfl)) pgs_nil))))
  (pss_cons (ps_for PassesOwn.never rfl (pi_list (pv 0)) (pg_name (i := 5) sc_pay.nd rfl (Or.inl rfl))
   (pss_cons (ps_asg (pe_dget hu (pv 1) (pv 5) (fun _ _ => rfl)) (pg_tup (by rfl) (pgs_cons (pg_name (i := 6) sc_pay.nd rfl (Or.inl rfl)) (pgs_cons (pg_name (i := 7) sc_pay.nd rfl (Or.inl rfl)) pgs_nil))))
  (pss_one (ps_dput hu (pv 1) (pv 5) (pe_tup (pa_cons (pe_op op_sub (pv 6) (pv 3)) (pa_cons (pe_op op_sub (pv 7) (pv 4)) pa_nil))) (by rfl)))))
  (pss_one (ps_ret (pe_tup (pa_cons (pv 3) (pa_cons (pv 2) pa_nil)))))))), ?_⟩
    obtain ⟨as, hd, has⟩ := hR
    refine ⟨_, rfl, hT, fun H2 eB T2 => ?_⟩
    have hd2 : H2 d = some (.dK (intD ks fun k => .ref (as k))) := eB _ _ (tabS_ne hT hd fun ps z => by cases z) hd
    have has2 : ∀ k ∈ ks, H2 (as k) = some (.tup [.int (ρ k).1, .int (ρ k).2]) := fun k hk => eB _ _ (tabS_ne hT (has k hk) fun ps z => by cases z) (has k hk)
    have hE2 : SqL K H2 a (es.map V.int) := sqL_but hT eB hE
    have gd : ∀ {i n}, es[i]? = some n → es.getD i 0 = n := fun {i n} h => by rw [List.getD_eq_getElem?_getD, h]; rfl
    refine ⟨a, es.map V.int, fun i => as (es.getD i 0), fun i => ρ (es.getD i 0), rfl, hE2, by simpa using hne, fun i hi => ?_, key_dget (j := 1) hr rfl (by decide +kernel) (by decide +kernel) rfl rfl (show (defScope s_pay).names.lookup ("rest" : Str) = some NameKind.cell by decide +kernel) hd2 fun i n hn => ?_, fun i y hy hbest hfirst => ?_⟩
    · rw [List.length_map] at hi
      have e : es.getD i 0 = es[i] := gd (List.getElem?_eq_getElem hi)
      dsimp only
      rw [e]
      exact .of (has2 _ (hsub _ (List.getElem_mem hi)))
    · rw [gd hn]
      exact valV_intD (hsub _ (List.mem_of_getElem? hn))
    · obtain ⟨p, hp, rfl⟩ : ∃ p, es[i]? = some p ∧ y = .int p := by
        rw [List.getElem?_map] at hy
        cases em : es[i]? with
        | none => rw [em] at hy; cases hy
        | some u => rw [em] at hy; exact ⟨u, rfl, (Option.some.inj hy).symm⟩
      have hpe := List.mem_of_getElem? hp
      have hpk := hsub p hpe
      have hmin : ∀ e ∈ es, lt2 (ρ e) (ρ p) = false := fun e he => by
        obtain ⟨j, hj⟩ := List.getElem?_of_mem he
        have z := hbest j (by rw [List.length_map]; exact (List.getElem?_eq_some_iff.mp hj).1)
        dsimp only at z
        rw [gd hj, gd hp] at z
        exact z
      have hfst : First es ρ p := ⟨i, hp, fun j e hj he => by
        have z := hfirst j hj
        dsimp only at z
        rw [gd he, gd hp] at z
        exact z⟩
      have g2 : DGet H2 d (.int p) (some (.ref (as p))) := by
        have := DGet.k (k := .inl p) hd2
        rw [valV_intD hpk] at this
        exact this
      refine ⟨_, rfl, _, rfl, d, _, rfl, g2, as p, _, rfl, .of (has2 p hpk), rfl, _, _, rfl, _, _, rfl, rfl, ?_⟩
      refine ⟨_, rfl, a, rfl, ⟨_, hE2⟩, for_list (K := K) (a := a) (xs := es.map V.int) (fun i σ H' => (∀ b o, b ≠ d → b ≠ TP → H b = some o → H' b = some o) ∧ LamX.TabS H' TP lamQ ∧ RestAt H' d ks (lessBy ρ (es.take i) p) ∧
          ∃ v5 v6 v7 : Option V, σ = [some (.ref a), some (.ref d), some (.int p), some (.int (ρ p).1), some (.int (ρ p).2), v5, v6, v7])
        ⟨fun b o _ n e => eB b o n e, T2, ⟨as, hd2, fun k hk => by simpa [lessBy] using has2 k hk⟩, _, _, _, rfl⟩ (fun i σ H' _ z => ?_) ?_ ?_⟩
      · rcases hE with (h | ⟨o, h⟩) | h
        · exact .of (z.1 _ _ (fun w => by rw [w, hd] at h; cases h) (tabS_ne hT h fun ps w => by cases w) h)
        · exact .inl (.inr ⟨o, z.1 _ _ (fun w => by rw [w, hd] at h; cases h) (tabS_ne hT h fun ps w => by cases w) h⟩)
        · exact .inr h
      · rintro i x σ H' hi ⟨e1, T1, ⟨as1, hd1, has1⟩, v5, v6, v7, rfl⟩
        obtain ⟨r, hr1, rfl⟩ : ∃ r, es[i]? = some r ∧ x = .int r := by
          rw [List.getElem?_map] at hi
          cases em : es[i]? with
          | none => rw [em] at hi; cases hi
          | some u => rw [em] at hi; exact ⟨u, rfl, (Option.some.inj hi).symm⟩
        have hrk := hsub r (List.mem_of_getElem? hr1)
        have hil := (List.getElem?_eq_some_iff.mp hr1).1
        have hnot : r ∉ es.take i := fun z => by
          obtain ⟨j, hj⟩ := List.getElem?_of_mem z
          have hj2 : j < i ∧ es[j]? = some r := by
            rw [List.getElem?_take] at hj
            split at hj
            · exact ⟨by assumption, hj⟩
            · cases hj
          have := nodup_at hnd hj2.2 hr1
          omega
        have hrho : lessBy ρ (es.take i) p r = ρ r := by unfold lessBy; rw [if_neg hnot]
        have hrt := has1 r hrk
        rw [hrho] at hrt
        have g1 : DGet H' d (.int r) (some (.ref (as1 r))) := by
          have := DGet.k (k := .inl r) hd1
          rw [valV_intD hrk] at this
          exact this
        refine ⟨_, rfl, _, rfl, d, _, rfl, g1, as1 r, _, rfl, .of hrt, rfl, _, _, rfl, _, _, rfl, rfl, ?_⟩
        refine ⟨_, rfl, _, rfl, _, _, rfl, rfl, _, rfl, _, rfl, _, _, rfl, rfl, (by show 2 ≤ sizeLine; decide), fun T hTn => ?_⟩
        have nTd : d ≠ T := ne_of_none hd1 hTn
        have hd3 : (upd H' T (.tup [.int ((ρ r).1 - (ρ p).1), .int ((ρ r).2 - (ρ p).2)])) d = some (.dK (intD ks fun k => .ref (as1 k))) := by
          rw [upd_ne nTd]
          exact hd1
        refine ⟨_, rfl, _, rfl, d, _, rfl, DPut.k (k := .inl r) hd3 (small_lt (by rw [intD_len]; omega)), ?_⟩
        refine ⟨fun b o n1 n2 hb => ?_, tabS_dict (tabS_new T1 hTn) hd3, ⟨fun j => if j = r then T else as1 j, ?_, fun k hk => ?_⟩, _, _, _, rfl⟩
        · have hb' := e1 b o n1 n2 hb
          rw [upd_ne n1, upd_ne (ne_of_none hb' hTn)]
          exact hb'
        · rw [upd_same, putK_intD hrk]
          congr 3
          funext j
          by_cases e : j = r
          · show (if j = r then V.ref T else V.ref (as1 j)) = V.ref (if j = r then T else as1 j)
            rw [if_pos e, if_pos e]
          · show (if j = r then V.ref T else V.ref (as1 j)) = V.ref (if j = r then T else as1 j)
            rw [if_neg e, if_neg e]
        · have eT : es.take (i + 1) = es.take i ++ [r] := take_succ hr1
          by_cases e : k = r
          · subst e
            dsimp only
            rw [if_pos rfl, upd_ne (Ne.symm nTd), upd_same]
            have hm : k ∈ es.take (i + 1) := by rw [eT]; exact List.mem_append_right _ (List.mem_singleton.mpr rfl)
            unfold lessBy
            rw [if_pos hm]
          · have hk1 := has1 k hk
            dsimp only
            rw [if_neg e, upd_ne (fun z => by rw [z, hd1] at hk1; cases hk1), upd_ne (ne_of_none hk1 hTn), hk1]
            have hm : k ∈ es.take (i + 1) ↔ k ∈ es.take i := by
              rw [eT, List.mem_append, List.mem_singleton]
              exact ⟨fun z => z.resolve_right e, fun z => .inl z⟩
            unfold lessBy
            by_cases hki : k ∈ es.take i
            · rw [if_pos hki, if_pos (hm.mpr hki)]
            · rw [if_neg hki, if_neg (fun z => hki (hm.mp z))]
      · rintro σ H' ⟨e1, T1, R1, v5, v6, v7, rfl⟩
        rw [List.length_map, List.take_length] at R1
        refine ⟨_, rfl, _, rfl, (by show 2 ≤ sizeLine; decide), fun t ht => ?_⟩
        refine q _ t p (fun b o n1 n2 hb => ?_) (tabS_new T1 ht) ?_ upd_same (R1.keep fun b o _ hb => ?_) hpe hmin hfst
        · have hb' := e1 b o n1 n2 hb
          rw [upd_ne (ne_of_none hb' ht)]
          exact hb'
        · cases hz : H t with
          | none => rfl
          | some o =>
            obtain ⟨asx, hdx, _⟩ := R1
            by_cases hz1 : t = d
            · rw [hz1, hdx] at ht
              cases ht
            by_cases hz2 : t = TP
            · obtain ⟨ps, hps, _⟩ := T1
              rw [hz2, hps] at ht
              cases ht
            have := e1 t o hz1 hz2 hz
            rw [ht] at this
            cases this
        · rw [upd_ne (ne_of_none hb ht)]
          exact hb
end
end Rc
/-! part RcK3 -/
namespace Rc
open PySem PySem.Spec PyProof.Rows L2
/-- the roads of the numbers ks: a dict of rows -/
structure RoadsAt (K : PySem.W.Frag) (H : Hp) (r : Addr) (ks : List Int) (rw : Int → Row) (tw : Int → Addr) : Prop where
  dd : H r = some (.dK (intD ks fun k => .ref (tw k)))
  has : ∀ k ∈ ks, SqT K H (tw k) [.int (rw k).b, .int (rw k).g, .int (rw k).c]
theorem RoadsAt.same {K : PySem.W.Frag} {H H' : Hp} {r : Addr} {ks : List Int} {rw : Int → Row} {tw : Int → Addr} (R : RoadsAt K H r ks rw tw) (e : Same H H') : RoadsAt K H' r ks rw tw := ⟨e _ _ R.dd, fun k hk => sqT_same e (R.has k hk)⟩
def Into (ks : List Int) (rw : Int → Row) (j : Nat) : List Int := ks.filter fun k => decide ((rw k).g = (j : Int))
theorem mem_Into {ks : List Int} {rw : Int → Row} {j : Nat} {k : Int} : k ∈ Into ks rw j ↔ k ∈ ks ∧ (rw k).g = (j : Int) := by
  unfold Into
  rw [List.mem_filter, decide_eq_true_iff]
theorem Into_snoc (ks : List Int) (rw : Int → Row) (k : Int) (j : Nat) : Into (ks ++ [k]) rw j = if (rw k).g = (j : Int) then Into ks rw j ++ [k] else Into ks rw j := by
  unfold Into
  rw [List.filter_append]
  by_cases h : (rw k).g = (j : Int)
  · rw [if_pos h]
    simp [h]
  · rw [if_neg h]
    simp [h]
theorem upd_com {H : Hp} {a b : Addr} {x y : HO} (h : a ≠ b) : upd (upd H a x) b y = upd (upd H b y) a x := by
  funext c
  by_cases h1 : c = a
  · subst h1
    rw [upd_ne h, upd_same, upd_same]
  · by_cases h2 : c = b
    · subst h2
      rw [upd_same, upd_ne h1, upd_same]
    · rw [upd_ne h2, upd_ne h1, upd_ne h1, upd_ne h2]
theorem upd_back {H : Hp} {a : Addr} {x y : HO} (h : H a = some x) : upd (upd H a y) a x = H := by
  funext c
  by_cases h1 : c = a
  · subst h1
    rw [upd_same, h]
  · rw [upd_ne h1, upd_ne h1]
theorem intD_get {ks : List Int} {f : Int → V} {i : Nat} {k : Key} {v : V} (h : (intD ks f)[i]? = some (k, v)) : ∃ n, ks[i]? = some n ∧ k = .inl n ∧ v = f n := by
  unfold intD at h
  rw [List.getElem?_map] at h
  cases e : ks[i]? with
  | none => rw [e] at h; cases h
  | some n =>
    rw [e] at h
    have := Option.some.inj h
    exact ⟨n, rfl, (congrArg Prod.fst this).symm, (congrArg Prod.snd this).symm⟩
/-- what is read of the roads while they are locked -/
theorem RoadsAt.get {K : PySem.W.Frag} {H H' : Hp} {r : Addr} {ks : List Int} {rw : Int → Row} {tw : Int → Addr} (hd : Rd H' r (.dK (intD ks fun k => .ref (tw k)))) {k : Int} (hk : k ∈ ks) : DGet H' r (.int k) (some (.ref (tw k))) :=
  .inl ⟨_, .inl k, hd, rfl, (valV_intD (f := fun k => .ref (tw k)) hk).symm⟩
def spInto (K : PySem.W.Frag) : Sp := fun vs H Q _ => ∃ (many : Int) (r : Addr) (ks : List Int) (rw : Int → Row) (tw : Int → Addr), vs = [.int many, .ref r] ∧ RoadsAt K H r ks rw tw ∧ 0 ≤ many ∧ many ≤ 1000 ∧ ks.length ≤ 1000 ∧ (∀ k ∈ ks, 0 ≤ (rw k).g ∧ (rw k).g < many) ∧
  ∀ H' D gs, Same H H' → Goals H H' D gs (Into ks rw) → gs.length = many.toNat → Q (.ref D) H'
section
variable {P : Program} {w : World} {K : PySem.W.Frag} {mg : Str → Option Value} {base : Heap}
theorem ok_into {f : Addr} {fd : FuncData} {k : Nat} (F : Fun K "roads_into" "roads_into" s_roads_into f fd) (ra : mg "range" = none) : FnOk P w K mg base CX0 (k + 1) f fd ["many", "roads"] (spInto K) := by
  refine F.ok sc_roads_into (fun vs H Q E h => ?_) (fun cdv A outer s H vs Q E hr h => ?_)
  · obtain ⟨many, r, ks, rw, tw, rfl, _⟩ := h
    rfl
  · obtain ⟨many, r, ks, rw, tw, rfl, hR, m0, m1, hlen, hg, q⟩ := h
    have hu : (A.deeper (envOfC "roads_into" (defScope s_roads_into) s.heap.objs.size f cdv)).units + 1 < cLine := by
      have := hr.un
      omega
    refine ⟨_, (pss_cons (ps_setLc (i := 2) (own := [("_", 4)]) (g := gName 4) (tt := tYes) rfl sc_roads_into.nd rfl rfl (sw_true rfl rfl rfl (by decide +kernel)) (pi_range1 (by rfl) ra (pa_cons (pv 0) pa_nil)) (blkOk_by (N := N_roads_into) (sc := defScope s_roads_into) (by decide +kernel)) (fun _ _ _ _ _ => (pg_name (i := 4) sc_roads_into.nd rfl (Or.inl rfl))) (fun _ _ _ _ _ => pts_nil) (fun _ _ _ _ _ => (pe_lst pa_nil)))
  (pss_cons (ps_lock (ps_for PassesOwn.never rfl (pi_keys (pv 1)) (pg_name (i := 3) sc_roads_into.nd rfl (Or.inl rfl))
   (pss_one (ps_expr (pe_bm PySem.F.plainAttrs_list PySem.F.slot_list_append PySem.F.type_list_append mt_append (pe_ix ix_list (pv 2) (pe_ix ix_tup (pe_dget hu (pv 1) (pv 3) (fun _ _ => rfl)) pe_int (fun _ _ => rfl)) (fun _ _ => rfl)) (pa_cons (pv 3) pa_nil))))))
  (pss_one (ps_ret (pv 2))))), ?_⟩
    have nn : (many.toNat : Int) = many := by omega
    refine ⟨_, rfl, many, rfl, by omega, by omega, fun D hDn => lc_range (lo := 0) (n := many.toNat) (fun i H' => ∃ gs : List Addr, gs.length = i ∧ Same H H' ∧ Goals H H' D gs fun _ => [])
      ⟨[], rfl, same_new hDn, upd_same, by simp, by simp, by simp, hDn, by simp⟩ ?_ ?_⟩
    · rintro i H' hi ⟨gs, hgl, e, G⟩
      refine ⟨rfl, Nat.zero_le _, fun l hl => ⟨gs.map V.ref, ?_, ?_, gs ++ [l], ?_, ?_, G.grow hl (e.free hl)⟩⟩
      · rw [upd_ne (ne_of_none G.dd hl)]
        exact G.dd
      · rw [List.length_map]
        exact small_lt (by omega)
      · rw [List.length_append, List.length_singleton, hgl]
      · exact same_mut (e.trans (same_new hl)) G.newD
    · rintro H1 ⟨gs, hgl, e1, G1⟩
      have hR1 := hR.same e1
      refine ⟨r, _, hR1.dd, trivial, fun od => ⟨_, rfl, r, od, rfl, .inl ⟨_, upd_same, for_it walk_keys (fun i σ H' => H' r = some (.frz od (.dK (intD ks fun k => .ref (tw k)))) ∧ Same H (upd H' r (.dK (intD ks fun k => .ref (tw k)))) ∧
          Goals H (upd H' r (.dK (intD ks fun k => .ref (tw k)))) D gs (Into (ks.take i) rw) ∧ ∃ v3 : Option V, σ = [some (.int many), some (.ref r), some (.ref D), v3, none])
        ⟨upd_same, by rw [upd_back hR1.dd]; exact e1, by rw [upd_back hR1.dd]; exact G1, _, rfl⟩ (fun i σ H' _ z => z.1) ?_ ?_⟩⟩⟩
      · rintro i x σ H2 H3 hi ⟨hr2, e2, G2, v3, rfl⟩ ⟨rfl, key, v, hkv, rfl⟩
        obtain ⟨k, hk, rfl, rfl⟩ := intD_get hkv
        have hkm := List.mem_of_getElem? hk
        obtain ⟨g0, g1⟩ := hg k hkm
        obtain ⟨j, hj⟩ : ∃ j : Nat, (rw k).g = (j : Int) := ⟨(rw k).g.toNat, by omega⟩
        have hjl : j < gs.length := by omega
        have hgj : gs[j]? = some gs[j] := List.getElem?_eq_getElem hjl
        have hat : atI (gs.map V.ref) (rw k).g = some (.ref gs[j]) := by
          rw [hj]
          exact atI_nat (by rw [List.getElem?_map, hgj]; rfl)
        have nr : ∀ b, b = D ∨ b ∈ gs → b ≠ r := fun b hb => by
          rcases hb with z | z
          · rw [z]
            exact fun y => by rw [← y] at hR; have := G2.newD; rw [hR.dd] at this; cases this
          · exact fun y => by rw [← y] at hR; have := G2.new b z; rw [hR.dd] at this; cases this
        have hD3 : H3 D = some (.lst (gs.map V.ref)) := by
          have := G2.dd
          rw [upd_ne (nr D (.inl rfl))] at this
          exact this
        have hli : H3 gs[j] = some (.lst ((Into (ks.take i) rw j).map V.int)) := by
          have := G2.has j gs[j] hgj
          rw [upd_ne (nr _ (.inr (List.getElem_mem _)))] at this
          exact this
        have hT : SqT K H3 (tw k) [.int (rw k).b, .int (rw k).g, .int (rw k).c] := by
          have h0 := hR.has k hkm
          have h1 := sqT_same e2 h0
          rcases h1 with (h | ⟨o, h⟩) | h
          · by_cases z : tw k = r
            · rw [z, upd_same] at h
              cases h
            · rw [upd_ne z] at h
              exact .inl (.inl h)
          · by_cases z : tw k = r
            · rw [z, upd_same] at h
              cases h
            · rw [upd_ne z] at h
              exact .inl (.inr ⟨o, h⟩)
          · exact .inr h
        refine ⟨_, rfl, _, rfl, _, rfl, r, _, rfl, RoadsAt.get (K := K) (H := H) (rw := rw) (.inr ⟨od, hr2⟩) hkm, tw k, _, _, _, rfl, rfl, hT, rfl, D, _, _, _, rfl, rfl, .of hD3, hat, .inl ⟨rfl, _, SqL.of hli⟩, _, rfl, gs[j], _, _, rfl, rfl, hli, ?_, ?_⟩
        · rw [List.length_map]
          have h1 : (Into (ks.take i) rw j).length ≤ (ks.take i).length := List.length_filter_le _ _
          have h2 : (ks.take i).length ≤ ks.length := by rw [List.length_take]; omega
          exact small_lt (by omega)
        · have ngr := nr _ (.inr (List.getElem_mem hjl))
          have eL : Into (ks.take (i + 1)) rw j = Into (ks.take i) rw j ++ [k] := by
            rw [take_succ hk, Into_snoc, if_pos hj]
          have G3 := G2.put (L' := Into (ks.take (i + 1)) rw) hgj (fun i2 ne => by
            rw [take_succ hk, Into_snoc, if_neg (fun z => ne (by omega))])
          rw [eL, List.map_append] at G3
          refine ⟨by rw [upd_ne (Ne.symm ngr)]; exact hr2, ?_, ?_, _, rfl⟩
          · rw [upd_com ngr]
            exact same_mut e2 (G2.new _ (List.getElem_mem _))
          · rw [upd_com ngr]
            exact G3
      · rintro σ H2 ⟨hr2, e2, G2, v3, rfl⟩
        rw [intD_len, List.take_length] at G2
        exact ⟨hr2, _, rfl, q _ D gs e2 G2 hgl⟩
end
end Rc
/-! part RcC -/
/-! All choices of a road into each place: the mathematics. -/
namespace Rc
def into (rows : List Row) (v : Int) : List Int := ((List.range rows.length).filter fun j => decide ((rows[j]?).map Row.g = some v)).map fun (j : Nat) => (j : Int)
theorem mem_into {rows : List Row} {v j : Int} : j ∈ into rows v ↔ 0 ≤ j ∧ ∃ r, rows[j.toNat]? = some r ∧ r.g = v := by
  unfold into
  simp only [List.mem_map, List.mem_filter, List.mem_range, decide_eq_true_eq, Option.map_eq_some_iff]
  constructor
  · rintro ⟨i, ⟨hi, r, hr, hg⟩, rfl⟩
    exact ⟨by omega, r, hr, hg⟩
  · rintro ⟨h0, r, hr, hg⟩
    have hi : j.toNat < rows.length := (List.getElem?_eq_some_iff.mp hr).1
    exact ⟨j.toNat, ⟨hi, r, hr, hg⟩, by omega⟩
theorem into_len (rows : List Row) (v : Int) : (into rows v).length ≤ rows.length := by
  unfold into
  rw [List.length_map]
  exact Nat.le_trans (List.length_filter_le _ _) (by rw [List.length_range]; exact Nat.le_refl _)
def chs (rows : List Row) (root : Int) : Nat → List (List Int)
  | 0 => [[]]
  | i + 1 => if (i : Int) = root then chs rows root i else (chs rows root i).flatMap fun row => (into rows (i : Int)).map fun j => row ++ [j]
theorem chs_len (rows : List Row) (root : Int) : ∀ i, (chs rows root i).length ≤ (rows.length + 1) ^ i
  | 0 => Nat.le_refl _
  | i + 1 => by
    have ih := chs_len rows root i
    have up : (rows.length + 1) ^ i ≤ (rows.length + 1) ^ (i + 1) := Nat.pow_le_pow_right (by omega) (by omega)
    unfold chs
    split
    · omega
    · have h : ∀ (l : List (List Int)), (l.flatMap fun row => (into rows (i : Int)).map fun j => row ++ [j]).length ≤ l.length * (rows.length + 1) := by
        intro l
        induction l with
        | nil => simp
        | cons x l ih2 =>
          rw [List.flatMap_cons, List.length_append, List.length_map, List.length_cons]
          have := into_len rows (i : Int)
          rw [Nat.succ_mul]
          omega
      rw [Nat.pow_succ]
      exact Nat.le_trans (h _) (Nat.mul_le_mul_right _ ih)
/-- the places ahead of i, without the root -/
def others (root : Int) (i : Nat) : List Int := ((List.range i).map fun (j : Nat) => (j : Int)).filter fun v => decide (v ≠ root)
theorem others_succ (root : Int) (i : Nat) : others root (i + 1) = if (i : Int) = root then others root i else others root i ++ [(i : Int)] := by
  unfold others
  rw [List.range_succ, List.map_append, List.filter_append]
  by_cases h : (i : Int) = root
  · rw [if_pos h]
    simp [h]
  · rw [if_neg h]
    simp [h]
theorem mem_others {root v : Int} {i : Nat} : v ∈ others root i ↔ 0 ≤ v ∧ v < (i : Int) ∧ v ≠ root := by
  unfold others
  simp only [List.mem_filter, List.mem_map, List.mem_range, decide_eq_true_eq]
  constructor
  · rintro ⟨⟨j, hj, rfl⟩, h⟩
    exact ⟨by omega, by omega, h⟩
  · rintro ⟨h0, h1, h⟩
    exact ⟨⟨v.toNat, by omega, by omega⟩, h⟩
/-- a choice: a road into each of these places, one behind the other -/
inductive Ch (rows : List Row) : List Int → List Int → Prop where
  | nil : Ch rows [] []
  | snoc {vs js : List Int} {v j : Int} (h : Ch rows vs js) (hj : j ∈ into rows v) : Ch rows (vs ++ [v]) (js ++ [j])
theorem Ch.snoc_inv {rows : List Row} {vs js : List Int} {v : Int} (h : Ch rows (vs ++ [v]) js) : ∃ js' j, js = js' ++ [j] ∧ Ch rows vs js' ∧ j ∈ into rows v := by
  generalize e : vs ++ [v] = ws at h
  cases h with
  | nil => simp at e
  | snoc h hj =>
    obtain ⟨e1, e2⟩ := List.append_inj' e rfl
    have e3 := List.singleton_inj.mp e2
    subst e1 e3
    exact ⟨_, _, rfl, h, hj⟩
theorem mem_chs {rows : List Row} {root : Int} : ∀ {i : Nat} {js : List Int}, js ∈ chs rows root i ↔ Ch rows (others root i) js
  | 0, js => by
    have e : others root 0 = [] := rfl
    rw [e]
    constructor
    · intro h
      have : js = [] := by simpa [chs] using h
      rw [this]
      exact .nil
    · intro h
      generalize ev : ([] : List Int) = vs at h
      cases h with
      | nil => simp [chs]
      | snoc h hj => simp at ev
  | i + 1, js => by
    rw [others_succ]
    show js ∈ (if (i : Int) = root then _ else _) ↔ _
    split
    · exact mem_chs
    · rw [List.mem_flatMap]
      constructor
      · rintro ⟨row, hr, hj⟩
        obtain ⟨j, hj2, rfl⟩ := List.mem_map.mp hj
        exact .snoc (mem_chs.mp hr) hj2
      · intro h
        obtain ⟨js', j, rfl, h1, h2⟩ := h.snoc_inv
        exact ⟨js', mem_chs.mpr h1, List.mem_map.mpr ⟨j, h2, rfl⟩⟩
theorem Ch.length {rows : List Row} {vs js : List Int} (h : Ch rows vs js) : js.length = vs.length := by
  induction h with
  | nil => rfl
  | snoc h hj ih => rw [List.length_append, List.length_append, ih]; rfl
theorem Ch.ok {rows : List Row} {vs js : List Int} (h : Ch rows vs js) : RoadsOk rows js := by
  induction h with
  | nil => intro i hi; cases hi
  | snoc h hj ih =>
    intro i hi
    rcases List.mem_append.mp hi with z | z
    · exact ih i z
    · rw [List.mem_singleton.mp z]
      obtain ⟨a, r, hr, _⟩ := mem_into.mp hj
      have := (List.getElem?_eq_some_iff.mp hr).1
      exact ⟨a, by omega⟩
/-- each road leads into a place of the list -/
theorem Ch.goal {rows : List Row} {vs js : List Int} (h : Ch rows vs js) : ∀ j ∈ js, ∃ r, rows[j.toNat]? = some r ∧ r.g ∈ vs := by
  induction h with
  | nil => intro j hj; cases hj
  | snoc h hj ih =>
    intro i hi
    rcases List.mem_append.mp hi with z | z
    · obtain ⟨r, h1, h2⟩ := ih i z
      exact ⟨r, h1, List.mem_append_left _ h2⟩
    · rw [List.mem_singleton.mp z]
      obtain ⟨_, r, hr, hg⟩ := mem_into.mp hj
      exact ⟨r, hr, List.mem_append_right _ (by rw [hg]; exact List.mem_singleton.mpr rfl)⟩
theorem Ch.nodup {rows : List Row} {vs js : List Int} (h : Ch rows vs js) (hv : vs.Nodup) : js.Nodup := by
  induction h with
  | nil => exact List.nodup_nil
  | @snoc vs js v j h hj ih =>
    have n1 := (List.nodup_append.mp hv).1
    have n2 : v ∉ vs := fun z => (List.nodup_append.mp hv).2.2 v z v (List.mem_singleton.mpr rfl) rfl
    rw [List.nodup_append]
    refine ⟨ih n1, by simp, fun a ha b hb e => ?_⟩
    rw [List.mem_singleton.mp hb] at e
    subst e
    obtain ⟨r, hr, hg⟩ := h.goal a ha
    obtain ⟨_, r', hr', hg'⟩ := mem_into.mp hj
    rw [hr] at hr'
    rw [← Option.some.inj hr'] at hg'
    exact n2 (hg' ▸ hg)
/-- where each of these places has a road of js, there is such a choice from js -/
theorem Ch.choose {rows : List Row} {is : List Int} : ∀ (vs : List Int), (∀ v ∈ vs, ∃ j ∈ is, j ∈ into rows v) → ∃ js, Ch rows vs js ∧ ∀ j ∈ js, j ∈ is := by
  intro vs
  generalize hn : vs.length = n
  induction n generalizing vs with
  | zero =>
    intro _
    rw [List.length_eq_zero_iff.mp hn]
    exact ⟨[], .nil, fun j hj => by cases hj⟩
  | succ n ih =>
    intro h
    rcases List.eq_nil_or_concat vs with e | ⟨ws, v, e⟩
    · rw [e] at hn
      cases hn
    · rw [List.concat_eq_append] at e
      subst e
      have hl : ws.length = n := by
        rw [List.length_append, List.length_singleton] at hn
        omega
      obtain ⟨js, h1, h2⟩ := ih ws hl fun v hv => h v (List.mem_append_left _ hv)
      obtain ⟨j, hj, hi⟩ := h v (List.mem_append_right _ (List.mem_singleton.mpr rfl))
      refine ⟨js ++ [j], .snoc h1 hi, fun i hi => ?_⟩
      rcases List.mem_append.mp hi with z | z
      · exact h2 i z
      · rw [List.mem_singleton.mp z]
        exact hj
theorem others_nodup (root : Int) (i : Nat) : (others root i).Nodup := by
  unfold others
  refine List.Pairwise.filter _ ?_
  rw [List.pairwise_map]
  exact List.nodup_range.imp fun h e => h (by omega)
theorem others_len {root : Int} {n : Nat} (r0 : 0 ≤ root) (r1 : root < (n : Int)) : (others root n).length + 1 = n := by
  have key : ∀ i : Nat, (others root i).length + (if root < (i : Int) then 1 else 0) = i := by
    intro i
    induction i with
    | zero =>
      rw [if_neg (by omega)]
      rfl
    | succ i ih =>
      rw [others_succ]
      by_cases h : (i : Int) = root
      · rw [if_pos h, if_pos (by omega)]
        rw [if_neg (by omega)] at ih
        omega
      · rw [if_neg h, List.length_append, List.length_singleton]
        by_cases h2 : root < (i : Int)
        · rw [if_pos h2] at ih
          rw [if_pos (by omega)]
          omega
        · rw [if_neg h2] at ih
          rw [if_neg (by omega)]
          omega
  have := key n
  rw [if_pos r1] at this
  omega
theorem perm_of_sub {α : Type} : ∀ {a b : List α}, a.Nodup → (∀ x ∈ a, x ∈ b) → b.length = a.length → b.Perm a
  | [], b, _, _, h => by
    rw [List.length_eq_zero_iff.mp h]
  | x :: a, b, nd, hs, h => by
    obtain ⟨b1, b2, e⟩ := List.append_of_mem (hs x List.mem_cons_self)
    subst e
    have p : (b1 ++ x :: b2).Perm (x :: (b1 ++ b2)) := List.perm_middle
    refine p.trans (.cons x ?_)
    refine perm_of_sub (List.nodup_cons.mp nd).2 (fun y hy => ?_) ?_
    · have := (p.mem_iff).mp (hs y (List.mem_cons_of_mem _ hy))
      rcases List.mem_cons.mp this with z | z
      · exact absurd (z ▸ hy) (List.nodup_cons.mp nd).1
      · exact z
    · have := p.length_eq
      rw [h, List.length_cons, List.length_cons] at this
      omega
/-! ### trees are the choices by which all is reached -/
theorem pick_perm {rows : List Row} {is js : List Int} (h : is.Perm js) : (pick rows is).Perm (pick rows js) := h.map _
theorem reach_sub {a b : List Row} {root v : Int} (h : ∀ r ∈ a, r ∈ b) (x : Reach a root v) : Reach b root v := by
  induction x with
  | root => exact .root
  | step hr _ ih => exact .step (h _ hr) ih
theorem isTree_perm {n root : Int} {rows : List Row} {is js : List Int} (h : is.Perm js) (t : IsTree n root rows is) : IsTree n root rows js := by
  obtain ⟨h1, h2, h3⟩ := t
  exact ⟨by rw [← h.length_eq]; exact h1, fun i hi => h2 i (h.mem_iff.mpr hi), fun v v0 v1 => reach_sub (fun r hr => (pick_perm h).mem_iff.mp hr) (h3 v v0 v1)⟩
theorem reach_last {rows : List Row} {root v : Int} (h : Reach rows root v) : v = root ∨ ∃ r ∈ rows, r.g = v := by
  cases h with
  | root => exact .inl rfl
  | step hr _ => exact .inr ⟨_, hr, rfl⟩
theorem tree_iff {n root : Int} {rows : List Row} (r0 : 0 ≤ root) (r1 : root < n) (is : List Int) :
    IsTree n root rows is ↔ ∃ js ∈ chs rows root n.toNat, js.Perm is ∧ ∀ v, 0 ≤ v → v < n → Reach (pick rows js) root v := by
  have hn : ((n.toNat : Nat) : Int) = n := by omega
  have hol : (others root n.toNat).length + 1 = n.toNat := others_len r0 (by omega)
  constructor
  · rintro ⟨h1, h2, h3⟩
    obtain ⟨js, hc, hs⟩ := Ch.choose (rows := rows) (is := is) (others root n.toNat) fun v hv => by
      obtain ⟨v0, v1, vn⟩ := mem_others.mp hv
      rcases reach_last (h3 v v0 (by omega)) with e | ⟨r, hr, hg⟩
      · exact absurd e vn
      · obtain ⟨i, hi, e⟩ := List.mem_map.mp hr
        obtain ⟨i0, i1⟩ := h2 i hi
        have hl : i.toNat < rows.length := by omega
        rw [List.getElem?_eq_getElem hl] at e
        exact ⟨i, hi, mem_into.mpr ⟨i0, _, List.getElem?_eq_getElem hl, by rw [← hg, ← e]; rfl⟩⟩
    have hp : is.Perm js := perm_of_sub (hc.nodup (others_nodup _ _)) hs (by rw [hc.length]; omega)
    exact ⟨js, mem_chs.mpr hc, hp.symm, fun v v0 v1 => reach_sub (fun r hr => (pick_perm hp).mem_iff.mp hr) (h3 v v0 v1)⟩
  · rintro ⟨js, hj, hp, hr⟩
    have hc := mem_chs.mp hj
    exact isTree_perm hp ⟨by rw [hc.length]; omega, hc.ok, hr⟩
end Rc
/-! part RcL -/
namespace Rc
open PySem PySem.Spec PyProof.Rows L2
/-- what is found when the first k of fs were looked at -/
structure InvL (many root : Int) (rows : List Row) (fs : List Int) (k : Nat) : Prop where
  nd : fs.Nodup
  rt : root ∈ fs
  sound : ∀ v ∈ fs, 0 ≤ v ∧ v < many ∧ Reach rows root v
  closed : ∀ r ∈ rows, r.b ∈ fs.take k → r.g ∈ fs
theorem InvL.len {many root : Int} {rows : List Row} {fs : List Int} {k : Nat} (I : InvL many root rows fs k) : fs.length ≤ many.toNat := by
  have h : fs ⊆ (List.range many.toNat).map fun (i : Nat) => (i : Int) := fun v hv => by
    obtain ⟨a, b, _⟩ := I.sound v hv
    exact List.mem_map.mpr ⟨v.toNat, List.mem_range.mpr (by omega), by omega⟩
  have := I.nd.length_le_of_subset h
  rw [List.length_map, List.length_range] at this
  exact this
theorem InvL.all {many root : Int} {rows : List Row} {fs : List Int} (I : InvL many root rows fs fs.length) : ∀ v, v ∈ fs ↔ Reach rows root v := fun v => by
  constructor
  · intro h
    exact (I.sound v h).2.2
  · intro h
    induction h with
    | root => exact I.rt
    | step h p ih => exact I.closed _ h (by rw [List.take_length]; exact ih)
/-- in the midst of a round: the first i rows were looked at for the k-th one found -/
structure InvM (many root : Int) (rows : List Row) (fs : List Int) (k i : Nat) (h : Int) : Prop where
  nd : fs.Nodup
  rt : root ∈ fs
  sound : ∀ v ∈ fs, 0 ≤ v ∧ v < many ∧ Reach rows root v
  closed : ∀ r ∈ rows, r.b ∈ fs.take k → r.g ∈ fs
  hk : fs[k]? = some h
  here : ∀ r ∈ rows.take i, r.b = h → r.g ∈ fs
theorem InvM.done {many root : Int} {rows : List Row} {fs : List Int} {k : Nat} {h : Int} (I : InvM many root rows fs k rows.length h) : InvL many root rows fs (k + 1) := by
  refine ⟨I.nd, I.rt, I.sound, fun r hr hb => ?_⟩
  rw [List.take_add_one, I.hk] at hb
  rcases List.mem_append.mp hb with z | z
  · exact I.closed r hr z
  · have e : r.b = h := by simpa using z
    exact I.here r (by rw [List.take_length]; exact hr) e
theorem InvM.skip {many root : Int} {rows : List Row} {fs : List Int} {k i : Nat} {h : Int} {r : Row} (I : InvM many root rows fs k i h) (hr : rows[i]? = some r) (hs : r.b = h → r.g ∈ fs) : InvM many root rows fs k (i + 1) h := by
  refine ⟨I.nd, I.rt, I.sound, I.closed, I.hk, fun x hx e => ?_⟩
  rw [take_succ hr] at hx
  rcases List.mem_append.mp hx with z | z
  · exact I.here x z e
  · rw [List.mem_singleton.mp z] at e ⊢
    exact hs e
theorem InvM.push {many root : Int} {rows : List Row} {fs : List Int} {k i : Nat} {h : Int} {r : Row} (I : InvM many root rows fs k i h) (hr : rows[i]? = some r) (eb : r.b = h) (ng : r.g ∉ fs) (g0 : 0 ≤ r.g) (g1 : r.g < many) : InvM many root rows (fs ++ [r.g]) k (i + 1) h := by
  have hm : r ∈ rows := List.mem_of_getElem? hr
  have hkl : k < fs.length := (List.getElem?_eq_some_iff.mp I.hk).1
  have reach : Reach rows root r.g := .step hm (by rw [eb]; exact (I.sound h (List.mem_of_getElem? I.hk)).2.2)
  refine ⟨?_, List.mem_append_left _ I.rt, fun v hv => ?_, fun x hx hb => ?_, ?_, fun x hx e => ?_⟩
  · rw [List.nodup_append]
    refine ⟨I.nd, by simp, fun a ha b hb => ?_⟩
    rw [List.mem_singleton.mp hb]
    exact fun z => ng (z ▸ ha)
  · rcases List.mem_append.mp hv with z | z
    · exact I.sound v z
    · rw [List.mem_singleton.mp z]
      exact ⟨g0, g1, reach⟩
  · rw [List.take_append_of_le_length (by omega)] at hb
    exact List.mem_append_left _ (I.closed x hx hb)
  · rw [List.getElem?_append_left hkl]
    exact I.hk
  · rw [take_succ hr] at hx
    rcases List.mem_append.mp hx with z | z
    · exact List.mem_append_left _ (I.here x z e)
    · rw [List.mem_singleton.mp z]
      exact List.mem_append_right _ (List.mem_singleton.mpr rfl)
theorem flat_ints (ns : List Int) : (ns.map V.int).all flatV = true := by
  rw [List.all_eq_true]
  intro v hv
  obtain ⟨n, _, rfl⟩ := List.mem_map.mp hv
  rfl
theorem inV_ints {g : Int} {ns : List Int} : inV (.int g) (ns.map V.int) = true ↔ g ∈ ns := by
  unfold inV
  rw [List.any_map, List.any_eq_true]
  constructor
  · rintro ⟨n, hn, e⟩
    have e' : n = g := beq_iff_eq.mp (show (n == g) = true from e)
    exact e' ▸ hn
  · intro h
    exact ⟨g, h, show (g == g) = true from beq_self_eq_true g⟩
def spLeads (K : PySem.W.Frag) : Sp := fun vs H Q _ => ∃ (many root : Int) (v : V) (rows : List Row), vs = [.int many, .int root, v] ∧ Dp K H v (rowsDat rows) ∧ 0 ≤ root ∧ root < many ∧ many ≤ 1000 ∧
  (∀ r ∈ rows, 0 ≤ r.b ∧ r.b < many ∧ 0 ≤ r.g ∧ r.g < many) ∧
  ∀ H' p (ns : List Int), Same H H' → H p = none → H' p = some (.lst (ns.map V.int)) → ns.Nodup → (∀ v, v ∈ ns ↔ Reach rows root v) → Q (.ref p) H'
section
variable {P : Program} {w : World} {K : PySem.W.Frag} {mg : Str → Option Value} {base : Heap}
end
end Rc
/-! part RcS -/
/-! sorted(..) of data: a new list of the same things, in order. -/
namespace Rc
open PySem PySem.Spec PyProof.Rows L2
/-- each below or beside the next ones -/
def Ord (es : List PyData) : Prop := es.Pairwise fun a b => PySem.W.dataLt b a = false
def rSortD (K : PySem.W.Frag) : List V → Hp → VK → Prop := fun vs H Q => ∃ (a : Addr) (xs : List V) (ds : List PyData), vs = [.ref a] ∧ SqL K H a xs ∧ DpAll K H xs ds ∧ PySem.W.AllAlike ds ∧ PySem.W.Sortable ds ∧ (∀ d ∈ ds, PyData.depth d ≤ 40) ∧
  ∀ (p : Addr) (ys : List V) (es : List PyData), H p = none → es.Perm ds → Ord es → (∀ Hb, DpAll K Hb xs ds → DpAll K Hb ys es) → Q (.ref p) (upd H p (.lst ys))
theorem zip_dp {K : PySem.W.Frag} {H : Hp} : ∀ {xs : List V} {ds : List PyData}, DpAll K H xs ds → ∀ z ∈ xs.zip ds, Dp K H z.1 z.2
  | _, _, .nil, z, h => by simp at h
  | _, _, .cons h1 h2, z, h => by
    rw [List.zip_cons_cons] at h
    rcases List.mem_cons.mp h with e | e
    · rw [e]
      exact h1
    · exact zip_dp h2 z e
theorem zip_snd {K : PySem.W.Frag} {H : Hp} : ∀ {xs : List V} {ds : List PyData}, DpAll K H xs ds → (xs.zip ds).map Prod.snd = ds
  | _, _, .nil => rfl
  | _, _, .cons h1 h2 => by
    rw [List.zip_cons_cons, List.map_cons, zip_snd h2]
theorem zip_each {K : PySem.W.Frag} {H : Hp} : ∀ {xs : List V} {ds : List PyData} {its : List Value}, DpAll K H xs ds → Vals xs its → PySem.W.EachIs (fun (u : Value) (z : V × PyData) => RelV z.1 u) its (xs.zip ds)
  | _, _, _, .nil, .nil => .nil
  | _, _, _, .cons h1 h2, .cons r1 r2 => by
    rw [List.zip_cons_cons]
    exact .cons r1 (zip_each h2 r2)
theorem each_vals : ∀ {out : List Value} {zs : List (V × PyData)}, PySem.W.EachIs (fun (u : Value) (z : V × PyData) => RelV z.1 u) out zs → Vals (zs.map Prod.fst) out
  | _, _, .nil => .nil
  | _, _, .cons h1 h2 => .cons h1 (each_vals h2)
theorem dp_unzip {K : PySem.W.Frag} {H : Hp} : ∀ {zs : List (V × PyData)}, (∀ z ∈ zs, Dp K H z.1 z.2) → DpAll K H (zs.map Prod.fst) (zs.map Prod.snd)
  | [], _ => .nil
  | z :: zs, h => .cons (h z List.mem_cons_self) (dp_unzip fun y hy => h y (List.mem_cons_of_mem _ hy))
theorem cr_sortD {X : Cx} (hu : X.A.units + 64 < cLine) : CallR X (.builtin "sorted") (rSortD X.K) := by
  intro pins s σ H vs us Q I r h
  obtain ⟨a, xs, ds, rfl, hs, hd, hal, hk, hdep, q⟩ := h
  obtain ⟨its, rv, pl, hz⟩ := I.list hs
  rw [Vals.ref1 r]
  have hlen : (xs.zip ds).length = xs.length := by
    have := dpAll_len hd
    rw [List.length_zip]
    omega
  have reads : ∀ z ∈ xs.zip ds, ∀ u : Value, RelV z.1 u → ∃ as, Reads s.heap u z.2 as := fun z hz' u ru => Dp.reads I z.2 z.1 u (zip_dp hd z hz') ru
  have er : PySem.W.EachIs (fun (u : Value) (z : V × PyData) => ∃ as, Reads s.heap u z.2 as) its (xs.zip ds) := (PySem.W.each_mem (zip_each hd rv)).mono fun u z h => reads z h.2 u h.1
  refine PySem.W.sorted_data (enc := Prod.snd) pl.isList (zip_each hd rv) er (by rw [zip_snd hd]; exact hal) (by rw [zip_snd hd]; exact hk) (by rw [hlen]; exact hz) (fun b hb => ?_) fun out hol hout => ?_
  · have : b.2 ∈ ds := by
      have := List.mem_map_of_mem (f := Prod.snd) hb
      rw [zip_snd hd] at this
      exact this
    have := hdep _ this
    omega
  · have hp := List.mergeSort_perm (xs.zip ds) (PySem.W.dataLe false Prod.snd)
    have hD : ∀ Hb, DpAll X.K Hb xs ds → DpAll X.K Hb (((xs.zip ds).mergeSort (PySem.W.dataLe false Prod.snd)).map Prod.fst) (((xs.zip ds).mergeSort (PySem.W.dataLe false Prod.snd)).map Prod.snd) :=
      fun Hb hb => dp_unzip fun z hz' => zip_dp hb z (hp.mem_iff.mp hz')
    have hE : (((xs.zip ds).mergeSort (PySem.W.dataLe false Prod.snd)).map Prod.snd).Perm ds := by
      have := hp.map Prod.snd
      rw [zip_snd hd] at this
      exact this
    have hO : Ord (((xs.zip ds).mergeSort (PySem.W.dataLe false Prod.snd)).map Prod.snd) := by
      unfold Ord
      rw [List.pairwise_map]
      refine (PySem.W.sort_pairwise (PySem.W.sortLe_total _ false _) (xs.zip ds)).imp fun {a b} h => ?_
      have h' : PySem.W.dataLe false Prod.snd a b = true := h
      rw [PySem.W.dataLe_eq] at h'
      simpa using h'
    obtain ⟨ep, he⟩ := PyProof.Rows.sortedAll_at s.heap its out.toArray
    have hl2 : (((xs.zip ds).mergeSort (PySem.W.dataLe false Prod.snd)).map Prod.fst).length ≤ sizeLine := by
      rw [List.length_map, List.length_mergeSort, hlen]
      exact hz
    exact ⟨.ref _, upd H (s.heap.objs.size + 1) (.lst (((xs.zip ds).mergeSort (PySem.W.dataLe false Prod.snd)).map Prod.fst)), I.laid (t' := s.toks) (fun _ _ => PyProof.Rows.sortedAll_old) (Nat.le_succ _) ⟨hl2, out, ep, each_vals hout, he⟩, rfl,
      q _ _ _ (I.hok.fresh (Nat.le_succ _)) hE hO hD⟩
/-! ### xs[::-1] -/
def tRev (K : PySem.W.Frag) (te : TE) (tp : TO) : TE := fun σ H Q => te σ H fun x H1 => tp σ H1 fun o H2 => ∃ a xs, x = .ref a ∧ o = some (-1) ∧ SqL K H2 a xs ∧ ∀ p, H2 p = none → Q (.ref p) (upd H2 p (.lst xs.reverse))
theorem pe_rev {X : Cx} {e st : Expr} {te : TE} {tp : TO} {p2 pos : Pos} (he : PE X e te) (hp : PO X (some st) tp)
    (hs : ∀ a b, ∃ ops, subscripted (.Slice none none (some st) p2) false (.ref a) (.ref b) = operate ops (getItem (.ref a) (.ref b)) := by intro _ _; exact ⟨_, rfl⟩) : PE X (.Subscript e (.Slice none none (some st) p2) pos) (tRev X.K te tp) := by
  refine ⟨fun pins s σ H Q I h => ?_⟩
  refine Subscript_ (thn (he.run pins s σ H _ I h) fun v s1 ⟨x, H1, I1, r1, q1⟩ => ?_)
  refine wpAny_Slice ?_
  rw [evalPart_none]
  refine wpAny_pure (wpAny_pure (thn (hp.run pins s1 σ H1 _ I1 q1) fun vs s2 ⟨o, H2, I2, ps, a, xs, ex, eo, hx, q⟩ => ?_))
  subst ex
  subst eo
  obtain rfl : v = Value.ref a := r1
  have I3 : Inv X pins σ H2 { s2 with heap := s2.heap.push { cls := .type "slice", data := .fields #[.none, .none, vs] } } := I2.kept (t' := s2.toks) fun b ob q => Heap.get?_push_of_some _ q
  obtain ⟨its, r, ht, hz⟩ := I3.list hx
  have hlen := r.length
  obtain ⟨ops, eops⟩ := hs a s2.heap.objs.size
  refine tail_any (ops := ops) ht.isList.typeIs slot_list_getitem.lookup (wpAny_getItem_list_slice ht.isList (Heap.IsSliceOf.new ..) .none .none ps (by simp) ?_ (by rw [List.size_toArray] <;> omega)) eops
  rw [PySem.W.krv_pick]
  refine ⟨.ref _, _, I3.laid (t' := s2.toks) (o := .lst xs.reverse) (fun b ob q => Heap.get?_push_of_some _ q) (Nat.le_refl _) ?_, rfl, q _ (I3.hok.fresh (Nat.le_refl _))⟩
  refine ⟨by rw [List.length_reverse]; exact hz, its.reverse, 0, ?_, Heap.get?_push_size _ rfl⟩
  exact r.reverse
/-! ### list + list, read from anywhere -/
def rCatS (K : PySem.W.Frag) : R2 := fun x y H Q => ∃ l b xs zs, x = .ref l ∧ y = .ref b ∧ SqL K H l xs ∧ SqL K H b zs ∧ xs.length + zs.length ≤ sizeLine ∧ ∀ p, H p = none → Q (.ref p) (upd H p (.lst (xs ++ zs)))
theorem op_catS {X : Cx} : OpR X (binaryOp .Add) (rCatS X.K) := by
  intro pins s σ H x y v u Q I rx ry h
  obtain ⟨l, b, xs, zs, rfl, rfl, hl, hb, hz, q⟩ := h
  cases rx
  cases ry
  obtain ⟨vs, r1, p1, _⟩ := I.list hl
  obtain ⟨ws, r2, p2, _⟩ := I.list hb
  have n1 := r1.length
  have n2 := r2.length
  obtain ⟨⟨c1, dd1, d1, sl1⟩, ho1, hc1, m1, hd1⟩ := p1.isList
  obtain ⟨⟨c2, dd2, d2, sl2⟩, ho2, hc2, m2, hd2⟩ := p2.isList
  dsimp only at hc1 hd1 hc2 hd2
  subst hc1 hd1 hc2 hd2
  have e : vs.toArray ++ ws.toArray = (vs ++ ws).toArray := by simp
  refine concat_meets ⟨_, ho1, rfl⟩ ⟨_, ho2, rfl⟩ noFill_list_add seq_list_add PySem.F.slot_list_add PySem.F.entry_list_add (PySem.F.args_list_add_2 _ _)
    (list_addW l b vs.toArray ws.toArray m1 m2 dd1 dd2 sl1 sl2 (by rw [List.size_toArray, List.size_toArray]; omega)) ⟨ho1, ho2, ?_⟩
  rw [e]
  exact ⟨.ref _, _, I.lnew (t' := s.toks) (r1.append r2) (by rw [List.length_append]; exact hz), rfl, q _ I.fresh⟩
end Rc
/-! part RcC2 -/
namespace Rc
open PySem PySem.Spec PyProof.Rows L2
theorem Sub.more {m : Addr → Prop} {H Hb H' Hb' H2 : Hp} (s : Sub m H Hb H' Hb') (e : Same H' H2) : Sub m H Hb H2 Hb' := ⟨fun b o n h => e _ _ (s.old b o n h), s.ext, s.sub.trans e, s.new⟩
/-- a list of lists of whole numbers -/
def intsD (r : List Int) : PyData := .list (r.map .int)
def listsD (rs : List (List Int)) : PyData := .list (rs.map intsD)
/-- the numbers below i that p lets by -/
def flt (p : Nat → Bool) (i : Nat) : List Int := ((List.range i).filter p).map fun (j : Nat) => (j : Int)
theorem flt_succ (p : Nat → Bool) (i : Nat) : flt p (i + 1) = if p i = true then flt p i ++ [(i : Int)] else flt p i := by
  unfold flt
  rw [List.range_succ, List.filter_append, List.map_append]
  by_cases h : p i = true
  · rw [if_pos h]
    simp [h]
  · rw [if_neg h]
    simp [h]
theorem flt_len (p : Nat → Bool) (i : Nat) : (flt p i).length ≤ i := by
  unfold flt
  rw [List.length_map]
  exact Nat.le_trans (List.length_filter_le _ _) (by rw [List.length_range]; exact Nat.le_refl _)
theorem into_flt (rows : List Row) (v : Int) : into rows v = flt (fun j => decide ((rows[j]?).map Row.g = some v)) rows.length := rfl
theorem lists_get {K : PySem.W.Frag} {H : Hp} {xs : List V} {rs : List (List Int)} {i : Nat} {x : V} (h : DpAll K H xs (rs.map intsD)) (e : xs[i]? = some x) : ∃ r a, rs[i]? = some r ∧ x = .ref a ∧ SqL K H a (r.map V.int) := by
  obtain ⟨d, hd, hx⟩ := dpAll_get' h e
  rw [List.getElem?_map] at hd
  cases er : rs[i]? with
  | none => rw [er] at hd; cases hd
  | some r =>
    rw [er] at hd
    have hd' : intsD r = d := Option.some.inj hd
    subst hd'
    obtain ⟨a, ys, rfl, hS, hA⟩ := dp_list_inv hx
    rw [dpAll_ints_inv hA] at hS
    exact ⟨r, a, rfl, rfl, hS⟩
/-- what is told of a tree -/
def treeD (rows : List Row) (js : List Int) : PyData := .tuple [.int (costOf rows js), intsD js]
structure Told (rows : List Row) (many root : Int) (e : PyData) (js : List Int) : Prop where
  eq : e = treeD rows js
  up : js.Pairwise (· ≤ ·)
  tree : IsTree many root rows js
theorem chart_inv {K : PySem.W.Frag} {H : Hp} {v : V} {many root : Int} {rows : List Row} (h : Dp K H v (chartDat many root rows)) : ∃ t l, v = .ref t ∧ SqT K H t [.int many, .int root, .ref l] ∧ Dp K H (.ref l) (rowsDat rows) := by
  obtain ⟨t, ys, rfl, hT, hY⟩ := dp_tup_inv h
  cases hY with
  | cons h1 h2 =>
    cases h1
    cases h2 with
    | cons h1 h2 =>
      cases h1
      cases h2 with
      | cons h1 h2 =>
        cases h2
        obtain ⟨l, xs, e, hS, hA⟩ := dp_list_inv h1
        subst e
        exact ⟨t, l, rfl, hT, .lst hS hA⟩
theorem flat_take {α β : Type} (f : α → List β) : ∀ (l : List α) (j : Nat), ((l.take j).flatMap f).length ≤ (l.flatMap f).length
  | [], j => by simp
  | x :: l, 0 => by simp
  | x :: l, j + 1 => by
    rw [List.take_succ_cons, List.flatMap_cons, List.flatMap_cons, List.length_append, List.length_append]
    have := flat_take f l j
    omega
theorem perm_sum {a b : List Int} (h : a.Perm b) : a.sum = b.sum := by
  induction h with
  | nil => rfl
  | cons x _ ih => rw [List.sum_cons, List.sum_cons, ih]
  | swap x y l => rw [List.sum_cons, List.sum_cons, List.sum_cons, List.sum_cons]; omega
  | trans _ _ h1 h2 => exact h1.trans h2
theorem alike_intsD (a b : List Int) : PySem.W.alike (intsD a) (intsD b) = true := by
  unfold intsD PySem.W.alike
  exact PySem.W.alike_ints a b
theorem alike_treeD (rows : List Row) (a b : List Int) : PySem.W.alike (treeD rows a) (treeD rows b) = true := by
  unfold treeD
  have h := alike_intsD a b
  simp [PySem.W.alike, PySem.W.alikeAll, h]
theorem depth_treeD (rows : List Row) (a : List Int) : PyData.depth (treeD rows a) ≤ 2 := by
  have h : Num 2 (treeD rows a) := fun d hd => by
    have : d = .int (costOf rows a) ∨ d = intsD a := by simpa [treeD] using hd
    rcases this with rfl | rfl
    · trivial
    · exact num_ints a
  exact (num_ok 2 _ h).2
theorem nodup_full {many root : Int} {rows : List Row} {ns : List Int} (m0 : 0 ≤ many) (nd : ns.Nodup) (hin : ∀ v ∈ ns, 0 ≤ v ∧ v < many) (hmem : ∀ v, v ∈ ns ↔ Reach rows root v) : (ns.length : Int) = many ↔ ∀ v, 0 ≤ v → v < many → Reach rows root v := by
  have full : ∀ v : Int, v ∈ (List.range many.toNat).map (fun (i : Nat) => (i : Int)) ↔ 0 ≤ v ∧ v < many := fun v => by
    rw [List.mem_map]
    exact ⟨fun ⟨i, hi, e⟩ => by have := List.mem_range.mp hi; omega, fun ⟨a, b⟩ => ⟨v.toNat, List.mem_range.mpr (by omega), by omega⟩⟩
  have fnd : ((List.range many.toNat).map (fun (i : Nat) => (i : Int))).Nodup := by
    unfold List.Nodup
    rw [List.pairwise_map]
    exact List.nodup_range.imp fun h e => h (by omega)
  constructor
  · intro h v v0 v1
    have p : ((List.range many.toNat).map (fun (i : Nat) => (i : Int))).Perm ns := perm_of_sub nd (fun x hx => (full x).mpr (hin x hx)) (by rw [List.length_map, List.length_range]; omega)
    exact (hmem v).mp (p.mem_iff.mp ((full v).mpr ⟨v0, v1⟩))
  · intro h
    have p : ns.Perm ((List.range many.toNat).map (fun (i : Nat) => (i : Int))) := (List.perm_ext_iff_of_nodup nd fnd).mpr fun v => by
      rw [hmem, full]
      exact ⟨fun x => hin v ((hmem v).mpr x), fun ⟨a, b⟩ => h v a b⟩
    have := p.length_eq
    rw [List.length_map, List.length_range] at this
    omega
structure TxtS (mg : Str → Option Value) : Prop extends TxtL mg where
  sum : mg "sum" = none
  sorted : mg "sorted" = none
def spTrees (K : PySem.W.Frag) : Sp := fun vs H Q _ => ∃ (Hz : Hp) (many root : Int) (v : V) (rows : List Row), vs = [v] ∧ Same Hz H ∧ Dp K H v (chartDat many root rows) ∧ ChartOk many root rows ∧ (rows.length + 1) ^ many.toNat ≤ 1000000 ∧
  ∀ H' Hb' p (es : List PyData), Sub no H Hz H' Hb' → Dp K Hb' (.ref p) (.list es) → (∀ e ∈ es, ∃ js, Told rows many root e js) → (∀ js, js.Pairwise (· ≤ ·) → IsTree many root rows js → treeD rows js ∈ es) → Ord es → es.length ≤ 1000000 → Q (.ref p) H'
theorem mem_flt {p : Nat → Bool} {n : Nat} {j : Int} : j ∈ flt p n ↔ ∃ k : Nat, j = (k : Int) ∧ k < n ∧ p k = true := by
  unfold flt
  simp only [List.mem_map, List.mem_filter, List.mem_range]
  exact ⟨fun ⟨k, ⟨a, b⟩, e⟩ => ⟨k, e.symm, a, b⟩, fun ⟨k, e, a, b⟩ => ⟨k, ⟨a, b⟩, e.symm⟩⟩
theorem flt_nodup (p : Nat → Bool) (n : Nat) : (flt p n).Nodup := by
  unfold flt List.Nodup
  rw [List.pairwise_map]
  exact (List.nodup_range.filter _).imp fun h e => h (by omega)
theorem Ch.goals {rows : List Row} {vs js : List Int} (h : Ch rows vs js) : (js.map fun j => (rows[j.toNat]?).map Row.g) = vs.map some := by
  induction h with
  | nil => rfl
  | snoc h hj ih =>
    rw [List.map_append, List.map_append, ih]
    rw [into_flt] at hj
    obtain ⟨k, rfl, _, hp⟩ := mem_flt.mp hj
    have := of_decide_eq_true hp
    simp only [List.map_cons, List.map_nil]
    rw [show ((k : Int)).toNat = k by omega, this]
theorem perm_keys {α β : Type} {g : α → β} : ∀ {a b : List α}, a.Perm b → a.map g = b.map g → (a.map g).Nodup → a = b
  | [], b, h, _, _ => (h.symm.eq_nil).symm
  | x :: a, [], h, _, _ => by cases h.eq_nil
  | x :: a, y :: b, h, e, nd => by
    rw [List.map_cons, List.map_cons, List.cons.injEq] at e
    rw [List.map_cons, List.nodup_cons] at nd
    have hx : x = y := by
      rcases List.mem_cons.mp (h.mem_iff.mp List.mem_cons_self) with z | z
      · exact z
      · exact absurd (e.2 ▸ List.mem_map_of_mem (f := g) z) nd.1
    subst hx
    rw [perm_keys (List.perm_cons x |>.mp h) e.2 nd.2]
theorem flat_nodup {α β : Type} {f : α → List β} : ∀ {l : List α}, l.Nodup → (∀ x ∈ l, (f x).Nodup) → (∀ x ∈ l, ∀ y ∈ l, ∀ z, z ∈ f x → z ∈ f y → x = y) → (l.flatMap f).Nodup
  | [], _, _, _ => List.nodup_nil
  | x :: l, nd, h1, h2 => by
    rw [List.flatMap_cons, List.nodup_append]
    have nd' := List.nodup_cons.mp nd
    refine ⟨h1 x List.mem_cons_self, flat_nodup nd'.2 (fun y hy => h1 y (List.mem_cons_of_mem _ hy)) (fun y hy u hu => h2 y (List.mem_cons_of_mem _ hy) u (List.mem_cons_of_mem _ hu)), fun a ha b hb e => ?_⟩
    obtain ⟨y, hy, hyb⟩ := List.mem_flatMap.mp hb
    have := h2 x List.mem_cons_self y (List.mem_cons_of_mem _ hy) a ha (e ▸ hyb)
    exact nd'.1 (this ▸ hy)
theorem chs_nodup (rows : List Row) (root : Int) : ∀ i, (chs rows root i).Nodup
  | 0 => by simp [chs]
  | i + 1 => by
    unfold chs
    split
    · exact chs_nodup rows root i
    · refine flat_nodup (chs_nodup rows root i) (fun row _ => ?_) (fun a _ b _ z ha hb => ?_)
      · have := flt_nodup (fun j => decide ((rows[j]?).map Row.g = some (i : Int))) rows.length
        rw [into_flt]
        unfold List.Nodup at this ⊢
        rw [List.pairwise_map]
        exact this.imp fun {x y} h (e : row ++ [x] = row ++ [y]) => h (List.singleton_inj.mp (List.append_inj' e rfl).2)
      · obtain ⟨x, _, rfl⟩ := List.mem_map.mp ha
        obtain ⟨y, _, e⟩ := List.mem_map.mp hb
        exact (List.append_inj' e rfl).1.symm
theorem chs_perm {rows : List Row} {root : Int} {i : Nat} {a b : List Int} (ha : a ∈ chs rows root i) (hb : b ∈ chs rows root i) (h : a.Perm b) (nd : (others root i).Nodup) : a = b := by
  have e1 := (mem_chs.mp ha).goals
  have e2 := (mem_chs.mp hb).goals
  refine perm_keys h (e1.trans e2.symm) ?_
  rw [e1]
  unfold List.Nodup at nd ⊢
  rw [List.pairwise_map]
  exact nd.imp fun h e => h (Option.some.inj e)
theorem treeD_inj2 {rows : List Row} {a b : List Int} (h : treeD rows a = treeD rows b) : a = b := by
  unfold treeD intsD at h
  have e := PyData.tuple.inj h
  rw [List.cons.injEq, List.cons.injEq] at e
  exact (List.map_inj_right fun _ _ e => PyData.int.inj e).mp (PyData.list.inj e.2.1)
theorem others_nodup2 (root : Int) (i : Nat) : (others root i).Nodup := by
  unfold others List.Nodup
  refine List.Pairwise.filter _ ?_
  rw [List.pairwise_map]
  exact List.nodup_range.imp fun h e => h (by omega)
/-- the trees, none twice -/
def spTreesN (K : PySem.W.Frag) : Sp := fun vs H Q _ => ∃ (Hz : Hp) (many root : Int) (v : V) (rows : List Row), vs = [v] ∧ Same Hz H ∧ Dp K H v (chartDat many root rows) ∧ ChartOk many root rows ∧ (rows.length + 1) ^ many.toNat ≤ 1000000 ∧
  ∀ H' Hb' p (es : List PyData), Sub no H Hz H' Hb' → Dp K Hb' (.ref p) (.list es) → (∀ e ∈ es, ∃ js, Told rows many root e js) → (∀ js, js.Pairwise (· ≤ ·) → IsTree many root rows js → treeD rows js ∈ es) → Ord es → es.Nodup → es.length ≤ 1000000 → Q (.ref p) H'
section
variable {P : Program} {w : World} {K : PySem.W.Frag} {mg : Str → Option Value} {base : Heap}
end
end Rc
/-! part RcL2 -/
/-! Walks within a comprehension of two fors; path_with. -/
namespace Rc
open PySem PySem.Spec PyProof.Rows L2
/-- a walk of a list: F the work at an item, Pv by the turn -/
theorem walk_list {K : PySem.W.Frag} {a : Addr} {xs : List V} {H0 : Hp} {F : V → Hp → (Hp → Prop) → Prop} {Q : Hp → Prop} (Pv : Nat → Hp → Prop) (h0 : Pv 0 H0) (hl : ∀ i H, i ≤ xs.length → Pv i H → SqL K H a xs)
    (hs : ∀ i x H, xs[i]? = some x → Pv i H → F x H (Pv (i + 1))) (hd : ∀ H, Pv xs.length H → Q H) :
    ∃ W : Nat → Nat → Hp → Prop, (∃ m, W 0 m H0) ∧ ∀ i m H, W i m H → ((Itl K a).stop i H ∧ Q H) ∨ ((Itl K a).go i H ∧ ∃ Nx : Hp → Prop, (∀ H', Nx H' → ∃ m', m' < m ∧ W (i + 1) m' H') ∧ ∀ x H', (Itl K a).yld i H x H' → F x H' Nx) := by
  refine ⟨fun i m H => m = xs.length - i ∧ i ≤ xs.length ∧ Pv i H, ⟨_, rfl, Nat.zero_le _, h0⟩, ?_⟩
  rintro i m H ⟨rfl, hi, p⟩
  have sq := hl i H hi p
  by_cases lt : i < xs.length
  · refine .inr ⟨⟨xs, xs[i], sq, List.getElem?_eq_getElem lt⟩, Pv (i + 1), fun H' n => ⟨xs.length - (i + 1), by omega, rfl, lt, n⟩, ?_⟩
    rintro x H' ⟨rfl, hx⟩
    exact hs i x H' (hx xs sq) p
  · obtain rfl : i = xs.length := by omega
    exact .inl ⟨⟨xs, sq, Nat.le_refl _⟩, hd H p⟩
/-- .. of a tuple -/
theorem walk_tup {K : PySem.W.Frag} {a : Addr} {xs : List V} {H0 : Hp} {F : V → Hp → (Hp → Prop) → Prop} {Q : Hp → Prop} (Pv : Nat → Hp → Prop) (h0 : Pv 0 H0) (hl : ∀ i H, i ≤ xs.length → Pv i H → SqT K H a xs)
    (hs : ∀ i x H, xs[i]? = some x → Pv i H → F x H (Pv (i + 1))) (hd : ∀ H, Pv xs.length H → Q H) :
    ∃ W : Nat → Nat → Hp → Prop, (∃ m, W 0 m H0) ∧ ∀ i m H, W i m H → ((Itt K a).stop i H ∧ Q H) ∨ ((Itt K a).go i H ∧ ∃ Nx : Hp → Prop, (∀ H', Nx H' → ∃ m', m' < m ∧ W (i + 1) m' H') ∧ ∀ x H', (Itt K a).yld i H x H' → F x H' Nx) := by
  refine ⟨fun i m H => m = xs.length - i ∧ i ≤ xs.length ∧ Pv i H, ⟨_, rfl, Nat.zero_le _, h0⟩, ?_⟩
  rintro i m H ⟨rfl, hi, p⟩
  have sq := hl i H hi p
  by_cases lt : i < xs.length
  · refine .inr ⟨⟨xs, xs[i], sq, List.getElem?_eq_getElem lt⟩, Pv (i + 1), fun H' n => ⟨xs.length - (i + 1), by omega, rfl, lt, n⟩, ?_⟩
    rintro x H' ⟨rfl, hx⟩
    exact hs i x H' (hx xs sq) p
  · obtain rfl : i = xs.length := by omega
    exact .inl ⟨⟨xs, sq, Nat.le_refl _⟩, hd H p⟩
/-! ### path_with -/
def grpDat (g : List Int) : PyData := .tuple (g.map .int)
def pathDat (gs : List (List Int)) : PyData := .list (gs.map grpDat)
/-- what path_with tells: the place alone behind all, or the circle that it closes -/
inductive With (gs : List (List Int)) (p : Int) : List (List Int) → Prop where
  | alone (h : ∀ g ∈ gs, p ∉ g) : With gs p (gs ++ [[p]])
  | circle {i : Nat} {g c : List Int} (hi : gs[i]? = some g) (hp : p ∈ g) (hb : ∀ j g', j < i → gs[j]? = some g' → p ∉ g') (hc : c.Perm (gs.drop i).flatten) (hs : c.Pairwise (· ≤ ·)) : With gs p (gs.take i ++ [c])
def spWith (K : PySem.W.Frag) : Sp := fun vs H Q _ => ∃ (v : V) (p : Int) (gs : List (List Int)), vs = [v, .int p] ∧ Dp K H v (pathDat gs) ∧ gs.length ≤ 1000 ∧ (∀ g ∈ gs, g.length ≤ 1000) ∧
  ∀ H' l vs' gs', Same H H' → H l = none → H' l = some (.lst vs') → DpAll K H' vs' (gs'.map grpDat) → With gs p gs' → Q (.ref l) H'
theorem in_ints2 (i : Int) (is : List Int) : inV (.int i) (is.map V.int) = decide (i ∈ is) := by
  unfold inV
  induction is with
  | nil => simp
  | cons x is ih =>
    rw [List.map_cons, List.any_cons, ih]
    have e : eqV (V.int x) (V.int i) = decide (x = i) := by
      rfl
    rw [e]
    by_cases h : x = i
    · subst h
      simp
    · have h' : ¬ i = x := fun z => h z.symm
      simp [h, h']
theorem cut_from (xs : List V) (i : Nat) (h : i ≤ xs.length) : cutV xs (some (i : Int)) none = xs.drop i := by
  have h1 : HT.sIx xs.length 0 (some (i : Int)) = i := by rw [HT.sIx_nat]; omega
  have h2 : HT.sIx xs.length xs.length none = xs.length := rfl
  unfold cutV
  rw [h1, h2, List.take_of_length_le]
  rw [List.length_drop]
  omega
theorem cut_to (xs : List V) (i : Nat) (h : i ≤ xs.length) : cutV xs none (some (i : Int)) = xs.take i := by
  have h1 : HT.sIx xs.length 0 none = 0 := rfl
  have h2 : HT.sIx xs.length xs.length (some (i : Int)) = i := by rw [HT.sIx_nat]; omega
  unfold cutV
  rw [h1, h2, List.drop_zero, Nat.sub_zero]
theorem grp_inv {K : PySem.W.Frag} {H : Hp} {v : V} {g : List Int} (h : Dp K H v (grpDat g)) : ∃ b, v = .ref b ∧ SqT K H b (g.map V.int) := by
  obtain ⟨b, zs, rfl, hB, hZ⟩ := dp_tup_inv h
  rw [dpAll_ints_inv hZ] at hB
  exact ⟨b, rfl, hB⟩
theorem dpAll_take2 {K : PySem.W.Frag} {H : Hp} : ∀ {vs : List V} {ds : List PyData}, DpAll K H vs ds → ∀ n : Nat, DpAll K H (vs.take n) (ds.take n)
  | _, _, .nil, n => by
    rw [List.take_nil, List.take_nil]
    exact .nil
  | _, _, .cons h1 h2, 0 => .nil
  | _, _, .cons h1 h2, n + 1 => .cons h1 (dpAll_take2 h2 n)
theorem flat_len : ∀ {gs : List (List Int)}, (∀ g ∈ gs, g.length ≤ 1000) → gs.flatten.length ≤ 1000 * gs.length
  | [], _ => Nat.zero_le _
  | g :: gs, h => by
    have ih := flat_len fun x hx => h x (List.mem_cons_of_mem _ hx)
    have h1 := h g List.mem_cons_self
    rw [List.flatten_cons, List.length_append, List.length_cons]
    omega
section
variable {P : Program} {w : World} {K : PySem.W.Frag} {mg : Str → Option Value} {base : Heap}
theorem ok_with {f : Addr} {fd : FuncData} {k : Nat} (F : Fun K "path_with" "path_with" s_path_with f fd) (tu : mg "tuple" = none) (en : mg "enumerate" = none) (so : mg "sorted" = none) : FnOk P w K mg base CX0 (k + 1) f fd ["path", "place"] (spWith K) := by
  refine F.ok sc_path_with (fun vs H Q E h => ?_) (fun cdv A outer s H vs Q E hr h => ?_)
  · obtain ⟨v, p, gs, rfl, _⟩ := h
    rfl
  · obtain ⟨v, p, gs, rfl, hV, hl, hg, q⟩ := h
    refine ⟨_, (pss_cons (ps_for PassesOwn.never rfl (pi_enum (by rfl) en (pa_cons (pv 0) pa_nil)) (pg_tup (by rfl) (pgs_cons (pg_name (i := 2) sc_path_with.nd rfl (Or.inl rfl)) (pgs_cons (pg_name (i := 3) sc_path_with.nd rfl (Or.inl rfl)) pgs_nil)))
   (pss_one (ps_if (pt_cmpR op_in_seq (pv 1) (pv 3) (by rfl))
   (pss_cons (ps_set (i := 4) sc_path_with.nd rfl (Or.inl rfl) (pe_callB cr_sortedI (by rfl) so (by decide +kernel) (pa_cons (pe_lc2 (own := [("part", 5), ("member", 6)]) (vs1 := [6]) (g := gName 5) (tt := tYes) (wi1 := iTup K (tVar 5)) (g1 := gName 6) (tt1 := tYes) rfl sc_path_with.nd (pi_list (pe_slice sl_list (pv 0) (po_some (pv 2)) po_none)) (blkOk_by (N := N_path_with) (sc := defScope s_path_with) (by decide +kernel)) (by decide) (fun _ _ _ _ _ => (pg_name (i := 5) sc_path_with.nd rfl (Or.inl rfl))) (fun _ _ _ _ _ => pts_nil) (fun _ _ _ _ _ => pi_tup (pv 5)) (fun _ _ _ _ _ => (pg_name (i := 6) sc_path_with.nd rfl (Or.inl rfl))) (fun _ _ _ _ _ => pts_nil) (fun _ _ _ _ _ => (pv 6))) pa_nil)))
  (pss_one (ps_ret (pe_op op_catS (pe_slice sl_list (pv 0) po_none (po_some (pv 2))) (pe_lst (pa_cons (pe_callTy call_tuple_of (by rfl) tu (by decide +kernel) (pa_cons (pv 4) pa_nil)) pa_nil))))))
   pss_nil)))
  (pss_one (ps_ret (pe_op op_catS (pv 0) (pe_lst (pa_cons (pe_tup (pa_cons (pv 1) pa_nil)) pa_nil)))))), ?_⟩
    obtain ⟨a, xs, rfl, hS, hA⟩ := dp_list_inv hV
    have hxl : xs.length = gs.length := by rw [dpAll_len hA, List.length_map]
    have gget : ∀ {i : Nat} {y : V}, xs[i]? = some y → ∃ g b, gs[i]? = some g ∧ y = .ref b ∧ SqT K H b (g.map V.int) := fun {i y} hi => by
      obtain ⟨d, hd, hy⟩ := dpAll_get' hA hi
      rw [List.getElem?_map] at hd
      cases er : gs[i]? with
      | none => rw [er] at hd; cases hd
      | some g =>
        rw [er] at hd
        obtain ⟨b, rfl, hB⟩ := grp_inv ((Option.some.inj hd) ▸ hy)
        exact ⟨g, b, rfl, rfl, hB⟩
    refine ⟨_, rfl, a, xs, rfl, hS, for_enum (K := K) (a := a) (xs := xs) (fun i σ H' => Same H H' ∧ (∀ j g', j < i → gs[j]? = some g' → p ∉ g') ∧ ∃ v2 v3 : Option V, σ = [some (.ref a), some (.int p), v2, v3, none, none, none])
      ⟨same_refl, fun j g' hj => by omega, _, _, rfl⟩ (fun i σ H' _ ⟨e, _⟩ => e.seq hS) ?_ ?_⟩
    · rintro i y T σ H' hi ⟨e, hb, v2, v3, rfl⟩ hT
      obtain ⟨g, b, hgi, rfl, hB⟩ := gget hi
      have hil : i < xs.length := (List.getElem?_eq_some_iff.mp hi).1
      have e2 : Same H (upd H' T (.tup [.int (i : Nat), .ref b])) := e.trans (same_new hT)
      refine ⟨T, _, rfl, .of upd_same, rfl, _, _, rfl, _, _, rfl, rfl, ?_⟩
      generalize upd H' T (.tup [.int (i : Nat), .ref b]) = G at e2
      refine ⟨_, rfl, _, rfl, b, _, rfl, .inr (sqT_same e2 hB), rfl, flat_ints _, _, rfl, ite2 (fun c => ?_) (fun c => ?_)⟩
      · have c' : inV (V.int p) (g.map V.int) = true := c
        rw [in_ints2] at c'
        have hpg := of_decide_eq_true c'
        have dl : ∀ x ∈ gs.drop i, x.length ≤ 1000 := fun x hx => hg x (List.mem_of_mem_drop hx)
        have hfl := flat_len dl
        rw [List.length_drop] at hfl
        refine ⟨_, rfl, _, rfl, _, rfl, a, xs, rfl, e2.seq hS, fun l1 hl1 => ?_⟩
        rw [cut_from xs i (by omega)]
        have e3 : Same H (upd G l1 (.lst (xs.drop i))) := e2.trans (same_new hl1)
        have h31 : (upd G l1 (.lst (xs.drop i))) l1 = some (.lst (xs.drop i)) := upd_same
        generalize upd G l1 (.lst (xs.drop i)) = G1 at e3 h31
        refine ⟨l1, rfl, ⟨_, .of h31⟩, fun D hD => walk_list (K := K) (a := l1) (xs := xs.drop i) (fun j G2 => Same G1 G2 ∧ G2 D = some (.lst ((((gs.drop i).take j).flatten).map V.int))) ⟨same_new hD, upd_same⟩ (fun j G2 _ z => .of (z.1 _ _ h31)) ?_ ?_⟩
        · rintro j y2 G2 hj ⟨eG, hG⟩
          rw [List.getElem?_drop] at hj
          obtain ⟨g2, b2, hg2, rfl, hB2⟩ := gget hj
          have hg2' : (gs.drop i)[j]? = some g2 := by rw [List.getElem?_drop]; exact hg2
          have hg2l := hg g2 (List.mem_of_getElem? hg2)
          have hpart : (((gs.drop i).take j).flatten).length ≤ 1000000 := by
            have h1 := flat_len (gs := (gs.drop i).take j) fun x hx => dl x (List.mem_of_mem_take hx)
            rw [List.length_take, List.length_drop] at h1
            omega
          refine ⟨rfl, ?_⟩
          refine ⟨_, rfl, b2, rfl, ⟨_, sqT_same (e3.trans eG) hB2⟩, walk_tup (K := K) (a := b2) (xs := g2.map V.int) (fun m G3 => Same G1 G3 ∧ G3 D = some (.lst ((((gs.drop i).take j).flatten ++ g2.take m).map V.int))) ⟨eG, by rw [List.take_zero, List.append_nil]; exact hG⟩ (fun m G3 _ z => sqT_same (e3.trans z.1) hB2) ?_ ?_⟩
          · rintro m y3 G3 hm ⟨eG3, hG3⟩
            obtain ⟨u, hu, rfl⟩ : ∃ u, g2[m]? = some u ∧ y3 = .int u := by
              rw [List.getElem?_map] at hm
              cases em : g2[m]? with
              | none => rw [em] at hm; cases hm
              | some u => rw [em] at hm; exact ⟨u, rfl, (Option.some.inj hm).symm⟩
            refine ⟨rfl, _, rfl, _, hG3, ?_, same_mut eG3 hD, ?_⟩
            · rw [List.length_map, List.length_append, List.length_take]
              exact small_lt (by omega)
            · rw [upd_same, take_succ hu, ← List.append_assoc, List.map_append (l₂ := [u])]
              rfl
          · rintro G3 ⟨eG3, hG3⟩
            refine ⟨eG3, ?_⟩
            rw [List.length_map, List.take_length] at hG3
            rw [hG3, take_succ hg2', List.flatten_append]
            simp
        · rintro G2 ⟨eG, hG⟩
          have hlen : (xs.drop i).length = (gs.drop i).length := by rw [List.length_drop, List.length_drop, hxl]
          rw [hlen, List.take_length] at hG
          refine ⟨D, (gs.drop i).flatten, rfl, .of hG, fun ns' p5 hperm hup hp5 => ?_⟩
          have e4 := (e3.trans eG).trans (same_new (o := HO.lst (ns'.map V.int)) hp5)
          have h5 : (upd G2 p5 (.lst (ns'.map V.int))) p5 = some (.lst (ns'.map V.int)) := upd_same
          generalize upd G2 p5 (.lst (ns'.map V.int)) = G4 at e4 h5
          refine ⟨_, rfl, _, rfl, _, rfl, a, xs, rfl, e4.seq hS, fun l2 hl2 => ?_⟩
          rw [cut_to xs i (by omega)]
          have n52 : p5 ≠ l2 := ne_of_none h5 hl2
          refine ⟨_, rfl, p5, _, rfl, .inl ⟨.of (by rw [upd_ne n52]; exact h5), fun T2 hT2 => ⟨(by show 1 ≤ sizeLine; decide), fun l3 hl3 => ?_⟩⟩⟩
          have n2T : l2 ≠ T2 := fun z => by rw [← z, upd_same] at hT2; cases hT2
          have n23 : l2 ≠ l3 := fun z => by rw [← z, upd_ne n2T, upd_same] at hl3; cases hl3
          have nT3 : T2 ≠ l3 := fun z => by rw [← z, upd_same] at hl3; cases hl3
          refine ⟨l2, l3, _, _, rfl, rfl, .of (by rw [upd_ne n23, upd_ne n2T, upd_same]), .of upd_same, small_line (by rw [List.length_take]; simp; omega), fun l4 hl4 => ?_⟩
          have e5 := ((e4.trans (same_new (o := HO.lst (xs.take i)) hl2)).trans (same_new (o := HO.tup (ns'.map V.int)) hT2)).trans (same_new (o := HO.lst [.ref T2]) hl3)
          have nT4 : T2 ≠ l4 := fun z => by rw [← z, upd_ne nT3, upd_same] at hl4; cases hl4
          refine q _ l4 _ (gs.take i ++ [ns']) (e5.trans (same_new hl4)) (e5.free hl4) upd_same ?_ (.circle hgi hpg hb hperm hup)
          rw [List.map_append, List.map_take]
          refine dpAll_app (dpAll_same (e5.trans (same_new hl4)) _ _ (dpAll_take2 hA i)) (dpAll_one (.tup (.of (by rw [upd_ne nT4, upd_ne nT3, upd_same])) (dpAll_ints ns')))
      · refine ⟨e2, fun j g' hj hg' => ?_, _, _, rfl⟩
        rcases Nat.lt_succ_iff_lt_or_eq.mp hj with lt | rfl
        · exact hb j g' lt hg'
        · rw [hgi] at hg'
          cases hg'
          intro hm
          refine c ?_
          show inV (V.int p) (g.map V.int) = true
          rw [in_ints2]
          exact decide_eq_true hm
    · rintro σ H' ⟨e, hb, v2, v3, rfl⟩
      refine ⟨_, rfl, _, rfl, (by show 1 ≤ sizeLine; decide), fun T hT => ⟨(by show 1 ≤ sizeLine; decide), fun l1 hl1 => ?_⟩⟩
      have e1 := (e.trans (same_new (o := HO.tup [.int p]) hT)).trans (same_new (o := HO.lst [.ref T]) hl1)
      have nT1 : T ≠ l1 := fun z => by rw [← z, upd_same] at hl1; cases hl1
      refine ⟨a, l1, _, _, rfl, rfl, e1.seq hS, .of upd_same, small_line (by simp; omega), fun l2 hl2 => ?_⟩
      have nT2 : T ≠ l2 := fun z => by rw [← z, upd_ne nT1, upd_same] at hl2; cases hl2
      refine q _ l2 _ (gs ++ [[p]]) (e1.trans (same_new hl2)) (e1.free hl2) upd_same ?_ (.alone fun g hgm => ?_)
      · rw [List.map_append]
        exact dpAll_app (dpAll_same (e1.trans (same_new hl2)) _ _ hA) (dpAll_one (.tup (.of (by rw [upd_ne nT2, upd_ne nT1, upd_same])) (.cons (.int p) .nil)))
      · obtain ⟨j, hj⟩ := List.getElem?_of_mem hgm
        exact hb j g (by rw [hxl]; exact (List.getElem?_eq_some_iff.mp hj).1) hj
end
end Rc
/-! part RcL3 -/
namespace Rc
open PySem PySem.Spec PyProof.Rows L2
/-- a road's rank: the earlier, the lower -/
def rankOf (r : Int) : Int := -(2 ^ (60 - r).toNat)
def spRank : Sp := fun vs H Q _ => ∃ r : Int, vs = [.int r] ∧ 0 ≤ r ∧ r ≤ 60 ∧ Q (.int (rankOf r)) H
section
variable {P : Program} {w : World} {K : PySem.W.Frag} {mg : Str → Option Value} {base : Heap}
theorem ok_rank {f : Addr} {fd : FuncData} {k : Nat} (F : Fun K "rank" "rank" s_rank f fd) (gR : ∃ t, mg "MOST_ROADS" = some (.int 60 t)) : FnOk P w K mg base CX0 (k + 1) f fd ["road"] spRank := by
  obtain ⟨tR, gR⟩ := gR
  refine F.ok sc_rank (fun vs H Q E h => ?_) (fun cdv A outer s H vs Q E hr h => ?_)
  · obtain ⟨r, rfl, _⟩ := h
    rfl
  · obtain ⟨r, rfl, r0, r1, q⟩ := h
    refine ⟨_, (pss_one (ps_ret (pe_un un_neg (pe_op op_shl pe_int (pe_op op_sub (pe_glob (v := .int 60) (by rfl) gR ⟨_, rfl⟩) (pv 0)))))), ?_⟩
    refine ⟨_, rfl, _, _, rfl, rfl, _, _, rfl, rfl, ?_, _, rfl, ?_⟩
    · exact ⟨by omega, by omega, by omega⟩
    · have e : -(1 * 2 ^ (60 - r).toNat) = rankOf r := by
        unfold rankOf
        rw [Int.one_mul]
      show Q (V.int (-(1 * 2 ^ (60 - r).toNat))) H
      rw [e]
      exact q
end
end Rc
/-! part RcK4 -/
/-! How the roads are paid for: the mathematics of the going on. -/
namespace Rc
/-- the roads that enter a group -/
def Ent (ks : List Int) (rw : Int → Row) (g : List Int) : List Int := g.flatMap fun m => (Into ks rw m.toNat).filter fun k => decide ((rw k).b ∉ g)
theorem mem_Ent {ks : List Int} {rw : Int → Row} {g : List Int} {k : Int} (hg : ∀ m ∈ g, 0 ≤ m) : k ∈ Ent ks rw g ↔ k ∈ ks ∧ (rw k).g ∈ g ∧ (rw k).b ∉ g := by
  unfold Ent
  rw [List.mem_flatMap]
  constructor
  · rintro ⟨m, hm, hk⟩
    rw [List.mem_filter, mem_Into, decide_eq_true_iff] at hk
    obtain ⟨⟨h1, h2⟩, h3⟩ := hk
    have := hg m hm
    exact ⟨h1, by rw [h2, show ((m.toNat : Nat) : Int) = m by omega]; exact hm, h3⟩
  · rintro ⟨h1, h2, h3⟩
    refine ⟨_, h2, ?_⟩
    rw [List.mem_filter, mem_Into, decide_eq_true_iff]
    have := hg _ h2
    exact ⟨⟨h1, by omega⟩, h3⟩
theorem nodup_Ent {ks : List Int} {rw : Int → Row} (hk : ks.Nodup) {gg : List Int} : ∀ {g : List Int}, g.Nodup → (∀ m ∈ g, 0 ≤ m) → (g.flatMap fun m => (Into ks rw m.toNat).filter fun k => decide ((rw k).b ∉ gg)).Nodup
  | [], _, _ => List.nodup_nil
  | m :: g, nd, h0 => by
    obtain ⟨h1, h2⟩ := List.nodup_cons.mp nd
    rw [List.flatMap_cons, List.nodup_append]
    refine ⟨(hk.filter _).filter _, nodup_Ent hk h2 fun x hx => h0 x (List.mem_cons_of_mem _ hx), fun a ha b hb e => ?_⟩
    subst e
    obtain ⟨m', hm', hb'⟩ := List.mem_flatMap.mp hb
    have a1 := (mem_Into.mp (List.mem_filter.mp ha).1).2
    have b1 := (mem_Into.mp (List.mem_filter.mp hb').1).2
    have z0 := h0 m List.mem_cons_self
    have z1 := h0 m' (List.mem_cons_of_mem _ hm')
    have : m = m' := by omega
    exact h1 (this ▸ hm')
/-- a payment: who paid, how much, for which road -/
structure Pay where
  g : List Int
  c : Int × Int
  p : Int
/-- on the way from a place: the path of groups, where it goes on, what roads still cost, what was paid -/
structure Sit where
  path : List (List Int)
  beg : Int
  rho : Int → Int × Int
  log : List Pay
def Sit.next (ks : List Int) (rw : Int → Row) (S : Sit) (path' : List (List Int)) (g : List Int) (p : Int) : Sit := ⟨path', (rw p).b, lessBy S.rho (Ent ks rw g) p, S.log ++ [⟨g, S.rho p, p⟩]⟩
inductive Go (ks : List Int) (rw : Int → Row) (D : List Bool) (S : Sit) : Sit → Prop
  | here : Go ks rw D S S
  | on {S1 : Sit} {init : List (List Int)} {g : List Int} {p : Int} (h : Go ks rw D S S1) (hb : ¬ got D S1.beg) (hw : With S1.path S1.beg (init ++ [g])) (hp : p ∈ Ent ks rw g) (hm : ∀ e ∈ Ent ks rw g, lt2 (S1.rho e) (S1.rho p) = false) (hf : First (Ent ks rw g) S1.rho p) :
    Go ks rw D S (S1.next ks rw (init ++ [g]) g p)
def mark (D : List Bool) (ms : List Int) : List Bool := ms.foldl (fun D m => D.set m.toNat true) D
def done0 (many root : Int) : List Bool := (List.range many.toNat).map fun (i : Nat) => decide ((i : Int) = root)
def rest0 (rw : Int → Row) : Int → Int × Int := fun k => ((rw k).c, rankOf k)
inductive Run (many root : Int) (ks : List Int) (rw : Int → Row) : Nat → List Bool → (Int → Int × Int) → List Pay → Prop
  | start : Run many root ks rw 0 (done0 many root) (rest0 rw) []
  | place {i : Nat} {D : List Bool} {ρ : Int → Int × Int} {log : List Pay} {S : Sit} (h : Run many root ks rw i D ρ log) (hi : i < many.toNat) (hg : Go ks rw D ⟨[], i, ρ, log⟩ S) (he : got D S.beg) : Run many root ks rw (i + 1) (mark D S.path.flatten) S.rho S.log
/-- what holds on the way -/
structure SitOk (many : Int) (D : List Bool) (S : Sit) : Prop where
  b0 : 0 ≤ S.beg
  b1 : S.beg < many
  mem : ∀ v ∈ S.path.flatten, 0 ≤ v ∧ v < many ∧ ¬ got D v
  nd : S.path.flatten.Nodup
  ne : ∀ g ∈ S.path, g ≠ []
  last : ∀ init g, S.path = init ++ [g] → S.beg ∉ g
def left0 (many : Int) (path : List (List Int)) : Nat := 2 * (many.toNat - path.flatten.length) + path.length
theorem flat_cut (gs : List (List Int)) (i : Nat) : gs.flatten = (gs.take i).flatten ++ (gs.drop i).flatten := by
  rw [← List.flatten_append, List.take_append_drop]
theorem with_ok {many : Int} {D : List Bool} {S : Sit} {gs' : List (List Int)} (I : SitOk many D S) (hb : ¬ got D S.beg) (h : With S.path S.beg gs') :
    gs'.flatten.Nodup ∧ (∀ v, v ∈ gs'.flatten ↔ v ∈ S.path.flatten ∨ v = S.beg) ∧ (∀ g ∈ gs', g ≠ []) ∧ (∃ init g, gs' = init ++ [g]) ∧ left0 many gs' < left0 many S.path := by
  have bound : ∀ ms : List Int, ms.Nodup → (∀ v ∈ ms, 0 ≤ v ∧ v < many) → ms.length ≤ many.toNat := fun ms nd hm => by
    have h1 : (ms.map Int.toNat).Nodup := by
      rw [List.nodup_iff_pairwise_ne, List.pairwise_map]
      refine (List.nodup_iff_pairwise_ne.mp nd).imp_of_mem fun {a b} ha hb ne e => ne ?_
      have := hm a ha
      have := hm b hb
      omega
    have := h1.length_le_of_subset (l₂ := List.range many.toNat) fun x hx => by
      obtain ⟨v, hv, rfl⟩ := List.mem_map.mp hx
      have := hm v hv
      exact List.mem_range.mpr (by omega)
    rw [List.length_map, List.length_range] at this
    exact this
  cases h with
  | alone hal =>
    have hnin : S.beg ∉ S.path.flatten := fun z => by
      obtain ⟨g, hg, hz⟩ := List.mem_flatten.mp z
      exact hal g hg hz
    have e : (S.path ++ [[S.beg]]).flatten = S.path.flatten ++ [S.beg] := by simp
    have nd' : (S.path.flatten ++ [S.beg]).Nodup := by
      rw [List.nodup_append]
      refine ⟨I.nd, by simp, fun a ha b hb2 z => ?_⟩
      rw [List.mem_singleton.mp hb2] at z
      exact hnin (z ▸ ha)
    have bd := bound _ nd' fun v hv => by
      rcases List.mem_append.mp hv with z | z
      · exact ⟨(I.mem v z).1, (I.mem v z).2.1⟩
      · rw [List.mem_singleton.mp z]
        exact ⟨I.b0, I.b1⟩
    rw [List.length_append, List.length_singleton] at bd
    refine ⟨by rw [e]; exact nd', fun v => by rw [e, List.mem_append, List.mem_singleton], fun g hg => ?_, ⟨_, _, rfl⟩, ?_⟩
    · rcases List.mem_append.mp hg with z | z
      · exact I.ne g z
      · rw [List.mem_singleton.mp z]
        exact List.cons_ne_nil _ _
    · unfold left0
      rw [e, List.length_append, List.length_append, List.length_singleton, List.length_singleton]
      omega
  | @circle i g c hi hp hbf hc hs =>
    have e : (S.path.take i ++ [c]).flatten = (S.path.take i).flatten ++ c := by simp
    have pm : ((S.path.take i).flatten ++ c).Perm S.path.flatten := by
      rw [flat_cut S.path i]
      exact List.Perm.append_left _ hc
    have hpin : S.beg ∈ S.path.flatten := List.mem_flatten.mpr ⟨g, List.mem_of_getElem? hi, hp⟩
    have hil := (List.getElem?_eq_some_iff.mp hi).1
    have hlt : i + 1 < S.path.length := by
      by_cases z : i + 1 = S.path.length
      · exfalso
        have hS : S.path = S.path.take i ++ [g] := by
          have h1 := take_succ hi
          rw [z, List.take_length] at h1
          exact h1
        exact I.last _ _ hS hp
      · omega
    refine ⟨by rw [e]; exact pm.nodup_iff.mpr I.nd, fun v => ?_, fun x hx => ?_, ⟨_, _, rfl⟩, ?_⟩
    · rw [e, pm.mem_iff]
      constructor
      · exact .inl
      · rintro (z | z)
        · exact z
        · rw [z]; exact hpin
    · rcases List.mem_append.mp hx with z | z
      · exact I.ne x (List.mem_of_mem_take z)
      · rw [List.mem_singleton.mp z]
        intro z2
        rw [z2] at hc
        have h1 : S.beg ∈ (S.path.drop i).flatten := List.mem_flatten.mpr ⟨g, by
          have : (S.path.drop i)[0]? = some g := by rw [List.getElem?_drop]; exact hi
          exact List.mem_of_getElem? this, hp⟩
        have h2 := hc.length_eq
        rw [List.length_nil] at h2
        have h3 := List.length_pos_of_mem h1
        omega
    · have h2 := pm.length_eq
      unfold left0
      rw [e, h2, List.length_append, List.length_singleton, List.length_take]
      omega
/-- a place that is reached from without is entered -/
theorem entered_by {rows : List Row} {root v : Int} {g : List Int} (h : Reach rows root v) : v ∈ g → root ∉ g → ∃ r ∈ rows, r.g ∈ g ∧ r.b ∉ g := by
  induction h with
  | root => exact fun a b => absurd a b
  | @step r hr _ ih =>
    intro a b
    by_cases z : r.b ∈ g
    · exact ih z b
    · exact ⟨r, hr, a, z⟩
/-- the roads of a map by their numbers: where they may lead -/
structure RdOk (many : Int) (ks : List Int) (rw : Int → Row) : Prop where
  nd : ks.Nodup
  num : ∀ k ∈ ks, 0 ≤ k ∧ k ≤ 60
  len : ks.length ≤ 1000
  row : ∀ k ∈ ks, 0 ≤ (rw k).b ∧ (rw k).b < many ∧ 0 ≤ (rw k).g ∧ (rw k).g < many
structure GrpOk (many : Int) (D : List Bool) (g : List Int) : Prop where
  ne : g ≠ []
  nd : g.Nodup
  mem : ∀ v ∈ g, 0 ≤ v ∧ v < many ∧ ¬ got D v
section
variable {many root : Int} {ks : List Int} {rw : Int → Row} {D : List Bool} {S : Sit} {init : List (List Int)} {g : List Int} {p : Int}
theorem mem_path' (I : SitOk many D S) (hb : ¬ got D S.beg) {gs' : List (List Int)} (h : With S.path S.beg gs') : ∀ v ∈ gs'.flatten, 0 ≤ v ∧ v < many ∧ ¬ got D v := fun v hv => by
  obtain ⟨_, h2, _⟩ := with_ok I hb h
  rcases (h2 v).mp hv with z | z
  · exact I.mem v z
  · rw [z]
    exact ⟨I.b0, I.b1, hb⟩
theorem grp_ok (I : SitOk many D S) (hb : ¬ got D S.beg) (hw : With S.path S.beg (init ++ [g])) : GrpOk many D g := by
  obtain ⟨h1, h2, h3, _⟩ := with_ok I hb hw
  have e : (init ++ [g]).flatten = init.flatten ++ g := by simp
  refine ⟨h3 g (List.mem_append_right _ (List.mem_singleton.mpr rfl)), ?_, fun v hv => mem_path' I hb hw v (by rw [e]; exact List.mem_append_right _ hv)⟩
  rw [e, List.nodup_append] at h1
  exact h1.2.1
theorem ent_ok (R : RdOk many ks rw) (G : GrpOk many D g) (hroot : got D root) (hr : ∀ v, 0 ≤ v → v < many → Reach (ks.map rw) root v) : Ent ks rw g ≠ [] ∧ (Ent ks rw g).Nodup ∧ ∀ e ∈ Ent ks rw g, e ∈ ks := by
  have g0 : ∀ m ∈ g, 0 ≤ m := fun m hm => (G.mem m hm).1
  refine ⟨?_, nodup_Ent R.nd G.nd g0, fun e he => ((mem_Ent g0).mp he).1⟩
  obtain ⟨v, hv⟩ := List.exists_mem_of_ne_nil _ G.ne
  obtain ⟨v0, v1, _⟩ := G.mem v hv
  obtain ⟨r, hr1, hr2, hr3⟩ := entered_by (hr v v0 v1) hv fun z => (G.mem root z).2.2 hroot
  obtain ⟨k, hk, rfl⟩ := List.mem_map.mp hr1
  exact List.ne_nil_of_mem ((mem_Ent g0).mpr ⟨hk, hr2, hr3⟩)
theorem sit_next (R : RdOk many ks rw) (I : SitOk many D S) (hb : ¬ got D S.beg) (hw : With S.path S.beg (init ++ [g])) (hp : p ∈ Ent ks rw g) : SitOk many D (S.next ks rw (init ++ [g]) g p) := by
  obtain ⟨h1, h2, h3, _⟩ := with_ok I hb hw
  have G := grp_ok I hb hw
  obtain ⟨hk, _, hpb⟩ := (mem_Ent fun m hm => (G.mem m hm).1).mp hp
  obtain ⟨a, b, _⟩ := R.row p hk
  refine ⟨a, b, mem_path' I hb hw, h1, h3, fun i2 g2 e => ?_⟩
  have := List.append_inj' (show init ++ [g] = i2 ++ [g2] from e) rfl
  have e2 : g = g2 := (List.cons.inj this.2).1
  rw [← e2]
  exact hpb
theorem got_mark : ∀ {ms : List Int} {D : List Bool}, (∀ m ∈ ms, m.toNat < D.length) → ∀ v : Int, got (mark D ms) v ↔ got D v ∨ ∃ m ∈ ms, v.toNat = m.toNat
  | [], D, _, v => by simp [mark]
  | m :: ms, D, h, v => by
    have ih := got_mark (ms := ms) (D := D.set m.toNat true) (fun x hx => by rw [List.length_set]; exact h x (List.mem_cons_of_mem _ hx)) v
    have e : mark D (m :: ms) = mark (D.set m.toNat true) ms := rfl
    rw [e, ih, got_set (h m List.mem_cons_self)]
    constructor
    · rintro ((z | z) | ⟨x, hx, z⟩)
      · exact .inr ⟨m, List.mem_cons_self, z⟩
      · exact .inl z
      · exact .inr ⟨x, List.mem_cons_of_mem _ hx, z⟩
    · rintro (z | ⟨x, hx, z⟩)
      · exact .inl (.inr z)
      · rcases List.mem_cons.mp hx with y | y
        · exact .inl (.inl (y ▸ z))
        · exact .inr ⟨x, y, z⟩
theorem mark_len : ∀ {ms : List Int} {D : List Bool}, (mark D ms).length = D.length
  | [], _ => rfl
  | m :: ms, D => (mark_len (ms := ms) (D := D.set m.toNat true)).trans (List.length_set ..)
theorem mark_app (D : List Bool) (a b : List Int) : mark D (a ++ b) = mark (mark D a) b := by
  unfold mark
  rw [List.foldl_append]
theorem go_ok (R : RdOk many ks rw) {S0 : Sit} (I : SitOk many D S0) (h : Go ks rw D S0 S) : SitOk many D S := by
  induction h with
  | here => exact I
  | on h hb hw hp hm hf ih => exact sit_next R ih hb hw hp
theorem sit_start {i : Nat} {ρ : Int → Int × Int} {log : List Pay} (hi : i < many.toNat) : SitOk many D ⟨[], i, ρ, log⟩ :=
  ⟨by show (0 : Int) ≤ (i : Int); omega, by show (i : Int) < many; omega, fun v hv => by simp at hv, by simp, fun g hg => by simp at hg, fun init g e => by simp at e⟩
theorem done0_root (r0 : 0 ≤ root) (r1 : root < many) : got (done0 many root) root := by
  unfold got done0
  rw [List.getElem?_map, List.getElem?_eq_getElem (by rw [List.length_range]; omega), List.getElem_range]
  show some (decide ((root.toNat : Int) = root)) = some true
  rw [decide_eq_true (by omega)]
theorem run_ok (r0 : 0 ≤ root) (r1 : root < many) (R : RdOk many ks rw) {i : Nat} {ρ : Int → Int × Int} {log : List Pay} (h : Run many root ks rw i D ρ log) : D.length = many.toNat ∧ got D root ∧ ∀ j : Nat, j < i → got D (j : Int) := by
  induction h with
  | start => exact ⟨by simp [done0], done0_root r0 r1, fun j hj => by omega⟩
  | @place i D ρ log S h hi hg he ih =>
    obtain ⟨h1, h2, h3⟩ := ih
    have I := go_ok R (sit_start (ρ := ρ) (log := log) hi) hg
    have hl : ∀ m ∈ S.path.flatten, m.toNat < D.length := fun m hm => by
      obtain ⟨a, b, _⟩ := I.mem m hm
      omega
    refine ⟨mark_len.trans h1, (got_mark hl _).mpr (.inl h2), fun j hj => (got_mark hl _).mpr ?_⟩
    rcases Nat.lt_succ_iff_lt_or_eq.mp hj with z | rfl
    · exact .inl (h3 j z)
    · -- the place itself: on the path, or done
      have key : ∀ {S1 : Sit}, Go ks rw D ⟨[], (j : Int), ρ, log⟩ S1 → (j : Int) ∈ S1.path.flatten ∨ S1.beg = (j : Int) := fun {S1} g1 => by
        induction g1 with
        | here => exact .inr rfl
        | @on S2 init g p g2 hb hw hp hm hf ih2 =>
          have I2 := go_ok R (sit_start (ρ := ρ) (log := log) hi) g2
          obtain ⟨_, w2, _⟩ := with_ok I2 hb hw
          refine .inl ((w2 _).mpr ?_)
          rcases ih2 with z | z
          · exact .inl z
          · exact .inr z.symm
      rcases key hg with z | z
      · exact .inr ⟨_, z, rfl⟩
      · exact .inl (z ▸ he)
end
end Rc
/-! part RcK5 -/
/-! name = {k: v for .. in ..}, the name a local. -/
namespace Rc
open PySem PySem.Spec PyProof.Rows L2
theorem swD_true {kx vx : Expr} {gs : List Comprehension} {scope : Scope} {pos py : Pos} {y : Str} {l : Nat} {en : Env} (h1 : en.scope.kind = .function) (h2 : en.scope.names.lookup y = some .local) (h3 : (py.line == pos.line) = true)
    (h4 : (scope.names.any fun (n, k) => n == y && (k == .local || k == .cell)) = false) : swapsWith (.DictComp kx vx gs scope pos) (some (.Name y py)) l en = pure true := by
  have e1 : en.kindOf y = some .local := h2
  have e2 : en.blockKind = .function := by
    unfold Env.blockKind
    rw [h1]
    rfl
  unfold swapsWith
  simp only [e2, e1, h4, Expr.pos, h3]
  rfl
section
variable {X : Cx}
theorem ps_setDc {i : Nat} {y : Str} {py : Pos} {kx vx tg iter : Expr} {ifs : List Expr} {scope : Scope} {own : List (Str × Nat)} {pos spos : Pos} {wi : TI} {g : TG} {tt : TT} {tk tv : TE} (calm : X.calm = true) (nd : X.N.Nodup) (at_ : X.N[i]? = some y) (loc : X.env.scope.names.lookup y = some .local)
    (sw : swapsWith (.DictComp kx vx [⟨tg, iter, ifs, 0⟩] scope pos) (some (.Name y py)) spos.line X.env = pure true) (it : PI X tg iter wi) (blk : BlkOk X.N X.env.scope scope own)
    (a1 : ∀ (s : Shared) (H : Hp) (C : Addr) (cl : List (Str × Addr)) (fp : List Addr), PG (X.blk s H scope (compEnvC scope cl C X.env) fp) tg g) (a2 : ∀ (s : Shared) (H : Hp) (C : Addr) (cl : List (Str × Addr)) (fp : List Addr), PTs (X.blk s H scope (compEnvC scope cl C X.env) fp) ifs tt)
    (a3 : ∀ (s : Shared) (H : Hp) (C : Addr) (cl : List (Str × Addr)) (fp : List Addr), PE (X.blk s H scope (compEnvC scope cl C X.env) fp) kx tk) (a4 : ∀ (s : Shared) (H : Hp) (C : Addr) (cl : List (Str × Addr)) (fp : List Addr), PE (X.blk s H scope (compEnvC scope cl C X.env) fp) vx tv)
    (fo : ∀ z, foldedSetIterable iter X.env z = pure z := by intro _; rfl) : PS X (.Assign [.Name y py] (.DictComp kx vx [⟨tg, iter, ifs, 0⟩] scope pos) spos) (tAsg (tDc wi g tt tk tv (own.map (·.2))) (gName i)) := by
  refine ⟨fun pins s σ H D I want => ?_⟩
  rw [exec_Assign_Name_used _ _ _ _ sw]
  refine wpAny_bind (wpAny_standAt (wpAny_bind ?_))
  show wpAny _ X.A (do
    let _ ← comprehension (.DictComp kx vx [⟨tg, iter, ifs, 0⟩] scope pos) scope X.env (firstIterPos [⟨tg, iter, ifs, 0⟩] pos) newDict false (eval iter X.env) (some (assign (.Name y py) X.env))) _ _ s
  have want' : tDc wi g tt tk tv (own.map (·.2)) σ H (fun x H1 => gName i x σ H1 D.nx) := want
  refine wpAny_bind (thn (dc_core (Qf := fun _ s' => SP X pins D .next s') calm nd I it blk a1 a2 a3 a4 fo want' fun L C t m G J q ns fpo => ?_) fun _ t hq => wpAny_pure (wpAny_pure hq))
  show wpAny _ _ (assign (.Name y py) X.env (.ref L)) _ _ _
  refine wpAny_assign_Name (store_ok2 (v := V.ref L) J nd at_ (.inl loc) rfl (fun s2 J2 ⟨a, sb, ha⟩ => ?_) (.inr loc))
  obtain ⟨c0, c1, c2, c3, c4, c5⟩ := fpo
  have other : C ≠ a := by
    rcases ha with z | z
    · exact z ▸ c1
    · exact fun e => c4 y a z e.symm
  refine ⟨m, ns.sameBut sb other, fun h3 sb3 => ⟨_, G, J2.turned (t' := s2.toks) (fun b o hb e => (sb3.2 b hb).trans e) c0 c1 c3 c4 c5, q⟩⟩
/-- over any walk -/
theorem dc_it {J : It} {n : Nat} {G : Hp → Prop} {Y : Nat → Hp → V → Hp → Prop} (w : Walk J n G Y) {g : TG} {tt : TT} {tk tv : TE} {vs : List Nat} {σ : L2.St} {H1 : Hp} {D : Addr} {Qd : Hp → Prop} (Pv : Nat → Hp → Prop) (h0 : Pv 0 (upd H1 D (.dK []))) (hG : ∀ i H, i ≤ n → Pv i H → G H)
    (hs : ∀ i x H H', i < n → Pv i H → Y i H x H' → g x (wipe σ vs) H' fun σ2 H2 => wipe σ2 vs = wipe σ vs ∧ tt σ2 H2 fun b H3 =>
      if b = true then tk σ2 H3 fun y H4 => tv σ2 H4 fun z H5 => ∃ kvs k, y = kV k ∧ H5 D = some (.dK kvs) ∧ kvs.length < sizeLine ∧ Pv (i + 1) (upd H5 D (.dK (putK kvs k z))) else Pv (i + 1) H3) (hd : ∀ H, Pv n H → Qd H) :
    ∃ W : Nat → Nat → Hp → Prop, (∃ m, W 0 m (upd H1 D (.dK []))) ∧ ∀ i m H, W i m H →
      (J.stop i H ∧ Qd H) ∨ (J.go i H ∧ ∃ Nx : Hp → Prop, (∀ H', Nx H' → ∃ m', m' < m ∧ W (i + 1) m' H') ∧ ∀ x H', J.yld i H x H' → g x (wipe σ vs) H' fun σ2 H2 => wipe σ2 vs = wipe σ vs ∧ tt σ2 H2 fun b H3 =>
        if b = true then tk σ2 H3 fun y H4 => tv σ2 H4 fun z H5 => ∃ kvs k, y = kV k ∧ H5 D = some (.dK kvs) ∧ kvs.length < sizeLine ∧ Nx (upd H5 D (.dK (putK kvs k z))) else Nx H3) := by
  refine ⟨fun i m H => m = n - i ∧ i ≤ n ∧ Pv i H, ⟨n, by simp, Nat.zero_le _, h0⟩, fun i m H ⟨em, hi, p⟩ => ?_⟩
  subst em
  have q := hG i H hi p
  by_cases lt : i < n
  · exact .inr ⟨w.goes i H lt q, Pv (i + 1), fun H' p' => ⟨n - (i + 1), by omega, rfl, lt, p'⟩, fun x H' y => hs i x H H' lt p (w.yields i H x H' lt q y)⟩
  · obtain rfl : i = n := by omega
    exact .inl ⟨w.stops H q, hd H p⟩
end
end Rc
/-! part RcHt2 -/
/-! While an exception is handled: dict comprehensions. -/
namespace Rc
open PySem PySem.Spec PyProof.Rows L2 L2H HotX
section
variable {X : Cx}
/-- the walk of {k: v for tg in iter if ..} while an exception is handled -/
theorem dcG_core {pins : List (Addr × Obj)} {s : Shared} {σ : L2.St} {H : Hp} {Q : VK} {kx vx tg iter : Expr} {ifs : List Expr} {scope : Scope} {own : List (Str × Nat)} {pos pos' : Pos} {wi : TI} {g : TG} {tt : TT} {tk tv : TE} {use : Option (Value → Sem Unit)} {Qf : Value → Shared → Prop}
    (hot : HotC X) (hN : X.N.Nodup) (I : Inv X pins σ H s) (hi : PIH X tg iter wi) (ok : BlkOk X.N X.env.scope scope own)
    (hg : ∀ (s : Shared) (H : Hp) (C : Addr) (cl : List (Str × Addr)) (fp : List Addr), PG (blkH X s H scope (compEnvC scope cl C X.env) fp) tg g) (ht : ∀ (s : Shared) (H : Hp) (C : Addr) (cl : List (Str × Addr)) (fp : List Addr), PTs (blkH X s H scope (compEnvC scope cl C X.env) fp) ifs tt)
    (hk : ∀ (s : Shared) (H : Hp) (C : Addr) (cl : List (Str × Addr)) (fp : List Addr), PE (blkH X s H scope (compEnvC scope cl C X.env) fp) kx tk)
    (he : ∀ (s : Shared) (H : Hp) (C : Addr) (cl : List (Str × Addr)) (fp : List Addr), PE (blkH X s H scope (compEnvC scope cl C X.env) fp) vx tv) (hs : ∀ x, foldedSetIterable iter X.env x = pure x)
    (h : tDc wi g tt tk tv (own.map (·.2)) σ H Q)
    (hRR : ∀ D C s' m H', Inv X pins σ H' s' → Q (.ref D) H' → s'.heap.Ns C m → FpOk X pins H' C → compPost (model X.prog X.w) X.A X.xe use Qf (.ref D) C (.ok .next) s') :
    wpAny (model X.prog X.w) X.A (comprehension (.DictComp kx vx [⟨tg, iter, ifs, 0⟩] scope pos) scope X.env pos' newDict false (eval iter X.env) use) Qf X.xe s := by
  have fr : ∀ y ∈ scope.names, y.2 = .free → ∃ c, X.env.cells.lookup y.1 = some c := fun y hy e => (ok.free y hy e).elim (fun k => I.ok.has _ (.inl k)) fun k => I.ok.has _ (.inr k)
  refine wpAny_comprehension_free (use := use) rfl hs (closure_ok fr) ok.kind (fun y hy e => by rw [ok.uniq y hy, e]) (thn (hi.run pins s σ H _ I h) fun xv s1 hx => thn hx fun itv s2 h2 => ?_)
  obtain ⟨it, fp, tn, J, H2, e, I2, T, st2, f2, q⟩ := h2
  subst e
  refine wpAny_newObj_type (newEnv_comp ?_)
  generalize hDe : s2.heap.objs.size = D
  have hDn : H2 D = none := I2.hok.fresh (Nat.le_of_eq hDe)
  obtain ⟨W, ⟨m0, w0⟩, turn⟩ := q D hDn
  generalize hs3 : ({ s2 with heap := s2.heap.push { cls := .type "dict", data := .dict #[] } } : Shared) = s3
  have h3 : s3.heap = s2.heap.push { cls := .type "dict", data := .dict #[] } := by rw [← hs3]
  have I3 : Inv X pins σ (upd H2 D (.dK [])) s3 := by
    rw [← hs3]
    refine I2.laid (t' := s2.toks) (fun b o e => Heap.get?_push_of_some _ e) (Nat.le_of_eq hDe) ?_
    rw [← hDe]
    exact dk_empty s2.heap I2.big
  have lt2 : ∀ b ∈ fp, b < s2.heap.objs.size := fun b hb => by
    obtain ⟨o, e, _⟩ := T.obj _ _ st2 b hb
    exact Heap.lt_size e
  have f3 : ∀ b ∈ fp, FpOk X pins (upd H2 D (.dK [])) b ∧ b < s3.heap.objs.size := fun b hb => by
    have l := lt2 b hb
    exact ⟨⟨by rw [upd_ne (by rw [← hDe]; exact Nat.ne_of_lt l)]; exact (f2 b hb).1, (f2 b hb).2⟩, by rw [h3, Heap.size_push]; exact Nat.lt_succ_of_lt l⟩
  have st3 : tn 0 s3.heap := T.keep _ _ _ st2 fun b _ o e => by rw [h3]; exact Heap.get?_push_of_some _ e
  have B4 := block_start I3 ok hN f3
  -- what is pinned stays pinned in the block
  have P3 : ∀ p ∈ X.pn, s3.heap.get? p.1 = some p.2 ∧ (upd H2 D (.dK [])) p.1 = none ∧ p.1 ∉ frs X.stack ∧ (∀ v, p.2.data ≠ .cell v) ∧ p.1 < s3.heap.objs.size := fun p hp => by
    obtain ⟨g1, g2, g3, g4, g5⟩ := I3.pin p (List.mem_append_left _ hp)
    exact ⟨g1, g2, fun hm => (List.mem_cons.mp (I3.stkSub p.1 hm)).elim g3 g4, g5, Heap.lt_size g1⟩
  have pg := hg s3 (upd H2 D (.dK [])) s3.heap.objs.size (cellsFrom (s3.heap.objs.size + 1) scope.names (cloFrom X.env.cells scope.names [])) fp
  have pt := ht s3 (upd H2 D (.dK [])) s3.heap.objs.size (cellsFrom (s3.heap.objs.size + 1) scope.names (cloFrom X.env.cells scope.names [])) fp
  have pk := hk s3 (upd H2 D (.dK [])) s3.heap.objs.size (cellsFrom (s3.heap.objs.size + 1) scope.names (cloFrom X.env.cells scope.names [])) fp
  have pe := he s3 (upd H2 D (.dK [])) s3.heap.objs.size (cellsFrom (s3.heap.objs.size + 1) scope.names (cloFrom X.env.cells scope.names [])) fp
  show codeAny _ _ (.compStart (.DictComp kx vx [⟨tg, iter, ifs, 0⟩] scope pos) 0 (.ref it) (.ref D) (compEnvC scope (cellsFrom (s3.heap.objs.size + 1) scope.names (cloFrom X.env.cells scope.names [])) s3.heap.objs.size X.env)) _ { s3 with heap := pushCells (s3.heap.push { cls := .type "dict", data := .dict #[] }) scope.names }
  generalize hce : compEnvC scope (cellsFrom (s3.heap.objs.size + 1) scope.names (cloFrom X.env.cells scope.names [])) s3.heap.objs.size X.env = ce at B4 pg pt pk pe ⊢
  have cL : ce.locals = s3.heap.objs.size := by subst hce; rfl
  have nfp : ∀ b ∈ fp, (upd H2 D (.dK [])) b = none := fun b hb => (f3 b hb).1.1
  generalize hH3 : upd H2 D (.dK []) = H3 at I3 B4 pg pt pk pe w0 f3 P3 nfp
  generalize hs4 : ({ s3 with heap := pushCells (s3.heap.push { cls := .type "dict", data := .dict #[] }) scope.names } : Shared) = s4 at B4 ⊢
  have st4 : tn 0 s4.heap := T.keep _ _ _ st3 fun b _ o e => by rw [← hs4]; exact pushCells_keeps _ _ _ _ (Heap.get?_push_of_some _ e)
  have I4 : Inv (blkH X s3 H3 scope ce fp) [] (wipe σ (own.map (·.2))) H3 s4 := inv_pn B4 fun p hp => by
    rw [List.append_nil] at hp
    obtain ⟨g1, g2, g3, g4, g5⟩ := P3 p hp
    refine ⟨by rw [← hs4]; exact pushCells_keeps _ _ _ _ (Heap.get?_push_of_some _ g1), g2, ?_, g3, g4⟩
    show p.1 ≠ ce.locals
    rw [cL]
    exact Nat.ne_of_lt g5
  have stat : ∀ {σ' : L2.St} {H' : Hp} {s' : Shared}, Inv (blkH X s3 H3 scope ce fp) [] σ' H' s' → (∀ b ∈ fp, H' b = none) → ∀ b ∈ fp, FpOk (blkH X s3 H3 scope ce fp) [] H' b := fun {σ' H' s'} I' hn b hb =>
    ⟨hn b hb, (I'.ok.exf b hb).1, I'.ok.exfs b hb, .inl hb, fun x c e => (I'.ok.exf b hb).2 x c e, fun p hp => (f3 b hb).1.2.2.2.2.2 p (List.mem_append_left _ (by rw [List.append_nil] at hp; exact hp))⟩
  have loop : ∀ R : Result → Shared → Prop, (∀ s' H', Inv X pins σ H' s' → Q (.ref D) H' → (∃ m, s'.heap.Ns s3.heap.objs.size m) → FpOk X pins H' s3.heap.objs.size → R (.ok .next) s') →
      codeAny (model X.prog X.w) X.A (.compLoop (.DictComp kx vx [⟨tg, iter, ifs, 0⟩] scope pos) 0 (.ref it) (.ref D) ce) R s4 := by
    intro R hR
    refine compLoop_anyD (fun n s' => ∃ i H', Inv (blkH X s3 H3 scope ce fp) [] (wipe σ (own.map (·.2))) H' s' ∧ tn i s'.heap ∧ (∀ b ∈ fp, H' b = none) ∧ W i n H') ?_ m0 ⟨0, H3, I4, st4, nfp, w0⟩
    rintro n s5 ⟨i, H5, I5, st5, n5, w5⟩
    rcases turn i n H5 w5 with ⟨stop, qq⟩ | ⟨go, Nx, hNx, step⟩
    · refine thnF (T.done (blkH X s3 H3 scope ce fp) rfl rfl rfl hot i [] s5 _ H5 (fun _ _ => False) I5 (stat I5 n5) st5 stop) fun r s6 ⟨hr, I6⟩ => ?_
      subst hr
      have I7 : Inv X pins σ H5 s6 := I3.call' (ch := fp) I6.os I6.base I6.hok I6.bare fun b hb => ⟨(f3 b hb).1.2.2.2.1, (f3 b hb).1.2.1, (f3 b hb).1.2.2.2.2.1, (f3 b hb).1.2.2.2.2.2⟩
      have nC : H5 s3.heap.objs.size = none := by
        have z : H5 ce.locals = none := I6.free
        rw [cL] at z
        exact z
      obtain ⟨m, hn, _⟩ := I6.loc
      refine hR _ H5 I7 qq ⟨m, ?_⟩ (I3.fpOk (Nat.le_refl _) nC)
      have hn2 : s6.heap.Ns ce.locals m := hn
      rw [cL] at hn2
      exact hn2
    · refine thnF (T.item (blkH X s3 H3 scope ce fp) rfl rfl rfl hot i [] s5 _ H5 (fun _ _ => False) I5 (stat I5 n5) st5 go) fun r s6 ⟨u, hr, h6⟩ => ?_
      subst hr
      refine thnF h6 fun _ s7 ⟨x, H7, I7, r7, y7, st7, n7⟩ => ?_
      refine thnF (pg.run _ s7 _ H7 x u _ (I7.pinned (stat I7 n7) (T.obj _ _ st7)) r7 (step x H7 y7)) fun _ s8 ⟨σ8, H8, I8, hw8, q8⟩ => ?_
      refine thnF (pt.run _ s8 σ8 H8 _ I8 q8) fun b s9 ⟨H9, I9, q9⟩ => ?_
      have fin : ∀ {s' : Shared} {H' : Hp}, Inv (blkH X s3 H3 scope ce fp) ([] ++ pinsAt fp s7.heap) σ8 H' s' → Nx H' → ∃ m, m < n ∧ ∃ i H', Inv (blkH X s3 H3 scope ce fp) [] (wipe σ (own.map (·.2))) H' s' ∧ tn i s'.heap ∧ (∀ b ∈ fp, H' b = none) ∧ W i m H' := fun {s' H'} I' nx => by
        obtain ⟨m', hm, w'⟩ := hNx H' nx
        have pin' : ∀ b ∈ fp, ∀ o, s7.heap.get? b = some o → s'.heap.get? b = some o ∧ H' b = none := fun b hb o e =>
          let z := I'.pin (b, o) (List.mem_append_right _ (List.mem_append_right _ (mem_pinsAt hb e)))
          ⟨z.1, z.2.1⟩
        refine ⟨m', hm, i + 1, H', (I'.unpinned (pins := [])).weak (by rw [← hw8, wipe_length]) (fun j v e => by rw [← hw8] at e; exact (wipe_some e).1), T.keep _ _ _ st7 fun b hb o e => (pin' b hb o e).1, fun b hb => ?_, w'⟩
        obtain ⟨o, e, _⟩ := T.obj _ _ st7 b hb
        exact (pin' b hb o e).2
      cases b with
      | false =>
        simp only [Bool.false_eq_true, if_false] at q9 ⊢
        exact fin I9 q9
      | true =>
        simp only [if_true] at q9 ⊢
        refine thnF (pk.run _ s9 σ8 H9 _ I9 q9) fun z s10 ⟨yk, H10, I10, r10, q10⟩ => ?_
        refine thnF (pe.run _ s10 σ8 H10 _ I10 q10) fun z2 s11 ⟨yv, H11, I11, r11, kvs, k, ek, hD11, hz11, nx⟩ => ?_
        subst ek
        exact d_dictSet (X := blkH X s3 H3 scope ce fp) I11 hD11 hz11 r10 r11 fun s12 I12 => fin I12 nx
  have fin : ∀ s' H', Inv X pins σ H' s' → Q (.ref D) H' → (∃ m, s'.heap.Ns s3.heap.objs.size m) → FpOk X pins H' s3.heap.objs.size → compPost (model X.prog X.w) X.A X.xe use Qf (.ref D) s3.heap.objs.size (.ok .next) s' := by
    rintro s' H' I' q ⟨m, hn⟩ f
    exact hRR _ _ _ m _ I' q hn f
  exact codeAny_compStart_dict (loop _ fin) (T.self X.A 0 _ _ _ st4 (loop _ fin))
theorem pe_dcG {kx vx tg iter : Expr} {ifs : List Expr} {scope : Scope} {own : List (Str × Nat)} {pos : Pos} {wi : TI} {g : TG} {tt : TT} {tk tv : TE} (hot : HotC X) (hN : X.N.Nodup) (hi : PIH X tg iter wi) (ok : BlkOk X.N X.env.scope scope own)
    (hg : ∀ (s : Shared) (H : Hp) (C : Addr) (cl : List (Str × Addr)) (fp : List Addr), PG (blkH X s H scope (compEnvC scope cl C X.env) fp) tg g) (ht : ∀ (s : Shared) (H : Hp) (C : Addr) (cl : List (Str × Addr)) (fp : List Addr), PTs (blkH X s H scope (compEnvC scope cl C X.env) fp) ifs tt)
    (hk : ∀ (s : Shared) (H : Hp) (C : Addr) (cl : List (Str × Addr)) (fp : List Addr), PE (blkH X s H scope (compEnvC scope cl C X.env) fp) kx tk)
    (he : ∀ (s : Shared) (H : Hp) (C : Addr) (cl : List (Str × Addr)) (fp : List Addr), PE (blkH X s H scope (compEnvC scope cl C X.env) fp) vx tv) (hs : ∀ x, foldedSetIterable iter X.env x = pure x := by intro _; rfl) :
    PE X (.DictComp kx vx [⟨tg, iter, ifs, 0⟩] scope pos) (tDc wi g tt tk tv (own.map (·.2))) := by
  refine ⟨fun pins s σ H Q I h => ?_⟩
  rw [arm_eval_DictComp]
  refine dcG_core hot hN I hi ok hg ht hk he hs h fun D C s' m H' I' q hn ⟨k0, k1, k2, k3, k4, k5⟩ => ⟨m, hn, fun h'' sb => ?_⟩
  exact ⟨.ref D, H', I'.turned (t' := s'.toks) (fun b o hb e => (sb.2 b hb).trans e) k0 k1 k3 k4 k5, rfl, q⟩
theorem ps_setDcG {i : Nat} {y : Str} {py : Pos} {kx vx tg iter : Expr} {ifs : List Expr} {scope : Scope} {own : List (Str × Nat)} {pos spos : Pos} {wi : TI} {g : TG} {tt : TT} {tk tv : TE} (hot : HotC X) (hN : X.N.Nodup) (hy : X.N[i]? = some y) (hyl : X.env.scope.names.lookup y = some .local) (hsw : swapsWith (.DictComp kx vx [⟨tg, iter, ifs, 0⟩] scope pos) (some (.Name y py)) spos.line X.env = pure true) (hi : PIH X tg iter wi) (ok : BlkOk X.N X.env.scope scope own)
    (hg : ∀ (s : Shared) (H : Hp) (C : Addr) (cl : List (Str × Addr)) (fp : List Addr), PG (blkH X s H scope (compEnvC scope cl C X.env) fp) tg g) (ht : ∀ (s : Shared) (H : Hp) (C : Addr) (cl : List (Str × Addr)) (fp : List Addr), PTs (blkH X s H scope (compEnvC scope cl C X.env) fp) ifs tt)
    (hk : ∀ (s : Shared) (H : Hp) (C : Addr) (cl : List (Str × Addr)) (fp : List Addr), PE (blkH X s H scope (compEnvC scope cl C X.env) fp) kx tk)
    (he : ∀ (s : Shared) (H : Hp) (C : Addr) (cl : List (Str × Addr)) (fp : List Addr), PE (blkH X s H scope (compEnvC scope cl C X.env) fp) vx tv) (hs : ∀ x, foldedSetIterable iter X.env x = pure x := by intro _; rfl) :
    PS X (.Assign [.Name y py] (.DictComp kx vx [⟨tg, iter, ifs, 0⟩] scope pos) spos) (tAsg (tDc wi g tt tk tv (own.map (·.2))) (gName i)) := by
  refine ⟨fun pins s σ H D I h => ?_⟩
  rw [exec_Assign_Name_used _ _ _ _ hsw]
  refine wpAny_bind (wpAny_standAt (wpAny_bind ?_))
  show wpAny _ X.A (do let _ ← comprehension (.DictComp kx vx [⟨tg, iter, ifs, 0⟩] scope pos) scope X.env (firstIterPos [⟨tg, iter, ifs, 0⟩] pos) newDict false (eval iter X.env) (some (assign (.Name y py) X.env))) _ _ s
  have h : tDc wi g tt tk tv (own.map (·.2)) σ H (fun x H1 => gName i x σ H1 D.nx) := h
  refine wpAny_bind (thn (dcG_core (Qf := fun _ s' => SP X pins D .next s') hot hN I hi ok hg ht hk he hs h fun L C s' m H' I' q hn f => ?_) fun _ s' hq => wpAny_pure (wpAny_pure hq))
  show wpAny _ _ (assign (.Name y py) X.env (.ref L)) _ _ _
  refine wpAny_assign_Name (store_ok2 (v := V.ref L) I' hN hy (.inl hyl) rfl (fun s2 I2 ⟨a, sb, ha⟩ => ?_) (.inr hyl))
  obtain ⟨f0, f1, f2, f3, f4, f5⟩ := f
  have haC : C ≠ a := fun e => ha.elim (fun z => f1 (e.trans z)) fun z => f4 y a z e.symm
  exact ⟨m, hn.sameBut sb haC, fun h3 sb3 => ⟨_, H', I2.turned (t' := s2.toks) (fun b o hb e => (sb3.2 b hb).trans e) f0 f1 f3 f4 f5, q⟩⟩
end
end Rc
/-! part RcHt3 -/
/-! While an exception is handled: tuples are taken apart, range(a, b), the values of a dict, methods. -/
namespace Rc
open PySem PySem.Spec PyProof.Rows L2 L2H HotX
section
variable {prog : Program} {w : World} {A : Around} {E : Value → Shared → Prop} {s : Shared}
/-- StopIteration is made and raised while an exception is handled, and taken for the walk's end -/
theorem tuple_end_hot {it l x1 : Addr} {i : Nat} {items : Array Value} {Q : Option Value → Shared → Prop} (hot : HotAt A x1 s.heap) (hit : IsTupIter s.heap it l i) (hl : IsTup s.heap l items) (hx : items[i]? = none)
    (nx : x1 ≠ it) (hQ : ∀ h', (∀ b o, b ≠ it → s.heap.get? b = some o → h'.get? b = some o) → Q none { s with heap := h' }) : wpAny (model prog w) A (pyNext (.ref it)) Q E s := by
  obtain ⟨oi, hoi, hci, hdi⟩ := id hit
  obtain ⟨ol, hol, _, nl, hdl⟩ := hl
  obtain ⟨hh, o1, vs1, h1, d1, c1⟩ := hot
  unfold pyNext
  refine wpAny_bind (wpAny_attempt (wpAny_callSpecial?_slot (name := Str.ofString "__next__") hit.typeIs slot_tupleiter_next (wpAny_call_entry slot_tupleiter_next hit.typeIs entry_tupleiter_next ?_ (args_tupleiter_next _))))
  show wpAny _ _ (field (.ref it) 0 >>= _) _ _ s
  refine wpAny_bind (wpAny_field hoi hdi (x := .ref l) rfl ?_)
  show wpAny _ _ (if (Value.ref l == Value.none) = true then _ else _) _ _ s
  rw [if_neg (show ¬ ((Value.ref l == Value.none) = true) from Bool.false_ne_true)]
  show wpAny _ _ (field (.ref it) 1 >>= _) _ _ s
  refine wpAny_bind (wpAny_field hoi hdi (x := .int i 0) rfl ?_)
  show wpAny _ _ (seqItems? (.ref l) >>= _) _ _ s
  refine wpAny_bind (wpAny_seqItems hol hdl ?_)
  simp only [Int.toNat_natCast, hx]
  refine wpAny_bind (wpAny_rule (wpAny_bind (wpAny_setField hoi hdi (by simp) ?_)))
  refine wpAny_bind ?_
  simp only [newExc, newTuple]
  refine wpAny_bind (wpAny_newObj_type ?_ (by size_fits))
  refine wpAny_bind (m := firstArgMember _ _) (wpAny_of_eq (a := Value.none) (by first | rfl | (simp only [firstArgMember]; rfl)) ?_)
  refine wpAny_newObj_type ?_ (by size_fits)
  have hk : ∀ {f : Obj → Obj} {b : Addr} {o : Obj}, b ≠ it → s.heap.get? b = some o → (s.heap.update it f).get? b = some o := fun nb e => (Heap.get?_update_other _ _ (Ne.symm nb)).trans e
  refine raiseNew_hot ⟨hh, o1, vs1, Heap.get?_push_of_some _ (Heap.get?_push_of_some _ (hk nx h1)), d1, c1⟩ (Nat.ne_of_lt (Heap.lt_size (Heap.get?_push_of_some _ (hk nx h1)))) (Heap.get?_push_size _ rfl) rfl (by first | (simp; done) | (simp; omega)) ?_
  refine wpAny_bind (wpAny_isInstance (T := "StopIteration") (b := true) ⟨_, Heap.get?_update_self _ (Heap.get?_push_size _ rfl) rfl, rfl⟩ isSubtype_stop ?_)
  refine wpAny_pure (hQ _ fun b o nb e => ?_)
  rw [Heap.get?_update_other _ _ (Nat.ne_of_gt (Heap.lt_size (Heap.get?_push_of_some _ (hk nb e))))]
  exact Heap.get?_push_of_some _ (Heap.get?_push_of_some _ (hk nb e))
theorem values_end_hot {K : Type} [DecidableEq K] {knd : KeyKind prog w K} {it d x1 : Addr} {i ep : Nat} {kvs : List (K × Value)} {Q : Option Value → Shared → Prop} (hot : HotAt A x1 s.heap) (hit : s.heap.IsValIter it d i kvs.length ep) (hm : s.heap.DictAt knd d kvs ep) (hx : kvs[i]? = none)
    (nx : x1 ≠ it) (hQ : ∀ h', (∀ b o, b ≠ it → s.heap.get? b = some o → h'.get? b = some o) → Q none { s with heap := h' }) : wpAny (model prog w) A (pyNext (.ref it)) Q E s := by
  obtain ⟨o, ho, hc, hd⟩ := id hit
  obtain ⟨od, es, hod, hcd, hdd, hk, hp, hn⟩ := id hm
  obtain ⟨hh, o1, vs1, h1, d1, c1⟩ := hot
  unfold pyNext
  refine wpAny_bind (wpAny_attempt (wpAny_callSpecial?_slot (name := Str.ofString "__next__") hit.typeIs PySem.F.slot_dict_valueiterator_next (wpAny_call_entry PySem.F.slot_dict_valueiterator_next hit.typeIs PySem.F.entry_dict_valueiterator_next ?_ (PySem.F.args_dict_valueiterator_next_1 _))))
  refine wpAny_bind (wpAny_pure ?_)
  refine wpAny_bind ?_
  refine wpAny_bind ?_
  first | refine wpAny_bind (wpAny_typeNameOfWhole_valiter hit.typeIs (wpAny_pure ?_)) | refine wpAny_bind (wpAny_typeNameOf_valiter hit.typeIs (wpAny_pure ?_))
  refine wpAny_bind (wpAny_fieldsOf ho hd ?_)
  have hown : Builtin.Dict_items.ownsTuple "dict_valueiterator" = false := by decide
  simp only [hown, Bool.false_eq_true, if_false]
  show wpAny _ _ (if (Value.ref d == Value.none) = true then _ else _) _ _ s
  rw [if_neg (show ¬ ((Value.ref d == Value.none) = true) from Bool.false_ne_true)]
  refine wpAny_bind (wpAny_pure ?_)
  refine wpAny_bind (wpAny_dictEntries hod hdd ?_)
  have hsz : es.size = kvs.length := by rw [← hp.length]; simp
  rw [if_neg (by rw [hsz]; simp)]
  refine wpAny_bind (wpAny_pure ?_)
  refine wpAny_bind (wpAny_dictEpoch hod hdd ?_)
  rw [if_neg (by simp)]
  refine wpAny_pure ?_
  have hge : es.size ≤ i := by rw [hsz]; simpa using hx
  simp only [show ¬ ((i : Int) < 0) from by omega, if_false, Int.toNat_natCast, Array.getElem?_eq_none hge]
  refine wpAny_bind ?_
  first | refine wpAny_bind (wpAny_typeNameOfWhole_valiter hit.typeIs (wpAny_pure ?_)) | refine wpAny_bind (wpAny_typeNameOf_valiter hit.typeIs (wpAny_pure ?_))
  show wpAny _ _ (setField (.ref it) 0 .none >>= _) _ _ s
  refine wpAny_bind (wpAny_setField ho hd (by simp) ?_)
  show wpAny _ _ (newExc (.type "StopIteration") [] >>= _) _ _ _
  refine wpAny_bind ?_
  simp only [newExc, newTuple]
  refine wpAny_bind (wpAny_newObj_type ?_ (by size_fits))
  refine wpAny_bind (m := firstArgMember _ _) (wpAny_of_eq (a := Value.none) (by first | rfl | (simp only [firstArgMember]; rfl)) ?_)
  refine wpAny_newObj_type ?_ (by size_fits)
  have hk2 : ∀ {f : Obj → Obj} {b : Addr} {o : Obj}, b ≠ it → s.heap.get? b = some o → (s.heap.update it f).get? b = some o := fun nb e => (Heap.get?_update_other _ _ (Ne.symm nb)).trans e
  refine raiseNew_hot ⟨hh, o1, vs1, Heap.get?_push_of_some _ (Heap.get?_push_of_some _ (hk2 nx h1)), d1, c1⟩ (Nat.ne_of_lt (Heap.lt_size (Heap.get?_push_of_some _ (hk2 nx h1)))) (Heap.get?_push_size _ rfl) rfl (by first | (simp; done) | (simp; omega)) ?_
  refine wpAny_bind (wpAny_isInstance (T := "StopIteration") (b := true) ⟨_, Heap.get?_update_self _ (Heap.get?_push_size _ rfl) rfl, rfl⟩ isSubtype_stop ?_)
  refine wpAny_pure (hQ _ fun b o nb e => ?_)
  rw [Heap.get?_update_other _ _ (Nat.ne_of_gt (Heap.lt_size (Heap.get?_push_of_some _ (hk2 nb e))))]
  exact Heap.get?_push_of_some _ (Heap.get?_push_of_some _ (hk2 nb e))
theorem assign_tup_hot {env : Env} {elts : List Expr} {k} {pos : Pos} {t x1 : Addr} {items : Array Value} {Q : Unit → Shared → Prop} (hot : HotAt A x1 s.heap) (ht : IsTup s.heap t items)
    (hn : (assignEach elts env).length = items.size) (hstar : (assignEach elts env).findIdx? (·.1) = none)
    (h : ∀ h', (∀ b o, s.heap.get? b = some o → h'.get? b = some o) → wpAny (model prog w) A (assignInOrder ((assignEach elts env).map (·.2)) items.toList) Q E { s with heap := h' }) :
    wpAny (model prog w) A (assign (.Tuple elts k pos) env (.ref t)) Q E s := by
  rw [assign_Tuple]
  refine wpAny_bind (wpAny_standAt ?_)
  unfold unpack
  rw [hn, hstar]
  refine wpAny_bind (wpAny_holding ?_)
  have hlt : t ≠ s.heap.objs.size := by obtain ⟨o, ho, _⟩ := ht; exact Nat.ne_of_lt (Heap.lt_size ho)
  obtain ⟨hh, o1, vs1, h1, d1, c1⟩ := hot
  have nx : x1 ≠ s.heap.objs.size := Nat.ne_of_lt (Heap.lt_size h1)
  unfold unpackItems
  refine wpAny_bind ?_
  · unfold notIterableAtAll
    refine wpAny_bind (wpAny_specialOf ht.typeIs slot_tuple_iter.lookup ?_)
    refine wpAny_pure ?_
    simp only [Bool.false_eq_true, if_false]
    refine wpAny_bind (wpAny_holding (iter_tuple ht ?_))
    refine wpAny_bind (wpAny_holding (draw_tuple hlt items.size 0 _ _ ⟨_, Heap.get?_push_size _ rfl, rfl, rfl⟩ (ht.push _) (by omega) fun h₁ hit₁ hs₁ => ?_))
    have hall : List.take items.size (List.drop 0 items.toList) = items.toList := by
      rw [List.drop_zero]; exact List.take_of_length_le (by simp)
    rw [hall]
    rw [if_neg (by simp)]
    have ht₁ : IsTup h₁ t items := (ht.push _).extBut hs₁.extBut hlt
    refine wpAny_bind (wpAny_holding (tuple_end_hot (x1 := x1) ⟨hh, o1, vs1, hs₁.extBut x1 o1 nx (Heap.get?_push_of_some _ h1), d1, c1⟩ hit₁ ht₁ (by simp) nx fun h₂ he₂ => ?_))
    simp only [Option.isSome_none, Bool.false_eq_true, if_false]
    refine wpAny_pure (h h₂ fun b o e => ?_)
    have nb : b ≠ s.heap.objs.size := Nat.ne_of_lt (Heap.lt_size e)
    exact he₂ b o nb (hs₁.extBut b o nb (Heap.get?_push_of_some _ e))
end
section
variable {X : Cx}
theorem pg_tupH {es : List Expr} {k : Nat} {t : TGs} {n : Nat} {pos : Pos} (hot : HotC X) (h : PGs X es t) (hn : (assignEach es X.env).length = n := by rfl) (hst : (assignEach es X.env).findIdx? (·.1) = none := by rfl) : PG X (.Tuple es k pos) (gTup X.K n t) := by
  refine ⟨fun pins s σ H v u Q I r ⟨a, xs, e1, hq, hl, hw⟩ => ?_⟩
  subst e1
  cases r
  obtain ⟨its, rv, ht, hz⟩ := I.tuple hq
  obtain ⟨x1, ha⟩ := hot.at I
  refine assign_tup_hot ha ht (by simp [hn, ← hl, rv.length]) hst fun h' hx => ?_
  exact h.run pins _ σ H xs _ Q (I.kept (t' := s.toks) hx) (by simpa using rv) hw
theorem pi_range2H {tg a b : Expr} {ta : TA} {p pos : Pos} (hg : Gl X "range") (hm : X.mg "range" = none) (ha : PA X [a, b] ta) (hs : starEach [a, b] X.env = [(false, eval a X.env), (false, eval b X.env)] := by rfl) (hs2 : starEach [b] X.env = [(false, eval b X.env)] := by rfl) :
    PIH X tg (.Call (.Name "range" p) [a, b] [] pos) (iRng2 ta) := by
  refine ⟨fun pins s σ H R I h => ?_⟩
  refine Call_ (ld_blt I hg hm boot_range (PyProof.Rows.callWith_type1 (thn (ha.run pos pins s σ H _ I h) fun us s1 ⟨vs, H1, I1, r1, i, j, e, ⟨q1, q2, q3, q4⟩, q⟩ => ?_) (by rw [hs, hs2]) (by rw [hs2]; rfl)))
  subst e
  cases r1 with
  | cons r rr =>
    cases rr with
    | cons r' rr =>
      cases rr
      obtain ⟨t, rfl⟩ := r
      obtain ⟨t', rfl⟩ := r'
      exact call_range_2 (range_itH I1 q1 q2 q3 q4 q)
end
section
variable {P : Program} {w : World} {K : PySem.W.Frag} {tg : Expr} {d : Addr} {o : Obj} {es : Array DictEntry} {ep : Nat}
theorem turn_valsH {kvs : List (Key × V)} (it : Addr) (hod : o.data = .dict es ep) : TurnH P w K tg (Itd d o kvs) [it] it (fun i h => h.IsValIter it d i kvs.length ep) where
  mem := List.mem_singleton.mpr rfl
  obj := fun i h st b hb => by
    rw [List.mem_singleton.mp hb]
    obtain ⟨oi, e, c, dd⟩ := st
    exact ⟨oi, e, fun v z => by rw [dd] at z; cases z⟩
  keep := fun i h h' st k => st.at fun oi e => k it (List.mem_singleton.mpr rfl) oi e
  item := by
    rintro X rfl rfl rfl hc i pins s σ H E I hf st ⟨hd, hi⟩
    obtain ⟨f0, f1, f2, f3, f4, f5⟩ := hf it (List.mem_singleton.mpr rfl)
    obtain ⟨hs, hgd, hx, es', ep', vs, hdt, hsz, kv, hm⟩ := I.frzK hd
    obtain ⟨rfl, rfl⟩ := dict_ep hod hdt
    obtain ⟨⟨k, v⟩, hkv⟩ : ∃ p, kvs[i]? = some p := ⟨kvs[i], List.getElem?_eq_getElem hi⟩
    obtain ⟨u, hu, ru⟩ := kv_get kv hkv
    have hl : kvs.length = vs.length := Paired.length kv
    rw [hl] at st
    refine wpAny_pyNext_values_item st hm hu fun h' st' sb => ?_
    have I1 := I.turned (t' := s.toks) (fun b ob hb e => (sb.2 b hb).trans e) f0 f1 f3 f4 f5
    obtain ⟨oi, e, c, dd⟩ := id st'
    refine ⟨u, rfl, go_of (s := { s with heap := h' }) e c dd (by decide) ⟨v, H, I1, ru, ⟨rfl, k, hkv⟩, ?_, fun b hb => (hf b hb).1⟩⟩
    show h'.IsValIter it d (i + 1) kvs.length _
    rw [hl]
    exact st'
  done := by
    rintro X rfl rfl rfl hc i pins s σ H E I hf st ⟨hd, hi⟩
    obtain ⟨f0, f1, f2, f3, f4, f5⟩ := hf it (List.mem_singleton.mpr rfl)
    obtain ⟨hs, hgd, hx, es', ep', vs, hdt, hsz, kv, hm⟩ := I.frzK hd
    obtain ⟨rfl, rfl⟩ := dict_ep hod hdt
    have hl : kvs.length = vs.length := Paired.length kv
    rw [hl] at st
    obtain ⟨q0, ⟨hh, v1, e1, c1⟩, hpn⟩ := hc
    exact values_end_hot (x1 := q0.1) ⟨hh, q0.2, v1, (I.pin q0 (List.mem_append_left _ hpn)).1, e1, c1⟩ st hm (List.getElem?_eq_none (by omega)) (f5 q0 (List.mem_append_left _ hpn)) fun h' eb => ⟨rfl, I.turned (t' := s.toks) (fun b ob hb e => eb b ob hb e) f0 f1 f3 f4 f5⟩
  self := fun A i s Q E st h => wpAny_pyIter_valiter st h
end
section
variable {X : Cx}
theorem pi_oneH {tg : Expr} {pins : List (Addr × Obj)} {σ : L2.St} {H : Hp} {s : Shared} {R : It → Hp → Prop} {J : It} {tn : Nat → Heap → Prop} {tk : Nat} (I : Inv X pins σ H s) (o : Obj)
    (T : TurnH X.prog X.w X.K tg J [s.heap.objs.size] s.heap.objs.size tn) (st : tn 0 (s.heap.push o)) (q : R J H) : PIEH X pins σ tg R (.ref s.heap.objs.size) { s with heap := s.heap.push o, toks := tk } := by
  refine ⟨s.heap.objs.size, [s.heap.objs.size], tn, J, H, rfl, I.kept fun b ob e => Heap.get?_push_of_some _ e, T, st, fun b hb => ?_, q⟩
  rw [List.mem_singleton.mp hb]
  exact I.fpOk (Nat.le_refl _) (I.hok.fresh (Nat.le_refl _))
theorem pi_valuesH {tg e : Expr} {td : TE} {apos cpos : Pos} (he : PE X e td) (hbase : attributeBase e "values" X.env (eval e X.env) = eval e X.env := by rfl) (hline : (apos.endLine == cpos.line) = true := by rfl) : PIH X tg (.Call (.Attribute e "values" apos) [] [] cpos) (iVals td) := by
  refine ⟨fun pins s σ H R I h => ?_⟩
  refine wpAny_Call_method (T := "dict") (id := "dict.values") hbase rfl hline PySem.F.plainAttrs_dict PySem.F.slot_dict_values PySem.F.type_dict_values (thn (he.run pins s σ H _ I h) fun u s1 ⟨x, H1, I1, rx, d, o, kvs, ex, hd, q⟩ => ?_)
  subst ex
  obtain rfl : u = Value.ref d := rx
  obtain ⟨hs, hgd, hx, es, ep, vs, hdt, hsz, kv, hm⟩ := I1.frzK hd
  have hl : kvs.length = vs.length := Paired.length kv
  refine ⟨hm.dictOf.typeIs, hm.dictOf.mapOf.noDict, ?_⟩
  have I2 : Inv X pins σ H1 { s1 with heap := s1.heap.push { cls := .type "dict_values", data := .fields #[.ref d] } } := I1.kept (t' := s1.toks) fun b ob q => Heap.get?_push_of_some _ q
  have fin : wpAny (model X.prog X.w) X.A (pyIter (.ref s1.heap.objs.size)) (PIEH X pins σ tg R) X.xe { s1 with heap := s1.heap.push { cls := .type "dict_values", data := .fields #[.ref d] } } := by
    refine wpAny_pyIter_values (d := d) (knd := mixKind X.prog X.w) ⟨_, Heap.get?_push_size _ rfl, rfl, rfl⟩ (hm.push _) (pi_oneH (tk := s1.toks) I2 _ (turn_valsH _ hdt) ⟨_, Heap.get?_push_size _ rfl, rfl, ?_⟩ q)
    rw [hl] <;> rfl
  show wpAny _ _ (callWith cpos (.builtin "dict.values") [.ref d] [] []) _ X.xe s1
  exact method_meetsIn PySem.F.slot_dict_values PySem.F.entry_dict_values rfl (PySem.evalArgs_none ⟨rfl, hm.dictOf.typeIs, PySem.F.args_dict_values_1 _, _, meets_dict_values (mixKind X.prog X.w) d hs, ⟨vs, hm.dictOf⟩, fin⟩)
/-- o.m() while an exception is handled -/
theorem pe_meth0H {CX : CXT} {k : Nat} {C f : Addr} {fd : FuncData} {ps : List Str} {sp : Sp} {E : L2.St → XK} {o : Expr} {m : Str} {apos pos : Pos} {ta : TE} {pl : Sem Bool} (he : PE X o ta) (c : Cls X.K C) (hm : Meth X.K C m f) (F : FnH X.prog X.w X.K X.mg X.base CX k f fd ps sp) (hr : RoomH k X.A) (hc : HotC X) (hb : Binds X.K fd ps []) (hx : ∀ σ, PassesAt CX X σ (E σ))
    (ht : eval (.Call (.Attribute o m apos) [] [] pos) X.env = (do
      let ov ← eval o X.env
      standAt apos.atName
      let (f, first) ← holding [ov] (getMethod ov m pl)
      callWith pos f first (backTo pos (starEach [] X.env)) (backToKw pos (keywordEach [] X.env))) := by rfl) :
    PE X (.Call (.Attribute o m apos) [] [] pos) (tMethH C m sp E ta tNil) := by
  refine ⟨fun pins s σ H Q I h => ?_⟩
  refine PySem.W.methodCall_KW (pl := pl) (thn (he.run pins s σ H _ I h) fun u s1 ⟨x, H1, I1, rx, a, dx, fs, ex, ea, l, q⟩ => ?_) ht
  subst ex
  obtain rfl : u = Value.ref a := rx
  refine getmeth_ok I1 ea c hm l ?_
  exact PySem.W.callWith_K0 (first := [.ref a]) I1.kIn hm.kp (run_fnH (us := [.ref a]) (vs := [.ref a]) F hr hc hb (hx σ) I1 (.cons rfl .nil) q)
end
end Rc
/-! part RcQ1 -/
/-! list(d.values()), dict(enumerate(xs)). -/
namespace Rc
open PySem PySem.Spec PyProof.Rows L2
/-- numbered from i on -/
def numFrom {α : Type} : Nat → List α → List (Key × α)
  | _, [] => []
  | i, x :: xs => (.inl (i : Int), x) :: numFrom (i + 1) xs
theorem numFrom_len {α : Type} : ∀ (i : Nat) (xs : List α), (numFrom i xs).length = xs.length
  | _, [] => rfl
  | i, x :: xs => by
    show (numFrom (i + 1) xs).length + 1 = xs.length + 1
    rw [numFrom_len]
theorem numFrom_get {α : Type} : ∀ (i : Nat) (xs : List α) (j : Nat), (numFrom i xs)[j]? = xs[j]?.map fun x => (.inl ((i + j : Nat) : Int), x)
  | _, [], j => by simp [numFrom]
  | i, x :: xs, 0 => by simp [numFrom]
  | i, x :: xs, j + 1 => by
    show (numFrom (i + 1) xs)[j]? = xs[j]?.map _
    rw [numFrom_get, show i + 1 + j = i + (j + 1) by omega]
theorem numFrom_key {α : Type} : ∀ (i : Nat) (xs : List α), ∀ k ∈ (numFrom i xs).map (·.1), ∃ j : Nat, i ≤ j ∧ k = .inl (j : Int)
  | _, [], k, h => by simp [numFrom] at h
  | i, x :: xs, k, h => by
    rcases List.mem_cons.mp (show k ∈ (.inl (i : Int)) :: (numFrom (i + 1) xs).map (·.1) from h) with z | z
    · exact ⟨i, Nat.le_refl _, z⟩
    · obtain ⟨j, h1, h2⟩ := numFrom_key (i + 1) xs k z
      exact ⟨j, by omega, h2⟩
theorem numFrom_nodup {α : Type} : ∀ (i : Nat) (xs : List α), ((numFrom i xs).map (·.1)).Nodup
  | _, [] => List.nodup_nil
  | i, x :: xs => by
    show ((.inl (i : Int)) :: (numFrom (i + 1) xs).map (·.1)).Nodup
    refine List.nodup_cons.mpr ⟨fun h => ?_, numFrom_nodup (i + 1) xs⟩
    obtain ⟨j, h1, h2⟩ := numFrom_key (i + 1) xs _ h
    have : (i : Int) = (j : Int) := Sum.inl.inj h2
    omega
theorem numFrom_kv : ∀ (i : Nat) {xs : List V} {us : List Value}, Vals xs us → KV (numFrom i xs) (numFrom i us)
  | _, _, _, .nil => .nil
  | i, _, _, .cons h t => .cons ⟨rfl, h⟩ (numFrom_kv (i + 1) t)
def tDictEnum (K : PySem.W.Frag) (ta : TA) : TE := fun σ H Q => ta σ H fun vs H1 => ∃ (a : Addr) (xs : List V), vs = [.ref a] ∧ SqL K H1 a xs ∧ ∀ d, H1 d = none → Q (.ref d) (upd H1 d (.dK (numFrom 0 xs)))
def tListVals (te : TE) : TE := fun σ H Q => te σ H fun x H1 => ∃ (d : Addr) (kvs : List (Key × V)), x = .ref d ∧ H1 d = some (.dK kvs) ∧ ∀ p, H1 p = none → Q (.ref p) (upd H1 p (.lst (kvs.map (·.2))))
section
variable {X : Cx}
/-- dict(enumerate(xs)) of a list -/
theorem pe_dictEnum {e : Expr} {ta : TA} {p p2 pos pos2 : Pos} (hc : X.calm = true) (hg : Gl X "dict") (hm : X.mg "dict" = none) (hg2 : Gl X "enumerate") (hm2 : X.mg "enumerate" = none) (ha : PA X [e] ta)
    (hs : starEach [e] X.env = [(false, eval e X.env)] := by rfl)
    (he : starEach [.Call (.Name "enumerate" p2) [e] [] pos2] X.env = (false, eval (.Call (.Name "enumerate" p2) [e] [] pos2) X.env) :: starEach [] X.env := by rfl) :
    PE X (.Call (.Name "dict" p) [.Call (.Name "enumerate" p2) [e] [] pos2] [] pos) (tDictEnum X.K ta) := by
  refine ⟨fun pins s σ H Q I h => ?_⟩
  refine wpAny_Call_Name_kw (ld_blt I hg hm (u := .type "dict") (by decide +kernel) ?_)
  refine PyProof.Rows.callWith_type1 ?_ he (by rfl)
  rw [he]
  refine Calls.spliced_cons (Call_ (ld_blt I hg2 hm2 boot_enumerate (PyProof.Rows.callWith_type1 (thn (ha.run pos2 pins s σ H _ I h) fun us s1 ⟨vs, H1, I1, r1, q1⟩ => ?_) hs rfl)))
  obtain ⟨a, xs, ex, hq, q⟩ := q1
  subst ex
  cases r1 with
  | cons r rr =>
    cases rr
    cases r
    obtain ⟨its, rv, p', hz⟩ := I1.list hq
    have il : s1.heap.IsList a its.toArray := p'.isList
    have lta : a < s1.heap.objs.size := by
      obtain ⟨oa, ho, _⟩ := il
      exact Heap.lt_size ho
    refine call_enumerate_list il fun h' hen hit hsz hk => Calls.spliced_nil ?_
    have I2 : Inv X pins σ H1 { s1 with heap := h' } := I1.kept (t' := s1.toks) hk
    have hl : h'.IsList a its.toArray := by
      obtain ⟨oa, ho, r⟩ := il
      exact ⟨oa, hk _ _ ho, r⟩
    have hlen := rv.length
    have hi : its.toArray.size = its.length := List.size_toArray
    refine PySem.call_dict_pairs (knd := mixKind X.prog X.w) (kvs := numFrom 0 its) (PySem.PairArg.enumerate (prog := X.prog) (w := X.w) (s1.heap.objs.size + 1) s1.heap.objs.size a (Nat.succ_ne_self _) (Nat.ne_of_lt (Nat.lt_succ_of_lt lta)) (Nat.ne_of_lt lta) its.toArray) (I2.ok.hd hc) ⟨⟨_, hen⟩, hit, hl⟩ ⟨by rw [numFrom_len, hi], fun i key v hrel => ?_⟩ (by rw [hi]; omega) fun h2 tk hd hk2 => ?_
    · obtain ⟨⟨t, rfl⟩, hv⟩ := hrel
      have hv' : its[i]? = some v := by simpa using hv
      refine ⟨.inl (i : Int), ?_, kV_is (k := .inl (i : Int)) ⟨t, rfl⟩⟩
      rw [numFrom_get, hv', Nat.zero_add]
      rfl
    · rw [merged_nil_of_nodup _ (numFrom_nodup 0 its)] at hd
      have hsm : (h'.objs.size == sysModules) = false := beq_eq_false_iff_ne.mpr (Nat.ne_of_gt I2.big)
      have frees : H1 h'.objs.size = none := I2.hok.fresh (Nat.le_refl _)
      refine ⟨.ref h'.objs.size, upd H1 h'.objs.size (.dK (numFrom 0 xs)), I1.laid (t' := tk) (a := h'.objs.size) (o := .dK (numFrom 0 xs)) (h' := h2) (fun b u e => ?_) (by rw [hsz]; omega)
        (show ObjOk X.prog X.w _ _ _ (.dK (numFrom 0 xs)) from ⟨by rw [numFrom_len]; exact hz, hsm, numFrom 0 its, numFrom_kv 0 rv, hd⟩), rfl, q _ frees⟩
      have lb := Heap.lt_size e
      refine hk2 b u (fun z => ?_) (hk b u e)
      simp only [List.mem_cons, List.not_mem_nil, or_false] at z
      rcases z with z | z
      · rw [z] at lb
        exact absurd lb (Nat.not_lt_of_le (Nat.le_succ _))
      · rw [z] at lb
        exact Nat.lt_irrefl _ lb
theorem vals_snd : ∀ {kvs : List (Key × V)} {vs : List (Key × Value)}, KV kvs vs → Vals (kvs.map (·.2)) (vs.map (·.2))
  | _, _, .nil => .nil
  | _, _, .cons h t => .cons h.2 (vals_snd t)
/-- list(d.values()) -/
theorem pe_listVals {o : Expr} {td : TE} {p apos mpos pos : Pos} (hc : X.calm = true) (hg : Gl X "list") (hm : X.mg "list" = none) (hd : PE X o td) (hbase : attributeBase o "values" X.env (eval o X.env) = eval o X.env := by rfl) (hline : (apos.endLine == mpos.line) = true := by rfl)
    (he : starEach [.Call (.Attribute o "values" apos) [] [] mpos] X.env = (false, eval (.Call (.Attribute o "values" apos) [] [] mpos) X.env) :: starEach [] X.env := by rfl) :
    PE X (.Call (.Name "list" p) [.Call (.Attribute o "values" apos) [] [] mpos] [] pos) (tListVals td) := by
  refine ⟨fun pins s σ H Q I h => ?_⟩
  refine wpAny_Call_Name_kw (ld_blt I hg hm (u := .type "list") (by decide +kernel) ?_)
  refine PyProof.Rows.callWith_type1 ?_ he (by rfl)
  rw [he]
  refine Calls.spliced_cons (wpAny_Call_method0_late hbase hline (thn (hd.run pins s σ H _ I h) fun v s1 ⟨x, H1, I1, r1, a, kvs, ex, ha, q⟩ => ?_))
  subst ex
  obtain rfl : v = Value.ref a := r1
  obtain ⟨hz, hsys, vs, rel, dof⟩ := dk_of I1.hok ha
  obtain ⟨ep, dat⟩ := dof.dictAt
  have dat' := dat
  obtain ⟨ob, es, ho, ex, hdat, hko, hpr, hnd⟩ := dat'
  refine ⟨"dict", "dict.values", F.plainAttrs_dict, F.slot_dict_values, F.type_dict_values, ⟨ob, ho, ex.1⟩, fun b e => ?_, Calls.callWith_builtin rfl (PySem.evalArgs_none ?_)⟩
  · cases e
    exact ⟨ob, ho, ex.2.1⟩
  refine call_meetsIn F.slot_dict_values ⟨ob, ho, ex.1⟩ F.entry_dict_values (F.args_dict_values_1 _) (meets_dict_values (mixKind X.prog X.w) a hsys) ⟨⟨vs, dof⟩, ?_⟩
  have k1 : ∀ b u, s1.heap.get? b = some u → (s1.heap.push { cls := .type "dict_values", data := .fields #[.ref a] }).get? b = some u := fun b u e => Heap.get?_push_of_some _ e
  have dat1 : (s1.heap.push { cls := .type "dict_values", data := .fields #[.ref a] }).DictAt (mixKind X.prog X.w) a vs ep := dat.keep k1
  have I2 : Inv X pins σ H1 { s1 with heap := s1.heap.push { cls := .type "dict_values", data := .fields #[.ref a] } } := I1.kept (t' := s1.toks) k1
  refine Calls.spliced_nil ?_
  refine PySem.W.kdl_call (PySem.W.kdl_values (knd := mixKind X.prog X.w) (kvs := vs) (ep := ep) (r := s1.heap.objs.size) (d := a)) (I2.ok.hd hc) ⟨⟨_, Heap.get?_push_size _ rfl, rfl, rfl⟩, dat1⟩ (by rw [← rel.length]; exact hz) fun h' tk acc c' hk hD hacc => ?_
  have hl : acc.toList = vs.map (·.2) := PySem.W.kdl_vals_eq acc.toList (by rw [Array.length_toList]; exact hacc.1) fun j v e => hacc.2 j v (by rw [← Array.getElem?_toList]; exact e)
  refine ⟨.ref _, upd H1 _ (.lst (kvs.map (·.2))), I2.laid (t' := tk) hk (Nat.le_refl _)
    (show ObjOk X.prog X.w _ _ _ (.lst (kvs.map (·.2))) from ⟨by rw [List.length_map]; exact hz, acc.toList, c', by rw [hl]; exact vals_snd rel, by rw [Array.toArray_toList]; exact hD⟩), rfl, q _ (I2.hok.fresh (Nat.le_refl _))⟩
end
end Rc
/-! part RcHt4 -/
/-! list(d.values()) while an exception is handled. -/
namespace Rc
open PySem PySem.Spec PyProof.Rows L2 L2H HotX PySem.W
section
variable {prog : Program} {w : World} {A : Around} {E : Value → Shared → Prop} {s : Shared} {K : Type} [DecidableEq K] {knd : KeyKind prog w K}
/-- the walk over a dict's values while x1 is handled -/
theorem walks_values_hot {x1 : Addr} {o1 : Obj} {vs1 : Array Value} (hh : A.handled = some (.ref x1)) (d1 : o1.data = .fields vs1) (c1 : vs1[2]? = some .none) (I d : Addr) (hne : d ≠ I) (nx : x1 ≠ I) (kvs : List (K × Value)) (ep : Nat) :
    Walks prog w A I [I, d, x1] [I] kvs.length (fun i v => ∃ k, kvs[i]? = some (k, v)) (fun i h => h.IsValIter I d i kvs.length ep ∧ h.DictAt knd d kvs ep ∧ h.get? x1 = some o1) where
  sub := fun b hb => by simp at hb; simp [hb]
  frame := fun _ _ _ st hk => ⟨st.1.at fun o e => hk I (by simp) o e, st.2.1.at' fun o e => hk d (by simp) o e, hk x1 (by simp) _ st.2.2⟩
  item := fun i s Q E hi st hQ => by
    obtain ⟨⟨k, x⟩, hx⟩ : ∃ p, kvs[i]? = some p := ⟨kvs[i], by simp [hi]⟩
    refine wpAny_pyNext_values_item st.1 st.2.1 hx fun h' hit' hs' => ?_
    exact hQ x h' s.toks ⟨k, hx⟩ ⟨hit', st.2.1.extBut hs'.extBut hne, hs'.extBut x1 o1 nx st.2.2⟩ fun b o hb e => hs'.extBut b o (fun h => hb (by simp [h])) e
  done := fun s Q E st hQ => values_end_hot (x1 := x1) ⟨hh, o1, vs1, st.2.2, d1, c1⟩ st.1 st.2.1 (by simp) nx fun h' he' => hQ h' s.toks fun b o hb e => he' b o (fun h => hb (by simp [h])) e
  self := fun _ _ _ _ st hQ => wpAny_pyIter_valiter st.1 hQ
theorem list_values_hot {r d x1 : Addr} {kvs : List (K × Value)} {ep : Nat} {Q : Value → Shared → Prop} (hot : HotAt A x1 s.heap) (hv : s.heap.IsValuesView r d) (hd : s.heap.DictAt knd d kvs ep) (hn : kvs.length ≤ sizeLine)
    (hQ : ∀ h' tk acc' c', (∀ b o, s.heap.get? b = some o → h'.get? b = some o) → h'.get? s.heap.objs.size = some { cls := .type "list", dict := none, data := .seq acc' c', slots := #[] } → ItemsOf (fun i v => ∃ k, kvs[i]? = some (k, v)) acc' kvs.length → Q (.ref s.heap.objs.size) { s with heap := h', toks := tk }) :
    wpAny (model prog w) A (call (.type "list") [.ref r]) Q E s := by
  obtain ⟨hh, o1, vs1, h1, d1, c1⟩ := hot
  refine callType_codes (Q₁ := fun obj s₁ => obj = .ref s.heap.objs.size ∧ s₁ = { s with heap := s.heap.push { cls := .type "list", data := .seq #[] } }) PySem.F.called_list (PySem.F.typeCall_list_1 _) PySem.F.entry_list_init
    (code_list_new _ ⟨rfl, rfl⟩) fun obj s₁ h₁ => ?_
  obtain ⟨rfl, rfl⟩ := h₁
  generalize hSe : s.heap.objs.size = S
  have hS : (s.heap.push { cls := .type "list", data := .seq #[] }).get? S = some { cls := .type "list", data := .seq #[] } := by rw [← hSe]; exact Heap.get?_push_size _ rfl
  have ltS : ∀ {b : Addr} {o : Obj}, s.heap.get? b = some o → b ≠ S := fun e => by rw [← hSe]; exact Nat.ne_of_lt (Heap.lt_size e)
  have p1 : ∀ b o, s.heap.get? b = some o → (s.heap.push { cls := .type "list", data := .seq #[] }).get? b = some o := fun b o e => Heap.get?_push_of_some _ e
  refine ⟨⟨_, hS, rfl⟩, PySem.F.args_list_init_2 _ _, ?_⟩
  show wpAny _ _ (do let old ← Builtin.List.listItems (.ref S); Builtin.List.listUpdate (.ref S) (fun _ => #[]); letGo old.toList.reverse; Builtin.List.listExtendWith (.ref S) (.ref r) .none) _ _ _
  refine wpAny_bind ?_
  unfold Builtin.List.listItems
  refine wpAny_bind (wpAny_seqItems hS rfl (wpAny_pure ?_))
  show wpAny _ _ (updateSeq S (fun _ => #[]) >>= fun _ => letGo (#[] : Array Value).toList.reverse >>= fun _ => Builtin.List.listExtendWith (.ref S) (.ref r) .none) _ _ _
  refine wpAny_bind (wpAny_updateSeq hS rfl ?_)
  have hS₂ := Heap.get?_update_self (Obj.mapSeq (fun _ => (#[] : Array Value))) hS rfl
  have p2 : ∀ b o, s.heap.get? b = some o → ((s.heap.push { cls := .type "list", data := .seq #[] }).update S (Obj.mapSeq (fun _ => (#[] : Array Value)))).get? b = some o := fun b o e => (Heap.get?_update_other _ _ (Ne.symm (ltS e))).trans (p1 b o e)
  refine wpAny_bind (wpAny_letGo ?_)
  generalize hs2 : (s.heap.push { cls := .type "list", data := .seq #[] }).update S (Obj.mapSeq (fun _ => (#[] : Array Value))) = g2 at hS₂ p2 ⊢
  have hv2 : g2.IsValuesView r d := let ⟨o, ho, x⟩ := hv; ⟨o, p2 r o ho, x⟩
  have hd2 : g2.DictAt knd d kvs ep := hd.keep p2
  have x2 := p2 _ _ h1
  have ndS : d ≠ S := by obtain ⟨o, es, ho, _⟩ := hd; exact ltS ho
  have nrS : r ≠ S := by obtain ⟨o, ho, _⟩ := hv; exact ltS ho
  have nxS : x1 ≠ S := ltS h1
  have hSI : S ≠ g2.objs.size := Nat.ne_of_lt (Heap.lt_size hS₂)
  have ndI : d ≠ g2.objs.size := by obtain ⟨o, es, ho, _⟩ := hd2; exact Nat.ne_of_lt (Heap.lt_size ho)
  have nxI : x1 ≠ g2.objs.size := Nat.ne_of_lt (Heap.lt_size x2)
  have hSf : S ∉ [g2.objs.size, d, x1] := by simp only [List.mem_cons, List.not_mem_nil, or_false, not_or]; exact ⟨hSI, Ne.symm ndS, Ne.symm nxS⟩
  have W := walks_values_hot (prog := prog) (w := w) (A := A.in1.in1) (knd := knd) (show A.in1.in1.handled = some (.ref x1) from hh) d1 c1 g2.objs.size d ndI nxI kvs ep
  have fr : ∀ b o, s.heap.get? b = some o → ∀ h : Heap, (∀ b o, b ≠ S → g2.get? b = some o → h.get? b = some o) → h.get? b = some o := fun b o e h k => k b o (ltS e) (p2 b o e)
  have key : ∀ (h : Heap) (c₁ tk : Nat) (R : Result → Shared → Prop), (h.IsValIter g2.objs.size d 0 kvs.length ep ∧ h.DictAt knd d kvs ep ∧ h.get? x1 = some o1) → (∀ b o, b ≠ S → g2.get? b = some o → h.get? b = some o) →
      h.get? S = some { cls := .type "list", data := .seq #[] c₁ } → (∀ h' tk acc' c', (∀ b o, s.heap.get? b = some o → h'.get? b = some o) → h'.get? S = some { cls := .type "list", dict := none, data := .seq acc' c', slots := #[] } → ItemsOf (fun i v => ∃ k, kvs[i]? = some (k, v)) acc' kvs.length → R (.ok (.ret .none)) { s with heap := h', toks := tk }) →
      codeAny (model prog w) A.in1 (.builtin "list.extend.loop" ⟨[.ref S, .ref g2.objs.size, .none], []⟩) R { s with heap := h, toks := tk } := by
    intro h c₁ tk R hst hk hS₁ hR
    refine codeAny_extend_loopS W.toS hn S hSf .none kvs.length 0 _ #[] c₁ rfl (Nat.zero_le _) hst hS₁ (ItemsOf.nil _) fun s' acc' c' hm hS' hacc => ?_
    rw [Moved.eq_with hm]
    refine hR s'.heap s'.toks acc' c' (fun b o e => hm.heap b o (fun hmem => ?_) (fr b o e _ hk)) hS' hacc
    rcases List.mem_cons.mp hmem with e' | hmem
    · exact ltS e e'
    · have := Heap.lt_size (p2 b o e)
      rw [List.mem_singleton.mp hmem] at this
      exact Nat.lt_irrefl _ this
  unfold Builtin.List.listExtendWith
  refine wpAny_bind (wpAny_typeOf (T := "dict_values") hv2.typeIs ?_)
  have hsr : Builtin.List.listSameRef (.ref S) (.ref r) = false := by simp [Builtin.List.listSameRef, Ne.symm nrS]
  have n1 : (Value.type "dict_values" == Value.type "list") = false := by decide
  have n2 : (Value.type "dict_values" == Value.type "tuple") = false := by decide
  simp only [hsr, n1, n2, Bool.or_false, Bool.false_eq_true, if_false]
  refine wpAny_bind (wpAny_pyIter_values hv2 hd2 ?_)
  have hS₃ : ∀ oI : Obj, (g2.push oI).get? S = _ := fun oI => Heap.get?_push_of_some oI hS₂
  have hvI : ∀ oI : Obj, (g2.push oI).IsValuesView r d := fun oI => let ⟨o, ho, x⟩ := hv2; ⟨o, Heap.get?_push_of_some _ ho, x⟩
  refine wpAny_bind (wpAny_holding (kdl_hint_values (hvI _).typeIs ?_))
  have endR : ∀ h' tk acc' c', (∀ b o, s.heap.get? b = some o → h'.get? b = some o) → h'.get? S = some { cls := .type "list", dict := none, data := .seq acc' c', slots := #[] } → ItemsOf (fun i v => ∃ k, kvs[i]? = some (k, v)) acc' kvs.length → wants (fun r s₂ => r = Value.none ∧ Q (Value.ref S) s₂) E (.ok (.ret .none)) { s with heap := h', toks := tk } := fun h' tk acc' c' hk hS' hacc => by
    refine ⟨rfl, ?_⟩
    rw [← hSe]
    rw [← hSe] at hS'
    exact hQ h' tk acc' c' hk hS' hacc
  have st0 : ∀ {h : Heap}, (∀ b, b ≠ S → ∀ o, (g2.push { cls := .type "dict_valueiterator", data := .fields #[.ref d, .int 0 0, .int kvs.length 0, .int ep 0] }).get? b = some o → h.get? b = some o) → h.IsValIter g2.objs.size d 0 kvs.length ep ∧ h.DictAt knd d kvs ep ∧ h.get? x1 = some o1 := fun {h} k =>
    ⟨⟨_, k _ (Ne.symm hSI) _ (Heap.get?_push_size _ rfl), rfl, rfl⟩, (hd2.push _).at' fun o e => k d ndS o e, k x1 nxS _ (Heap.get?_push_of_some _ x2)⟩
  refine wpAny_ite_split (fun _ => ?_) (fun _ => wpAny_pure ⟨plainId_quiet PySem.F.plain_extend_loop _, key _ _ _ _ (st0 fun b _ o e => e) (fun b o _ e => Heap.get?_push_of_some _ e) (hS₃ _) endR⟩)
  refine wpAny_bind (wpAny_rule ?_)
  refine wpAny_bind ?_
  show wpAny _ _ (updateSeq S (·.push .none) >>= fun _ => updateSeq S (·.pop)) _ _ _
  refine wpAny_bind (wpAny_updateSeq (hS₃ _) rfl ?_)
  have hS4 := Heap.get?_update_self (Obj.mapSeq (·.push Value.none)) (hS₃ { cls := .type "dict_valueiterator", data := .fields #[.ref d, .int 0 0, .int kvs.length 0, .int ep 0] }) rfl
  refine wpAny_updateSeq (hz := by seq_fits) hS4 rfl ?_
  have hS5 := Heap.get?_update_self (Obj.mapSeq (·.pop)) hS4 rfl
  have up : ∀ b, b ≠ S → ∀ o, (g2.push { cls := .type "dict_valueiterator", data := .fields #[.ref d, .int 0 0, .int kvs.length 0, .int ep 0] }).get? b = some o → (((g2.push { cls := .type "dict_valueiterator", data := .fields #[.ref d, .int 0 0, .int kvs.length 0, .int ep 0] }).update S (Obj.mapSeq (·.push Value.none))).update S (Obj.mapSeq (·.pop))).get? b = some o := fun b hb o e =>
    (Heap.get?_update_other _ _ (Ne.symm hb)).trans ((Heap.get?_update_other _ _ (Ne.symm hb)).trans e)
  exact wpAny_pure ⟨plainId_quiet PySem.F.plain_extend_loop _, key _ _ _ _ (st0 up) (fun b o hb e => up b hb o (Heap.get?_push_of_some _ e)) hS5 endR⟩
end
section
variable {X : Cx}
theorem pe_listValsH {o : Expr} {td : TE} {p apos mpos pos : Pos} (hot : HotC X) (hg : Gl X "list") (hm : X.mg "list" = none) (hd : PE X o td) (hbase : attributeBase o "values" X.env (eval o X.env) = eval o X.env := by rfl) (hline : (apos.endLine == mpos.line) = true := by rfl)
    (he : starEach [.Call (.Attribute o "values" apos) [] [] mpos] X.env = (false, eval (.Call (.Attribute o "values" apos) [] [] mpos) X.env) :: starEach [] X.env := by rfl) :
    PE X (.Call (.Name "list" p) [.Call (.Attribute o "values" apos) [] [] mpos] [] pos) (tListVals td) := by
  refine ⟨fun pins s σ H Q I h => ?_⟩
  refine wpAny_Call_Name_kw (ld_blt I hg hm (u := .type "list") (by decide +kernel) ?_)
  refine PyProof.Rows.callWith_type1 ?_ he (by rfl)
  rw [he]
  refine Calls.spliced_cons (wpAny_Call_method0_late hbase hline (thn (hd.run pins s σ H _ I h) fun v s1 ⟨x, H1, I1, r1, a, kvs, ex, ha, q⟩ => ?_))
  subst ex
  obtain rfl : v = Value.ref a := r1
  obtain ⟨hz, hsys, vs, rel, dof⟩ := dk_of I1.hok ha
  obtain ⟨ep, dat⟩ := dof.dictAt
  have dat' := dat
  obtain ⟨ob, es, ho, ex, hdat, hko, hpr, hnd⟩ := dat'
  refine ⟨"dict", "dict.values", PySem.F.plainAttrs_dict, PySem.F.slot_dict_values, PySem.F.type_dict_values, ⟨ob, ho, ex.1⟩, fun b e => ?_, Calls.callWith_builtin rfl (PySem.evalArgs_none ?_)⟩
  · cases e
    exact ⟨ob, ho, ex.2.1⟩
  refine call_meetsIn PySem.F.slot_dict_values ⟨ob, ho, ex.1⟩ PySem.F.entry_dict_values (PySem.F.args_dict_values_1 _) (meets_dict_values (mixKind X.prog X.w) a hsys) ⟨⟨vs, dof⟩, ?_⟩
  have k1 : ∀ b u, s1.heap.get? b = some u → (s1.heap.push { cls := .type "dict_values", data := .fields #[.ref a] }).get? b = some u := fun b u e => Heap.get?_push_of_some _ e
  have dat1 : (s1.heap.push { cls := .type "dict_values", data := .fields #[.ref a] }).DictAt (mixKind X.prog X.w) a vs ep := dat.keep k1
  have I2 : Inv X pins σ H1 { s1 with heap := s1.heap.push { cls := .type "dict_values", data := .fields #[.ref a] } } := I1.kept (t' := s1.toks) k1
  refine Calls.spliced_nil ?_
  obtain ⟨x1, hx⟩ := hot.at I2
  refine list_values_hot (r := s1.heap.objs.size) (knd := mixKind X.prog X.w) hx ⟨_, Heap.get?_push_size _ rfl, rfl, rfl⟩ dat1 (by rw [← rel.length]; exact hz) fun h' tk acc c' hk hD hacc => ?_
  have hl : acc.toList = vs.map (·.2) := PySem.W.kdl_vals_eq acc.toList (by rw [Array.length_toList]; exact hacc.1) fun j v e => hacc.2 j v (by rw [← Array.getElem?_toList]; exact e)
  refine ⟨.ref _, upd H1 _ (.lst (kvs.map (·.2))), I2.laid (t' := tk) hk (Nat.le_refl _)
    (show ObjOk X.prog X.w _ _ _ (.lst (kvs.map (·.2))) from ⟨by rw [List.length_map]; exact hz, acc.toList, c', by rw [hl]; exact vals_snd rel, by rw [Array.toArray_toList]; exact hD⟩), rfl, q _ (I2.hok.fresh (Nat.le_refl _))⟩
end
end Rc
/-! part RcDt1 -/
/-! Determinants of tables of fractions, by the first column. -/
namespace Rc
def smR : Nat → (Nat → Rat) → Rat
  | 0, _ => 0
  | n + 1, f => smR n f + f n
def sgnR (i : Nat) : Rat := if i % 2 = 0 then 1 else -1
def skR (i r : Nat) : Nat := if r < i then r else r + 1
def detR : Nat → (Nat → Nat → Rat) → Rat
  | 0, _ => 1
  | n + 1, M => smR (n + 1) fun i => sgnR i * M i 0 * detR n fun r c => M (skR i r) (c + 1)
def rwR (M : Nat → Nat → Rat) (x : Nat) (u : Nat → Rat) : Nat → Nat → Rat := fun r c => if r = x then u c else M r c
theorem sm_congr {n : Nat} {f g : Nat → Rat} (h : ∀ i, i < n → f i = g i) : smR n f = smR n g := by
  induction n with
  | zero => rfl
  | succ n ih =>
    show smR n f + f n = smR n g + g n
    rw [ih fun i hi => h i (by omega), h n (by omega)]
theorem sm_zero {n : Nat} {f : Nat → Rat} (h : ∀ i, i < n → f i = 0) : smR n f = 0 := by
  induction n with
  | zero => rfl
  | succ n ih =>
    show smR n f + f n = 0
    rw [ih fun i hi => h i (by omega), h n (by omega)]
    grind
theorem sm_add {n : Nat} {f g : Nat → Rat} : smR n (fun i => f i + g i) = smR n f + smR n g := by
  induction n with
  | zero => show (0 : Rat) = 0 + 0; grind
  | succ n ih =>
    show smR n (fun i => f i + g i) + (f n + g n) = (smR n f + f n) + (smR n g + g n)
    rw [ih]
    grind
theorem sm_mul {n : Nat} {t : Rat} {f : Nat → Rat} : smR n (fun i => t * f i) = t * smR n f := by
  induction n with
  | zero => show (0 : Rat) = t * 0; grind
  | succ n ih =>
    show smR n (fun i => t * f i) + t * f n = t * (smR n f + f n)
    rw [ih]
    grind
theorem sm_one {n x : Nat} {f : Nat → Rat} (hx : x < n) (h : ∀ i, i < n → i ≠ x → f i = 0) : smR n f = f x := by
  induction n with
  | zero => omega
  | succ n ih =>
    show smR n f + f n = f x
    by_cases e : x = n
    · subst e
      rw [sm_zero fun i hi => h i (by omega) (by omega)]
      grind
    · rw [ih (by omega) fun i hi ne => h i (by omega) ne, h n (by omega) (by omega)]
      grind
theorem sm_two {n x : Nat} {f : Nat → Rat} (hx : x + 1 < n) (h : ∀ i, i < n → i ≠ x → i ≠ x + 1 → f i = 0) (e : f x + f (x + 1) = 0) : smR n f = 0 := by
  induction n with
  | zero => omega
  | succ n ih =>
    show smR n f + f n = 0
    by_cases e2 : x + 1 = n
    · subst e2
      rw [sm_one (x := x) (by omega) fun i hi ne => h i (by omega) ne (by omega)]
      exact e
    · rw [ih (by omega) fun i hi ne ne2 => h i (by omega) ne ne2, h n (by omega) (by omega) (by omega)]
      grind
theorem sgn_succ (i : Nat) : sgnR (i + 1) = - sgnR i := by
  unfold sgnR
  by_cases h : i % 2 = 0
  · rw [if_neg (by omega), if_pos h]
  · rw [if_pos (by omega), if_neg h]
    grind
theorem det_congr {n : Nat} : ∀ {M N : Nat → Nat → Rat}, (∀ r c, r < n → c < n → M r c = N r c) → detR n M = detR n N := by
  induction n with
  | zero => intros; rfl
  | succ n ih =>
    intro M N h
    refine sm_congr fun i hi => ?_
    show sgnR i * M i 0 * detR n (fun r c => M (skR i r) (c + 1)) = sgnR i * N i 0 * detR n (fun r c => N (skR i r) (c + 1))
    rw [h i 0 hi (by omega), ih fun r c hr hc => h _ _ (by unfold skR; split <;> omega) (by omega)]
def dnR (x i : Nat) : Nat := if x < i then x else x - 1
theorem minor_rw {M : Nat → Nat → Rat} {x i : Nat} {u : Nat → Rat} (ne : i ≠ x) : (fun r c => rwR M x u (skR i r) (c + 1)) = rwR (fun r c => M (skR i r) (c + 1)) (dnR x i) fun c => u (c + 1) := by
  funext r c
  unfold rwR skR dnR
  by_cases h1 : r < i
  · rw [if_pos h1]
    by_cases h2 : r = x
    · rw [if_pos h2, if_pos (by subst h2; rw [if_pos h1])]
    · rw [if_neg h2, if_neg (by split <;> omega)]
      show M r (c + 1) = M (if r < i then r else r + 1) (c + 1)
      rw [if_pos h1]
  · rw [if_neg h1]
    by_cases h2 : r + 1 = x
    · rw [if_pos h2, if_pos (by rw [if_neg (by omega)]; omega)]
    · rw [if_neg h2, if_neg (by split <;> omega)]
      show M (r + 1) (c + 1) = M (if r < i then r else r + 1) (c + 1)
      rw [if_neg h1]
theorem minor_rw_self {M : Nat → Nat → Rat} {x : Nat} {u : Nat → Rat} : (fun r c => rwR M x u (skR x r) (c + 1)) = fun r c => M (skR x r) (c + 1) := by
  funext r c
  unfold rwR
  rw [if_neg (by unfold skR; split <;> omega)]
/-- linear in each row -/
theorem det_lin {n : Nat} : ∀ {M : Nat → Nat → Rat} {x : Nat} {u v : Nat → Rat} {t : Rat}, x < n → detR n (rwR M x fun c => u c + t * v c) = detR n (rwR M x u) + t * detR n (rwR M x v) := by
  induction n with
  | zero => intro _ _ _ _ _ h; omega
  | succ n ih =>
    intro M x u v t hx
    show smR (n + 1) _ = smR (n + 1) _ + t * smR (n + 1) _
    rw [← sm_mul, ← sm_add]
    refine sm_congr fun i hi => ?_
    by_cases e : i = x
    · subst e
      rw [minor_rw_self, minor_rw_self, minor_rw_self]
      have h1 : ∀ w : Nat → Rat, rwR M i w i 0 = w 0 := fun w => if_pos rfl
      rw [h1, h1, h1]
      grind
    · rw [minor_rw e, minor_rw e, minor_rw e]
      have h1 : ∀ w : Nat → Rat, rwR M x w i 0 = M i 0 := fun w => if_neg e
      rw [h1, h1, h1, ih (by unfold dnR; split <;> omega)]
      grind
theorem rw_self {M : Nat → Nat → Rat} {x : Nat} : rwR M x (M x) = M := by
  funext r c
  unfold rwR
  by_cases h : r = x
  · rw [if_pos h, h]
  · rw [if_neg h]
/-- two equal rows, one behind the other -/
theorem det_adj {n : Nat} : ∀ {M : Nat → Nat → Rat} {x : Nat}, x + 1 < n → (∀ c, M x c = M (x + 1) c) → detR n M = 0 := by
  induction n with
  | zero => intro _ _ h; omega
  | succ n ih =>
    intro M x hx h
    refine sm_two (x := x) hx (fun i hi n1 n2 => ?_) ?_
    · have : detR n (fun r c => M (skR i r) (c + 1)) = 0 := by
        by_cases e : i < x
        · refine ih (x := x - 1) (by omega) fun c => ?_
          show M (skR i (x - 1)) (c + 1) = M (skR i (x - 1 + 1)) (c + 1)
          have h1 : skR i (x - 1) = x := by unfold skR; rw [if_neg (by omega)]; omega
          have h2 : skR i (x - 1 + 1) = x + 1 := by unfold skR; rw [if_neg (by omega)]; omega
          rw [h1, h2, h]
        · refine ih (x := x) (by omega) fun c => ?_
          show M (skR i x) (c + 1) = M (skR i (x + 1)) (c + 1)
          have h1 : skR i x = x := by unfold skR; rw [if_pos (by omega)]
          have h2 : skR i (x + 1) = x + 1 := by unfold skR; rw [if_pos (by omega)]
          rw [h1, h2, h]
      rw [this]
      grind
    · have e : (fun r c => M (skR x r) (c + 1)) = fun r c => M (skR (x + 1) r) (c + 1) := by
        funext r c
        unfold skR
        by_cases h1 : r < x
        · rw [if_pos h1, if_pos (by omega)]
        · rw [if_neg h1]
          by_cases h2 : r = x
          · rw [if_pos (by omega), h2, h]
          · rw [if_neg (by omega)]
      show sgnR x * M x 0 * detR n (fun r c => M (skR x r) (c + 1)) + sgnR (x + 1) * M (x + 1) 0 * detR n (fun r c => M (skR (x + 1) r) (c + 1)) = 0
      rw [e, sgn_succ, h 0]
      grind
def twR (x r : Nat) : Nat := if r = x then x + 1 else if r = x + 1 then x else r
theorem det_swap {n : Nat} {M : Nat → Nat → Rat} {x : Nat} (hx : x + 1 < n) : detR n (fun r c => M (twR x r) c) = - detR n M := by
  have W : ∀ a b : Nat → Rat, detR n (rwR (rwR M x fun c => a c + 1 * b c) (x + 1) fun c => a c + 1 * b c) = 0 := fun a b => det_adj hx fun c => by
    unfold rwR
    rw [if_neg (by omega), if_pos rfl, if_pos rfl]
  have Z : ∀ a : Nat → Rat, detR n (rwR (rwR M x a) (x + 1) a) = 0 := fun a => det_adj hx fun c => by
    unfold rwR
    rw [if_neg (by omega), if_pos rfl, if_pos rfl]
  have com : ∀ a b : Nat → Rat, rwR (rwR M x a) (x + 1) b = rwR (rwR M (x + 1) b) x a := fun a b => by
    funext r c
    unfold rwR
    by_cases h1 : r = x
    · rw [if_neg (by omega), if_pos h1, if_pos h1]
    · rw [if_neg h1, if_neg h1]
  have w := W (M x) (M (x + 1))
  rw [det_lin hx, com, det_lin (by omega), com, det_lin (by omega)] at w
  rw [← com, ← com, ← com, ← com, Z, Z] at w
  have e1 : rwR (rwR M x (M x)) (x + 1) (M (x + 1)) = M := by rw [rw_self, rw_self]
  have e2 : rwR (rwR M x (M (x + 1))) (x + 1) (M x) = fun r c => M (twR x r) c := by
    funext r c
    unfold rwR twR
    by_cases h1 : r = x
    · rw [if_neg (by omega), if_pos h1, if_pos h1]
    · rw [if_neg h1, if_neg h1]
      by_cases h2 : r = x + 1
      · rw [if_pos h2, if_pos h2]
      · rw [if_neg h2, if_neg h2]
  rw [e1, e2] at w
  grind
/-- two equal rows -/
theorem det_same {n : Nat} : ∀ (k : Nat) {M : Nat → Nat → Rat} {x : Nat}, x + k + 1 < n → (∀ c, M x c = M (x + k + 1) c) → detR n M = 0 := by
  intro k
  induction k with
  | zero => exact fun hx h => det_adj hx h
  | succ k ih =>
    intro M x hx h
    have := det_swap (n := n) (M := M) (x := x + k + 1) (by omega)
    rw [ih (x := x) (by omega) fun c => ?_] at this
    · grind
    · show M (twR (x + k + 1) x) c = M (twR (x + k + 1) (x + k + 1)) c
      unfold twR
      rw [if_neg (by omega), if_neg (by omega), if_pos rfl, h c]
      rfl
theorem det_eqrows {n : Nat} {M : Nat → Nat → Rat} {x y : Nat} (hx : x < n) (hy : y < n) (ne : x ≠ y) (h : ∀ c, M x c = M y c) : detR n M = 0 := by
  rcases Nat.lt_or_gt_of_ne ne with l | l
  · have e : y = x + (y - x - 1) + 1 := by omega
    exact det_same (y - x - 1) (x := x) (by omega) fun c => by rw [h c, ← e]
  · have e : x = y + (x - y - 1) + 1 := by omega
    exact det_same (x - y - 1) (x := y) (by omega) fun c => by rw [← h c, ← e]
/-- a row and so many times another one -/
theorem det_addrow {n : Nat} {M : Nat → Nat → Rat} {x y : Nat} {t : Rat} (hx : x < n) (hy : y < n) (ne : x ≠ y) : detR n (rwR M x fun c => M x c + t * M y c) = detR n M := by
  rw [det_lin hx]
  have : detR n (rwR M x fun c => M y c) = 0 := det_eqrows hx hy ne fun c => by
    unfold rwR
    rw [if_pos rfl, if_neg (by omega)]
  rw [this]
  show detR n (rwR M x (M x)) + t * 0 = detR n M
  rw [rw_self]
  grind
theorem det_zero_row {n : Nat} {M : Nat → Nat → Rat} {x : Nat} (hx : x < n) (h : ∀ c, M x c = 0) : detR n M = 0 := by
  have := det_lin (n := n) (M := M) (x := x) (u := M x) (v := M x) (t := 1) hx
  have e : (fun c => M x c + 1 * M x c) = M x := funext fun c => by rw [h c]; grind
  rw [e, rw_self] at this
  grind
theorem det_id {n : Nat} : ∀ {M : Nat → Nat → Rat}, (∀ r c, r < n → c < n → M r c = if r = c then 1 else 0) → detR n M = 1 := by
  induction n with
  | zero => intros; rfl
  | succ n ih =>
    intro M h
    show smR (n + 1) _ = 1
    rw [sm_one (x := 0) (by omega) fun i hi ne => ?_]
    · show sgnR 0 * M 0 0 * detR n (fun r c => M (skR 0 r) (c + 1)) = 1
      rw [ih fun r c hr hc => ?_, h 0 0 (by omega) (by omega)]
      · show (1 : Rat) * 1 * 1 = 1
        grind
      · show M (skR 0 r) (c + 1) = _
        have : skR 0 r = r + 1 := rfl
        rw [this, h _ _ (by omega) (by omega)]
        by_cases e : r = c
        · rw [if_pos e, if_pos (by omega)]
        · rw [if_neg e, if_neg (by omega)]
    · show sgnR i * M i 0 * _ = 0
      rw [h i 0 hi (by omega), if_neg (by omega)]
      grind
end Rc
/-! part RcDt2 -/
/-! A table with its first row and column taken off; the parts of a table. -/
namespace Rc
def schR (M : Nat → Nat → Rat) : Nat → Nat → Rat := fun r c => M (r + 1) (c + 1) - M (r + 1) 0 * M 0 (c + 1) / M 0 0
def clrR (M : Nat → Nat → Rat) (k : Nat) : Nat → Nat → Rat := fun r c => if 1 ≤ r ∧ r ≤ k then M r c + (- (M r 0 / M 0 0)) * M 0 c else M r c
theorem det_clr {n : Nat} {M : Nat → Nat → Rat} : ∀ k, k ≤ n → detR (n + 1) (clrR M k) = detR (n + 1) M := by
  intro k
  induction k with
  | zero =>
    intro _
    refine det_congr fun r c _ _ => ?_
    unfold clrR
    rw [if_neg (by omega)]
  | succ k ih =>
    intro hk
    rw [← ih (by omega), ← det_addrow (n := n + 1) (M := clrR M k) (x := k + 1) (y := 0) (t := - (M (k + 1) 0 / M 0 0)) (by omega) (by omega) (by omega)]
    refine det_congr fun r c _ _ => ?_
    unfold clrR rwR
    dsimp only
    by_cases h : r = k + 1
    · subst h
      rw [if_pos (by omega), if_pos rfl, if_neg (by omega), if_neg (by omega)]
    · rw [if_neg h]
      by_cases h2 : 1 ≤ r ∧ r ≤ k
      · rw [if_pos (by omega), if_pos h2]
      · rw [if_neg (by omega), if_neg h2]
theorem det_pivot {n : Nat} {M : Nat → Nat → Rat} (h : M 0 0 ≠ 0) : detR (n + 1) M = M 0 0 * detR n (schR M) := by
  rw [← det_clr n (Nat.le_refl _)]
  show smR (n + 1) _ = _
  rw [sm_one (x := 0) (by omega) fun i hi ne => ?_]
  · show sgnR 0 * clrR M n 0 0 * detR n (fun r c => clrR M n (skR 0 r) (c + 1)) = _
    have e1 : clrR M n 0 0 = M 0 0 := by unfold clrR; rw [if_neg (by omega)]
    have e2 : detR n (fun r c => clrR M n (skR 0 r) (c + 1)) = detR n (schR M) := det_congr fun r c hr _ => by
      have : skR 0 r = r + 1 := rfl
      rw [this]
      unfold clrR schR
      rw [if_pos (by omega)]
      grind
    rw [e1, e2]
    show (1 : Rat) * M 0 0 * _ = _
    grind
  · show sgnR i * clrR M n i 0 * _ = 0
    have : clrR M n i 0 = 0 := by
      unfold clrR
      rw [if_pos (by omega)]
      grind
    rw [this]
    grind
/-- the first k rows and columns, and one more of each -/
def brdR (k i j : Nat) (M : Nat → Nat → Rat) : Rat := detR (k + 1) fun r c => M (if r < k then r else k + i) (if c < k then c else k + j)
theorem brd_zero {i j : Nat} {M : Nat → Nat → Rat} : brdR 0 i j M = M i j := by
  show (0 : Rat) + sgnR 0 * M (0 + i) (0 + j) * 1 = M i j
  rw [Nat.zero_add, Nat.zero_add]
  show (0 : Rat) + 1 * M i j * 1 = M i j
  grind
theorem brd_succ {k i j : Nat} {M : Nat → Nat → Rat} (h : M 0 0 ≠ 0) : brdR (k + 1) i j M = M 0 0 * brdR k i j (schR M) := by
  unfold brdR
  rw [det_pivot (n := k + 1)]
  · have e0 : (if 0 < k + 1 then 0 else k + 1 + i) = 0 := if_pos (by omega)
    have e0' : (if 0 < k + 1 then 0 else k + 1 + j) = 0 := if_pos (by omega)
    rw [e0, e0']
    congr 1
    refine det_congr fun r c hr hc => ?_
    unfold schR
    have f : ∀ x y : Nat, (if x + 1 < k + 1 then x + 1 else k + 1 + y) = (if x < k then x else k + y) + 1 := fun x y => by
      by_cases h : x < k
      · rw [if_pos (by omega), if_pos h]
      · rw [if_neg (by omega), if_neg h]
        omega
    dsimp only
    rw [e0, e0', f, f]
  · show M (if 0 < k + 1 then 0 else k + 1 + i) (if 0 < k + 1 then 0 else k + 1 + j) ≠ 0
    rw [if_pos (by omega), if_pos (by omega)]
    exact h
def pivR : Nat → (Nat → Nat → Rat) → Rat
  | 0, _ => 1
  | k + 1, M => brdR k 0 0 M
/-- a step -/
theorem sylR : ∀ (k : Nat) {M : Nat → Nat → Rat} {i j : Nat}, (∀ t, t ≤ k → brdR t 0 0 M ≠ 0) → brdR (k + 1) i j M * pivR k M = brdR k 0 0 M * brdR k (i + 1) (j + 1) M - brdR k (i + 1) 0 M * brdR k 0 (j + 1) M := by
  intro k
  induction k with
  | zero =>
    intro M i j h
    have h0 : M 0 0 ≠ 0 := by
      have := h 0 (Nat.le_refl _)
      rwa [brd_zero] at this
    rw [brd_succ h0, brd_zero, brd_zero, brd_zero, brd_zero, brd_zero]
    show _ * 1 = _
    unfold schR
    grind
  | succ k ih =>
    intro M i j h
    have h0 : M 0 0 ≠ 0 := by
      have := h 0 (Nat.zero_le _)
      rwa [brd_zero] at this
    have hs : ∀ t, t ≤ k → brdR t 0 0 (schR M) ≠ 0 := fun t ht z => h (t + 1) (by omega) (by rw [brd_succ h0, z]; grind)
    have := ih (M := schR M) (i := i) (j := j) hs
    have hp : pivR (k + 1) M = M 0 0 * pivR k (schR M) := by
      cases k with
      | zero => show brdR 0 0 0 M = M 0 0 * 1; rw [brd_zero]; grind
      | succ k => show brdR (k + 1) 0 0 M = _; rw [brd_succ h0]; rfl
    rw [hp, brd_succ h0, brd_succ h0, brd_succ h0, brd_succ h0, brd_succ h0]
    grind
/-- of isWh numbers a isWh number -/
def isWh (x : Rat) : Prop := ∃ z : Int, x = (z : Rat)
theorem sm_whole {n : Nat} {f : Nat → Rat} (h : ∀ i, i < n → isWh (f i)) : isWh (smR n f) := by
  induction n with
  | zero => exact ⟨0, by show (0 : Rat) = _; grind⟩
  | succ n ih =>
    obtain ⟨a, ha⟩ := ih fun i hi => h i (by omega)
    obtain ⟨b, hb⟩ := h n (by omega)
    exact ⟨a + b, by show smR n f + f n = _; rw [ha, hb]; grind⟩
theorem whole_mul {a b : Rat} (ha : isWh a) (hb : isWh b) : isWh (a * b) := by
  obtain ⟨x, rfl⟩ := ha
  obtain ⟨y, rfl⟩ := hb
  exact ⟨x * y, by grind⟩
theorem det_whole {n : Nat} : ∀ {M : Nat → Nat → Rat}, (∀ r c, isWh (M r c)) → isWh (detR n M) := by
  induction n with
  | zero => exact fun _ => ⟨1, by show (1 : Rat) = _; grind⟩
  | succ n ih =>
    intro M h
    refine sm_whole fun i _ => whole_mul (whole_mul ?_ (h _ _)) (ih fun r c => h _ _)
    unfold sgnR
    split
    · exact ⟨1, by grind⟩
    · exact ⟨-1, by grind⟩
theorem brd_whole {k i j : Nat} {M : Nat → Nat → Rat} (h : ∀ r c, isWh (M r c)) : isWh (brdR k i j M) := det_whole fun r c => h _ _
/-- what a step computes -/
theorem step_whole {M : Nat → Nat → Rat} (hM : ∀ r c, isWh (M r c)) {k : Nat} (hp : ∀ t, t ≤ k → brdR t 0 0 M ≠ 0) {i j : Nat} {cor a b c p : Int} (h1 : brdR k 0 0 M = (cor : Rat)) (h2 : brdR k (i + 1) (j + 1) M = (a : Rat)) (h3 : brdR k (i + 1) 0 M = (b : Rat)) (h4 : brdR k 0 (j + 1) M = (c : Rat)) (h5 : pivR k M = (p : Rat)) (hp0 : p ≠ 0) :
    brdR (k + 1) i j M = (((cor * a - b * c).fdiv p : Int) : Rat) := by
  obtain ⟨z, hz⟩ := brd_whole (k := k + 1) (i := i) (j := j) hM
  have s := sylR k (i := i) (j := j) hp
  rw [h1, h2, h3, h4, h5, hz] at s
  have s2 : z * p = cor * a - b * c := by
    have : ((z * p : Int) : Rat) = ((cor * a - b * c : Int) : Rat) := by grind
    exact Rat.intCast_inj.mp this
  rw [hz, ← s2, Int.mul_fdiv_cancel z hp0]
theorem det_brd {n : Nat} {M : Nat → Nat → Rat} : detR (n + 1) M = brdR n 0 0 M := det_congr fun r c hr hc => by
  show M r c = M (if r < n then r else n + 0) (if c < n then c else n + 0)
  have f : ∀ x, x < n + 1 → (if x < n then x else n + 0) = x := fun x hx => by
    split <;> omega
  rw [f r hr, f c hc]
theorem det_piv {n : Nat} {M : Nat → Nat → Rat} : detR n M = pivR n M := by
  cases n with
  | zero => rfl
  | succ n => exact det_brd
end Rc
/-! part RcDt5 -/
/-! Determinants of tables of whole numbers, and how great they are. -/
namespace Rc
def ism : Nat → (Nat → Int) → Int
  | 0, _ => 0
  | n + 1, f => ism n f + f n
def isg (i : Nat) : Int := if i % 2 = 0 then 1 else -1
def idet : Nat → (Nat → Nat → Int) → Int
  | 0, _ => 1
  | n + 1, M => ism (n + 1) fun i => isg i * M i 0 * idet n fun r c => M (skR i r) (c + 1)
def toR (A : Nat → Nat → Int) : Nat → Nat → Rat := fun r c => ((A r c : Int) : Rat)
theorem ism_cast {n : Nat} {f : Nat → Int} {g : Nat → Rat} (h : ∀ i, i < n → g i = ((f i : Int) : Rat)) : smR n g = ((ism n f : Int) : Rat) := by
  induction n with
  | zero => show (0 : Rat) = ((0 : Int) : Rat); grind
  | succ n ih =>
    show smR n g + g n = ((ism n f + f n : Int) : Rat)
    rw [ih fun i hi => h i (by omega), h n (by omega)]
    grind
theorem det_cast {n : Nat} : ∀ {A : Nat → Nat → Int}, detR n (toR A) = ((idet n A : Int) : Rat) := by
  induction n with
  | zero => intro _; show (1 : Rat) = ((1 : Int) : Rat); grind
  | succ n ih =>
    intro A
    refine ism_cast fun i _ => ?_
    have : (fun r c => toR A (skR i r) (c + 1)) = toR fun r c => A (skR i r) (c + 1) := rfl
    rw [this, ih]
    unfold toR sgnR isg
    split <;> grind
def ibrd (k i j : Nat) (A : Nat → Nat → Int) : Int := idet (k + 1) fun r c => A (if r < k then r else k + i) (if c < k then c else k + j)
theorem brd_cast {k i j : Nat} {A : Nat → Nat → Int} : brdR k i j (toR A) = ((ibrd k i j A : Int) : Rat) := det_cast (A := fun r c => A (if r < k then r else k + i) (if c < k then c else k + j))
def ipiv : Nat → (Nat → Nat → Int) → Int
  | 0, _ => 1
  | k + 1, A => ibrd k 0 0 A
theorem piv_cast {k : Nat} {A : Nat → Nat → Int} : pivR k (toR A) = ((ipiv k A : Int) : Rat) := by
  cases k with
  | zero => show (1 : Rat) = ((1 : Int) : Rat); grind
  | succ k => exact brd_cast
theorem ibrd_zero {i j : Nat} {A : Nat → Nat → Int} : ibrd 0 i j A = A i j := by
  have := brd_zero (i := i) (j := j) (M := toR A)
  rw [brd_cast] at this
  exact Rat.intCast_inj.mp this
/-- a step of the program -/
theorem ibrd_step {A : Nat → Nat → Int} {k i j : Nat} (hp : ∀ t, t ≤ k → ibrd t 0 0 A ≠ 0) (h0 : 0 < ipiv k A) :
    (ibrd k 0 0 A * ibrd k (i + 1) (j + 1) A - ibrd k (i + 1) 0 A * ibrd k 0 (j + 1) A) / ipiv k A = ibrd (k + 1) i j A := by
  have s := sylR k (M := toR A) (i := i) (j := j) fun t ht z => hp t ht (by
    rw [brd_cast] at z
    exact Rat.intCast_inj.mp (by rw [z]; grind))
  rw [brd_cast, brd_cast, brd_cast, brd_cast, brd_cast, piv_cast] at s
  have s2 : ibrd (k + 1) i j A * ipiv k A = ibrd k 0 0 A * ibrd k (i + 1) (j + 1) A - ibrd k (i + 1) 0 A * ibrd k 0 (j + 1) A := by
    refine Rat.intCast_inj.mp ?_
    grind
  rw [← s2]
  exact Int.mul_ediv_cancel _ (by omega)
theorem idet_piv {n : Nat} {A : Nat → Nat → Int} : idet n A = ipiv n A := by
  have := det_piv (n := n) (M := toR A)
  rw [det_cast, piv_cast] at this
  exact Rat.intCast_inj.mp this
theorem idet_congr {n : Nat} {A B : Nat → Nat → Int} (h : ∀ r c, r < n → c < n → A r c = B r c) : idet n A = idet n B := by
  have := det_congr (n := n) (M := toR A) (N := toR B) fun r c hr hc => by
    unfold toR
    rw [h r c hr hc]
  rw [det_cast, det_cast] at this
  exact Rat.intCast_inj.mp this
/-! ### how great -/
def bnd (B : Nat) : Nat → Nat
  | 0 => 1
  | n + 1 => (n + 1) * (B * bnd B n)
theorem ism_le {n c : Nat} {f : Nat → Int} (h : ∀ i, i < n → (f i).natAbs ≤ c) : (ism n f).natAbs ≤ n * c := by
  induction n with
  | zero => show (0 : Int).natAbs ≤ _; omega
  | succ n ih =>
    have h1 := ih fun i hi => h i (by omega)
    have h2 := h n (by omega)
    show (ism n f + f n).natAbs ≤ (n + 1) * c
    rw [Nat.succ_mul]
    omega
theorem idet_le {B n : Nat} : ∀ {A : Nat → Nat → Int}, (∀ r c, (A r c).natAbs ≤ B) → (idet n A).natAbs ≤ bnd B n := by
  induction n with
  | zero => exact fun _ => Nat.le_refl 1
  | succ n ih =>
    intro A h
    refine ism_le fun i _ => ?_
    rw [Int.natAbs_mul, Int.natAbs_mul]
    have e : (isg i).natAbs = 1 := by unfold isg; split <;> rfl
    rw [e, Nat.one_mul]
    exact Nat.mul_le_mul (h i 0) (ih fun r c => h _ _)
theorem bnd_le {B n N : Nat} (h : n ≤ N) : bnd B n ≤ (N * B) ^ n := by
  induction n with
  | zero => exact Nat.le_refl 1
  | succ n ih =>
    rw [Nat.pow_succ]
    show (n + 1) * (B * bnd B n) ≤ _
    rw [← Nat.mul_assoc, Nat.mul_comm]
    exact Nat.mul_le_mul (ih (by omega)) (Nat.mul_le_mul h (Nat.le_refl _))
theorem ibrd_lt {k i j : Nat} {A : Nat → Nat → Int} (h : ∀ r c, (A r c).natAbs ≤ 60) (hk : k < 20) : (ibrd k i j A).natAbs < 2 ^ 210 := by
  have h1 : (ibrd k i j A).natAbs ≤ bnd 60 (k + 1) := idet_le fun r c => h _ _
  have h2 : bnd 60 (k + 1) ≤ (20 * 60) ^ (k + 1) := bnd_le (by omega)
  have h3 : (20 * 60) ^ (k + 1) ≤ (20 * 60) ^ 20 := Nat.pow_le_pow_right (by decide) (by omega)
  have h4 : (20 * 60) ^ 20 < 2 ^ 210 := by decide
  omega
theorem ipiv_lt {k : Nat} {A : Nat → Nat → Int} (h : ∀ r c, (A r c).natAbs ≤ 60) (hk : k ≤ 20) : (ipiv k A).natAbs < 2 ^ 210 := by
  cases k with
  | zero => show (1 : Int).natAbs < _; decide
  | succ k => exact ibrd_lt h (by omega)
end Rc
/-! part RcK6 -/
namespace Rc
open PySem PySem.Spec PyProof.Rows L2
def Pay.dat (x : Pay) : PyData := .tuple [grpDat x.g, .int x.c.1, .int x.p]
/-- what is changed while the roads are paid for: the table, what they still cost, who is done, the payments -/
def ch4 (TP d Dn Pm : Addr) : Addr → Prop := fun b => b = TP ∨ b = d ∨ b = Dn ∨ b = Pm
/-- the heap on the way -/
structure St5 (K : PySem.W.Frag) (H H' : Hp) (TP d Dn Pm D : Addr) (gs : List Addr) (ks : List Int) (rw : Int → Row) (ρ : Int → Int × Int) (Rs : List Bool) (log : List Pay) : Prop where
  old : Same (sans (at1 TP) H) (sans (ch4 TP d Dn Pm) H')
  tab : LamX.TabS H' TP lamQ
  dd : sans (ch4 TP d Dn Pm) H' D = some (.lst (gs.map V.ref))
  into : ∀ j g, gs[j]? = some g → sans (ch4 TP d Dn Pm) H' g = some (.lst ((Into ks rw j).map V.int))
  rest : RestAt H' d ks ρ
  done : H' Dn = some (.lst (Rs.map V.bl))
  log : ∃ pvs, H' Pm = some (.lst pvs) ∧ DpAll K (sans (ch4 TP d Dn Pm) H') pvs (log.map Pay.dat)
  ne : Dn ≠ Pm
theorem part_same {m : Addr → Prop} {H H' : Hp} (e : ∀ b o, ¬ m b → H b = some o → H' b = some o) : Same (sans m H) (sans m H') := fun b o h => by
  by_cases z : m b
  · rw [sans_at z] at h
    cases h
  · rw [sans_no z] at h ⊢
    exact e b o z h
namespace St5
variable {K : PySem.W.Frag} {H H' H2 : Hp} {TP d Dn Pm D : Addr} {gs : List Addr} {ks : List Int} {rw : Int → Row} {ρ : Int → Int × Int} {Rs : List Bool} {log : List Pay}
theorem m_some (S : St5 K H H' TP d Dn Pm D gs ks rw ρ Rs log) {b : Addr} (h : ch4 TP d Dn Pm b) : ∃ o, H' b = some o ∧ (∀ xs, o ≠ .tup xs) ∧ ∀ u o', o ≠ .frz u o' := by
  rcases h with rfl | rfl | rfl | rfl
  · obtain ⟨ps, e, _⟩ := S.tab
    exact ⟨_, e, fun xs z => (by cases z), fun u o' z => by cases z⟩
  · obtain ⟨as, e, _⟩ := S.rest
    exact ⟨_, e, fun xs z => (by cases z), fun u o' z => by cases z⟩
  · exact ⟨_, S.done, fun xs z => (by cases z), fun u o' z => by cases z⟩
  · obtain ⟨pvs, e, _⟩ := S.log
    exact ⟨_, e, fun xs z => (by cases z), fun u o' z => by cases z⟩
theorem fresh (S : St5 K H H' TP d Dn Pm D gs ks rw ρ Rs log) {p : Addr} (h : H' p = none) : ¬ ch4 TP d Dn Pm p := fun z => by
  obtain ⟨o, e, _⟩ := S.m_some z
  rw [h] at e
  cases e
theorem tup_no (S : St5 K H H' TP d Dn Pm D gs ks rw ρ Rs log) {b : Addr} {xs : List V} (h : H' b = some (.tup xs)) : ¬ ch4 TP d Dn Pm b := fun z => by
  obtain ⟨o, e, n, _⟩ := S.m_some z
  rw [h] at e
  exact n xs (Option.some.inj e).symm
theorem sqT_part (S : St5 K H H' TP d Dn Pm D gs ks rw ρ Rs log) {b : Addr} {xs : List V} (h : SqT K H' b xs) : SqT K (sans (ch4 TP d Dn Pm) H') b xs := by
  rcases h with (h | ⟨o, h⟩) | h
  · exact .inl (.inl (by rw [sans_no (S.tup_no h)]; exact h))
  · refine .inl (.inr ⟨o, ?_⟩)
    rw [sans_no]
    · exact h
    · intro z
      obtain ⟨u, e, _, n⟩ := S.m_some z
      rw [h] at e
      exact n _ _ (Option.some.inj e).symm
  · exact .inr h
theorem grps_part (S : St5 K H H' TP d Dn Pm D gs ks rw ρ Rs log) : ∀ {vs : List V} {ds : List (List Int)}, DpAll K H' vs (ds.map grpDat) → DpAll K (sans (ch4 TP d Dn Pm) H') vs (ds.map grpDat)
  | _, [], h => by cases h; exact .nil
  | _, g :: ds, h => by
    cases h with
    | cons h1 h2 =>
      obtain ⟨b, rfl, hb⟩ := grp_inv h1
      exact .cons (.tup (S.sqT_part hb) (dpAll_ints g)) (S.grps_part h2)
/-- new things, nothing else -/
theorem same (S : St5 K H H' TP d Dn Pm D gs ks rw ρ Rs log) (e : Same H' H2) : St5 K H H2 TP d Dn Pm D gs ks rw ρ Rs log := by
  have ep : Same (sans (ch4 TP d Dn Pm) H') (sans (ch4 TP d Dn Pm) H2) := part_same fun b o _ h => e b o h
  obtain ⟨pvs, h1, h2⟩ := S.log
  exact ⟨S.old.trans ep, S.tab.ext e, ep _ _ S.dd, fun j g h => ep _ _ (S.into j g h), S.rest.keep fun b o _ h => e b o h, e _ _ S.done, ⟨pvs, e _ _ h1, dpAll_same ep _ _ h2⟩, S.ne⟩
theorem at_ne (S : St5 K H H' TP d Dn Pm D gs ks rw ρ Rs log) : d ≠ TP ∧ Dn ≠ TP ∧ Pm ≠ TP ∧ Dn ≠ d ∧ Pm ≠ d := by
  obtain ⟨ps, e0, _⟩ := S.tab
  obtain ⟨as, e1, _⟩ := S.rest
  have e2 := S.done
  obtain ⟨pvs, e3, _⟩ := S.log
  refine ⟨fun z => ?_, fun z => ?_, fun z => ?_, fun z => ?_, fun z => ?_⟩
  · rw [z, e0] at e1; cases e1
  · rw [z, e0] at e2; cases e2
  · rw [z, e0] at e3; cases e3
  · rw [z, e1] at e2; cases e2
  · rw [z, e1] at e3; cases e3
/-- paid -/
theorem paid {ρ' : Int → Int × Int} (S : St5 K H H' TP d Dn Pm D gs ks rw ρ Rs log) (e : ∀ b o, b ≠ d → b ≠ TP → H' b = some o → H2 b = some o) (T : LamX.TabS H2 TP lamQ) (R : RestAt H2 d ks ρ') : St5 K H H2 TP d Dn Pm D gs ks rw ρ' Rs log := by
  have ep : Same (sans (ch4 TP d Dn Pm) H') (sans (ch4 TP d Dn Pm) H2) := part_same fun b o n h => e b o (fun z => n (.inr (.inl z))) (fun z => n (.inl z)) h
  obtain ⟨n1, n2, n3, n4, n5⟩ := S.at_ne
  obtain ⟨pvs, h1, h2⟩ := S.log
  exact ⟨S.old.trans ep, T, ep _ _ S.dd, fun j g h => ep _ _ (S.into j g h), R, e _ _ n4 n2 S.done, ⟨pvs, e _ _ n5 n3 h1, dpAll_same ep _ _ h2⟩, S.ne⟩
theorem part_put {m : Addr → Prop} {G : Hp} {b : Addr} {o : HO} (h : m b) : Same (sans m G) (sans m (upd G b o)) := part_same fun c u n e => by
  rw [upd_ne (show c ≠ b from fun z => n (by rw [z]; exact h))]
  exact e
theorem rest_put {G : Hp} {b : Addr} {o : HO} {xs : List V} (R : RestAt G d ks ρ) (hb : G b = some (.lst xs)) : RestAt (upd G b o) d ks ρ := by
  obtain ⟨as, h1, h2⟩ := R
  refine ⟨as, ?_, fun k hk => ?_⟩
  · rw [upd_ne (fun z => by rw [z, hb] at h1; cases h1)]
    exact h1
  · have := h2 k hk
    rw [upd_ne (fun z => by rw [z, hb] at this; cases this)]
    exact this
theorem tab_put {G : Hp} {b : Addr} {o : HO} {xs : List V} (T : LamX.TabS G TP lamQ) (hb : G b = some (.lst xs)) : LamX.TabS (upd G b o) TP lamQ := tabS_keep T fun c u hk e => by
  rw [upd_ne fun z => ?_]
  · exact e
  · rw [z, hb] at e
    cases e
    rcases hk with ⟨ps, y⟩ | ⟨q, y⟩
    · cases y
    · exact codeO_no y fun φ w => by cases w
/-- a payment is told -/
theorem told {pvs : List V} {v : V} {x : Pay} (S : St5 K H H' TP d Dn Pm D gs ks rw ρ Rs log) (h1 : H' Pm = some (.lst pvs)) (h2 : DpAll K (sans (ch4 TP d Dn Pm) H') pvs (log.map Pay.dat)) (hv : Dp K (sans (ch4 TP d Dn Pm) H') v x.dat) :
    St5 K H (upd H' Pm (.lst (pvs ++ [v]))) TP d Dn Pm D gs ks rw ρ Rs (log ++ [x]) := by
  have hm : ch4 TP d Dn Pm Pm := .inr (.inr (.inr rfl))
  have ep := part_put (m := ch4 TP d Dn Pm) (G := H') (o := .lst (pvs ++ [v])) hm
  refine ⟨S.old.trans ep, tab_put S.tab h1, ep _ _ S.dd, fun j g h => ep _ _ (S.into j g h), rest_put S.rest h1, ?_, ⟨_, upd_same, ?_⟩, S.ne⟩
  · rw [upd_ne S.ne]
    exact S.done
  · rw [List.map_append]
    exact dpAll_app (dpAll_same ep _ _ h2) (dpAll_one (dp_same ep _ _ hv))
/-- one more is done -/
theorem set {Rs' : List Bool} (S : St5 K H H' TP d Dn Pm D gs ks rw ρ Rs log) : St5 K H (upd H' Dn (.lst (Rs'.map V.bl))) TP d Dn Pm D gs ks rw ρ Rs' log := by
  have hm : ch4 TP d Dn Pm Dn := .inr (.inr (.inl rfl))
  have ep := part_put (m := ch4 TP d Dn Pm) (G := H') (o := .lst (Rs'.map V.bl)) hm
  obtain ⟨pvs, h1, h2⟩ := S.log
  exact ⟨S.old.trans ep, tab_put S.tab S.done, ep _ _ S.dd, fun j g h => ep _ _ (S.into j g h), rest_put S.rest S.done, upd_same, ⟨pvs, by rw [upd_ne (Ne.symm S.ne)]; exact h1, dpAll_same ep _ _ h2⟩, S.ne⟩
end St5
def spRun (K : PySem.W.Frag) (TP : Addr) : Sp := fun vs H Q _ => ∃ (many root : Int) (r : Addr) (ks : List Int) (rw : Int → Row) (tw : Int → Addr), vs = [.int many, .int root, .ref r] ∧ RoadsAt K H r ks rw tw ∧ 0 ≤ root ∧ root < many ∧ many ≤ 1000 ∧ RdOk many ks rw ∧
  (∀ v, 0 ≤ v → v < many → Reach (ks.map rw) root v) ∧ LamX.TabS H TP lamQ ∧
  ∀ H' p pvs log D ρ, (∀ b o, b ≠ TP → H b = some o → H' b = some o) → LamX.TabS H' TP lamQ → H p = none → H' p = some (.lst pvs) → DpAll K H' pvs (log.map Pay.dat) → Run many root ks rw many.toNat D ρ log → Q (.ref p) H'
end Rc
/-! part RcK7a -/
/-! pay_roads: what its reading leans on. -/
namespace Rc
open PySem PySem.Spec PyProof.Rows L2
theorem tabG_of {H : Hp} {P : Addr} {q : Str} (T : LamX.TabS H P q) : GxR.TabG H P := by
  obtain ⟨ps, e, t, _⟩ := T
  exact ⟨ps, e, t⟩
theorem RoadsAt.sans {K : PySem.W.Frag} {m : Addr → Prop} {H : Hp} {r : Addr} {ks : List Int} {rw : Int → Row} {tw : Int → Addr} (hm : ∀ b, m b → GxR.TabG H b) (R : RoadsAt K H r ks rw tw) : RoadsAt K (Rc.sans m H) r ks rw tw :=
  ⟨by rw [sans_no (tab_no hm R.dd (by intro ps z; cases z))]; exact R.dd, fun k hk => sqT_sans hm (R.has k hk)⟩
theorem RoadsAt.dget {K : PySem.W.Frag} {H : Hp} {r : Addr} {ks : List Int} {rw : Int → Row} {tw : Int → Addr} (R : RoadsAt K H r ks rw tw) {k : Int} (hk : k ∈ ks) : DGet H r (.int k) (some (.ref (tw k))) :=
  RoadsAt.get (K := K) (H := H) (rw := rw) (.inl R.dd) hk
theorem sqT_un {K : PySem.W.Frag} {H : Hp} {r b : Addr} {kvs : List (Key × V)} {xs : List V} (h : SqT K (upd H r (.dK kvs)) b xs) : SqT K H b xs := by
  rcases h with (h | ⟨o, h⟩) | h
  · by_cases z : b = r
    · rw [z, upd_same] at h
      cases h
    · rw [upd_ne z] at h
      exact .inl (.inl h)
  · by_cases z : b = r
    · rw [z, upd_same] at h
      cases h
    · rw [upd_ne z] at h
      exact .inl (.inr ⟨o, h⟩)
  · exact .inr h
theorem atI_int {α : Type} {xs : List α} {i : Int} {v : α} (h0 : 0 ≤ i) (h : xs[i.toNat]? = some v) : atI xs i = some v := by
  have e : i = (i.toNat : Int) := by omega
  rw [e]
  exact atI_nat h
theorem dpAll_last {K : PySem.W.Frag} {H : Hp} {vs : List V} {init : List (List Int)} {g : List Int} (h : DpAll K H vs ((init ++ [g]).map grpDat)) : ∃ b, atI vs (-1) = some (.ref b) ∧ SqT K H b (g.map V.int) := by
  have hl := dpAll_len h
  rw [List.length_map, List.length_append, List.length_singleton] at hl
  obtain ⟨v, hv, hd⟩ := dpAll_get (i := init.length) (d := grpDat g) h (by simp)
  obtain ⟨b, rfl, hb⟩ := grp_inv hd
  refine ⟨b, ?_, hb⟩
  unfold atI ixN
  rw [if_neg (by decide), if_pos (by omega)]
  have e : ((-1 : Int) + (vs.length : Int)).toNat = init.length := by omega
  show vs[((-1 : Int) + (vs.length : Int)).toNat]? = _
  rw [e]
  exact hv
theorem ints_le {many : Int} {ms : List Int} (nd : ms.Nodup) (hm : ∀ v ∈ ms, 0 ≤ v ∧ v < many) : ms.length ≤ many.toNat := by
  have h1 : (ms.map Int.toNat).Nodup := by
    rw [List.nodup_iff_pairwise_ne, List.pairwise_map]
    refine (List.nodup_iff_pairwise_ne.mp nd).imp_of_mem fun {a b} ha hb ne e => ne ?_
    have := hm a ha
    have := hm b hb
    omega
  have := h1.length_le_of_subset (l₂ := List.range many.toNat) fun x hx => by
    obtain ⟨v, hv, rfl⟩ := List.mem_map.mp hx
    have := hm v hv
    exact List.mem_range.mpr (by omega)
  rw [List.length_map, List.length_range] at this
  exact this
theorem flat_ge : ∀ {gs : List (List Int)}, (∀ g ∈ gs, g ≠ []) → gs.length ≤ gs.flatten.length
  | [], _ => Nat.le_refl _
  | g :: gs, h => by
    have ih := flat_ge (gs := gs) fun x hx => h x (List.mem_cons_of_mem _ hx)
    have h1 := List.length_pos_iff.mpr (h g List.mem_cons_self)
    rw [List.flatten_cons, List.length_append, List.length_cons]
    omega
theorem flat_one : ∀ {gs : List (List Int)} {g : List Int}, g ∈ gs → g.length ≤ gs.flatten.length
  | x :: gs, g, h => by
    rw [List.flatten_cons, List.length_append]
    rcases List.mem_cons.mp h with z | z
    · rw [z]
      omega
    · have := flat_one (gs := gs) z
      omega
theorem path_small {many : Int} {D : List Bool} {S : Sit} (I : SitOk many D S) (m1 : many ≤ 1000) : S.path.length ≤ 1000 ∧ ∀ g ∈ S.path, g.length ≤ 1000 := by
  have h1 := ints_le I.nd fun v hv => ⟨(I.mem v hv).1, (I.mem v hv).2.1⟩
  have h2 := flat_ge I.ne
  exact ⟨by omega, fun g hg => by have := flat_one hg; omega⟩
theorem flatMap_le {f : Int → List Int} {n : Nat} : ∀ {l : List Int}, (∀ a ∈ l, (f a).length ≤ n) → (l.flatMap f).length ≤ n * l.length
  | [], _ => Nat.zero_le _
  | a :: l, h => by
    have ih := flatMap_le (l := l) fun x hx => h x (List.mem_cons_of_mem _ hx)
    have h1 := h a List.mem_cons_self
    rw [List.flatMap_cons, List.length_append, List.length_cons, Nat.mul_succ]
    omega
theorem go_log {many : Int} {ks : List Int} {rw : Int → Row} {D : List Bool} {S0 S : Sit} (R : RdOk many ks rw) (I : SitOk many D S0) (h : Go ks rw D S0 S) : S.log.length + left0 many S.path ≤ S0.log.length + left0 many S0.path := by
  induction h with
  | here => exact Nat.le_refl _
  | @on S1 init g p h hb hw hp hm hf ih =>
    obtain ⟨_, _, _, _, w5⟩ := with_ok (go_ok R I h) hb hw
    show (S1.log ++ [_]).length + left0 many (init ++ [g]) ≤ _
    rw [List.length_append, List.length_singleton]
    omega
theorem run_log {many root : Int} {ks : List Int} {rw : Int → Row} (R : RdOk many ks rw) {i : Nat} {D : List Bool} {ρ : Int → Int × Int} {log : List Pay} (h : Run many root ks rw i D ρ log) : log.length ≤ i * (2 * many.toNat) := by
  induction h with
  | start => exact Nat.zero_le _
  | @place i D ρ log S h hi hg he ih =>
    have := go_log R (sit_start (ρ := ρ) (log := log) hi) hg
    have e : left0 many ([] : List (List Int)) = 2 * many.toNat := by simp [left0]
    rw [Nat.succ_mul]
    dsimp only at this
    omega
theorem ep9 {TP d Dn Pm : Addr} {H H' : Hp} (e : ∀ b o, b ≠ d → b ≠ TP → H b = some o → H' b = some o) : Same (sans (ch4 TP d Dn Pm) H) (sans (ch4 TP d Dn Pm) H') :=
  part_same fun b o n h => e b o (fun z => n (.inr (.inl z))) (fun z => n (.inl z)) h
theorem ep_same {m : Addr → Prop} {H H' : Hp} (e : Same H H') : Same (sans m H) (sans m H') := part_same fun b o _ h => e b o h
/-- what stands beside the table -/
theorem St5.start {K : PySem.W.Frag} {H H1 G : Hp} {TP d Dn Pm D : Addr} {gs : List Addr} {ks : List Int} {rw : Int → Row} {Rs : List Bool} (hT : LamX.TabS H TP lamQ) (e1 : Same H H1) (G1 : Goals H H1 D gs (Into ks rw)) (eG : Same H1 G) (hd : H1 d = none) (hDn : H1 Dn = none) (hPm : H1 Pm = none)
    (R : RestAt G d ks (rest0 rw)) (h1 : G Dn = some (.lst (Rs.map V.bl))) (h2 : G Pm = some (.lst [])) (ne : Dn ≠ Pm) : St5 K H G TP d Dn Pm D gs ks rw (rest0 rw) Rs [] := by
  have e := e1.trans eG
  have hTP : ∃ ps, H TP = some (.tbl ps) := by
    obtain ⟨ps, z, _⟩ := hT
    exact ⟨ps, z⟩
  have no : ∀ b o, b ≠ TP → H1 b = some o → ¬ ch4 TP d Dn Pm b := fun b o n h z => by
    rcases z with z | z | z | z
    · exact n z
    · rw [z, hd] at h; cases h
    · rw [z, hDn] at h; cases h
    · rw [z, hPm] at h; cases h
  have nTP : ∀ b, H b = none → b ≠ TP := fun b h z => by
    obtain ⟨ps, y⟩ := hTP
    rw [z, y] at h
    cases h
  refine ⟨fun b o h => ?_, hT.ext e, ?_, fun j g hg => ?_, R, h1, ⟨[], h2, .nil⟩, ne⟩
  · by_cases z : b = TP
    · rw [sans_at (show at1 TP b from z)] at h
      cases h
    · rw [sans_no (show ¬ at1 TP b from z)] at h
      rw [sans_no (no b o z (e1 _ _ h))]
      exact e _ _ h
  · rw [sans_no (no D _ (nTP _ G1.newD) G1.dd)]
    exact eG _ _ G1.dd
  · have hm := List.mem_of_getElem? hg
    rw [sans_no (no g _ (nTP _ (G1.new g hm)) (G1.has j g hg))]
    exact eG _ _ (G1.has j g hg)
theorem St5.roads {K : PySem.W.Frag} {H H' : Hp} {TP d Dn Pm D r : Addr} {gs : List Addr} {ks : List Int} {rw : Int → Row} {tw : Int → Addr} {ρ : Int → Int × Int} {Rs : List Bool} {log : List Pay} (S : St5 K H H' TP d Dn Pm D gs ks rw ρ Rs log) (hT : LamX.TabS H TP lamQ) (R : RoadsAt K H r ks rw tw) :
    RoadsAt K H' r ks rw tw := ((R.sans fun b (e : b = TP) => e ▸ tabG_of hT).same S.old).same sans_same
theorem St5.keeps {K : PySem.W.Frag} {H H' : Hp} {TP d Dn Pm D : Addr} {gs : List Addr} {ks : List Int} {rw : Int → Row} {ρ : Int → Int × Int} {Rs : List Bool} {log : List Pay} (S : St5 K H H' TP d Dn Pm D gs ks rw ρ Rs log) : ∀ b o, b ≠ TP → H b = some o → H' b = some o := fun b o n h =>
  sans_same _ _ (S.old _ _ (by rw [sans_no (show ¬ at1 TP b from n)]; exact h))
end Rc
/-! part RcK7 -/
/-! pay_roads -/
namespace Rc
open PySem PySem.Spec PyProof.Rows L2
section
variable {P : Program} {w : World} {K : PySem.W.Frag} {mg : Str → Option Value} {base : Heap}
theorem ok_run {f TP : Addr} {fd : FuncData} {k : Nat} (F : Fun K "pay_roads" "pay_roads" s_pay_roads f fd) (ra : mg "range" = none) (hI : Has P w K mg base "roads_into" ["many", "roads"] k (spInto K)) (hK : Has P w K mg base "rank" ["road"] k spRank)
    (hW : Has P w K mg base "path_with" ["path", "place"] k (spWith K)) (hP : Has P w K mg base "pay" ["entering", "rest"] k (spPay K TP)) : FnOk P w K mg base CX0 (k + 1) f fd ["many", "root", "roads"] (spRun K TP) := by
  obtain ⟨fI, fdI, gI, kI, bI, GI⟩ := hI
  obtain ⟨fK, fdK, gK, kK, bK, GK⟩ := hK
  obtain ⟨fW, fdW, gW, kW, bW, GW⟩ := hW
  obtain ⟨fP, fdP, gP, kP, bP, GP⟩ := hP
  refine F.ok sc_pay_roads (fun vs H Q E h => ?_) (fun cdv A outer s H vs Q E hr h => ?_)
  · obtain ⟨many, root, r, ks, rw, tw, rfl, _⟩ := h
    rfl
  · obtain ⟨many, root, r, ks, rw, tw, rfl, hR, r0, r1, m1, R, hreach, hT, q⟩ := h
    have hu : (A.deeper (envOfC "pay_roads" (defScope s_pay_roads) s.heap.objs.size f cdv)).units + 1 < cLine := by
      have := hr.un
      omega
    refine ⟨_, (pss_cons (ps_set (i := 3) sc_pay_roads.nd rfl (Or.inr rfl) (pe_call GI hr (by rfl) gI kI bI .nil pass0 (pa_cons (pv 0) (pa_cons (pv 2) pa_nil))))
  (pss_cons (ps_lock (ps_setDc (i := 4) (own := [("road", 15)]) (g := gName 15) (tt := tYes) (tk := tVar 15) (tv := tTup (tCons (tOp (rIxT K) (tDGet (tVar 2) (tVar 15)) (tC (.int 2))) (tCons (tCall spRank [] E0 (tCons (tVar 15) tNil)) tNil))) rfl sc_pay_roads.nd rfl rfl (swD_true rfl rfl rfl (by decide +kernel)) (pi_keys (pv 2)) (blkOk_by (N := N_pay_roads) (sc := defScope s_pay_roads) (by decide +kernel)) (fun _ _ _ _ _ => (pg_name (i := 15) sc_pay_roads.nd rfl (Or.inl rfl))) (fun _ _ _ _ _ => pts_nil) (fun _ _ _ _ _ => (pv 15))
     (fun _ _ _ _ _ => (pe_tup (pa_cons (pe_ix (r := rIxT K) ix_tup (pe_dget hu (pv 2) (pv 15) (fun _ _ => rfl)) pe_int (fun _ _ => rfl)) (pa_cons (pe_call GK hr (by rfl) gK kK bK .nil pass0 (pa_cons (pv 15) pa_nil)) pa_nil))))))
  (pss_cons (ps_setLc (i := 6) (own := [("place", 5)]) (g := gName 5) (tt := tYes) rfl sc_pay_roads.nd rfl rfl (sw_true rfl rfl rfl (by decide +kernel)) (pi_range1 (by rfl) ra (pa_cons (pv 0) pa_nil)) (blkOk_by (N := N_pay_roads) (sc := defScope s_pay_roads) (by decide +kernel)) (fun _ _ _ _ _ => (pg_name (i := 5) sc_pay_roads.nd rfl (Or.inl rfl))) (fun _ _ _ _ _ => pts_nil) (fun _ _ _ _ _ => (pe_cmpR op_eq (pv 5) (pv 1) (nomark _))))
  (pss_cons (ps_set (i := 7) sc_pay_roads.nd rfl (Or.inl rfl) (pe_lst pa_nil))
  (pss_cons (ps_for PassesOwn.never rfl (pi_range1 (by rfl) ra (pa_cons (pv 0) pa_nil)) (pg_name (i := 5) sc_pay_roads.nd rfl (Or.inl rfl))
   (pss_cons (ps_set (i := 8) sc_pay_roads.nd rfl (Or.inl rfl) (pe_lst pa_nil))
  (pss_cons (ps_set (i := 9) sc_pay_roads.nd rfl (Or.inl rfl) (pv 5))
  (pss_cons (ps_while PassesOwn.never (pt_not (pt_val (pe_ix ix_list (pv 6) (pv 9) (fun _ _ => rfl))))
   (pss_cons (ps_set (i := 8) sc_pay_roads.nd rfl (Or.inl rfl) (pe_call GW hr (by rfl) gW kW bW .nil pass0 (pa_cons (pv 8) (pa_cons (pv 9) pa_nil))))
  (pss_cons (ps_set (i := 10) sc_pay_roads.nd rfl (Or.inr rfl) (pe_ix ix_list (pv 8) (pe_un un_neg pe_int) (fun _ _ => rfl)))
  (pss_cons (ps_setLc2 (i := 12) (own := [("member", 11), ("road", 15)]) (vs1 := [15]) (g := gName 11) (tt := tYes) (wi1 := iList K (tOp (rIxL K) (tVar 3) (tVar 11))) (g1 := gName 15) (tt1 := tTest (tOp (rIn K true) (tOp (rIxT K) (tDGet (tVar 2) (tVar 15)) (tC (.int 0))) (tVar 10))) rfl sc_pay_roads.nd rfl rfl (sw_true rfl rfl rfl (by decide +kernel)) (pi_tup (pv 10)) (blkOk_by (N := N_pay_roads) (sc := defScope s_pay_roads) (by decide +kernel)) (by decide) (fun _ _ _ _ _ => (pg_name (i := 11) sc_pay_roads.nd rfl (Or.inl rfl))) (fun _ _ _ _ _ => pts_nil)
     (fun _ _ _ _ _ => pi_list (pe_ix (r := rIxL K) ix_list (pv 3) (pv 11) (fun _ _ => rfl))) (fun _ _ _ _ _ => (pg_name (i := 15) sc_pay_roads.nd rfl (Or.inl rfl))) (fun _ _ _ _ _ => (pts_one (pt_cmpR op_notIn_seq (pe_ix (r := rIxT K) ix_tup (pe_dget hu (pv 2) (pv 15) (fun _ _ => rfl)) pe_int (fun _ _ => rfl)) (pv 10) (by rfl)))) (fun _ _ _ _ _ => (pv 15)))
  (pss_cons (ps_asg (pe_call GP hr (by rfl) gP kP bP .nil pass0 (pa_cons (pv 12) (pa_cons (pv 4) pa_nil))) (pg_tup (by rfl) (pgs_cons (pg_name (i := 13) sc_pay_roads.nd rfl (Or.inl rfl)) (pgs_cons (pg_name (i := 14) sc_pay_roads.nd rfl (Or.inl rfl)) pgs_nil))))
  (pss_cons (ps_expr (pe_bm PySem.F.plainAttrs_list PySem.F.slot_list_append PySem.F.type_list_append mt_append (pv 7) (pa_cons (pe_tup (pa_cons (pv 10) (pa_cons (pv 13) (pa_cons (pv 14) pa_nil)))) pa_nil)))
  (pss_one (ps_set (i := 9) sc_pay_roads.nd rfl (Or.inl rfl) (pe_ix ix_tup (pe_dget hu (pv 2) (pv 14) (fun _ _ => rfl)) pe_int (fun _ _ => rfl))))))))))
  (pss_one (ps_for PassesOwn.never rfl (pi_list (pv 8)) (pg_name (i := 10) sc_pay_roads.nd rfl (Or.inr rfl))
   (pss_one (ps_for PassesOwn.never rfl (pi_tup (pv 10)) (pg_name (i := 11) sc_pay_roads.nd rfl (Or.inl rfl))
   (pss_one (ps_asg pe_bl (pg_sub (pv 6) (pv 11) set_list)))))))))))
  (pss_one (ps_ret (pv 7)))))))), ?_⟩
    refine ⟨_, rfl, _, rfl, many, r, ks, rw, tw, rfl, hR, by omega, m1, R.len, fun k hk => ⟨(R.row k hk).2.2.1, (R.row k hk).2.2.2⟩, fun H1 D gs e1 G1 hgl => ?_⟩
    have hR1 := hR.same e1
    obtain ⟨kvs, hkvs⟩ : ∃ kvs, kvs = intD ks fun k => V.ref (tw k) := ⟨_, rfl⟩
    refine ⟨r, _, hR1.dd, trivial, fun od => ⟨_, rfl, r, od, rfl, .inl ⟨_, upd_same, fun d hd => dc_it walk_keys (fun i H' => H' r = some (.frz od (.dK (intD ks fun k => .ref (tw k)))) ∧ Same H1 (upd H' r (.dK (intD ks fun k => .ref (tw k)))) ∧ H1 d = none ∧ RestAt H' d (ks.take i) (rest0 rw)) ?_ (fun i H' _ z => z.1) ?_ ?_⟩⟩⟩
    · have ndr : d ≠ r := fun z => by rw [z, upd_same] at hd; cases hd
      have hd1 : H1 d = none := by rw [upd_ne ndr] at hd; exact hd
      refine ⟨by rw [upd_ne (Ne.symm ndr), upd_same], ?_, hd1, fun _ => 0, by rw [upd_same]; rfl, fun k hk => by simp at hk⟩
      rw [upd_com ndr, upd_back hR1.dd]
      exact same_new hd1
    · rintro i x H2 H3 hi ⟨hr2, e2, hd1, as, hdd, has⟩ ⟨rfl, key, v, hkv, rfl⟩
      obtain ⟨k, hk, rfl, rfl⟩ := intD_get hkv
      have hkm := List.mem_of_getElem? hk
      obtain ⟨k0, k60⟩ := R.num k hkm
      have hT3 : SqT K H3 (tw k) [.int (rw k).b, .int (rw k).g, .int (rw k).c] := sqT_un (sqT_same e2 (hR1.has k hkm))
      have nrd : r ≠ d := fun z => by rw [z, hdd] at hr2; cases hr2
      refine ⟨rfl, _, rfl, _, rfl, _, rfl, r, _, rfl, RoadsAt.get (K := K) (H := H) (rw := rw) (.inr ⟨od, hr2⟩) hkm, tw k, _, _, _, rfl, rfl, hT3, rfl, _, rfl, k, rfl, k0, k60, (by show 2 ≤ sizeLine; decide), fun T hTn => ⟨intD (ks.take i) fun k => .ref (as k), .inl k, rfl, ?_, ?_, ?_⟩⟩
      · rw [upd_ne (ne_of_none hdd hTn)]
        exact hdd
      · rw [intD_len, List.length_take]
        have := R.len
        exact small_lt (by omega)
      · have hnot : k ∉ ks.take i := fun z => by
          obtain ⟨j, hj⟩ := List.getElem?_of_mem z
          have hj2 : j < i ∧ ks[j]? = some k := by
            rw [List.getElem?_take] at hj
            split at hj
            · exact ⟨by assumption, hj⟩
            · cases hj
          have := nodup_at R.nd hj2.2 hk
          omega
        have nTr : T ≠ r := Ne.symm (ne_of_none hr2 hTn)
        have nTd : T ≠ d := Ne.symm (ne_of_none hdd hTn)
        have hT1 : H1 T = none := e2.free (by rw [upd_ne nTr]; exact hTn)
        refine ⟨?_, ?_, hd1, fun j => if j = k then T else as j, ?_, fun j hj => ?_⟩
        · rw [upd_ne nrd, upd_ne (Ne.symm nTr)]
          exact hr2
        · rw [upd_com (Ne.symm nrd), upd_com nTr]
          exact same_mut (same_mut e2 hT1) hd1
        · rw [upd_same, putK_intD_new hnot, take_succ hk]
          congr 3
          funext j
          by_cases e : j = k
          · show (if j = k then V.ref T else V.ref (as j)) = V.ref (if j = k then T else as j)
            rw [if_pos e, if_pos e]
          · show (if j = k then V.ref T else V.ref (as j)) = V.ref (if j = k then T else as j)
            rw [if_neg e, if_neg e]
        · rw [take_succ hk] at hj
          by_cases e : j = k
          · subst e
            dsimp only
            rw [if_pos rfl, upd_ne nTd, upd_same]
            rfl
          · have hj' : j ∈ ks.take i := by
              rcases List.mem_append.mp hj with z | z
              · exact z
              · exact absurd (List.mem_singleton.mp z) e
            have hz := has j hj'
            dsimp only
            rw [if_neg e, upd_ne (fun z => by rw [z, hdd] at hz; cases hz), upd_ne (ne_of_none hz hTn)]
            exact hz
    · rintro H2 ⟨hr2, e2, hd1, hRest⟩
      rw [intD_len, List.take_length] at hRest
      refine ⟨hr2, ?_⟩
      have hRG : RestAt (upd H2 r (.dK (intD ks fun k => .ref (tw k)))) d ks (rest0 rw) := by
        obtain ⟨as, hdd, has⟩ := hRest
        refine ⟨as, ?_, fun k hk => ?_⟩
        · rw [upd_ne (fun z => by rw [z, hr2] at hdd; cases hdd)]
          exact hdd
        · have hz := has k hk
          rw [upd_ne (fun z => by rw [z, hr2] at hz; cases hz)]
          exact hz
      generalize upd H2 r (.dK (intD ks fun k => .ref (tw k))) = G at e2 hRG
      refine ⟨_, rfl, many, rfl, by omega, by omega, fun Dn hDn => lc_range (lo := 0) (n := many.toNat) (fun i H' => Same G H' ∧ H' Dn = some (.lst ((List.range i).map fun (j : Nat) => V.bl (decide ((j : Int) = root))))) ⟨same_new hDn, upd_same⟩ ?_ ?_⟩
      · rintro i H3 hi ⟨e3, h3⟩
        refine ⟨rfl, _, rfl, _, rfl, rfl, _, h3, ?_, same_mut e3 hDn, ?_⟩
        · rw [List.length_map, List.length_range]
          exact small_lt (by omega)
        · rw [upd_same, List.range_succ, List.map_append]
          show some (HO.lst (_ ++ [V.bl (decide (V.int (0 + (i : Int)) = V.int root))])) = _
          rw [int_eq_decide, Int.zero_add]
          rfl
      · rintro H3 ⟨e3, h3⟩
        refine ⟨Nat.zero_le _, fun Pm hPm => ?_⟩
        have nPm : H Pm = none := ((e1.trans e2).trans e3).free hPm
        have S0 : St5 K H (upd H3 Pm (.lst [])) TP d Dn Pm D gs ks rw (rest0 rw) (done0 many root) [] := by
          have eG4 : Same G (upd H3 Pm (.lst [])) := e3.trans (same_new hPm)
          refine St5.start hT e1 G1 (e2.trans eG4) hd1 (e2.free hDn) ((e2.trans e3).free hPm) (hRG.keep fun b o _ h => eG4 _ _ h) ?_ upd_same (ne_of_none h3 hPm)
          rw [upd_ne (ne_of_none h3 hPm), h3]
          unfold done0
          rw [List.map_map]
          rfl
        generalize upd H3 Pm (.lst []) = G4 at S0
        refine ⟨_, rfl, many, rfl, by omega, by omega, for_range (lo := 0) (n := many.toNat) (fun i σ H' => ∃ (ρ : Int → Int × Int) (Rs : List Bool) (log : List Pay) (v5 v8 v9 v10 v11 v12 v13 v14 : Option V), σ = [some (.int many), some (.int root), some (.ref r), some (.ref D), some (.ref d), v5, some (.ref Dn), some (.ref Pm), v8, v9, v10, v11, v12, v13, v14, none] ∧
            St5 K H H' TP d Dn Pm D gs ks rw ρ Rs log ∧ Run many root ks rw i Rs ρ log) ⟨_, _, _, _, _, _, _, _, _, _, _, rfl, S0, .start⟩ ?_ ?_⟩
        · rintro i σ H5 hi ⟨ρ, Rs, log, v5, v8, v9, v10, v11, v12, v13, v14, rfl, S5, run⟩
          obtain ⟨Rl, Rroot, Rdone⟩ := run_ok r0 r1 R run
          have hlog := run_log R run
          have hlog2 : i * (2 * many.toNat) ≤ 1000 * 2000 := Nat.mul_le_mul (by omega) (by omega)
          have hst : SitOk many Rs ⟨[], (i : Int), ρ, log⟩ := sit_start hi
          refine ⟨Nat.zero_le _, fun Pa hPa => ⟨_, rfl, ?_⟩⟩
          obtain ⟨W, hW⟩ : ∃ W : Nat → L2.St → Hp → Prop, ∀ m σ H', W m σ H' ↔ ∃ (S : Sit) (Pa : Addr) (v10 v12 v13 v14 : Option V), m = left0 many S.path ∧
              σ = [some (.int many), some (.int root), some (.ref r), some (.ref D), some (.ref d), some (.int (0 + (i : Int))), some (.ref Dn), some (.ref Pm), some (.ref Pa), some (.int S.beg), v10, v11, v12, v13, v14, none] ∧
              Go ks rw Rs ⟨[], (i : Int), ρ, log⟩ S ∧ St5 K H H' TP d Dn Pm D gs ks rw S.rho Rs S.log ∧ Dp K (sans (ch4 TP d Dn Pm) H') (.ref Pa) (pathDat S.path) := ⟨_, fun _ _ _ => Iff.rfl⟩
          refine ⟨W, ⟨_, (hW _ _ _).mpr ⟨⟨[], (i : Int), ρ, log⟩, Pa, v10, v12, v13, v14, rfl, ?_, .here, S5.same (same_new hPa), .lst (.of ?_) .nil⟩⟩, ?_⟩
          · have ez : (0 + (i : Int)) = i := Int.zero_add _
            show [_, _, _, _, _, _, _, _, _, some (V.int (0 + (i : Int))), _, _, _, _, _, _] = _
            simp only [ez]
          · rw [sans_no (S5.fresh hPa), upd_same]
          · rintro m σ H6 hw6
            obtain ⟨S, Pa, v10, v12, v13, v14, rfl, rfl, go, S6, hPath⟩ := (hW _ _ _).mp hw6
            have I := go_ok R hst go
            have glog := go_log R hst go
            have b0 := I.b0
            have b1 := I.b1
            have hbl : S.beg.toNat < Rs.length := by omega
            have hat : atI (Rs.map V.bl) S.beg = some (.bl Rs[S.beg.toNat]) := atI_int b0 (by rw [List.getElem?_map, List.getElem?_eq_getElem hbl]; rfl)
            have e0 : left0 many ([] : List (List Int)) = 2 * many.toNat := by simp [left0]
            dsimp only at glog
            rw [e0] at glog
            obtain ⟨hp1, hg1⟩ := path_small I m1
            refine ⟨_, rfl, _, rfl, Dn, _, _, _, rfl, rfl, .of S6.done, hat, _, rfl, ite2 (fun c => ?_) (fun c => ?_)⟩
            · have hb : ¬ got Rs S.beg := fun z => by
                unfold got at z
                rw [List.getElem?_eq_getElem hbl] at z
                have z2 := Option.some.inj z
                rw [z2] at c
                cases c
              refine ⟨fun σ' H' => ∃ m', m' < left0 many S.path ∧ W m' σ' H', fun _ _ z => z, ?_⟩
              refine ⟨_, rfl, _, rfl, .ref Pa, S.beg, S.path, rfl, dp_same sans_same _ _ hPath, hp1, hg1, fun H7 Pb vs' gs' e7 hPb hPb' hA hW' => ?_⟩
              obtain ⟨w1, w2, w3, ⟨init, g, rfl⟩, w5⟩ := with_ok I hb hW'
              have S7 := S6.same e7
              have Gk := grp_ok I hb hW'
              obtain ⟨gb, hgb, hgB⟩ := dpAll_last hA
              have glen : g.length ≤ 1000 := by
                have := ints_le Gk.nd fun v hv => ⟨(Gk.mem v hv).1, (Gk.mem v hv).2.1⟩
                omega
              have hPath7 : Dp K (sans (ch4 TP d Dn Pm) H7) (.ref Pb) (pathDat (init ++ [g])) := .lst (.of (by
                rw [sans_no (S6.fresh hPb)]
                exact hPb')) (S7.grps_part hA)
              have hgB7 := S7.sqT_part hgB
              have hR7 := S7.roads hT hR
              refine ⟨_, rfl, _, rfl, Pb, _, _, _, rfl, rfl, .of hPb', hgb, ?_⟩
              refine ⟨_, rfl, gb, rfl, ⟨_, hgB⟩, fun En hEn => walk_tup (K := K) (a := gb) (xs := g.map V.int) (fun j H' => Same H7 H' ∧ H' En = some (.lst (((g.take j).flatMap fun m => (Into ks rw m.toNat).filter fun k => decide ((rw k).b ∉ g)).map V.int))) ⟨same_new hEn, upd_same⟩ (fun j H' _ z => sqT_same z.1 hgB) ?_ ?_⟩
              · rintro j y2 G2 hj ⟨eG, hG⟩
                obtain ⟨m, hm, rfl⟩ : ∃ u, g[j]? = some u ∧ y2 = .int u := by
                  rw [List.getElem?_map] at hj
                  cases em : g[j]? with
                  | none => rw [em] at hj; cases hj
                  | some u => rw [em] at hj; exact ⟨u, rfl, (Option.some.inj hj).symm⟩
                obtain ⟨mm0, mm1, _⟩ := Gk.mem m (List.mem_of_getElem? hm)
                have hml : m.toNat < gs.length := by omega
                have hgm : gs[m.toNat]? = some gs[m.toNat] := List.getElem?_eq_getElem hml
                have hatm : atI (gs.map V.ref) m = some (.ref gs[m.toNat]) := atI_int mm0 (by rw [List.getElem?_map, hgm]; rfl)
                have hDD := eG _ _ (sans_same _ _ S7.dd)
                have hli := eG _ _ (sans_same _ _ (S7.into _ _ hgm))
                have hpart : ((g.take j).flatMap fun m => (Into ks rw m.toNat).filter fun k => decide ((rw k).b ∉ g)).length ≤ 1000 * 1000 := by
                  refine Nat.le_trans (flatMap_le (n := 1000) fun a _ => Nat.le_trans (List.length_filter_le _ _) (Nat.le_trans (List.length_filter_le _ _) R.len)) (Nat.mul_le_mul_left _ ?_)
                  rw [List.length_take]
                  omega
                have hIl : (Into ks rw m.toNat).length ≤ 1000 := Nat.le_trans (List.length_filter_le _ _) R.len
                refine ⟨rfl, ?_⟩
                refine ⟨_, rfl, _, rfl, D, _, _, _, rfl, rfl, .of hDD, hatm, gs[m.toNat], rfl, ⟨_, .of hli⟩, walk_list (K := K) (a := gs[m.toNat]) (xs := (Into ks rw m.toNat).map V.int)
                  (fun l G3 => Same H7 G3 ∧ G3 En = some (.lst ((((g.take j).flatMap fun m => (Into ks rw m.toNat).filter fun k => decide ((rw k).b ∉ g)) ++ ((Into ks rw m.toNat).take l).filter fun k => decide ((rw k).b ∉ g)).map V.int))) ⟨eG, by rw [List.take_zero, List.filter_nil, List.append_nil]; exact hG⟩
                  (fun l G3 _ z => .of (z.1 _ _ (sans_same _ _ (S7.into _ _ hgm)))) ?_ ?_⟩
                · rintro l y3 G3 hl ⟨eG3, hG3⟩
                  obtain ⟨k, hk, rfl⟩ : ∃ u, (Into ks rw m.toNat)[l]? = some u ∧ y3 = .int u := by
                    rw [List.getElem?_map] at hl
                    cases em : (Into ks rw m.toNat)[l]? with
                    | none => rw [em] at hl; cases hl
                    | some u => rw [em] at hl; exact ⟨u, rfl, (Option.some.inj hl).symm⟩
                  have hkm := (mem_Into.mp (List.mem_of_getElem? hk)).1
                  have hR3 := hR7.same eG3
                  refine ⟨rfl, ?_⟩
                  refine ⟨_, rfl, _, rfl, r, _, rfl, hR3.dget hkm, tw k, _, _, _, rfl, rfl, hR3.has k hkm, rfl, _, rfl, gb, _, rfl, .inr (sqT_same eG3 hgB), rfl, flat_ints _, _, rfl, ite2 (fun c2 => ?_) (fun c2 => ?_)⟩
                  · have c3 : (rw k).b ∉ g := fun z => by
                      have c4 : (!inV (V.int (rw k).b) (g.map V.int)) = true := c2
                      rw [in_ints2, decide_eq_true z] at c4
                      cases c4
                    refine ⟨_, rfl, _, hG3, ?_, same_mut eG3 hEn, ?_⟩
                    · have h2 : (((Into ks rw m.toNat).take l).filter fun k => decide ((rw k).b ∉ g)).length ≤ 1000 := Nat.le_trans (List.length_filter_le _ _) (by rw [List.length_take]; omega)
                      rw [List.length_map, List.length_append]
                      exact small_lt (by omega)
                    · rw [upd_same, take_succ hk, List.filter_append, List.filter_cons, if_pos (decide_eq_true c3), List.filter_nil, ← List.append_assoc, List.map_append (l₂ := [k])]
                      rfl
                  · have c3 : (rw k).b ∈ g := by
                      by_cases z : (rw k).b ∈ g
                      · exact z
                      · refine absurd ?_ c2
                        show (!inV (V.int (rw k).b) (g.map V.int)) = true
                        rw [in_ints2, decide_eq_false z]
                        rfl
                    refine ⟨eG3, ?_⟩
                    rw [hG3, take_succ hk, List.filter_append, List.filter_cons, if_neg (by rw [decide_eq_false (fun z => z c3)]; exact Bool.noConfusion), List.filter_nil, List.append_nil]
                · rintro G3 ⟨eG3, hG3⟩
                  rw [List.length_map, List.take_length] at hG3
                  refine ⟨eG3, ?_⟩
                  rw [hG3, take_succ hm, List.flatMap_append, List.flatMap_cons, List.flatMap_nil, List.append_nil]
              · rintro H8 ⟨e8, hEnt⟩
                rw [List.length_map, List.take_length] at hEnt
                have hEnt' : H8 En = some (.lst ((Ent ks rw g).map V.int)) := hEnt
                have S8 := S7.same e8
                obtain ⟨n1, n2, n3⟩ := ent_ok R Gk Rroot hreach
                refine ⟨_, rfl, _, rfl, En, d, Ent ks rw g, ks, S.rho, rfl, .of hEnt', S8.rest, n1, n2, n3, R.len, S8.tab, fun H9 t p e9 T9 ht ht' R9 hp hmin hfst => ?_⟩
                refine ⟨t, _, rfl, .of ht', rfl, _, _, rfl, _, _, rfl, rfl, ?_⟩
                have S9 := S8.paid e9 T9 R9
                obtain ⟨pvs, hP1, hP2⟩ := S9.log
                have hpl : pvs.length = S.log.length := by rw [dpAll_len hP2, List.length_map]
                refine ⟨_, rfl, .inl ⟨rfl, _, SqL.of hP1⟩, _, rfl, _, rfl, _, rfl, (by show 3 ≤ sizeLine; decide), fun T hTn => ?_⟩
                have hpk := n3 p hp
                have S10 := S9.same (same_new (o := HO.tup [.ref gb, .int (S.rho p).1, .int p]) hTn)
                have hP10 : (upd H9 T (.tup [.ref gb, .int (S.rho p).1, .int p])) Pm = some (.lst pvs) := by
                  rw [upd_ne (ne_of_none hP1 hTn)]
                  exact hP1
                have ep10 : Same (sans (ch4 TP d Dn Pm) H9) (sans (ch4 TP d Dn Pm) (upd H9 T (.tup [.ref gb, .int (S.rho p).1, .int p]))) := ep_same (same_new hTn)
                have hgB10 := sqT_same ep10 (sqT_same (ep9 e9) (sqT_same (ep_same e8) hgB7))
                have hPath10 := dp_same ep10 _ _ (dp_same (ep9 e9) _ _ (dp_same (ep_same e8) _ _ hPath7))
                have hTT : (sans (ch4 TP d Dn Pm) (upd H9 T (.tup [.ref gb, .int (S.rho p).1, .int p]))) T = some (.tup [.ref gb, .int (S.rho p).1, .int p]) := by
                  rw [sans_no (S9.fresh hTn), upd_same]
                have S11 := S10.told (x := ⟨g, S.rho p, p⟩) (v := .ref T) hP10 (dpAll_same ep10 _ _ hP2) (.tup (.of hTT) (.cons (.tup hgB10 (dpAll_ints g)) (.cons (.int _) (.cons (.int _) .nil))))
                have hPath11 := dp_same (St5.part_put (m := ch4 TP d Dn Pm) (o := .lst (pvs ++ [.ref T])) (.inr (.inr (.inr rfl)))) _ _ hPath10
                have hR11 := S11.roads hT hR
                refine ⟨Pm, _, _, rfl, rfl, hP10, small_lt (by omega), ?_⟩
                refine ⟨_, rfl, _, rfl, r, _, rfl, hR11.dget hpk, tw p, _, _, _, rfl, rfl, hR11.has p hpk, rfl, ?_⟩
                exact ⟨_, w5, (hW _ _ _).mpr ⟨S.next ks rw (init ++ [g]) g p, Pb, _, _, _, _, rfl, rfl, .on go hb hW' hp hmin hfst, S11, hPath11⟩⟩
            · have hb : got Rs S.beg := by
                unfold got
                rw [List.getElem?_eq_getElem hbl]
                cases hz : Rs[S.beg.toNat] with
                | true => rfl
                | false => rw [hz] at c; exact absurd rfl c
              obtain ⟨_, xs, ePa, hPS, hPA⟩ := dp_list_inv hPath
              cases ePa
              have hxl : xs.length = S.path.length := by rw [dpAll_len hPA, List.length_map]
              have hlm : ∀ m ∈ S.path.flatten, m.toNat < Rs.length := fun m hm => by
                obtain ⟨a, b, _⟩ := I.mem m hm
                omega
              refine ⟨_, rfl, Pa, rfl, ⟨_, sans_same.seq hPS⟩, for_list (K := K) (a := Pa) (xs := xs) (fun j σ H' => ∃ (v10 v11 : Option V), σ = [some (.int many), some (.int root), some (.ref r), some (.ref D), some (.ref d), some (.int (0 + (i : Int))), some (.ref Dn), some (.ref Pm), some (.ref Pa), some (.int S.beg), v10, v11, v12, v13, v14, none] ∧
                St5 K H H' TP d Dn Pm D gs ks rw S.rho (mark Rs (S.path.take j).flatten) S.log ∧ Same (sans (ch4 TP d Dn Pm) H6) (sans (ch4 TP d Dn Pm) H')) ⟨_, _, rfl, S6, same_refl⟩ (fun j σ H' _ ⟨_, _, _, _, e⟩ => sans_same.seq (e.seq hPS)) ?_ ?_⟩
              · rintro j y σ H7 hj ⟨u10, u11, rfl, S7, e7⟩
                obtain ⟨dd, hdd, hy⟩ := dpAll_get' hPA hj
                obtain ⟨g, hg, rfl⟩ : ∃ g, S.path[j]? = some g ∧ dd = grpDat g := by
                  rw [List.getElem?_map] at hdd
                  cases er : S.path[j]? with
                  | none => rw [er] at hdd; cases hdd
                  | some g => rw [er] at hdd; exact ⟨g, rfl, (Option.some.inj hdd).symm⟩
                obtain ⟨b, rfl, hB⟩ := grp_inv hy
                refine ⟨_, rfl, b, rfl, ⟨_, sqT_same sans_same (sqT_same e7 hB)⟩, for_tup (K := K) (a := b) (xs := g.map V.int) (fun m σ H' => ∃ (v11 : Option V), σ = [some (.int many), some (.int root), some (.ref r), some (.ref D), some (.ref d), some (.int (0 + (i : Int))), some (.ref Dn), some (.ref Pm), some (.ref Pa), some (.int S.beg), some (.ref b), v11, v12, v13, v14, none] ∧
                  St5 K H H' TP d Dn Pm D gs ks rw S.rho (mark Rs ((S.path.take j).flatten ++ g.take m)) S.log ∧ Same (sans (ch4 TP d Dn Pm) H6) (sans (ch4 TP d Dn Pm) H')) ⟨_, rfl, by rw [List.take_zero, List.append_nil]; exact S7, e7⟩ (fun m σ H' _ ⟨_, _, _, e⟩ => sqT_same sans_same (sqT_same e hB)) ?_ ?_⟩
                · rintro m y σ H8 hm ⟨u11, rfl, S8, e8⟩
                  obtain ⟨u, hu, rfl⟩ : ∃ u, g[m]? = some u ∧ y = .int u := by
                    rw [List.getElem?_map] at hm
                    cases em : g[m]? with
                    | none => rw [em] at hm; cases hm
                    | some u => rw [em] at hm; exact ⟨u, rfl, (Option.some.inj hm).symm⟩
                  have huf : u ∈ S.path.flatten := List.mem_flatten.mpr ⟨g, List.mem_of_getElem? hg, List.mem_of_getElem? hu⟩
                  obtain ⟨u0, u1, _⟩ := I.mem u huf
                  have hset : ixN ((mark Rs ((S.path.take j).flatten ++ g.take m)).map V.bl).length u = some u.toNat := by
                    unfold ixN
                    rw [List.length_map, mark_len, if_pos u0, if_pos (by omega)]
                  refine ⟨_, rfl, _, rfl, Dn, _, _, _, rfl, rfl, S8.done, hset, ?_⟩
                  have em : ((mark Rs ((S.path.take j).flatten ++ g.take m)).map V.bl).set u.toNat (V.bl true) = (mark Rs ((S.path.take j).flatten ++ g.take (m + 1))).map V.bl := by
                    rw [take_succ hu, ← List.append_assoc, mark_app _ _ [u]]
                    show _ = (List.set _ _ true).map V.bl
                    rw [List.map_set]
                  rw [em]
                  exact ⟨_, rfl, S8.set, e8.trans (St5.part_put (.inr (.inr (.inl rfl))))⟩
                · rintro σ H8 ⟨u11, rfl, S8, e8⟩
                  rw [List.length_map, List.take_length] at S8
                  refine ⟨_, _, rfl, ?_, e8⟩
                  rw [take_succ hg, List.flatten_append]
                  simpa using S8
              · rintro σ H7 ⟨u10, u11, rfl, S7, e7⟩
                rw [hxl, List.take_length] at S7
                exact ⟨_, _, _, _, _, _, _, _, _, _, _, rfl, S7, .place run hi go hb⟩
        · rintro σ H5 ⟨ρ, Rs, log, v5, v8, v9, v10, v11, v12, v13, v14, rfl, S5, run⟩
          obtain ⟨pvs, hP1, hP2⟩ := S5.log
          exact ⟨_, rfl, q H5 Pm pvs log Rs ρ S5.keeps S5.tab nPm hP1 (dpAll_same sans_same _ _ hP2) run⟩
end
end Rc
/-! part RcT1 -/
/-! tree_paid: which roads are taken. -/
namespace Rc
open PySem PySem.Spec PyProof.Rows L2
/-- x in y, x walks whole numbers, y a captured dict -/
theorem elt_din {X : Cx} {scope : Scope} {P : Addr} {x y : Str} {σ : L2.St} {H1 : Hp} {is : List Int} {d : Addr} {kvs : List (Key × V)} {j : Nat} {p1 p2 pos : Pos} (T : GxR.TabG H1 P)
    (hk : scope.kind = .function) (hx : scope.names.lookup x = some .local) (hy : scope.names.lookup y = some .free) (hN : X.N[j]? = some y) (hs : σ[j]? = some (some (.ref d))) (hc : X.env.scope.names.lookup y = some .cell) (ed : H1 d = some (.dK kvs))
    (hm : behindInMarks .In (.Name y p2) = false) (d1 : (x == ("__debug__" : Str)) = false := by decide +kernel) (d2 : (y == ("__debug__" : Str)) = false := by decide +kernel) (d3 : (y == ("__classdict__" : Str)) = false := by decide +kernel) :
    EltOk X scope P x (.Compare (.Name x p1) [.In] [.Name y p2] pos) (is.map V.int) (fun i => (valV kvs (.inl (is.getD i 0))).isSome) σ H1 := by
  intro pins s1 I cenv A' E' i z v s₂ m₂ E hA hd hu hi rv hn hmx
  obtain ⟨n, hn', rfl⟩ : ∃ n, is[i]? = some n ∧ z = .int n := by
    rw [List.getElem?_map] at hi
    cases e : is[i]? with
    | none => rw [e] at hi; cases hi
    | some n => rw [e] at hi; exact ⟨n, rfl, (Option.some.inj hi).symm⟩
  have eD : is.getD i 0 = n := by rw [List.getD_eq_getElem?_getD, hn']; rfl
  dsimp only
  rw [eD]
  refine wpAny_Compare1 (E.loc hk hx hn hmx ?_ d1) hm
  refine E.free I T hk hN hs hc hy (fun u ru => ?_) d2 d3
  obtain rfl : u = Value.ref d := ru
  obtain ⟨z, hsm, vs, rel, dd⟩ := dk_rd I.hok (.inl ed)
  have nd : d ≠ P := by
    obtain ⟨ps, hP, _⟩ := T
    intro e
    rw [e, hP] at ed
    cases ed
  have dd2 : PySem.Heap.DictOf (mixKind X.prog X.w) s₂.heap d vs := by
    obtain ⟨o, es, ep, ho, rest⟩ := dd
    exact ⟨o, es, ep, E.keep d o nd ho, rest⟩
  refine wpAny_in_of (kV_is (k := .inl n) rv) hsm dd2.mapOf ?_
  rw [← (rel.val (.inl n)).isSome_eq]
  exact ⟨rfl, _, _, rfl, fun _ _ e => e⟩
/-- the roads taken and the places entered, behind one payment more -/
def takeOne (rw : Int → Row) (st : List Int × List Int) (x : Pay) : List Int × List Int := if (x.g.any fun v => decide (v ∈ st.2)) = true then st else (st.1 ++ [x.p], st.2 ++ [(rw x.p).g])
/-- .. behind all, from the last one back -/
def taken (rw : Int → Row) (log : List Pay) : List Int × List Int := log.reverse.foldl (takeOne rw) ([], [])
structure PayOk (ks : List Int) (rw : Int → Row) (x : Pay) : Prop where
  k : x.p ∈ ks
  g : (rw x.p).g ∈ x.g
  b : (rw x.p).b ∉ x.g
  len : x.g.length ≤ 1000
theorem taken_len {rw : Int → Row} : ∀ {xs : List Pay} {st : List Int × List Int}, (xs.foldl (takeOne rw) st).1.length ≤ st.1.length + xs.length ∧ (xs.foldl (takeOne rw) st).2.length ≤ st.2.length + xs.length
  | [], st => ⟨Nat.le_refl _, Nat.le_refl _⟩
  | x :: xs, st => by
    have ih := taken_len (rw := rw) (xs := xs) (st := takeOne rw st x)
    rw [List.foldl_cons]
    have h1 : (takeOne rw st x).1.length ≤ st.1.length + 1 ∧ (takeOne rw st x).2.length ≤ st.2.length + 1 := by
      unfold takeOne
      split
      · exact ⟨Nat.le_succ _, Nat.le_succ _⟩
      · dsimp only
        rw [List.length_append, List.length_append]
        exact ⟨Nat.le_refl _, Nat.le_refl _⟩
    rw [List.length_cons]
    omega
theorem pay_inv {K : PySem.W.Frag} {H : Hp} {v : V} {x : Pay} (h : Dp K H v x.dat) : ∃ t b, v = .ref t ∧ SqT K H t [.ref b, .int x.c.1, .int x.p] ∧ SqT K H b (x.g.map V.int) := by
  obtain ⟨t, ys, rfl, hT, hY⟩ := dp_tup_inv h
  cases hY with
  | cons h1 h2 =>
    cases h2 with
    | cons h3 h4 =>
      cases h3
      cases h4 with
      | cons h5 h6 =>
        cases h5
        cases h6
        obtain ⟨b, rfl, hb⟩ := grp_inv h1
        exact ⟨t, b, rfl, hT, hb⟩
theorem any_in {g es : List Int} : (List.range g.length).any (fun i => (valV (intD es fun _ => V.bl true) (.inl (g.getD i 0))).isSome) = g.any fun v => decide (v ∈ es) := by
  have key : ∀ v : Int, (valV (intD es fun _ => V.bl true) (.inl v)).isSome = decide (v ∈ es) := fun v => by
    by_cases h : v ∈ es
    · rw [valV_intD h, decide_eq_true h]
      rfl
    · rw [valV_intD_no h, decide_eq_false h]
      rfl
  rw [Bool.eq_iff_iff, List.any_eq_true, List.any_eq_true]
  constructor
  · rintro ⟨i, hi, h⟩
    have hl := List.mem_range.mp hi
    have e : g.getD i 0 = g[i] := by rw [List.getD_eq_getElem?_getD, List.getElem?_eq_getElem hl]; rfl
    rw [key, e] at h
    exact ⟨_, List.getElem_mem hl, h⟩
  · rintro ⟨v, hv, h⟩
    obtain ⟨i, hi⟩ := List.getElem?_of_mem hv
    have hl := (List.getElem?_eq_some_iff.mp hi).1
    refine ⟨i, List.mem_range.mpr hl, ?_⟩
    rw [key, List.getD_eq_getElem?_getD, hi]
    exact h
def ch3 (TP l d : Addr) : Addr → Prop := fun b => b = TP ∨ b = l ∨ b = d
def spTree (K : PySem.W.Frag) (TP : Addr) : Sp := fun vs H Q _ => ∃ (v : V) (r : Addr) (ks : List Int) (rw : Int → Row) (tw : Int → Addr) (log : List Pay), vs = [v, .ref r] ∧ Dp K H v (.list (log.map Pay.dat)) ∧ RoadsAt K H r ks rw tw ∧ log.length ≤ 3000000 ∧ (∀ x ∈ log, PayOk ks rw x) ∧ GxR.TabG H TP ∧
  ∀ H' p (ns : List Int), Tabd (at1 TP) H H' → H p = none → H' p = some (.lst (ns.map V.int)) → ns.Perm (taken rw log).1 → ns.Pairwise (· ≤ ·) → Q (.ref p) H'
section
variable {P : Program} {w : World} {K : PySem.W.Frag} {mg : Str → Option Value} {base : Heap}
theorem ok_tree {f c TP : Addr} {fd : FuncData} {k : Nat} (F : FunT K "tree_paid" "tree_paid" s_tree_paid f fd c) (rv : mg "reversed" = none) (an : mg "any" = none) (so : mg "sorted" = none) (TB : GxR.TabB base mg c TP) :
    FnOk P w K mg base CX0 (k + 1) f fd ["payments", "roads"] (spTree K TP) := by
  refine F.ok sc_tree_paid (fun vs H Q E h => ?_) (fun A outer s H vs Q E hr h => ?_)
  · obtain ⟨v, r, ks, rw, tw, log, rfl, _⟩ := h
    rfl
  · obtain ⟨v, r, ks, rw, tw, log, rfl, hV, hR, hlog, hok, hTG, q⟩ := h
    have hu : (A.deeper (envOfC "tree_paid" (defScope s_tree_paid) s.heap.objs.size f (.ref c))).units + 1 < cLine := by
      have := hr.un
      omega
    refine ⟨_, (pss_cons (ps_set (i := 2) sc_tree_paid.nd rfl (Or.inl rfl) (pe_lst pa_nil))
  (pss_cons (ps_set (i := 6) sc_tree_paid.nd rfl (Or.inr rfl) pe_dnewK)
  (pss_cons (ps_for PassesOwn.never rfl (pi_reversed (by rfl) rv (pa_cons (pv 0) pa_nil)) (pg_tup (by rfl) (pgs_cons (pg_name (i := 3) sc_tree_paid.nd rfl (Or.inl rfl)) (pgs_cons (pg_name (i := 4) sc_tree_paid.nd rfl (Or.inl rfl)) (pgs_cons (pg_name (i := 5) sc_tree_paid.nd rfl (Or.inl rfl)) pgs_nil))))
   (pss_one (ps_if (pt_not (pt_val (pe_anyQ (c := c) (P := TP) hr (by rfl) an TB rfl (genS_cx (by decide +kernel)) (pv 3))))
   (pss_cons (ps_expr (pe_bm PySem.F.plainAttrs_list PySem.F.slot_list_append PySem.F.type_list_append mt_append (pv 2) (pa_cons (pv 5) pa_nil)))
  (pss_one (ps_dput hu (pv 6) (pe_ix ix_tup (pe_dget hu (pv 1) (pv 5) (fun _ _ => rfl)) pe_int (fun _ _ => rfl)) pe_bl (by rfl))))
   pss_nil)))
  (pss_one (ps_ret (pe_callB cr_sortedI (by rfl) so (by decide +kernel) (pa_cons (pv 2) pa_nil))))))), ?_⟩
    obtain ⟨a, pvs, rfl, hS, hA⟩ := dp_list_inv hV
    have hpl : pvs.length = log.length := by rw [dpAll_len hA, List.length_map]
    have hm : ∀ b, at1 TP b → GxR.TabG H b := fun b (e : b = TP) => e ▸ hTG
    have hS0 : SqL K (sans (at1 TP) H) a pvs := sqL_sans hm hS
    have hA0 := dpAll_sans hm _ _ hA
    have hR0 := hR.sans hm
    refine ⟨Nat.zero_le _, fun l hl => fun d hd => ?_⟩
    have nld : l ≠ d := fun e => by rw [← e, upd_same] at hd; cases hd
    have hd0 : H d = none := by rw [upd_ne (Ne.symm nld)] at hd; exact hd
    have tP : ∃ ps, H TP = some (.tbl ps) := by
      obtain ⟨ps, z, _⟩ := hTG
      exact ⟨ps, z⟩
    have nTl : TP ≠ l := by obtain ⟨ps, z⟩ := tP; exact ne_of_none z hl
    have nTd : TP ≠ d := by obtain ⟨ps, z⟩ := tP; exact ne_of_none z hd0
    refine ⟨_, rfl, a, pvs, rfl, ((same_new hl).trans (same_new hd)).seq hS, for_it L2.walk_rev (fun i σ H' => ∃ (v3 v4 v5 : Option V) (st : List Int × List Int), σ = [some (.ref a), some (.ref r), some (.ref l), v3, v4, v5, some (.ref d)] ∧ Same (sans (at1 TP) H) (sans (ch3 TP l d) H') ∧ GxR.TabG H' TP ∧
        H' l = some (.lst (st.1.map V.int)) ∧ H' d = some (.dK (intD st.2 fun _ => V.bl true)) ∧ st = (log.reverse.take i).foldl (takeOne rw) ([], []))
      ⟨_, _, _, ([], []), rfl, ?_, ?_, ?_, upd_same, rfl⟩ ?_ ?_ ?_⟩
    · intro b o h
      by_cases z : b = TP
      · rw [sans_at (show at1 TP b from z)] at h
        cases h
      · rw [sans_no (show ¬ at1 TP b from z)] at h
        rw [sans_no]
        · exact ((same_new hl).trans (same_new hd)) _ _ h
        · intro y
          rcases y with y | y | y
          · exact z y
          · rw [y, hl] at h; cases h
          · rw [y, hd0] at h; cases h
    · obtain ⟨ps, z, t⟩ := hTG
      exact ⟨ps, ((same_new hl).trans (same_new hd)) _ _ z, t⟩
    · rw [upd_ne nld, upd_same]
      rfl
    · rintro i σ H' _ ⟨_, _, _, _, _, e, _⟩
      exact sans_same.seq (e.seq hS0)
    · rintro i x σ H1 H2 hi ⟨v3, v4, v5, st, rfl, e, T1, h1, h2, hst⟩ ⟨rfl, hx⟩
      have hrev : log.reverse[i]? = log[log.length - 1 - i]? := List.getElem?_reverse (by omega)
      obtain ⟨dd, hdd, hxd⟩ := dpAll_get' hA0 hx
      obtain ⟨y, hy, rfl⟩ : ∃ y, log[log.length - 1 - i]? = some y ∧ dd = y.dat := by
        rw [List.getElem?_map, hpl] at hdd
        cases er : log[log.length - 1 - i]? with
        | none => rw [er] at hdd; cases hdd
        | some u => rw [er] at hdd; exact ⟨u, rfl, (Option.some.inj hdd).symm⟩
      have hyok := hok y (List.mem_of_getElem? hy)
      obtain ⟨t, b, rfl, hT, hB⟩ := pay_inv (dp_same e _ _ hxd)
      have hT1 := sqT_same sans_same hT
      have hB1 := sqT_same sans_same hB
      have hst' : (log.reverse.take (i + 1)).foldl (takeOne rw) ([], []) = takeOne rw st y := by
        rw [take_succ (hrev.trans hy), List.foldl_append, ← hst]
        rfl
      have hlen := taken_len (rw := rw) (xs := log.reverse.take i) (st := ([], []))
      rw [← hst, List.length_take, List.length_reverse] at hlen
      simp only [List.length_nil] at hlen
      refine ⟨t, _, rfl, hT1, rfl, _, _, rfl, _, _, rfl, _, _, rfl, rfl, ?_⟩
      refine ⟨_, rfl, b, _, _, rfl, .inr hB1, elt_din (j := 6) T1 rfl (by decide +kernel) (by decide +kernel) rfl rfl (show (defScope s_tree_paid).names.lookup ("entered" : Str) = some NameKind.cell by decide +kernel) h2 (by rfl), T1, fun H3 t3 => ⟨_, rfl, ?_⟩⟩
      rw [List.length_map, any_in]
      have nl3 : l ≠ TP := Ne.symm nTl
      have nd3 : d ≠ TP := Ne.symm nTd
      have h13 : H3 l = some (.lst (st.1.map V.int)) := (t3.2 l nl3).trans h1
      have h23 : H3 d = some (.dK (intD st.2 fun _ => V.bl true)) := (t3.2 d nd3).trans h2
      have e3 : Same (sans (ch3 TP l d) H2) (sans (ch3 TP l d) H3) := part_same fun c o n h => (t3.2 c fun z => n (.inl z)).trans h
      refine ite2 (fun cc => ?_) (fun cc => ?_)
      · have cf : ¬ (y.g.any fun v => decide (v ∈ st.2)) = true := by
          intro z
          rw [z] at cc
          cases cc
        have hT' : takeOne rw st y = (st.1 ++ [y.p], st.2 ++ [(rw y.p).g]) := if_neg cf
        have hnew : (rw y.p).g ∉ st.2 := fun z => cf (List.any_eq_true.mpr ⟨_, hyok.g, decide_eq_true z⟩)
        refine ⟨_, rfl, .inl ⟨rfl, _, SqL.of h13⟩, _, rfl, l, _, _, rfl, rfl, h13, by rw [List.length_map]; exact small_lt (by omega), ?_⟩
        have e4 : Same (sans (ch3 TP l d) H3) (sans (ch3 TP l d) (upd H3 l (.lst (st.1.map V.int ++ [.int y.p])))) := part_same fun c o n h => by
          rw [upd_ne (show c ≠ l from fun z => n (.inr (.inl z)))]
          exact h
        have h24 : (upd H3 l (.lst (st.1.map V.int ++ [.int y.p]))) d = some (.dK (intD st.2 fun _ => V.bl true)) := by
          rw [upd_ne (Ne.symm nld)]
          exact h23
        have hR4 := (hR0.same (((e.trans e3).trans e4))).same sans_same
        refine ⟨_, rfl, _, rfl, _, rfl, r, _, rfl, hR4.dget hyok.k, tw y.p, _, _, _, rfl, rfl, hR4.has _ hyok.k, rfl, d, _, rfl, DPut.k (k := .inl (rw y.p).g) h24 (by rw [intD_len]; exact small_lt (by omega)), ?_⟩
        refine ⟨_, _, _, takeOne rw st y, rfl, ((e.trans e3).trans e4).trans (part_same fun c o n h => by
          rw [upd_ne (show c ≠ d from fun z => n (.inr (.inr z)))]
          exact h), ?_, ?_, ?_, hst'.symm⟩
        · obtain ⟨ps, z, tr⟩ := t3.1
          exact ⟨ps, by rw [upd_ne nTd, upd_ne nTl]; exact z, tr⟩
        · rw [hT', upd_ne nld, upd_same, List.map_append]
          rfl
        · rw [hT', upd_same, putK_intD_new hnew]
          congr 3
          funext j
          split <;> rfl
      · have ct : (y.g.any fun v => decide (v ∈ st.2)) = true := by
          cases z : (y.g.any fun v => decide (v ∈ st.2)) with
          | true => rfl
          | false => rw [z] at cc; exact absurd rfl cc
        have hT' : takeOne rw st y = st := if_pos ct
        exact ⟨_, _, _, st, rfl, e.trans e3, t3.1, h13, h23, by rw [hst', hT']⟩
    · rintro σ H1 ⟨v3, v4, v5, st, rfl, e, T1, h1, h2, hst⟩
      rw [hpl, show log.length = log.reverse.length from (List.length_reverse).symm, List.take_length] at hst
      refine ⟨_, rfl, l, st.1, rfl, .of h1, fun ns p hperm hup hp => ?_⟩
      have hst2 : (taken rw log).1 = st.1 := by rw [hst]; rfl
      have nT1 : ∀ b o, b ≠ TP → H b = some o → H1 b = some o := fun b o n h => sans_same _ _ (e _ _ (by rw [sans_no (show ¬ at1 TP b from n)]; exact h))
      have pT : p ≠ TP := fun z => by
        obtain ⟨ps, y, _⟩ := T1
        rw [z, y] at hp
        cases hp
      refine q _ p ns ⟨fun b o n h => ?_, fun b hb => ?_⟩ ?_ upd_same (by rw [hst2]; exact hperm) hup
      · have := nT1 b o n h
        rw [upd_ne (ne_of_none this hp)]
        exact this
      · obtain rfl : b = TP := hb
        obtain ⟨ps, y, tr⟩ := T1
        exact ⟨ps, by rw [upd_ne (Ne.symm pT)]; exact y, tr⟩
      · cases hz : H p with
        | none => rfl
        | some o =>
          have := nT1 p o pT hz
          rw [hp] at this
          cases this
end
end Rc
/-! part RcW -/
/-! Prices of sets of places, and what they show of every tree. -/
namespace Rc
open PySem PySem.Spec PyProof.Rows L2
/-- a set of places and its price -/
structure Pr where
  g : List Int
  p : Int
def Pr.dat (x : Pr) : PyData := .tuple [.tuple (x.g.map .int), .int x.p]
def pricesDat (ps : List Pr) : PyData := .list (ps.map Pr.dat)
def enters (r : Row) (x : Pr) : Bool := decide (r.g ∈ x.g) && !decide (r.b ∈ x.g)
/-- what the sets come to that the road enters -/
def entered (ps : List Pr) (r : Row) : Int := ((ps.filter (enters r)).map Pr.p).sum
def allOf (ps : List Pr) : Int := (ps.map Pr.p).sum
structure PriceOk (n root : Int) (x : Pr) : Prop where
  p0 : 0 ≤ x.p
  ne : x.g ≠ []
  rt : root ∉ x.g
  inr : ∀ v ∈ x.g, 0 ≤ v ∧ v < n
/-- the document's four sentences -/
structure Shown (n root : Int) (rows : List Row) (whole : Int) (ps : List Pr) : Prop where
  each : ∀ x ∈ ps, PriceOk n root x
  road : ∀ r ∈ rows, entered ps r ≤ r.c
  all : whole ≤ allOf ps
theorem pr_inv {K : PySem.W.Frag} {H : Hp} {v : V} {x : Pr} (h : Dp K H v x.dat) : ∃ t b, v = .ref t ∧ SqT K H t [.ref b, .int x.p] ∧ SqT K H b (x.g.map V.int) := by
  obtain ⟨t, ys, rfl, hT, hY⟩ := dp_tup_inv h
  cases hY with
  | cons h1 h2 =>
    cases h2 with
    | cons h3 h4 =>
      cases h3
      cases h4
      obtain ⟨b, zs, rfl, hB, hZ⟩ := dp_tup_inv h1
      rw [dpAll_ints_inv hZ] at hB
      exact ⟨t, b, rfl, hT, hB⟩
theorem reach_enters {rows : List Row} {root v : Int} {x : Pr} (hr : root ∉ x.g) (h : Reach rows root v) (hv : v ∈ x.g) : ∃ r ∈ rows, enters r x = true := by
  induction h with
  | root => exact absurd hv hr
  | @step r hm p ih =>
    by_cases hb : r.b ∈ x.g
    · exact ih hb
    · exact ⟨r, hm, by unfold enters; rw [decide_eq_true hv, decide_eq_false hb]; rfl⟩
theorem sum_le_sum {α : Type} (f g : α → Int) : ∀ l : List α, (∀ a ∈ l, f a ≤ g a) → (l.map f).sum ≤ (l.map g).sum
  | [], _ => Int.le_refl _
  | a :: l, h => by
    rw [List.map_cons, List.map_cons, List.sum_cons, List.sum_cons]
    have := sum_le_sum f g l fun b hb => h b (List.mem_cons_of_mem _ hb)
    have := h a List.mem_cons_self
    omega
/-- the price of one set, for each road that enters it -/
theorem one_le {rows : List Row} {x : Pr} (p0 : 0 ≤ x.p) : ∀ (l : List Row), (∃ r ∈ l, enters r x = true) → x.p ≤ (l.map fun r => if enters r x = true then x.p else 0).sum
  | [], ⟨r, h, _⟩ => nomatch h
  | a :: l, ⟨r, h, e⟩ => by
    rw [List.map_cons, List.sum_cons]
    have nn : ∀ l : List Row, 0 ≤ (l.map fun r => if enters r x = true then x.p else 0).sum := fun l => by
      have := sum_le_sum (fun _ => 0) (fun r => if enters r x = true then x.p else 0) l fun b _ => by
        show 0 ≤ if enters b x = true then x.p else 0
        split
        · exact p0
        · exact Int.le_refl _
      have z : ∀ l : List Row, (l.map fun _ => (0 : Int)).sum = 0 := fun l => by
        induction l with
        | nil => rfl
        | cons a l ih => rw [List.map_cons, List.sum_cons, ih]; rfl
      rw [z] at this
      exact this
    have := nn l
    rcases List.mem_cons.mp h with q | q
    · subst q
      rw [if_pos e]
      omega
    · have ih := one_le (rows := rows) p0 l ⟨r, q, e⟩
      split
      · omega
      · omega
theorem entered_eq (ps : List Pr) (r : Row) : entered ps r = (ps.map fun x => if enters r x = true then x.p else 0).sum := by
  unfold entered
  induction ps with
  | nil => rfl
  | cons x ps ih =>
    rw [List.map_cons, List.sum_cons, List.filter_cons]
    split
    · rw [List.map_cons, List.sum_cons, ih]
    · rw [ih]
      omega
theorem sum_swap (ps : List Pr) : ∀ l : List Row, (l.map fun r => (ps.map fun x => if enters r x = true then x.p else 0).sum).sum = (ps.map fun x => (l.map fun r => if enters r x = true then x.p else 0).sum).sum
  | [] => by
    simp only [List.map_nil, List.sum_nil]
    induction ps with
    | nil => rfl
    | cons x ps ih => rw [List.map_cons, List.sum_cons, ← ih]; rfl
  | r :: l => by
    rw [List.map_cons, List.sum_cons, sum_swap ps l]
    have add : ∀ (f g : Pr → Int) (ps : List Pr), (ps.map f).sum + (ps.map g).sum = (ps.map fun x => f x + g x).sum := fun f g ps => by
      induction ps with
      | nil => rfl
      | cons x ps ih => rw [List.map_cons, List.map_cons, List.map_cons, List.sum_cons, List.sum_cons, List.sum_cons, ← ih]; omega
    rw [add]
    congr 1
theorem cost_pick (rows : List Row) (is : List Int) : costOf rows is = ((pick rows is).map Row.c).sum := by
  unfold costOf pick
  rw [List.map_map]
  congr 1
  refine List.map_congr_left fun i _ => ?_
  show ((rows[i.toNat]?).map Row.c).getD 0 = ((rows[i.toNat]?).getD ⟨0, 0, 0⟩).c
  cases rows[i.toNat]? <;> rfl
/-- no tree costs less than what is shown -/
theorem shown_le {n root whole : Int} {rows : List Row} {ps : List Pr} {is : List Int} (S : Shown n root rows whole ps) (t : IsTree n root rows is) : whole ≤ costOf rows is := by
  obtain ⟨_, rok, hr⟩ := t
  have h1 : ((pick rows is).map fun r => entered ps r).sum ≤ ((pick rows is).map Row.c).sum := sum_le_sum _ _ _ fun r hrm => by
    obtain ⟨i, hi, e⟩ := List.mem_map.mp hrm
    obtain ⟨i0, i1⟩ := rok i hi
    have hl : i.toNat < rows.length := by omega
    rw [List.getElem?_eq_getElem hl] at e
    have e' : rows[i.toNat] = r := e
    rw [← e']
    exact S.road _ (List.getElem_mem hl)
  have h2 : allOf ps ≤ ((pick rows is).map fun r => entered ps r).sum := by
    have e : (fun r => entered ps r) = fun r => (ps.map fun x => if enters r x = true then x.p else 0).sum := funext (entered_eq ps)
    rw [e, sum_swap]
    refine sum_le_sum _ _ _ fun x hx => ?_
    have ok := S.each x hx
    obtain ⟨v, hv⟩ := List.exists_mem_of_ne_nil _ ok.ne
    obtain ⟨v0, v1⟩ := ok.inr v hv
    exact one_le (rows := rows) ok.p0 _ (reach_enters ok.rt (hr v v0 v1) hv)
  have := S.all
  rw [cost_pick]
  omega
end Rc
/-! part RcF1 -/
/-! {left}, a list of whole numbers, in an f-string: some bounded text. -/
namespace Rc
open PySem PySem.Sem PySem.Spec PyProof.Rows L2
section
variable {M : Model} {A : Around} {E : Value → Shared → Prop} {s : Shared}
theorem list_head_any {Q : Fin → Shared → Prop} {a : Addr} {o : Obj} {x : Value} {l : List Value} {n b : Nat} (hget : s.heap.get? a = some o) (hd : o.data = .seq (x :: l).toArray n)
    (h1 : wpAny M A (do rule "list.__repr__.in-itself"; retStr "[...]") Q E s)
    (h2 : wpAny M A (do again (.builtin "list.__repr__.loop" ⟨[.ref a, rawInt 0, ← newList [], rawInt b], []⟩)) Q E s) : wpAny M A (Builtin.listReprAt b ⟨[.ref a], []⟩) Q E s := by
  intro Γ p hΓ
  have g1 := h1 Γ p hΓ
  have g2 := h2 Γ p hΓ
  unfold Builtin.listReprAt
  simp [slotArgs, Builtin.List.listItems, seqItems?, wp_load_of (h := hget), hd, PySem.stack]
  show wp M Γ (if (Γ.below.any _) = true then _ else _) _ _ p s
  split
  · exact g1
  · exact g2
end
theorem repr_at {prog : Program} {w : World} : ∀ {l : List Value} {ts : List Str}, ReprAll prog w l ts → ∀ (i : Nat) (y : Value), l.toArray[i]? = some y → ∃ t, ts[i]? = some t ∧ ReprIs prog w y t
  | _, _, .nil, i, y, h => by simp at h
  | _, _, .cons h1 h2, 0, y, h => by
    simp at h
    subst h
    exact ⟨_, rfl, h1⟩
  | _, _, .cons h1 h2, i + 1, y, h => by
    obtain ⟨t, e, q⟩ := repr_at h2 i y (by simpa using h)
    exact ⟨t, by simpa using e, q⟩
section
variable {prog : Program} {w : World} {A : Around} {E : Value → Shared → Prop} {s : Shared}
theorem list_repr_any {a : Addr} {oa : Obj} {na : Nat} {items : List Value} {ts : List Str} {Q : Value → Shared → Prop} (hTy : s.TypeIs (.ref a) "list") (ha : s.heap.get? a = some oa) (hda : oa.data = .seq items.toArray na) (hT : ReprAll prog w items ts)
    (hsz : (listText ts).length ≤ sizeLine) (hQ : ∀ (m : Str) (u : Tok) (h' : Heap) (tk : Tok), m.length ≤ (listText ts).length + 5 → (∀ b o, s.heap.get? b = some o → h'.get? b = some o) → Q (.str m u) { s with heap := h', toks := tk }) :
    wpAny (model prog w) A (call (.builtin "list.__repr__") [.ref a]) Q E s := by
  refine wpAny_call (codeAny_call_builtin F.slot_list_repr.plain F.entry_list_repr (F.slot_list_repr.check _ _ _ _ _ _ _ _ hTy (F.args_list_repr_1 _) ?_))
  cases items with
  | nil =>
    refine wpAny_list_repr_empty (b := 0) ha hda ?_
    have l2 : ("[]" : Str).length = 2 := by decide +kernel
    exact hQ "[]" _ s.heap _ (by omega) fun _ _ e => e
  | cons x l =>
    refine list_head_any (b := 0) ha hda ?_ ?_
    · have l5 : ("[...]" : Str).length = 5 := by decide +kernel
      refine wpAny_bind (wpAny_rule ?_)
      refine wpAny_bind (wpAny_mkStr (wpAny_pure ?_) (by decide +kernel))
      exact hQ "[...]" _ s.heap _ (by omega) fun _ _ e => e
    · refine wpAny_bind (m := newList []) (wpAny_newObj_type (wpAny_pure ⟨F.quiet_list_repr_loop _, ?_⟩))
      refine codeAny_list_repr_start (b := 0) (ts := ts) (P := s.heap.objs.size) (Nat.ne_of_lt (Heap.lt_size ha)) (by rw [hT.length_eq]; simp) (repr_at hT) (Heap.get?_push_of_some _ ha) hda (Heap.get?_push_size _ rfl) (fun h' u tk hk => ?_) (by omega)
      exact hQ _ _ h' tk (by omega) fun b o e => hk b o (Nat.ne_of_lt (Heap.lt_size e)) (Heap.get?_push_of_some _ e)
end
section
variable {X : Cx}
theorem reprs_int {prog : Program} {w : World} : ∀ {ns : List Int} {its : List Value}, Vals (ns.map V.int) its → (∀ n ∈ ns, n.natAbs < 10 ^ 12) → ReprAll prog w its (ns.map fun n => (toString n : String))
  | [], _, r, _ => by
    cases r
    exact .nil
  | n :: ns, _, r, h => by
    cases r with
    | cons r1 r2 =>
      obtain ⟨t, rfl⟩ := r1
      refine .cons (ReprIs.int t ?_) (reprs_int r2 fun z hz => h z (List.mem_cons_of_mem _ hz))
      have h1 := h n List.mem_cons_self
      by_cases z : n.natAbs = 0
      · rw [z]
        decide
      · exact (Nat.log2_lt z).mpr (Nat.lt_trans h1 (Nat.lt_of_lt_of_le (by decide : 10 ^ 12 < 2 ^ 40) (Nat.pow_le_pow_right (by decide) (by decide))))
theorem texts_len : ∀ {ns : List Int}, (∀ n ∈ ns, n.natAbs < 10 ^ 12) → ((ns.map fun n => ((toString n : String) : Str)).map (·.length)).sum ≤ 13 * ns.length
  | [], _ => Nat.zero_le _
  | n :: ns, h => by
    have ih := texts_len fun z hz => h z (List.mem_cons_of_mem _ hz)
    have h1 := int_text_length_le10 (a := n) (k := 12) (by decide) (h n List.mem_cons_self)
    have h2 : (((toString n : String) : Str)).length ≤ 13 := by
      show (Str.ofString (toString n)).length ≤ 13
      rw [PySem.ofString_length]
      exact h1
    rw [List.map_cons, List.map_cons, List.sum_cons, List.length_cons]
    omega
/-- {x}, x a list of whole numbers: some text, not too long -/
def tFmtL (K : PySem.W.Frag) (te : TE) : TE := fun σ H Q => te σ H fun x H1 => ∃ (a : Addr) (ns : List Int), x = .ref a ∧ SqL K H1 a (ns.map V.int) ∧ (∀ n ∈ ns, n.natAbs < 10 ^ 12) ∧ ns.length ≤ 1000 ∧ ∀ m : Str, m.length ≤ 20000 → Q (.str m) H1
theorem pe_fmtL {e : Expr} {te : TE} {pos : Pos} (hu : X.A.units + 2 < cLine) (he : PE X e te) : PE X (.FormattedValue e (-1) none pos) (tFmtL X.K te) := by
  refine ⟨fun pins s σ H Q I h => ?_⟩
  refine wpAny_FormattedValue_plain (thn (he.run pins s σ H _ I h) fun v s1 hv => ?_)
  obtain ⟨x, H1, I1, r1, a, ns, rfl, hs, hb, hl, q⟩ := hv
  cases r1
  obtain ⟨its, rv, pl, _⟩ := I1.list hs
  obtain ⟨o, ho, hcl, n, hd⟩ := pl.isList
  have hT := reprs_int (prog := X.prog) (w := X.w) rv hb
  have ht := listText_len_le (ns.map fun n => ((toString n : String) : Str))
  have h13 := texts_len hb
  rw [List.length_map] at ht
  refine wpAny_formatField_slot (fun _ _ => nofun) hu ⟨o, ho, hcl⟩ F.slot_list_format F.slot_list_str F.slot_list_repr.toG ?_
  refine list_repr_any (s := { s1 with toks := s1.toks + 1 }) ⟨o, ho, hcl⟩ ho hd hT (small_line (by omega)) fun m u h' tk hm hk => ⟨m, u, rfl, ?_⟩
  exact ⟨.str m, H1, I1.kept (t' := tk) hk, ⟨u, rfl⟩, q m (by omega)⟩
end
end Rc
/-! part RcN1 -/
/-! NoTree: its making, its raising. -/
namespace Rc
open PySem PySem.Spec PyProof.Rows L2
structure TxtO (K : PySem.W.Frag) (mg : Str → Option Value) (B R : Addr) : Prop where
  ox : OexC K B
  nL : PySem.W.findIn K (.ref B) "left" = some none
  mgB : mg "NoTree" = some (.ref B)
  ini : IniC K R
  mgR : mg "RootError" = some (.ref R)
  list : mg "list" = none
def spNoT (K : PySem.W.Frag) (B : Addr) : Sp := fun vs H Q _ => ∃ (a b : Addr) (ns : List Int), vs = [.ref a, .ref b] ∧ H a = some (exo a B none) ∧ SqL K H b (ns.map V.int) ∧ ns.length ≤ 1000 ∧ (∀ n ∈ ns, n.natAbs < 10 ^ 12) ∧
  ∀ l d, H l = none → (upd H l (.lst (ns.map V.int))) d = none → d ≠ a → Q .non (upd (upd (upd H l (.lst (ns.map V.int))) d (exd d [("left", .ref l)])) a (exo a B (some d)))
def HasO (P : Program) (w : World) (K : PySem.W.Frag) (mg : Str → Option Value) (base : Heap) (B : Addr) (k : Nat) : Prop :=
  ∃ (f : Addr) (fd : FuncData), PySem.W.findIn K (.ref B) "__init__" = some (some (.ref f)) ∧ PySem.W.typeIn K (.ref f) = some (.type "function") ∧ Binds K fd ["self", "left"] [] ∧ FnOk P w K mg base CX0 k f fd ["self", "left"] (spNoT K B)
section
variable {P : Program} {w : World} {K : PySem.W.Frag} {mg : Str → Option Value} {base : Heap}
theorem ok_notree {f B R : Addr} {fd : FuncData} {k : Nat} (F : Fun K "__init__" "NoTree.__init__" s_NoTree___init__ f fd) (T : TxtO K mg B R) : FnOk P w K mg base CX0 (k + 1) f fd ["self", "left"] (spNoT K B) := by
  refine F.ok sc_NoTree___init__ (fun vs H Q E h => ?_) (fun cdv A outer s H vs Q E hr h => ?_)
  · obtain ⟨a, b, ns, rfl, _⟩ := h
    rfl
  · obtain ⟨a, b, ns, rfl, ha, hS, hl, hb, q⟩ := h
    have hu : (A.deeper (envOfC "NoTree.__init__" (defScope s_NoTree___init__) s.heap.objs.size f cdv)).units + 2 < cLine := by have := hr.un; omega
    refine ⟨_, (pss_cons (ps_expr (pe_rinit T.ini (by rfl) T.mgR (pa_cons (pv 0) (pa_cons (pe_joined (.cons pe_str (.cons (pe_fmtL hu (pv 1)) .nil))) pa_nil))))
  (pss_one (ps_ost (pv 0) (pe_callTy call_list_of (by rfl) T.list (by decide +kernel) (pa_cons (pv 1) pa_nil))))), ?_⟩
    have e1 : ("no roads lead from the root to " : Str).length = 31 := by decide +kernel
    have e0 : Str.empty.length = 0 := by decide +kernel
    refine ⟨_, rfl, _, rfl, small_line ?_, _, rfl, b, ns, rfl, hS, hb, hl, fun m hm => ⟨m, rfl, small_line ?_, ?_⟩⟩
    · rw [Str.length_append, e0, e1]
      decide
    · rw [Str.length_append, Str.length_append, e0, e1]
      omega
    · refine ⟨a, B, _, rfl, (by show 1 ≤ 1000; decide), T.ox, ha, ?_⟩
      refine ⟨_, rfl, b, _, rfl, .inl hS, fun l hln => ?_⟩
      have nal : a ≠ l := ne_of_none ha hln
      exact ⟨_, rfl, a, B, rfl, T.ox, T.nL, .inl ⟨by rw [upd_ne nal]; exact ha, fun d hd ne => q l d hln hd ne⟩⟩
/-- NoTree(left), to be raised -/
theorem mk_notree {B b : Addr} {H : Hp} {ns : List Int} {Q : XK} (hS : SqL K H b (ns.map V.int)) (hl : ns.length ≤ 1000) (hb : ∀ n ∈ ns, n.natAbs < 10 ^ 12) (q : ∀ d l H', Same H H' → H d = none → H l = none → H' d = some (.xd [("left", .ref l)]) → H' l = some (.lst (ns.map V.int)) → Q (.ref B) (some d) H') :
    [V.ref b].length ≤ 1000 ∧ ∀ a, H a = none → spNoT K B (.ref a :: ([V.ref b] ++ [])) (upd H a (exo a B none))
      (fun v H2 => v = .non ∧ ∃ (d : Addr) (fs : List (Str × V)), H2 a = some (exo a B (some d)) ∧ H2 d = some (exd d fs) ∧ H d = none ∧ Q (.ref B) (some d) (upd (del H2 a) d (.xd fs))) (fun _ _ _ => False) := by
  refine ⟨(by show 1 ≤ 1000; decide), fun a ha => ⟨a, b, ns, rfl, upd_same, (same_new ha).seq hS, hl, hb, fun l d hln hd ne => ⟨rfl, d, [("left", .ref l)], upd_same, ?_, ?_, ?_⟩⟩⟩
  · rw [upd_ne ne, upd_same]
  · have : d ≠ l := fun z => by rw [z, upd_same] at hd; cases hd
    rw [upd_ne this, upd_ne ne] at hd
    exact hd
  · have ndl : d ≠ l := fun z => by rw [z, upd_same] at hd; cases hd
    have nla : l ≠ a := fun z => by rw [z, upd_same] at hln; cases hln
    have hd0 : H d = none := by
      rw [upd_ne ndl, upd_ne ne] at hd
      exact hd
    have hl0 : H l = none := by
      rw [upd_ne nla] at hln
      exact hln
    refine q d l _ (fun x o e => ?_) hd0 hl0 upd_same ?_
    · have n1 : x ≠ d := ne_of_none e hd0
      have n2 : x ≠ a := ne_of_none e ha
      have n3 : x ≠ l := ne_of_none e hl0
      rw [upd_ne n1, del_ne n2, upd_ne n2, upd_ne n1, upd_ne n3, upd_ne n2]
      exact e
    · rw [upd_ne (Ne.symm ndl), del_ne nla, upd_ne nla, upd_ne (Ne.symm ndl), upd_same]
end
end Rc
/-! part RcT2 -/
/-! cheapest_among, cheapest: what they lean on. -/
namespace Rc
open PySem PySem.Spec PyProof.Rows L2
/-- a payment's group, within the map and without the root -/
structure PayOk2 (many root : Int) (ks : List Int) (rw : Int → Row) (x : Pay) : Prop extends PayOk ks rw x where
  ne : x.g ≠ []
  nd : x.g.Nodup
  mem : ∀ v ∈ x.g, 0 ≤ v ∧ v < many
  rt : root ∉ x.g
theorem go_pays {many root : Int} {ks : List Int} {rw : Int → Row} {D : List Bool} {S0 S : Sit} (m1 : many ≤ 1000) (R : RdOk many ks rw) (I : SitOk many D S0) (hroot : got D root) (h0 : ∀ x ∈ S0.log, PayOk2 many root ks rw x) (h : Go ks rw D S0 S) : ∀ x ∈ S.log, PayOk2 many root ks rw x := by
  induction h with
  | here => exact h0
  | @on S1 init g p h hb hw hp hm hf ih =>
    intro x hx
    rcases List.mem_append.mp (show x ∈ S1.log ++ [⟨g, S1.rho p, p⟩] from hx) with z | z
    · exact ih x z
    · rw [List.mem_singleton.mp z]
      have G := grp_ok (go_ok R I h) hb hw
      obtain ⟨h1, h2, h3⟩ := (mem_Ent fun m hm => (G.mem m hm).1).mp hp
      have hl := ints_le G.nd fun v hv => ⟨(G.mem v hv).1, (G.mem v hv).2.1⟩
      exact ⟨⟨h1, h2, h3, by show g.length ≤ 1000; omega⟩, G.ne, G.nd, fun v hv => ⟨(G.mem v hv).1, (G.mem v hv).2.1⟩, fun z => (G.mem root z).2.2 hroot⟩
theorem run_pays {many root : Int} {ks : List Int} {rw : Int → Row} (r0 : 0 ≤ root) (r1 : root < many) (m1 : many ≤ 1000) (R : RdOk many ks rw) {i : Nat} {D : List Bool} {ρ : Int → Int × Int} {log : List Pay} (h : Run many root ks rw i D ρ log) : ∀ x ∈ log, PayOk2 many root ks rw x := by
  induction h with
  | start => exact fun x hx => by simp at hx
  | @place i D ρ log S h hi hg he ih => exact go_pays m1 R (sit_start (ρ := ρ) (log := log) hi) (run_ok r0 r1 R h).2.1 ih hg
theorem takeOne_sub {rw : Int → Row} {x : Pay} {st : List Int × List Int} : ∀ r ∈ (takeOne rw st x).1, r ∈ st.1 ∨ r = x.p := fun r h => by
  unfold takeOne at h
  split at h
  · exact .inl h
  · rcases List.mem_append.mp h with z | z
    · exact .inl z
    · exact .inr (List.mem_singleton.mp z)
theorem taken_sub0 {rw : Int → Row} : ∀ {xs : List Pay} {st : List Int × List Int}, ∀ r ∈ (xs.foldl (takeOne rw) st).1, r ∈ st.1 ∨ ∃ x ∈ xs, r = x.p
  | [], st, r, h => .inl h
  | x :: xs, st, r, h => by
    rw [List.foldl_cons] at h
    rcases taken_sub0 r h with z | ⟨y, hy, e⟩
    · rcases takeOne_sub r z with z | z
      · exact .inl z
      · exact .inr ⟨x, List.mem_cons_self, z⟩
    · exact .inr ⟨y, List.mem_cons_of_mem _ hy, e⟩
theorem taken_sub {rw : Int → Row} {log : List Pay} : ∀ r ∈ (taken rw log).1, ∃ x ∈ log, r = x.p := fun r h => by
  rcases taken_sub0 r h with z | ⟨x, hx, e⟩
  · cases z
  · exact ⟨x, List.mem_reverse.mp hx, e⟩
theorem perm_map_inv {α β : Type} {f : α → β} {m q : List β} (h : m.Perm q) : ∀ l : List α, q = l.map f → ∃ l' : List α, m = l'.map f ∧ l'.Perm l := by
  induction h with
  | nil => intro l hl; exact ⟨l, hl, .refl _⟩
  | cons x _ ih =>
    intro l hl
    cases l with
    | nil => cases hl
    | cons a l =>
      rw [List.map_cons, List.cons.injEq] at hl
      obtain ⟨l', h1, h2⟩ := ih l hl.2
      exact ⟨a :: l', by rw [List.map_cons, ← h1, hl.1], h2.cons a⟩
  | swap x y l0 =>
    intro l hl
    match l, hl with
    | a :: b :: l, hl =>
      rw [List.map_cons, List.map_cons, List.cons.injEq, List.cons.injEq] at hl
      exact ⟨b :: a :: l, by rw [List.map_cons, List.map_cons, hl.1, hl.2.1, hl.2.2], .swap a b l⟩
    | [a], hl => cases hl
    | [], hl => cases hl
  | trans _ _ ih1 ih2 =>
    intro l hl
    obtain ⟨l1, h1, p1⟩ := ih2 l hl
    obtain ⟨l2, h2, p2⟩ := ih1 l1 h1
    exact ⟨l2, h2, p2.trans p1⟩
def toPr (x : Pay) : Pr := ⟨x.g, x.c.1⟩
/-- the prices that are told, ahead of their sorting -/
def priced (log : List Pay) : List Pr := (log.filter fun x => decide (0 < x.c.1)).map toPr
def costOfK (rw : Int → Row) (ns : List Int) : Int := (ns.map fun k => (rw k).c).sum
theorem num_grp {n : Nat} (g : List Int) : Num (n + 1) (grpDat g) := fun d hd => by
  obtain ⟨i, _, rfl⟩ := List.mem_map.mp hd
  cases n <;> trivial
theorem num_prD (x : Pr) : Num 2 x.dat := fun d hd => by
  have : d = grpDat x.g ∨ d = .int x.p := by simpa [Pr.dat, grpDat] using hd
  rcases this with rfl | rfl
  · exact num_grp x.g
  · trivial
theorem alike_prD (x y : Pr) : PySem.W.alike x.dat y.dat = true := by
  have h : PySem.W.alike (PyData.tuple (x.g.map .int)) (PyData.tuple (y.g.map .int)) = true := by
    unfold PySem.W.alike
    exact PySem.W.alike_ints x.g y.g
  simp [Pr.dat, PySem.W.alike, PySem.W.alikeAll] at h ⊢
  exact h
theorem tabS_keep2 {H H' : Hp} {P : Addr} {q : Str} (T : LamX.TabS H P q) (h1 : ∀ o, H P = some o → H' P = some o) (h2 : ∀ c q, H c = some (LamX.CodeO c q) → H' c = some (LamX.CodeO c q)) : LamX.TabS H' P q := by
  obtain ⟨ps, a, b, c⟩ := T
  refine ⟨ps, h1 _ a, b, fun pos cv hc => ?_⟩
  obtain ⟨c0, e1, e2⟩ := c pos cv hc
  exact ⟨c0, e1, h2 _ _ e2⟩
/-- the tables of the lambda and of the generator grow, all else stays -/
structure Tb (TL TR : Addr) (H H' : Hp) : Prop where
  old : ∀ b o, b ≠ TL → b ≠ TR → H b = some o → H' b = some o
  tl : LamX.TabS H' TL lamQ
  tr : GxR.TabG H' TR
def m2 (TL TR : Addr) : Addr → Prop := fun b => b = TL ∨ b = TR
theorem Tb.sans {TL TR : Addr} {H H' : Hp} (T : Tb TL TR H H') : Same (Rc.sans (m2 TL TR) H) H' := fun b o h => by
  by_cases z : m2 TL TR b
  · rw [sans_at z] at h
    cases h
  · rw [sans_no z] at h
    exact T.old b o (fun y => z (.inl y)) (fun y => z (.inr y)) h
theorem Tb.same {TL TR : Addr} {H H' H2 : Hp} (T : Tb TL TR H H') (e : Same H' H2) : Tb TL TR H H2 := ⟨fun b o n1 n2 h => e _ _ (T.old b o n1 n2 h), T.tl.ext e, by
  obtain ⟨ps, h, t⟩ := T.tr
  exact ⟨ps, e _ _ h, t⟩⟩
theorem Tb.trans {TL TR : Addr} {H H' H2 : Hp} (T : Tb TL TR H H') (U : Tb TL TR H' H2) : Tb TL TR H H2 := ⟨fun b o n1 n2 h => U.old _ _ n1 n2 (T.old b o n1 n2 h), U.tl, U.tr⟩
theorem Tb.start {TL TR : Addr} {H H' : Hp} (tl : LamX.TabS H TL lamQ) (tr : GxR.TabG H TR) (e : Same H H') : Tb TL TR H H' := ⟨fun b o _ _ h => e _ _ h, tl.ext e, by
  obtain ⟨ps, h, t⟩ := tr
  exact ⟨ps, e _ _ h, t⟩⟩
theorem Tb.free {TL TR p : Addr} {H H' : Hp} (T : Tb TL TR H H') (h : H' p = none) : H p = none := by
  cases e : H p with
  | none => rfl
  | some o =>
    by_cases z1 : p = TL
    · obtain ⟨ps, y, _⟩ := T.tl
      rw [z1, y] at h
      cases h
    · by_cases z2 : p = TR
      · obtain ⟨ps, y, _⟩ := T.tr
        rw [z2, y] at h
        cases h
      · have := T.old p o z1 z2 e
        rw [h] at this
        cases this
theorem Tb.run {TL TR : Addr} {H H' : Hp} (ne : TL ≠ TR) (tr : GxR.TabG H TR) (h : ∀ b o, b ≠ TL → H b = some o → H' b = some o) (tl : LamX.TabS H' TL lamQ) : Tb TL TR H H' := ⟨fun b o n _ e => h b o n e, tl, by
  obtain ⟨ps, e, t⟩ := tr
  exact ⟨ps, h _ _ (Ne.symm ne) e, t⟩⟩
theorem Tb.tree {TL TR : Addr} {H H' : Hp} (ne : TL ≠ TR) (tl : LamX.TabS H TL lamQ) (tr : GxR.TabG H TR) (t : Tabd (at1 TR) H H') : Tb TL TR H H' := by
  refine ⟨fun b o _ n e => t.old b o n e, tabS_keep2 tl (fun o h => t.old _ _ ne h) fun c q h => t.old _ _ (fun z => ?_) h, t.tab TR rfl⟩
  obtain ⟨ps, e, _⟩ := tr
  have z' : c = TR := z
  rw [z', e] at h
  exact LamX.codeO_ne _ (Option.some.inj h).symm
theorem mids {TL TR : Addr} {H : Hp} (tl : LamX.TabS H TL lamQ) (tr : GxR.TabG H TR) : ∀ b, m2 TL TR b → GxR.TabG H b := fun b hb => by
  rcases hb with z | z
  · rw [z]
    exact tabG_of tl
  · rw [z]
    exact tr
end Rc
/-! part RcV1 -/
/-! Which roads are taken: each group that paid is entered just once. -/
namespace Rc
/-- an earlier group is apart from a later one, or within it, with its road's begin -/
def Lam (rw : Int → Row) (x y : Pay) : Prop := (∀ v ∈ x.g, v ∉ y.g) ∨ ((∀ v ∈ x.g, v ∈ y.g) ∧ (rw x.p).b ∈ y.g)
/-- the road enters the group -/
def ent (rw : Int → Row) (g : List Int) (r : Int) : Bool := decide ((rw r).g ∈ g) && !decide ((rw r).b ∈ g)
theorem ent_iff {rw : Int → Row} {g : List Int} {r : Int} : ent rw g r = true ↔ (rw r).g ∈ g ∧ (rw r).b ∉ g := by
  unfold ent
  rw [Bool.and_eq_true, decide_eq_true_iff, Bool.not_eq_true', decide_eq_false_iff_not]
/-- the payment's road enters its group -/
def PayG (rw : Int → Row) (x : Pay) : Prop := (rw x.p).g ∈ x.g ∧ (rw x.p).b ∉ x.g
section
variable {rw : Int → Row}
theorem taken_cons (y : Pay) (l : List Pay) : taken rw (y :: l) = takeOne rw (taken rw l) y := by
  unfold taken
  rw [List.reverse_cons, List.foldl_append]
  rfl
theorem taken_case (y : Pay) (l : List Pay) : (taken rw (y :: l) = taken rw l ∧ ∃ v ∈ y.g, v ∈ (taken rw l).2) ∨ (taken rw (y :: l) = ((taken rw l).1 ++ [y.p], (taken rw l).2 ++ [(rw y.p).g]) ∧ ∀ v ∈ y.g, v ∉ (taken rw l).2) := by
  rw [taken_cons]
  unfold takeOne
  by_cases h : (y.g.any fun v => decide (v ∈ (taken rw l).2)) = true
  · rw [if_pos h]
    obtain ⟨v, hv, e⟩ := List.any_eq_true.mp h
    exact .inl ⟨rfl, v, hv, of_decide_eq_true e⟩
  · rw [if_neg h]
    exact .inr ⟨rfl, fun v hv z => h (List.any_eq_true.mpr ⟨v, hv, decide_eq_true z⟩)⟩
theorem taken_goals : ∀ l : List Pay, (taken rw l).2 = (taken rw l).1.map fun r => (rw r).g
  | [] => rfl
  | y :: l => by
    have ih := taken_goals l
    rcases taken_case (rw := rw) y l with ⟨e, _⟩ | ⟨e, _⟩
    · rw [e]
      exact ih
    · rw [e, List.map_append, ← ih]
      rfl
theorem taken_goal {l : List Pay} {v : Int} : v ∈ (taken rw l).2 ↔ ∃ r ∈ (taken rw l).1, (rw r).g = v := by
  rw [taken_goals, List.mem_map]
theorem goals_nodup : ∀ {l : List Pay}, (∀ x ∈ l, PayG rw x) → (taken rw l).2.Nodup
  | [], _ => List.nodup_nil
  | y :: l, h => by
    have ih := goals_nodup (l := l) fun x hx => h x (List.mem_cons_of_mem _ hx)
    rcases taken_case (rw := rw) y l with ⟨e, _⟩ | ⟨e, n⟩
    · rw [e]
      exact ih
    · rw [e]
      refine List.nodup_append.mpr ⟨ih, by simp, fun a ha b hb z => ?_⟩
      rw [List.mem_singleton.mp hb] at z
      exact n _ (h y List.mem_cons_self).1 (z ▸ ha)
/-- at most one road taken leads into a set that is within each group or apart -/
theorem one_goal {A : List Int} : ∀ {l : List Pay}, (∀ x ∈ l, PayG rw x) → (∀ x ∈ l, (∀ v ∈ A, v ∉ x.g) ∨ ∀ v ∈ A, v ∈ x.g) → (taken rw l).1.countP (fun r => decide ((rw r).g ∈ A)) ≤ 1
  | [], _, _ => Nat.zero_le _
  | y :: l, h, hA => by
    have ih := one_goal (l := l) (fun x hx => h x (List.mem_cons_of_mem _ hx)) fun x hx => hA x (List.mem_cons_of_mem _ hx)
    rcases taken_case (rw := rw) y l with ⟨e, _⟩ | ⟨e, n⟩
    · rw [e]
      exact ih
    · rw [e, List.countP_append]
      by_cases g : (rw y.p).g ∈ A
      · have sub : ∀ v ∈ A, v ∈ y.g := (hA y List.mem_cons_self).resolve_left fun z => z _ g (h y List.mem_cons_self).1
        have z : (taken rw l).1.countP (fun r => decide ((rw r).g ∈ A)) = 0 := by
          rw [List.countP_eq_zero]
          intro r hr z
          exact n _ (sub _ (of_decide_eq_true z)) (taken_goal.mpr ⟨r, hr, rfl⟩)
        rw [z]
        simp [g]
      · simp [g]
        simpa using ih
theorem lam_no {z y : Pay} (L : Lam rw z y) (hz : PayG rw z) : ent rw y.g z.p = false := by
  cases e : ent rw y.g z.p with
  | false => rfl
  | true =>
    obtain ⟨a, b⟩ := ent_iff.mp e
    rcases L with q | q
    · exact absurd a (q _ hz.1)
    · exact absurd q.2 b
/-- each group that paid is entered by one road taken -/
theorem ent_one : ∀ {l : List Pay}, l.Pairwise (Lam rw) → (∀ x ∈ l, PayG rw x) → ∀ y ∈ l, (taken rw l).1.countP (ent rw y.g) = 1
  | [], _, _, y, hy => nomatch hy
  | z :: l, hp, h, y, hy => by
    obtain ⟨hz, hl⟩ := List.pairwise_cons.mp hp
    have hG := h z List.mem_cons_self
    have hr : ∀ x ∈ l, PayG rw x := fun x hx => h x (List.mem_cons_of_mem _ hx)
    rcases List.mem_cons.mp hy with rfl | hy
    · have ec : (taken rw l).1.countP (ent rw y.g) = (taken rw l).1.countP fun r => decide ((rw r).g ∈ y.g) := by
        refine List.countP_congr fun r hr' => ?_
        obtain ⟨x, hx, rfl⟩ := taken_sub r hr'
        rw [ent_iff, decide_eq_true_iff]
        refine ⟨fun q => q.1, fun q => ⟨q, fun w => ?_⟩⟩
        rcases hz x hx with u | u
        · exact u _ q (hr x hx).1
        · exact (hr x hx).2 (u.1 _ w)
      have le := one_goal (A := y.g) hr fun x hx => (hz x hx).imp (fun u => u) fun u => u.1
      rcases taken_case (rw := rw) y l with ⟨e, v, hv, w⟩ | ⟨e, n⟩
      · rw [e, ec]
        obtain ⟨r, hr1, hr2⟩ := taken_goal.mp w
        have pos : 0 < (taken rw l).1.countP fun r => decide ((rw r).g ∈ y.g) := List.countP_pos_iff.mpr ⟨r, hr1, decide_eq_true (by rw [hr2]; exact hv)⟩
        omega
      · rw [e, List.countP_append, ec]
        have z0 : (taken rw l).1.countP (fun r => decide ((rw r).g ∈ y.g)) = 0 := by
          rw [List.countP_eq_zero]
          intro r hr1 q
          exact n _ (of_decide_eq_true q) (taken_goal.mpr ⟨r, hr1, rfl⟩)
        rw [z0, List.countP_cons, ent_iff.mpr hG]
        rfl
    · have ih := ent_one hl hr y hy
      rcases taken_case (rw := rw) z l with ⟨e, _⟩ | ⟨e, _⟩
      · rw [e]
        exact ih
      · rw [e, List.countP_append, ih, List.countP_cons, lam_no (hz y hy) hG]
        rfl
/-- by its own road, or by one that enters a later group around it -/
theorem ent_by : ∀ {l1 : List Pay} {y : Pay} {l2 : List Pay}, (l1 ++ y :: l2).Pairwise (Lam rw) → (∀ x ∈ l1 ++ y :: l2, PayG rw x) → ∀ r ∈ (taken rw (l1 ++ y :: l2)).1, ent rw y.g r = true →
    r = y.p ∨ ∃ x ∈ l2, r = x.p ∧ ∀ v ∈ y.g, v ∈ x.g
  | [], y, l2, hp, h, r, hr, he => by
    obtain ⟨hy, _⟩ := List.pairwise_cons.mp hp
    have key : r ∈ (taken rw l2).1 → ∃ x ∈ l2, r = x.p ∧ ∀ v ∈ y.g, v ∈ x.g := fun q => by
      obtain ⟨x, hx, rfl⟩ := taken_sub r q
      refine ⟨x, hx, rfl, ?_⟩
      rcases hy x hx with u | u
      · exact absurd (h x (List.mem_cons_of_mem _ hx)).1 (u _ (ent_iff.mp he).1)
      · exact u.1
    have hr' : r ∈ (taken rw (y :: l2)).1 := hr
    rcases taken_case (rw := rw) y l2 with ⟨e, _⟩ | ⟨e, _⟩
    · rw [e] at hr'
      exact .inr (key hr')
    · rw [e] at hr'
      rcases List.mem_append.mp hr' with q | q
      · exact .inr (key q)
      · exact .inl (List.mem_singleton.mp q)
  | z :: l1, y, l2, hp, h, r, hr, he => by
    obtain ⟨hz, hl⟩ := List.pairwise_cons.mp (show (z :: (l1 ++ y :: l2)).Pairwise (Lam rw) from hp)
    have ih := ent_by hl (fun x hx => h x (List.mem_cons_of_mem _ hx)) r
    have hr' : r ∈ (taken rw (z :: (l1 ++ y :: l2))).1 := hr
    rcases taken_case (rw := rw) z (l1 ++ y :: l2) with ⟨e, _⟩ | ⟨e, _⟩
    · rw [e] at hr'
      exact ih hr' he
    · rw [e] at hr'
      rcases List.mem_append.mp hr' with q | q
      · exact ih q he
      · rw [List.mem_singleton.mp q, lam_no (hz y (by simp)) (h z List.mem_cons_self)] at he
        cases he
end
end Rc
/-! part RcV2 -/
/-! How the roads are paid for: what holds of all payments. -/
namespace Rc
/-- pairs, by the first, then by the second -/
def Le2 (p q : Int × Int) : Prop := p.1 < q.1 ∨ (p.1 = q.1 ∧ p.2 ≤ q.2)
theorem le2_of {p q : Int × Int} (h : lt2 q p = false) : Le2 p q := by
  unfold Le2
  by_cases e : q.1 < p.1 ∨ (q.1 = p.1 ∧ q.2 < p.2)
  · rw [lt2_iff.mpr e] at h
    cases h
  · omega
theorem with_cases {path init : List (List Int)} {g : List Int} {b : Int} (h : With path b (init ++ [g])) :
    (init = path ∧ g = [b] ∧ ∀ g' ∈ path, b ∉ g') ∨ ∃ (i : Nat) (gi : List Int), path[i]? = some gi ∧ b ∈ gi ∧ init = path.take i ∧ g.Perm (path.drop i).flatten := by
  generalize e : init ++ [g] = q at h
  cases h with
  | alone hal =>
    obtain ⟨h1, h2⟩ := List.append_inj' e rfl
    exact .inl ⟨h1, (List.cons.inj h2).1, hal⟩
  | @circle i gi c hi hp hb hc hs =>
    obtain ⟨h1, h2⟩ := List.append_inj' e rfl
    exact .inr ⟨i, gi, hi, hp, h1, (List.cons.inj h2).1 ▸ hc⟩
/-- the entry of a group that is entered by no later one -/
def Entry (log : List Pay) (g : List Int) (p : Int) : Prop := ∃ (l1 : List Pay) (c : Int × Int) (m : List Pay), log = l1 ++ ⟨g, c, p⟩ :: m ∧ ∀ x ∈ m, ∀ v ∈ x.g, v ∉ g
theorem Entry.snoc {log : List Pay} {g : List Int} {p : Int} {y : Pay} (h : Entry log g p) (hy : ∀ v ∈ y.g, v ∉ g) : Entry (log ++ [y]) g p := by
  obtain ⟨l1, c, m, rfl, h2⟩ := h
  refine ⟨l1, c, m ++ [y], by simp, fun x hx => ?_⟩
  rcases List.mem_append.mp hx with z | z
  · exact h2 x z
  · rw [List.mem_singleton.mp z]
    exact hy
theorem Entry.mem {log : List Pay} {g : List Int} {p : Int} (h : Entry log g p) : ∃ c, (⟨g, c, p⟩ : Pay) ∈ log := by
  obtain ⟨l1, c, m, rfl, _⟩ := h
  exact ⟨c, by simp⟩
def sum1 (rw : Int → Row) (log : List Pay) (k : Int) : Int := (log.map fun x => if ent rw x.g k = true then x.c.1 else 0).sum
def sum2 (rw : Int → Row) (log : List Pay) (k : Int) : Int := (log.map fun x => if ent rw x.g k = true then x.c.2 else 0).sum
theorem sum1_snoc (rw : Int → Row) (log : List Pay) (y : Pay) (k : Int) : sum1 rw (log ++ [y]) k = sum1 rw log k + if ent rw y.g k = true then y.c.1 else 0 := by
  unfold sum1
  rw [List.map_append, List.sum_append]
  simp
theorem sum2_snoc (rw : Int → Row) (log : List Pay) (y : Pay) (k : Int) : sum2 rw (log ++ [y]) k = sum2 rw log k + if ent rw y.g k = true then y.c.2 else 0 := by
  unfold sum2
  rw [List.map_append, List.sum_append]
  simp
theorem sum_none {α : Type} {f : α → Int} : ∀ {l : List α}, (∀ x ∈ l, f x = 0) → (l.map f).sum = 0
  | [], _ => rfl
  | x :: l, h => by
    rw [List.map_cons, List.sum_cons, h x List.mem_cons_self, sum_none fun y hy => h y (List.mem_cons_of_mem _ hy)]
    rfl
/-- what holds of the rests and the payments -/
structure Paid (root : Int) (ks : List Int) (rw : Int → Row) (ρ : Int → Int × Int) (log : List Pay) : Prop where
  lam : log.Pairwise (Lam rw)
  pg : ∀ x ∈ log, PayG rw x
  zero : ∀ x ∈ log, ρ x.p = (0, 0)
  acc1 : ∀ k ∈ ks, (ρ k).1 = (rest0 rw k).1 - sum1 rw log k
  acc2 : ∀ k ∈ ks, (ρ k).2 = (rest0 rw k).2 - sum2 rw log k
  pos : ∀ x ∈ log, (∃ v, x.g = [v]) ∨ Le2 (0, 0) x.c
  c0 : ∀ x ∈ log, 0 ≤ x.c.1
/-- .. on the way from a place -/
structure Going (root : Int) (ks : List Int) (rw : Int → Row) (D : List Bool) (S : Sit) : Prop where
  paid : Paid root ks rw S.rho S.log
  rest : ∀ k ∈ ks, ((rw k).g ∈ S.path.flatten ∨ (got D (rw k).g ∧ (rw k).g ≠ root)) → Le2 (0, 0) (S.rho k)
  cov : ∀ x ∈ S.log, (∀ v ∈ x.g, got D v) ∨ ∃ (l : Nat) (g : List Int), S.path[l]? = some g ∧ (∀ v ∈ x.g, v ∈ g) ∧ ((rw x.p).b ∈ g ∨ (∃ g', S.path[l + 1]? = some g' ∧ (rw x.p).b ∈ g') ∨ (S.path[l + 1]? = none ∧ (rw x.p).b = S.beg))
  ch : ∀ (l : Nat) (g : List Int), S.path[l]? = some g → ∃ p, Entry S.log g p ∧ ((∃ g', S.path[l + 1]? = some g' ∧ (rw p).b ∈ g') ∨ (S.path[l + 1]? = none ∧ (rw p).b = S.beg))
theorem flat_at {gs : List (List Int)} {l : Nat} {g : List Int} {v : Int} (h : gs[l]? = some g) (hv : v ∈ g) : v ∈ gs.flatten := List.mem_flatten.mpr ⟨g, List.mem_of_getElem? h, hv⟩
theorem drop_at {gs : List (List Int)} {i l : Nat} {g : List Int} (h : gs[l]? = some g) (hi : i ≤ l) : g ∈ gs.drop i := by
  have : (gs.drop i)[l - i]? = some g := by
    rw [List.getElem?_drop, show i + (l - i) = l by omega]
    exact h
  exact List.mem_of_getElem? this
theorem take_at {gs : List (List Int)} {i l : Nat} {g : List Int} (h : gs[l]? = some g) (hi : l < i) : g ∈ gs.take i := by
  have : (gs.take i)[l]? = some g := by
    rw [List.getElem?_take, if_pos hi]
    exact h
  exact List.mem_of_getElem? this
section
variable {many root : Int} {ks : List Int} {rw : Int → Row} {D : List Bool} {S : Sit} {init : List (List Int)} {g : List Int} {p : Int}
theorem going_next (R : RdOk many ks rw) (cost0 : ∀ k ∈ ks, 0 ≤ (rw k).c) (loop : ∀ k ∈ ks, (rw k).b ≠ (rw k).g) (hroot : got D root) (I : SitOk many D S) (J : Going root ks rw D S) (hb : ¬ got D S.beg) (hw : With S.path S.beg (init ++ [g])) (hp : p ∈ Ent ks rw g)
    (hm : ∀ e ∈ Ent ks rw g, lt2 (S.rho e) (S.rho p) = false) : Going root ks rw D (S.next ks rw (init ++ [g]) g p) := by
  have G := grp_ok I hb hw
  have g0 : ∀ m ∈ g, 0 ≤ m := fun m hm => (G.mem m hm).1
  obtain ⟨pk, pgg, pgb⟩ := (mem_Ent g0).mp hp
  obtain ⟨w1, w2, w3, _, _⟩ := with_ok I hb hw
  have efl : (init ++ [g]).flatten = init.flatten ++ g := by simp
  rw [efl] at w1
  have hdis : ∀ v ∈ init.flatten, v ∉ g := fun v hv hg => (List.nodup_append.mp w1).2.2 v hv v hg rfl
  have rho' : ∀ k, (S.next ks rw (init ++ [g]) g p).rho k = if k ∈ Ent ks rw g then ((S.rho k).1 - (S.rho p).1, (S.rho k).2 - (S.rho p).2) else S.rho k := fun k => rfl
  have inE : ∀ k ∈ ks, (k ∈ Ent ks rw g ↔ ent rw g k = true) := fun k hk => by
    rw [mem_Ent g0, ent_iff]
    exact ⟨fun z => z.2, fun z => ⟨hk, z⟩⟩
  -- the new group among the others
  have old : ∀ x ∈ S.log, (∀ v ∈ x.g, got D v) ∨ ∃ (l : Nat) (g1 : List Int), S.path[l]? = some g1 ∧ (∀ v ∈ x.g, v ∈ g1) := fun x hx => by
    rcases J.cov x hx with z | ⟨l, g1, a, b, _⟩
    · exact .inl z
    · exact .inr ⟨l, g1, a, b⟩
  have key : (g = [S.beg] ∧ init = S.path ∧ (∀ g' ∈ S.path, S.beg ∉ g')) ∨ ((∀ v ∈ g, v ∈ S.path.flatten) ∧ ∃ i gi, S.path[i]? = some gi ∧ S.beg ∈ gi ∧ init = S.path.take i ∧ g.Perm (S.path.drop i).flatten) := by
    rcases with_cases hw with ⟨a, b, c⟩ | ⟨i, gi, a, b, c, d⟩
    · exact .inl ⟨b, a, c⟩
    · refine .inr ⟨fun v hv => ?_, i, gi, a, b, c, d⟩
      have := d.mem_iff.mp hv
      rw [flat_cut S.path i]
      exact List.mem_append_right _ this
  -- the least rest
  have pc : (∃ v, g = [v]) ∨ Le2 (0, 0) (S.rho p) := by
    rcases key with ⟨a, _⟩ | ⟨a, _⟩
    · exact .inl ⟨_, a⟩
    · exact .inr (J.rest p pk (.inl (a _ pgg)))
  have noOld : (∀ g' ∈ S.path, S.beg ∉ g') → g = [S.beg] → ∀ x ∈ S.log, S.beg ∉ x.g := fun c e x hx z => by
    rcases old x hx with q | ⟨l, g1, a, b⟩
    · exact hb (q _ z)
    · exact c g1 (List.mem_of_getElem? a) (b _ z)
  have pc1 : 0 ≤ (S.rho p).1 := by
    rcases key with ⟨a, _, c⟩ | ⟨a, _⟩
    · have gb : (rw p).g = S.beg := by
        rw [a] at pgg
        exact List.mem_singleton.mp pgg
      have z := J.paid.acc1 p pk
      have z2 : sum1 rw S.log p = 0 := sum_none fun x hx => by
        rw [if_neg]
        rw [ent_iff, gb]
        exact fun q => noOld c a x hx q.1
      rw [z2] at z
      have := cost0 p pk
      have e : (rest0 rw p).1 = (rw p).c := rfl
      omega
    · have := J.rest p pk (.inl (a _ pgg))
      unfold Le2 at this
      dsimp only at this
      omega
  -- roads into places that have paid
  have rest' : ∀ k ∈ ks, ((rw k).g ∈ (init ++ [g]).flatten ∨ (got D (rw k).g ∧ (rw k).g ≠ root)) → Le2 (0, 0) ((S.next ks rw (init ++ [g]) g p).rho k) := fun k hk h => by
    rw [rho']
    by_cases e : k ∈ Ent ks rw g
    · rw [if_pos e]
      have := le2_of (hm k e)
      unfold Le2 at this ⊢
      dsimp only
      omega
    · rw [if_neg e]
      refine J.rest k hk ?_
      rcases h with h | h
      · rcases (w2 _).mp h with z | z
        · exact .inl z
        · rcases key with ⟨a, _, c⟩ | ⟨a, i, gi, ai, bi, _⟩
          · refine absurd ((mem_Ent g0).mpr ⟨hk, by rw [a, z]; exact List.mem_singleton.mpr rfl, ?_⟩) e
            rw [a, ← z]
            exact fun q => loop k hk (List.mem_singleton.mp q)
          · rw [z]
            exact .inl (flat_at ai bi)
      · exact .inr h
  have zero' : ∀ x ∈ S.log ++ [⟨g, S.rho p, p⟩], (S.next ks rw (init ++ [g]) g p).rho x.p = (0, 0) := fun x hx => by
    rw [rho']
    rcases List.mem_append.mp hx with q | q
    · have z := J.paid.zero x q
      by_cases e : x.p ∈ Ent ks rw g
      · rw [if_pos e]
        have h1 := le2_of (hm _ e)
        rw [z] at h1 ⊢
        have h2 : Le2 (0, 0) (S.rho p) := by
          rcases key with ⟨a, _, c⟩ | ⟨a, _⟩
          · have e2 := ((mem_Ent g0).mp e).2.1
            rw [a] at e2
            have e3 := List.mem_singleton.mp e2
            exact absurd (e3 ▸ (J.paid.pg x q).1) (noOld c a x q)
          · exact J.rest p pk (.inl (a _ pgg))
        unfold Le2 at h1 h2
        dsimp only at h1 h2 ⊢
        rw [show (0 : Int) - (S.rho p).1 = 0 by omega, show (0 : Int) - (S.rho p).2 = 0 by omega]
      · rw [if_neg e]
        exact z
    · rw [List.mem_singleton.mp q, if_pos hp, Int.sub_self, Int.sub_self]
  have lam' : (S.log ++ [(⟨g, S.rho p, p⟩ : Pay)]).Pairwise (Lam rw) := by
    refine List.pairwise_append.mpr ⟨J.paid.lam, by simp, fun x hx y hy => ?_⟩
    rw [List.mem_singleton.mp hy]
    rcases J.cov x hx with z | ⟨l, g1, a, b, c⟩
    · exact .inl fun v hv w => (G.mem v w).2.2 (z v hv)
    · rcases key with ⟨k1, k2, k3⟩ | ⟨_, i, gi, ai, bi, ci, di⟩
      · refine .inl fun v hv w => ?_
        have w' : v ∈ g := w
        rw [k1] at w'
        exact k3 g1 (List.mem_of_getElem? a) ((List.mem_singleton.mp w') ▸ b v hv)
      · by_cases li : l < i
        · refine .inl fun v hv w => ?_
          refine hdis v ?_ w
          rw [ci]
          exact List.mem_flatten.mpr ⟨g1, take_at a li, b v hv⟩
        · have sub : ∀ v ∈ g1, v ∈ g := fun v hv => di.mem_iff.mpr (List.mem_flatten.mpr ⟨g1, drop_at a (by omega), hv⟩)
          refine .inr ⟨fun v hv => sub v (b v hv), ?_⟩
          rcases c with c | ⟨g', c1, c2⟩ | ⟨_, c2⟩
          · exact sub _ c
          · exact di.mem_iff.mpr (List.mem_flatten.mpr ⟨g', drop_at c1 (by omega), c2⟩)
          · show (rw x.p).b ∈ g
            rw [c2]
            exact di.mem_iff.mpr (List.mem_flatten.mpr ⟨gi, drop_at ai (Nat.le_refl _), bi⟩)
  refine ⟨⟨lam', fun x hx => ?_, zero', fun k hk => ?_, fun k hk => ?_, fun x hx => ?_, fun x hx => ?_⟩, rest', fun x hx => ?_, fun l g1 hl => ?_⟩
  · rcases List.mem_append.mp hx with q | q
    · exact J.paid.pg x q
    · rw [List.mem_singleton.mp q]
      exact ⟨pgg, pgb⟩
  · rw [rho']
    show _ = _ - sum1 rw (S.log ++ [_]) k
    rw [sum1_snoc]
    have := J.paid.acc1 k hk
    by_cases e : k ∈ Ent ks rw g
    · rw [if_pos e, if_pos ((inE k hk).mp e)]
      dsimp only
      omega
    · rw [if_neg e, if_neg (fun z => e ((inE k hk).mpr z))]
      omega
  · rw [rho']
    show _ = _ - sum2 rw (S.log ++ [_]) k
    rw [sum2_snoc]
    have := J.paid.acc2 k hk
    by_cases e : k ∈ Ent ks rw g
    · rw [if_pos e, if_pos ((inE k hk).mp e)]
      dsimp only
      omega
    · rw [if_neg e, if_neg (fun z => e ((inE k hk).mpr z))]
      omega
  · rcases List.mem_append.mp hx with q | q
    · exact J.paid.pos x q
    · rw [List.mem_singleton.mp q]
      exact pc
  · rcases List.mem_append.mp hx with q | q
    · exact J.paid.c0 x q
    · rw [List.mem_singleton.mp q]
      exact pc1
  · -- cov
    show (∀ v ∈ x.g, got D v) ∨ ∃ (l : Nat) (g1 : List Int), (init ++ [g])[l]? = some g1 ∧ (∀ v ∈ x.g, v ∈ g1) ∧ ((rw x.p).b ∈ g1 ∨ (∃ g', (init ++ [g])[l + 1]? = some g' ∧ (rw x.p).b ∈ g') ∨ ((init ++ [g])[l + 1]? = none ∧ (rw x.p).b = (rw p).b))
    have atl : (init ++ [g])[init.length]? = some g := by simp
    have atn : (init ++ [g])[init.length + 1]? = none := by simp
    rcases List.mem_append.mp hx with q | q
    · rcases J.cov x q with z | ⟨l, g1, a, b, c⟩
      · exact .inl z
      · right
        rcases key with ⟨k1, k2, k3⟩ | ⟨_, i, gi, ai, bi, ci, di⟩
        · have ll := (List.getElem?_eq_some_iff.mp a).1
          have hget : ∀ j, j < S.path.length → (init ++ [g])[j]? = S.path[j]? := fun j hj => by
            rw [k2, List.getElem?_append_left hj]
          refine ⟨l, g1, (hget l ll).trans a, b, ?_⟩
          rcases c with c | ⟨g', c1, c2⟩ | ⟨c1, c2⟩
          · exact .inl c
          · exact .inr (.inl ⟨g', (hget _ (List.getElem?_eq_some_iff.mp c1).1).trans c1, c2⟩)
          · have : l + 1 = init.length := by
              have := List.getElem?_eq_none_iff.mp c1
              rw [k2]
              omega
            exact .inr (.inl ⟨g, by rw [this]; exact atl, by rw [c2, k1]; exact List.mem_singleton.mpr rfl⟩)
        · have il := (List.getElem?_eq_some_iff.mp ai).1
          have inl : init.length = i := by rw [ci, List.length_take]; omega
          by_cases li : l < i
          · have hget : ∀ j, j < i → (init ++ [g])[j]? = S.path[j]? := fun j hj => by
              rw [List.getElem?_append_left (by omega), ci, List.getElem?_take, if_pos hj]
            refine ⟨l, g1, (hget l li).trans a, b, ?_⟩
            rcases c with c | ⟨g', c1, c2⟩ | ⟨c1, c2⟩
            · exact .inl c
            · by_cases l1 : l + 1 < i
              · exact .inr (.inl ⟨g', (hget _ l1).trans c1, c2⟩)
              · refine .inr (.inl ⟨g, by rw [show l + 1 = init.length by omega]; exact atl, ?_⟩)
                exact di.mem_iff.mpr (List.mem_flatten.mpr ⟨g', drop_at c1 (by omega), c2⟩)
            · have := List.getElem?_eq_none_iff.mp c1
              omega
          · have sub : ∀ v ∈ g1, v ∈ g := fun v hv => di.mem_iff.mpr (List.mem_flatten.mpr ⟨g1, drop_at a (by omega), hv⟩)
            refine ⟨init.length, g, atl, fun v hv => sub v (b v hv), .inl ?_⟩
            rcases c with c | ⟨g', c1, c2⟩ | ⟨_, c2⟩
            · exact sub _ c
            · exact di.mem_iff.mpr (List.mem_flatten.mpr ⟨g', drop_at c1 (by omega), c2⟩)
            · rw [c2]
              exact di.mem_iff.mpr (List.mem_flatten.mpr ⟨gi, drop_at ai (Nat.le_refl _), bi⟩)
    · rw [List.mem_singleton.mp q]
      exact .inr ⟨init.length, g, atl, fun v hv => hv, .inr (.inr ⟨atn, rfl⟩)⟩
  · -- ch
    show ∃ p1, Entry (S.log ++ [⟨g, S.rho p, p⟩]) g1 p1 ∧ ((∃ g', (init ++ [g])[l + 1]? = some g' ∧ (rw p1).b ∈ g') ∨ ((init ++ [g])[l + 1]? = none ∧ (rw p1).b = (rw p).b))
    have hl' : (init ++ [g])[l]? = some g1 := hl
    have atl : (init ++ [g])[init.length]? = some g := by simp
    have atn : (init ++ [g])[init.length + 1]? = none := by simp
    by_cases ll : l < init.length
    · have hi : init[l]? = some g1 := by rw [List.getElem?_append_left ll] at hl'; exact hl'
      have hpth : S.path[l]? = some g1 := by
        rcases key with ⟨_, k2, _⟩ | ⟨_, i, gi, ai, bi, ci, di⟩
        · rw [← k2]; exact hi
        · rw [ci, List.getElem?_take] at hi
          split at hi
          · exact hi
          · cases hi
      obtain ⟨p1, E1, c⟩ := J.ch l g1 hpth
      refine ⟨p1, E1.snoc fun v hv w => hdis v (List.mem_flatten.mpr ⟨g1, List.mem_of_getElem? hi, w⟩) hv, .inl ?_⟩
      rcases key with ⟨k1, k2, k3⟩ | ⟨_, i, gi, ai, bi, ci, di⟩
      · rcases c with ⟨g', c1, c2⟩ | ⟨c1, c2⟩
        · exact ⟨g', by rw [k2, List.getElem?_append_left (List.getElem?_eq_some_iff.mp c1).1]; exact c1, c2⟩
        · have e : l + 1 = init.length := by
            have := List.getElem?_eq_none_iff.mp c1
            rw [← k2] at this
            omega
          exact ⟨g, by rw [e]; exact atl, by rw [c2, k1]; exact List.mem_singleton.mpr rfl⟩
      · have il := (List.getElem?_eq_some_iff.mp ai).1
        have inl : init.length = i := by rw [ci, List.length_take]; omega
        rcases c with ⟨g', c1, c2⟩ | ⟨c1, c2⟩
        · by_cases l1 : l + 1 < i
          · exact ⟨g', by rw [List.getElem?_append_left (by omega), ci, List.getElem?_take, if_pos l1]; exact c1, c2⟩
          · exact ⟨g, by rw [show l + 1 = init.length by omega]; exact atl, di.mem_iff.mpr (List.mem_flatten.mpr ⟨g', drop_at c1 (by omega), c2⟩)⟩
        · have := List.getElem?_eq_none_iff.mp c1
          omega
    · have l2 : l = init.length := by
        have := (List.getElem?_eq_some_iff.mp hl').1
        rw [List.length_append, List.length_singleton] at this
        omega
      subst l2
      rw [atl] at hl'
      cases hl'
      exact ⟨p, ⟨S.log, S.rho p, [], rfl, fun x hx => nomatch hx⟩, .inr ⟨atn, rfl⟩⟩
/-- behind some places -/
structure Ran (root : Int) (ks : List Int) (rw : Int → Row) (D : List Bool) (ρ : Int → Int × Int) (log : List Pay) : Prop where
  paid : Paid root ks rw ρ log
  rest : ∀ k ∈ ks, got D (rw k).g → (rw k).g ≠ root → Le2 (0, 0) (ρ k)
  cov : ∀ x ∈ log, ∀ v ∈ x.g, got D v
theorem going_start {i : Nat} {ρ : Int → Int × Int} {log : List Pay} (J : Ran root ks rw D ρ log) : Going root ks rw D ⟨[], i, ρ, log⟩ :=
  ⟨J.paid, fun k hk h => (by
    rcases h with h | h
    · simp at h
    · exact J.rest k hk h.1 h.2), fun x hx => .inl (J.cov x hx), fun l g h => by simp at h⟩
theorem going_all (R : RdOk many ks rw) (cost0 : ∀ k ∈ ks, 0 ≤ (rw k).c) (loop : ∀ k ∈ ks, (rw k).b ≠ (rw k).g) (hroot : got D root) {S0 : Sit} (I : SitOk many D S0) (J : Going root ks rw D S0) (h : Go ks rw D S0 S) : Going root ks rw D S := by
  induction h with
  | here => exact J
  | on h hb hw hp hm hf ih => exact going_next R cost0 loop hroot (go_ok R I h) ih hb hw hp hm
theorem ran_all (r0 : 0 ≤ root) (r1 : root < many) (R : RdOk many ks rw) (cost0 : ∀ k ∈ ks, 0 ≤ (rw k).c) (loop : ∀ k ∈ ks, (rw k).b ≠ (rw k).g) {i : Nat} {D : List Bool} {ρ : Int → Int × Int} {log : List Pay} (h : Run many root ks rw i D ρ log) : Ran root ks rw D ρ log := by
  induction h with
  | start =>
    refine ⟨⟨.nil, (fun x hx => nomatch hx), (fun x hx => nomatch hx), fun k hk => ?_, fun k hk => ?_, (fun x hx => nomatch hx), (fun x hx => nomatch hx)⟩, fun k hk h n => ?_, (fun x hx => nomatch hx)⟩
    · simp [sum1]
    · simp [sum2]
    · exfalso
      obtain ⟨_, _, a, b⟩ := R.row k hk
      unfold got done0 at h
      rw [List.getElem?_map, List.getElem?_range (by omega)] at h
      have := of_decide_eq_true (Option.some.inj h)
      exact n (by omega)
  | @place i D ρ log S h hi hg he ih =>
    obtain ⟨Dl, Dr, _⟩ := run_ok r0 r1 R h
    have I0 := sit_start (many := many) (D := D) (ρ := ρ) (log := log) hi
    have I := go_ok R I0 hg
    have J := going_all R cost0 loop Dr I0 (going_start ih) hg
    have hl : ∀ m ∈ S.path.flatten, m.toNat < D.length := fun m hm => by
      obtain ⟨a, b, _⟩ := I.mem m hm
      omega
    refine ⟨J.paid, fun k hk h n => J.rest k hk ?_, fun x hx v hv => ?_⟩
    · rcases (got_mark hl _).mp h with z | ⟨m, hm, e⟩
      · exact .inr ⟨z, n⟩
      · obtain ⟨a, _⟩ := I.mem m hm
        obtain ⟨_, _, c, _⟩ := R.row k hk
        rw [show (rw k).g = m by omega]
        exact .inl hm
    · rcases J.cov x hx with z | ⟨l, g, a, b, _⟩
      · exact (got_mark hl _).mpr (.inl (z v hv))
      · exact (got_mark hl _).mpr (.inr ⟨v, flat_at a (b v hv), rfl⟩)
end
end Rc
/-! part RcV3 -/
/-! The roads taken lead from the root to every place. -/
namespace Rc
theorem reach_trans {rows : List Row} {a b c : Int} (h : Reach rows a b) (k : Reach rows b c) : Reach rows a c := by
  induction k with
  | root => exact h
  | step hr _ ih => exact .step hr ih
theorem count_uniq {α : Type} {q : α → Bool} : ∀ {l : List α} {a b : α}, l.countP q = 1 → a ∈ l → b ∈ l → q a = true → q b = true → a = b
  | [], _, _, _, ha, _, _, _ => nomatch ha
  | x :: l, a, b, h, ha, hb, qa, qb => by
    rw [List.countP_cons] at h
    by_cases qx : q x = true
    · rw [if_pos qx] at h
      have z : l.countP q = 0 := by omega
      rw [List.countP_eq_zero] at z
      have e : ∀ y, y ∈ x :: l → q y = true → y = x := fun y hy qy => by
        rcases List.mem_cons.mp hy with w | w
        · exact w
        · exact absurd qy (z y w)
      rw [e a ha qa, e b hb qb]
    · rw [if_neg qx] at h
      have e : ∀ y, y ∈ x :: l → q y = true → y ∈ l := fun y hy qy => by
        rcases List.mem_cons.mp hy with w | w
        · exact absurd (w ▸ qy) qx
        · exact w
      exact count_uniq (by omega) (e a ha qa) (e b hb qb) qa qb
section
variable {rw : Int → Row} {L : List Pay}
theorem ent_some (hp : L.Pairwise (Lam rw)) (h : ∀ x ∈ L, PayG rw x) {y : Pay} (hy : y ∈ L) : ∃ r ∈ (taken rw L).1, ent rw y.g r = true := by
  have := ent_one hp h y hy
  exact List.countP_pos_iff.mp (by omega)
theorem ent_uniq (hp : L.Pairwise (Lam rw)) (h : ∀ x ∈ L, PayG rw x) {y : Pay} (hy : y ∈ L) {r s : Int} (hr : r ∈ (taken rw L).1) (hs : s ∈ (taken rw L).1) (er : ent rw y.g r = true) (es : ent rw y.g s = true) : r = s :=
  count_uniq (ent_one hp h y hy) hr hs er es
theorem own_or {log fut : List Pay} (hp : (log ++ fut).Pairwise (Lam rw)) (h : ∀ x ∈ log ++ fut, PayG rw x) {g : List Int} {p : Int} (E : Entry log g p) {r : Int} (hr : r ∈ (taken rw (log ++ fut)).1) (er : ent rw g r = true) :
    r = p ∨ ∃ x ∈ fut, r = x.p ∧ ∀ v ∈ g, v ∈ x.g := by
  obtain ⟨l1, c, m, rfl, hm⟩ := E
  have e : l1 ++ ⟨g, c, p⟩ :: m ++ fut = l1 ++ (⟨g, c, p⟩ : Pay) :: (m ++ fut) := by simp
  rw [e] at hp h hr
  rcases ent_by hp h r hr er with z | ⟨x, hx, e1, e2⟩
  · exact .inl z
  · rcases List.mem_append.mp hx with w | w
    · exact absurd (ent_iff.mp er).1 (hm x w _ (e2 _ (ent_iff.mp er).1))
    · exact .inr ⟨x, w, e1, e2⟩
/-- from where the group is entered all of it is reached -/
def Inner (rw : Int → Row) (T g : List Int) : Prop := ∀ r ∈ T, ent rw g r = true → ∀ u ∈ g, Reach (T.map rw) (rw r).g u
theorem down {P : Nat → Prop} {i : Nat} (hs : ∀ l, i ≤ l → P (l + 1) → P l) : ∀ (k l m : Nat), m = l + k → i ≤ l → P m → P l
  | 0, l, m, e, _, h => by
    obtain rfl : m = l := by omega
    exact h
  | k + 1, l, m, e, hi, h => hs l hi (down hs k (l + 1) m (by omega) (by omega) h)
theorem going_inner {many root : Int} {ks : List Int} {D : List Bool} {i0 : Nat} {ρ : Int → Int × Int} {log0 : List Pay} {S : Sit} (R : RdOk many ks rw) (cost0 : ∀ k ∈ ks, 0 ≤ (rw k).c) (loop : ∀ k ∈ ks, (rw k).b ≠ (rw k).g) (hroot : got D root) (hi : i0 < many.toNat) (J0 : Ran root ks rw D ρ log0)
    (h : Go ks rw D ⟨[], (i0 : Int), ρ, log0⟩ S) : ∀ fut : List Pay, (S.log ++ fut).Pairwise (Lam rw) → (∀ x ∈ S.log ++ fut, PayG rw x) → ∀ g ∈ S.path, Inner rw (taken rw (S.log ++ fut)).1 g := by
  induction h with
  | here => exact fun fut _ _ g hg => nomatch hg
  | @on S1 init g p h hb hw hp hm hf ih =>
    intro fut hL hG g1 hg1
    have eL : (S1.next ks rw (init ++ [g]) g p).log ++ fut = S1.log ++ (⟨g, S1.rho p, p⟩ :: fut) := by
      show S1.log ++ [_] ++ fut = _
      simp
    rw [eL] at hL hG ⊢
    have ih := ih _ hL hG
    have I0 := sit_start (many := many) (D := D) (ρ := ρ) (log := log0) hi
    have I := go_ok R I0 h
    have J := going_all R cost0 loop hroot I0 (going_start J0) h
    have yL : (⟨g, S1.rho p, p⟩ : Pay) ∈ S1.log ++ (⟨g, S1.rho p, p⟩ :: fut) := by simp
    rcases with_cases hw with ⟨a, b, c⟩ | ⟨i, gi, a, b, c, d⟩
    · rcases List.mem_append.mp (show g1 ∈ init ++ [g] from hg1) with z | z
      · rw [a] at z
        exact ih g1 z
      · rw [List.mem_singleton.mp z, b]
        intro r hr er u hu
        have e1 := List.mem_singleton.mp (ent_iff.mp er).1
        rw [List.mem_singleton.mp hu, ← e1]
        exact .root
    · rcases List.mem_append.mp (show g1 ∈ init ++ [g] from hg1) with z | z
      · rw [c] at z
        exact ih g1 (List.mem_of_mem_take z)
      · rw [List.mem_singleton.mp z]
        intro r hr er u hu
        have il := (List.getElem?_eq_some_iff.mp a).1
        have sub : ∀ (l : Nat) (cc : List Int), i ≤ l → S1.path[l]? = some cc → ∀ v ∈ cc, v ∈ g := fun l cc hl hc v hv => d.mem_iff.mpr (List.mem_flatten.mpr ⟨cc, drop_at hc hl, hv⟩)
        -- each part is entered by the group's own road, or by the part's
        have two : ∀ (l : Nat) (cc : List Int), i ≤ l → S1.path[l]? = some cc → ent rw cc r = true ∨ ∃ q ∈ (taken rw (S1.log ++ (⟨g, S1.rho p, p⟩ :: fut))).1, ent rw cc q = true ∧ ((∃ g', S1.path[l + 1]? = some g' ∧ (rw q).b ∈ g') ∨ (S1.path[l + 1]? = none ∧ (rw q).b = S1.beg)) := fun l cc hl hc => by
          obtain ⟨q, E, hq⟩ := J.ch l cc hc
          obtain ⟨cq, hmem⟩ := E.mem
          obtain ⟨s, hs, es⟩ := ent_some hL hG (List.mem_append_left _ hmem)
          rcases own_or hL hG E hs es with z | ⟨x, hx, e1, e2⟩
          · rw [z] at hs es
            exact .inr ⟨q, hs, es, hq⟩
          · left
            have sg : (rw s).g ∈ cc := (ent_iff.mp es).1
            have eg : ent rw g s = true := by
              refine ent_iff.mpr ⟨sub l cc hl hc _ sg, fun w => ?_⟩
              rcases List.mem_cons.mp hx with y | y
              · rw [e1, y] at w
                exact (hG _ yL).2 w
              · obtain ⟨_, h2, _⟩ := List.pairwise_append.mp hL
                have hl2 := (List.pairwise_cons.mp h2).1 x y
                rcases hl2 with u | u
                · exact u _ (sub l cc hl hc _ sg) (e2 _ sg)
                · rw [e1] at w
                  exact (hG x (List.mem_append_right _ (List.mem_cons_of_mem _ y))).2 (u.1 _ w)
            rw [ent_uniq hL hG yL hr hs er eg]
            exact es
        have base : ∀ (l : Nat) (cc : List Int), S1.path[l]? = some cc → ent rw cc r = true → ∀ u ∈ cc, Reach ((taken rw (S1.log ++ (⟨g, S1.rho p, p⟩ :: fut))).1.map rw) (rw r).g u := fun l cc hc ec => ih cc (List.mem_of_getElem? hc) r hr ec
        have via : ∀ (l : Nat) (cc : List Int) (q : Int), S1.path[l]? = some cc → q ∈ (taken rw (S1.log ++ (⟨g, S1.rho p, p⟩ :: fut))).1 → ent rw cc q = true → Reach ((taken rw (S1.log ++ (⟨g, S1.rho p, p⟩ :: fut))).1.map rw) (rw r).g (rw q).b →
            ∀ u ∈ cc, Reach ((taken rw (S1.log ++ (⟨g, S1.rho p, p⟩ :: fut))).1.map rw) (rw r).g u := fun l cc q hc hq eq hb u hu =>
          reach_trans (.step (List.mem_map_of_mem hq) hb) (ih cc (List.mem_of_getElem? hc) q hq eq u hu)
        let All : Nat → Prop := fun l => ∀ cc, S1.path[l]? = some cc → ∀ u ∈ cc, Reach ((taken rw (S1.log ++ (⟨g, S1.rho p, p⟩ :: fut))).1.map rw) (rw r).g u
        have stp : ∀ l, i ≤ l → All (l + 1) → l + 1 < S1.path.length → All l := fun l hl hA hlen cc hc u hu => by
          rcases two l cc hl hc with z | ⟨q, hq, eq, ⟨g', c1, c2⟩ | ⟨c1, _⟩⟩
          · exact base l cc hc z u hu
          · exact via l cc q hc hq eq (hA g' c1 _ c2) u hu
          · have := List.getElem?_eq_none_iff.mp c1
            omega
        have dn : ∀ (l m : Nat), i ≤ l → l ≤ m → m < S1.path.length → All m → All l := fun l m hl hlm hm hA =>
          (down (P := fun l => l ≤ m → All l) (i := i) (fun l hl h hlt => by
            by_cases z : l + 1 ≤ m
            · exact stp l hl (h z) (by omega)
            · obtain rfl : l = m := by omega
              exact hA) (m - l) l m (by omega) hl fun _ => hA) hlm
        obtain ⟨cu, hcu, huc⟩ := List.mem_flatten.mp (d.mem_iff.mp (ent_iff.mp er).1)
        obtain ⟨j0, hj0⟩ := List.getElem?_of_mem hcu
        rw [List.getElem?_drop] at hj0
        have hjl := (List.getElem?_eq_some_iff.mp hj0).1
        have ej : ent rw cu r = true := ent_iff.mpr ⟨huc, fun w => (ent_iff.mp er).2 (sub (i + j0) cu (by omega) hj0 _ w)⟩
        have Aj : All (i + j0) := fun cc hc u hu => by
          rw [hj0] at hc
          cases hc
          exact base (i + j0) cu hj0 ej u hu
        have Ai : All i := dn i (i + j0) (Nat.le_refl _) (by omega) hjl Aj
        have hlast : S1.path.length - 1 < S1.path.length := by omega
        have Al : All (S1.path.length - 1) := fun cc hc u hu => by
          rcases two _ cc (by omega) hc with z | ⟨q, hq, eq, ⟨g', c1, c2⟩ | ⟨_, c2⟩⟩
          · exact base _ cc hc z u hu
          · have := (List.getElem?_eq_some_iff.mp c1).1
            omega
          · exact via _ cc q hc hq eq (by rw [c2]; exact Ai gi a _ b) u hu
        obtain ⟨cv, hcv, huv⟩ := List.mem_flatten.mp (d.mem_iff.mp hu)
        obtain ⟨j1, hj1⟩ := List.getElem?_of_mem hcv
        rw [List.getElem?_drop] at hj1
        have hjl1 := (List.getElem?_eq_some_iff.mp hj1).1
        exact dn (i + j1) _ (by omega) (by omega) hlast Al cv hj1 u huv
theorem go_prefix {many : Int} {ks : List Int} {D : List Bool} {S0 S : Sit} (R : RdOk many ks rw) (I : SitOk many D S0) (h : Go ks rw D S0 S) : ∃ seg, S.log = S0.log ++ seg ∧ ∀ x ∈ seg, ∀ v ∈ x.g, ¬ got D v := by
  induction h with
  | here => exact ⟨[], by simp, fun x hx => nomatch hx⟩
  | @on S1 init g p h hb hw hp hm hf ih =>
    obtain ⟨seg, e, hs⟩ := ih
    refine ⟨seg ++ [⟨g, S1.rho p, p⟩], ?_, fun x hx v hv => ?_⟩
    · show S1.log ++ [_] = _
      rw [e]
      simp
    · rcases List.mem_append.mp hx with z | z
      · exact hs x z v hv
      · rw [List.mem_singleton.mp z] at hv
        exact ((grp_ok (go_ok R I h) hb hw).mem v hv).2.2
theorem run_reach {many root : Int} {ks : List Int} (r0 : 0 ≤ root) (r1 : root < many) (R : RdOk many ks rw) (cost0 : ∀ k ∈ ks, 0 ≤ (rw k).c) (loop : ∀ k ∈ ks, (rw k).b ≠ (rw k).g) {i : Nat} {D : List Bool} {ρ : Int → Int × Int} {log : List Pay} (h : Run many root ks rw i D ρ log) :
    ∀ fut : List Pay, (log ++ fut).Pairwise (Lam rw) → (∀ x ∈ log ++ fut, PayG rw x) → (∀ x ∈ fut, ∀ v ∈ x.g, ¬ got D v) → ∀ v, 0 ≤ v → v < many → got D v → Reach ((taken rw (log ++ fut)).1.map rw) root v := by
  induction h with
  | start =>
    intro fut _ _ _ v v0 v1 hv
    unfold got done0 at hv
    rw [List.getElem?_map, List.getElem?_range (by omega)] at hv
    have := of_decide_eq_true (Option.some.inj hv)
    rw [show v = root by omega]
    exact .root
  | @place i D ρ log S h hi hg he ih =>
    intro fut hL hG hfut v v0 v1 hv
    obtain ⟨Dl, Dr, _⟩ := run_ok r0 r1 R h
    have I0 := sit_start (many := many) (D := D) (ρ := ρ) (log := log) hi
    have I := go_ok R I0 hg
    have J0 := ran_all r0 r1 R cost0 loop h
    have J := going_all R cost0 loop Dr I0 (going_start J0) hg
    have inn := going_inner R cost0 loop Dr hi J0 hg fut hL hG
    obtain ⟨seg, es, hs⟩ := go_prefix R I0 hg
    have es' : S.log = log ++ seg := es
    have hl : ∀ m ∈ S.path.flatten, m.toNat < D.length := fun m hm => by
      obtain ⟨a, b, _⟩ := I.mem m hm
      omega
    have eL : S.log ++ fut = log ++ (seg ++ fut) := by rw [es', List.append_assoc]
    have old : ∀ w, 0 ≤ w → w < many → got D w → Reach ((taken rw (S.log ++ fut)).1.map rw) root w := fun w w0 w1 hw => by
      rw [eL]
      refine ih (seg ++ fut) (eL ▸ hL) (eL ▸ hG) (fun x hx u hu z => ?_) w w0 w1 hw
      rcases List.mem_append.mp hx with q | q
      · exact hs x q u hu z
      · exact hfut x q u hu ((got_mark hl _).mpr (.inl z))
    rcases (got_mark hl _).mp hv with z | ⟨m, hm, e⟩
    · exact old v v0 v1 z
    · obtain ⟨a, b, _⟩ := I.mem m hm
      have evm : v = m := by omega
      subst evm
      obtain ⟨g, hg1, hvg⟩ := List.mem_flatten.mp hm
      obtain ⟨l, hgl⟩ := List.getElem?_of_mem hg1
      have hll := (List.getElem?_eq_some_iff.mp hgl).1
      let All : Nat → Prop := fun l => ∀ cc, S.path[l]? = some cc → ∀ u ∈ cc, Reach ((taken rw (S.log ++ fut)).1.map rw) root u
      -- each group of the path is entered by its own road
      have own : ∀ (l : Nat) (cc : List Int), S.path[l]? = some cc → ∃ q ∈ (taken rw (S.log ++ fut)).1, ent rw cc q = true ∧ ((∃ g', S.path[l + 1]? = some g' ∧ (rw q).b ∈ g') ∨ (S.path[l + 1]? = none ∧ (rw q).b = S.beg)) := fun l cc hc => by
        obtain ⟨q, E, hq⟩ := J.ch l cc hc
        obtain ⟨cq, hmem⟩ := E.mem
        obtain ⟨s, hs, es⟩ := ent_some hL hG (List.mem_append_left _ hmem)
        rcases own_or hL hG E hs es with z | ⟨x, hx, e1, e2⟩
        · rw [z] at hs es
          exact ⟨q, hs, es, hq⟩
        · have sg : (rw s).g ∈ cc := (ent_iff.mp es).1
          exact absurd ((got_mark hl _).mpr (.inr ⟨_, flat_at hc sg, rfl⟩)) (hfut x hx _ (e2 _ sg))
      have via : ∀ (l : Nat) (cc : List Int) (q : Int), S.path[l]? = some cc → q ∈ (taken rw (S.log ++ fut)).1 → ent rw cc q = true → Reach ((taken rw (S.log ++ fut)).1.map rw) root (rw q).b → ∀ u ∈ cc, Reach ((taken rw (S.log ++ fut)).1.map rw) root u := fun l cc q hc hq eq hb u hu =>
        reach_trans (.step (List.mem_map_of_mem hq) hb) (inn cc (List.mem_of_getElem? hc) q hq eq u hu)
      have Al : All (S.path.length - 1) := fun cc hc u hu => by
        obtain ⟨q, hq, eq, ⟨g', c1, c2⟩ | ⟨_, c2⟩⟩ := own _ cc hc
        · have := (List.getElem?_eq_some_iff.mp c1).1
          omega
        · exact via _ cc q hc hq eq (by rw [c2]; exact old _ I.b0 I.b1 he) u hu
      have A : All l := (down (P := fun l => l < S.path.length → All l) (i := 0) (fun l _ h hlt cc hc u hu => by
        obtain ⟨q, hq, eq, ⟨g', c1, c2⟩ | ⟨c1, c2⟩⟩ := own l cc hc
        · exact via l cc q hc hq eq (h (List.getElem?_eq_some_iff.mp c1).1 g' c1 _ c2) u hu
        · exact via l cc q hc hq eq (by rw [c2]; exact old _ I.b0 I.b1 he) u hu) (S.path.length - 1 - l) l (S.path.length - 1) (by omega) (Nat.zero_le _) fun _ => Al) hll
      exact A g hgl v hvg
end
end Rc
/-! part RcT3 -/
/-! cheapest_among, cheapest. -/
namespace Rc
open PySem PySem.Spec PyProof.Rows L2
/-- what is told, in new lists: a tree, what it costs, prices -/
def TellAt (K : PySem.W.Frag) (H H' : Hp) (t : Addr) (whole : Int) (ns : List Int) (prs : List Pr) : Prop := ∃ (l1 l2 : Addr) (ys : List V), H' t = some (.tup [.ref l1, .int whole, .ref l2]) ∧ H' l1 = some (.lst (ns.map V.int)) ∧ H' l2 = some (.lst ys) ∧ DpAll K H' ys (prs.map Pr.dat) ∧
  H t = none ∧ H l1 = none ∧ H l2 = none ∧ l1 ≠ l2
theorem TellAt.dp {K : PySem.W.Frag} {H H' : Hp} {t : Addr} {whole : Int} {ns : List Int} {prs : List Pr} (h : TellAt K H H' t whole ns prs) : Dp K H' (.ref t) (.tuple [.list (ns.map .int), .int whole, pricesDat prs]) := by
  obtain ⟨l1, l2, ys, h1, h2, h3, h4, _⟩ := h
  exact .tup (.of h1) (.cons (.lst (.of h2) (dpAll_ints ns)) (.cons (.int _) (.cons (.lst (.of h3) h4) .nil)))
theorem TellAt.back {K : PySem.W.Frag} {H H1 H' : Hp} {t : Addr} {whole : Int} {ns : List Int} {prs : List Pr} (h : TellAt K H1 H' t whole ns prs) (e : Same H H1) : TellAt K H H' t whole ns prs := by
  obtain ⟨l1, l2, ys, h1, h2, h3, h4, h5, h6, h7, h8⟩ := h
  exact ⟨l1, l2, ys, h1, h2, h3, h4, e.free h5, e.free h6, e.free h7, h8⟩
/-- what is told of the roads ks: the tree ns, what it costs, the prices prs; or the places that are left -/
def spAmong (K : PySem.W.Frag) (B TL TR : Addr) : Sp := fun vs H Q E => ∃ (many root : Int) (r : Addr) (ks : List Int) (rw : Int → Row) (tw : Int → Addr), vs = [.int many, .int root, .ref r] ∧ RoadsAt K H r ks rw tw ∧ 0 ≤ root ∧ root < many ∧ many ≤ 1000 ∧ RdOk many ks rw ∧
  LamX.TabS H TL lamQ ∧ GxR.TabG H TR ∧ TL ≠ TR ∧
  (∀ d l H' (ns : List Int), Tb TL TR H H' → H d = none → H l = none → H' d = some (.xd [("left", .ref l)]) → H' l = some (.lst (ns.map V.int)) → (∀ v, v ∈ ns ↔ 0 ≤ v ∧ v < many ∧ ¬ Reach (ks.map rw) root v) → ns.Pairwise (fun a b => a < b) → ns ≠ [] → E (.ref B) (some d) H') ∧
  ∀ t H' (ns : List Int) (prs : List Pr) D ρ log, Tb TL TR H H' → TellAt K H H' t (costOfK rw ns) ns prs → (∀ v, 0 ≤ v → v < many → Reach (ks.map rw) root v) → Run many root ks rw many.toNat D ρ log →
    ns.Perm (taken rw log).1 → ns.Pairwise (· ≤ ·) → prs.Perm (priced log) → Ord (prs.map Pr.dat) → Q (.ref t) H'
theorem sqT_but1 {K : PySem.W.Frag} {G : Hp} {D b : Addr} {vs xs : List V} (hD : G D = some (.lst vs)) (h : SqT K G b xs) : SqT K (sans (at1 D) G) b xs := by
  rcases h with (h | ⟨o, h⟩) | h
  · exact .inl (.inl (by rw [sans_no (show ¬ at1 D b from fun z => by have z' : b = D := z; rw [z', hD] at h; cases h)]; exact h))
  · exact .inl (.inr ⟨o, by rw [sans_no (show ¬ at1 D b from fun z => by have z' : b = D := z; rw [z', hD] at h; cases h)]; exact h⟩)
  · exact .inr h
section
variable {P : Program} {w : World} {K : PySem.W.Frag} {mg : Str → Option Value} {base : Heap}
theorem ok_among {f B R0 TL TR : Addr} {fd : FuncData} {k : Nat} (F : Fun K "cheapest_among" "cheapest_among" s_cheapest_among f fd) (li : mg "list" = none) (sm : mg "sum" = none) (so : mg "sorted" = none) (TO : TxtO K mg B R0) (hO : HasO P w K mg base B k)
    (hL : Has P w K mg base "left_out" ["many", "root", "roads"] (k + 1) (spLeft K)) (hR : Has P w K mg base "pay_roads" ["many", "root", "roads"] (k + 1) (spRun K TL)) (hT : Has P w K mg base "tree_paid" ["payments", "roads"] (k + 1) (spTree K TR)) :
    FnOk P w K mg base (L2N.CX P w) (k + 2) f fd ["many", "root", "roads"] (spAmong K B TL TR) := by
  obtain ⟨fE, fdE, iE, tE, bE, GE⟩ := hO
  obtain ⟨fL, fdL, gL, kL, bL, GL⟩ := hL
  obtain ⟨fR, fdR, gR, kR, bR, GR⟩ := hR
  obtain ⟨fT, fdT, gT, kT, bT, GT⟩ := hT
  refine Fun.okN F sc_cheapest_among (fun vs H Q E h => ?_) (fun cdv A outer s H vs Q E hr h tk => ?_)
  · obtain ⟨many, root, r, ks, rw, tw, rfl, _⟩ := h
    rfl
  · obtain ⟨many, root, r, ks, rw, tw, rfl, hRd, r0, r1, m1, R, tl, tr, neT, qE, q⟩ := h
    have hu : (A.deeper (envOfC "cheapest_among" (defScope s_cheapest_among) s.heap.objs.size f cdv)).units + 1 < cLine := by
      have := hr.un
      omega
    refine ⟨_, (pss_cons (ps_set (i := 3) sc_cheapest_among.nd rfl (Or.inl rfl) (pe_call GL hr (by rfl) gL kL bL .nil pass0 (pa_cons (pv 0) (pa_cons (pv 1) (pa_cons (pe_listVals rfl (by rfl) li (pv 2)) pa_nil)))))
  (pss_cons (ps_if (pt_truth (pv 3) (by intro _; rfl))
   (pss_one (L2N.ps_raise rfl tk (mk_excN TO.ox iE tE GE hr bE (by rfl) TO.mgB (pa_cons (pv 3) pa_nil))))
   pss_nil)
  (pss_cons (ps_set (i := 4) sc_cheapest_among.nd rfl (Or.inl rfl) (pe_call GR hr (by rfl) gR kR bR .nil pass0 (pa_cons (pv 0) (pa_cons (pv 1) (pa_cons (pv 2) pa_nil)))))
  (pss_cons (ps_set (i := 5) sc_cheapest_among.nd rfl (Or.inl rfl) (pe_call GT hr (by rfl) gT kT bT .nil pass0 (pa_cons (pv 4) (pa_cons (pv 2) pa_nil))))
  (pss_cons (ps_set (i := 6) sc_cheapest_among.nd rfl (Or.inl rfl) (pe_callB (cr_sum rfl) (by rfl) sm (by decide +kernel) (pa_cons (pe_lc (own := [("road", 8)]) (g := gName 8) (tt := tYes) rfl sc_cheapest_among.nd (pi_list (pv 5)) (blkOk_by (N := N_cheapest_among) (sc := defScope s_cheapest_among) (by decide +kernel)) (fun _ _ _ _ _ => (pg_name (i := 8) sc_cheapest_among.nd rfl (Or.inl rfl))) (fun _ _ _ _ _ => pts_nil) (fun _ _ _ _ _ => (pe_ix (r := rIxT K) ix_tup (pe_dget hu (pv 2) (pv 8) (fun _ _ => rfl)) pe_int (fun _ _ => rfl)))) pa_nil)))
  (pss_cons (ps_set (i := 7) sc_cheapest_among.nd rfl (Or.inl rfl) (pe_callB (cr_sortD hr.units) (by rfl) so (by decide +kernel) (pa_cons (pe_lc (own := [("group", 9), ("price", 10), ("_", 11)]) (g := gTup K 3 (gCons (gName 9) (gCons (gName 10) (gCons (gName 11) gNil)))) (tt := tTest (tOp (rI0 fun i j => .bl (decide (j < i))) (tVar 10) (tC (.int 0)))) rfl sc_cheapest_among.nd (pi_list (pv 4)) (blkOk_by (N := N_cheapest_among) (sc := defScope s_cheapest_among) (by decide +kernel)) (fun _ _ _ _ _ => (pg_tup (by rfl) (pgs_cons (pg_name (i := 9) sc_cheapest_among.nd rfl (Or.inl rfl)) (pgs_cons (pg_name (i := 10) sc_cheapest_among.nd rfl (Or.inl rfl)) (pgs_cons (pg_name (i := 11) sc_cheapest_among.nd rfl (Or.inl rfl)) pgs_nil))))) (fun _ _ _ _ _ => (pts_one (pt_cmpR op_gt (pv 10) pe_int (nomark _)))) (fun _ _ _ _ _ => (pe_tup (pa_cons (pv 9) (pa_cons (pv 10) pa_nil))))) pa_nil)))
  (pss_one (ps_ret (pe_tup (pa_cons (pv 5) (pa_cons (pv 6) (pa_cons (pv 7) pa_nil)))))))))))), ?_⟩
    have hks : (intD ks fun k => V.ref (tw k)).map (·.2) = ks.map fun k => V.ref (tw k) := by
      unfold intD
      rw [List.map_map]
      rfl
    have hrows : ∀ {G : Hp} (ls : List Int), (∀ k ∈ ls, SqT K G (tw k) [.int (rw k).b, .int (rw k).g, .int (rw k).c]) → DpAll K G (ls.map fun k => V.ref (tw k)) ((ls.map rw).map Row.dat) := fun {G} ls => by
      induction ls with
      | nil => intro _; exact .nil
      | cons k ls ih =>
        intro h
        exact .cons (.tup (h k List.mem_cons_self) (.cons (.int _) (.cons (.int _) (.cons (.int _) .nil)))) (ih fun j hj => h j (List.mem_cons_of_mem _ hj))
    refine ⟨_, rfl, _, rfl, _, rfl, r, _, rfl, hRd.dd, fun p hp => ?_⟩
    rw [hks]
    have e0 : Same H (upd H p (.lst (ks.map fun k => V.ref (tw k)))) := same_new hp
    refine ⟨many, root, _, ks.map rw, rfl, .lst (.of upd_same) (hrows ks fun k hk => sqT_same e0 (hRd.has k hk)), r0, r1, m1, by rw [List.length_map]; exact R.len, fun x hx => ?_, fun H1 l ns e1 hl hl' hns hup => ?_⟩
    · obtain ⟨k, hk, rfl⟩ := List.mem_map.mp hx
      exact R.row k hk
    have e01 := e0.trans e1
    refine ⟨_, rfl, _, .inl ⟨_, .of hl', rfl⟩, ite2 (fun c => ?_) (fun c => ?_)⟩
    · -- some are left
      have hne : ns ≠ [] := fun z => by
        rw [z] at c
        cases c
      have hlen : ns.length ≤ 1000 := by
        have := ints_le (many := many) (hup.imp fun h => Int.ne_of_lt h) fun v hv => ⟨((hns v).mp hv).1, ((hns v).mp hv).2.1⟩
        omega
      refine ⟨_, rfl, mk_notree (.of hl') hlen (fun n hn => ?_) fun d l2 H' e hd hl0 hxd hl2 => ?_⟩
      · obtain ⟨a, b, _⟩ := (hns n).mp hn
        have : n.natAbs ≤ 1000 := by omega
        exact Nat.lt_of_le_of_lt this (by decide)
      · exact qE d l2 H' ns (Tb.start tl tr (e01.trans e)) (e01.free hd) (e01.free hl0) hxd hl2 hns hup hne
    · have hnil : ns = [] := by
        cases ns with
        | nil => rfl
        | cons a l => exact absurd rfl c
      have hreach : ∀ v, 0 ≤ v → v < many → Reach (ks.map rw) root v := fun v a b => Classical.byContradiction fun z => by
        have := (hns v).mpr ⟨a, b, z⟩
        rw [hnil] at this
        cases this
      have T1 : Tb TL TR H H1 := Tb.start tl tr e01
      have hRd1 := hRd.same e01
      refine ⟨_, rfl, _, rfl, _, rfl, many, root, r, ks, rw, tw, rfl, hRd1, r0, r1, m1, R, hreach, T1.tl, fun H2 p2 pvs log D ρ old2 tl2 hp2 hp2' hA run => ?_⟩
      have T2 : Tb TL TR H1 H2 := Tb.run neT T1.tr old2 tl2
      have hpays := run_pays r0 r1 m1 R run
      have hlog : log.length ≤ 2000000 := by
        have h1 := run_log R run
        have h2 : many.toNat * (2 * many.toNat) ≤ 1000 * 2000 := Nat.mul_le_mul (by omega) (by omega)
        omega
      have hRd2 : RoadsAt K H2 r ks rw tw := (hRd1.sans (mids T1.tl T1.tr)).same T2.sans
      refine ⟨_, rfl, _, rfl, .ref p2, r, ks, rw, tw, log, rfl, .lst (.of hp2') hA, hRd2, by omega, fun x hx => (hpays x hx).toPayOk, T2.tr, fun H3 p3 ns3 t3 hp3 hp3' hperm hup3 => ?_⟩
      have T3 : Tb TL TR H2 H3 := Tb.tree neT T2.tl T2.tr t3
      have T03 := (T1.trans T2).trans T3
      have hm2 := mids T2.tl T2.tr
      have hpS : SqL K H3 p2 pvs := T3.sans.seq (sqL_sans hm2 (.of hp2'))
      have hA3 : DpAll K H3 pvs (log.map Pay.dat) := dpAll_same T3.sans _ _ (dpAll_sans hm2 _ _ hA)
      have hpl : pvs.length = log.length := by rw [dpAll_len hA, List.length_map]
      have hRd3 : RoadsAt K H3 r ks rw tw := (hRd2.sans hm2).same T3.sans
      have hn3 : ∀ k ∈ ns3, k ∈ ks := fun k hk => by
        obtain ⟨x, hx, e⟩ := taken_sub k (hperm.mem_iff.mp hk)
        rw [e]
        exact (hpays x hx).k
      have hn3l : ns3.length ≤ 2000000 := by
        rw [hperm.length_eq]
        have := (taken_len (rw := rw) (xs := log.reverse) (st := ([], []))).1
        rw [List.length_reverse] at this
        show (taken rw log).1.length ≤ _
        unfold taken
        simp only [List.length_nil] at this
        omega
      -- what the tree costs
      refine ⟨_, rfl, p3, rfl, ⟨_, .of hp3'⟩, fun D1 hD1 => lc_list (K := K) (a := p3) (xs := ns3.map V.int) (fun i G => Same H3 G ∧ G D1 = some (.lst (((ns3.take i).map fun k => (rw k).c).map V.int))) ⟨same_new hD1, upd_same⟩ (fun i G _ z => .of (z.1 _ _ hp3')) ?_ ?_⟩
      · rintro i y G hi ⟨eG, hG⟩
        obtain ⟨n, hn, rfl⟩ : ∃ n, ns3[i]? = some n ∧ y = .int n := by
          rw [List.getElem?_map] at hi
          cases em : ns3[i]? with
          | none => rw [em] at hi; cases hi
          | some u => rw [em] at hi; exact ⟨u, rfl, (Option.some.inj hi).symm⟩
        have hk := hn3 n (List.mem_of_getElem? hn)
        have hRG := hRd3.same eG
        refine ⟨rfl, _, rfl, _, rfl, r, _, rfl, hRG.dget hk, tw n, _, _, _, rfl, rfl, hRG.has n hk, rfl, _, hG, ?_, same_mut eG hD1, ?_⟩
        · rw [List.length_map, List.length_map, List.length_take]
          exact small_lt (by omega)
        · rw [upd_same, take_succ hn, List.map_append, List.map_append]
          rfl
      · rintro H4 ⟨e4, h4⟩
        rw [List.length_map, List.take_length] at h4
        refine ⟨D1, ns3.map fun k => (rw k).c, rfl, .of h4, ?_⟩
        -- the prices
        refine ⟨_, rfl, p2, rfl, ⟨_, e4.seq hpS⟩, fun D2 hD2 => lc_list (K := K) (a := p2) (xs := pvs) (fun i G => Same H4 G ∧ ∃ vs, G D2 = some (.lst vs) ∧ vs.length ≤ i ∧ DpAll K (sans (at1 D2) G) vs ((priced (log.take i)).map Pr.dat)) ⟨same_new hD2, [], upd_same, Nat.le_refl _, .nil⟩ (fun i G _ z => (e4.trans z.1).seq hpS) ?_ ?_⟩
        · rintro i y G hi ⟨eG, vs, hG, hvl, hvd⟩
          obtain ⟨dd, hdd, hy⟩ := dpAll_get' (dpAll_same (e4.trans eG) _ _ hA3) hi
          obtain ⟨x, hx, rfl⟩ : ∃ x, log[i]? = some x ∧ dd = x.dat := by
            rw [List.getElem?_map] at hdd
            cases er : log[i]? with
            | none => rw [er] at hdd; cases hdd
            | some u => rw [er] at hdd; exact ⟨u, rfl, (Option.some.inj hdd).symm⟩
          have hil := (List.getElem?_eq_some_iff.mp hx).1
          obtain ⟨t, b, rfl, hT, hB⟩ := pay_inv hy
          have hpr : priced (log.take (i + 1)) = priced (log.take i) ++ (if decide (0 < x.c.1) = true then [toPr x] else []) := by
            unfold priced
            rw [take_succ hx, List.filter_append, List.map_append, List.filter_cons]
            split <;> rfl
          refine ⟨t, _, rfl, hT, rfl, _, _, rfl, _, _, rfl, _, _, rfl, rfl, rfl, ?_⟩
          refine ⟨_, rfl, _, _, rfl, rfl, _, rfl, ite2 (fun c2 => ?_) (fun c2 => ?_)⟩
          · refine ⟨_, rfl, _, rfl, (by show 2 ≤ sizeLine; decide), fun T hTn => ⟨vs, ?_, small_lt (by omega), ?_, vs ++ [.ref T], upd_same, ?_, ?_⟩⟩
            · rw [upd_ne (ne_of_none hG hTn)]
              exact hG
            · exact same_mut (eG.trans (same_new hTn)) hD2
            · rw [List.length_append, List.length_singleton]
              omega
            · have nTD : T ≠ D2 := Ne.symm (ne_of_none hG hTn)
              have s1 : Same (sans (at1 D2) G) (sans (at1 D2) (upd G T (.tup [.ref b, .int x.c.1]))) := ep_same (same_new hTn)
              have s2 : Same (sans (at1 D2) (upd G T (.tup [.ref b, .int x.c.1]))) (sans (at1 D2) (upd (upd G T (.tup [.ref b, .int x.c.1])) D2 (.lst (vs ++ [.ref T])))) := St5.part_put rfl
              have hTT : (sans (at1 D2) (upd G T (.tup [.ref b, .int x.c.1]))) T = some (.tup [.ref b, .int x.c.1]) := by
                rw [sans_no (show ¬ at1 D2 T from nTD), upd_same]
              rw [hpr, if_pos c2, List.map_append]
              exact dpAll_app (dpAll_same s2 _ _ (dpAll_same s1 _ _ hvd)) (dpAll_one (dp_same s2 _ _ (.tup (.of hTT) (.cons (.tup (sqT_same s1 (sqT_but1 hG hB)) (dpAll_ints x.g)) (.cons (.int _) .nil)))))
          · refine ⟨eG, vs, hG, by omega, ?_⟩
            rw [hpr, if_neg c2, List.append_nil]
            exact hvd
        · rintro H5 ⟨e5, vs, h5, hvl, hvd⟩
          rw [hpl, List.take_length] at hvd
          refine ⟨D2, vs, (priced log).map Pr.dat, rfl, .of h5, dpAll_same sans_same _ _ hvd, fun d hd d' hd' => ?_, .inl fun d hd => ?_, fun d hd => ?_, fun p6 ys es hp6 hpe hoe hce => ?_⟩
          · obtain ⟨x, _, rfl⟩ := List.mem_map.mp hd
            obtain ⟨y, _, rfl⟩ := List.mem_map.mp hd'
            exact alike_prD x y
          · obtain ⟨x, _, rfl⟩ := List.mem_map.mp hd
            exact ⟨_, _, rfl⟩
          · obtain ⟨x, _, rfl⟩ := List.mem_map.mp hd
            exact Nat.le_trans (num_ok 2 _ (num_prD x)).2 (by decide)
          · obtain ⟨prs, rfl, hpp⟩ := perm_map_inv hpe (priced log) rfl
            have e6 : Same H3 (upd H5 p6 (.lst ys)) := (e4.trans e5).trans (same_new hp6)
            refine ⟨_, rfl, _, rfl, _, rfl, (by show 3 ≤ sizeLine; decide), fun t ht => ?_⟩
            have e7 := e6.trans (same_new (o := HO.tup [.ref p3, .int (ns3.map fun k => (rw k).c).sum, .ref p6]) ht)
            have n6t : p6 ≠ t := fun z => by rw [← z, upd_same] at ht; cases ht
            have hp6' : (upd (upd H5 p6 (.lst ys)) t (.tup [.ref p3, .int (ns3.map fun k => (rw k).c).sum, .ref p6])) p6 = some (.lst ys) := by
              rw [upd_ne n6t, upd_same]
            have e05 := (e4.trans e5)
            have n36 : p3 ≠ p6 := ne_of_none (e05 _ _ hp3') hp6
            refine q t _ ns3 prs D ρ log (T03.same e7) ⟨p3, p6, ys, upd_same, e7 _ _ hp3', hp6', dpAll_same ((same_new hp6).trans (same_new ht)) _ _ (hce _ (dpAll_same sans_same _ _ hvd)), T03.free (e6.free ht), (T1.trans T2).free hp3, T03.free (e05.free hp6), n36⟩ hreach run hperm hup3 hpp hoe
end
end Rc
/-! part RcT4 -/
/-! cheapest: of a map. -/
namespace Rc
open PySem PySem.Spec PyProof.Rows L2
def idx (n : Nat) : List Int := (List.range n).map fun (i : Nat) => (i : Int)
theorem mem_idx {n : Nat} {k : Int} : k ∈ idx n ↔ 0 ≤ k ∧ k < (n : Int) := by
  unfold idx
  rw [List.mem_map]
  exact ⟨fun ⟨i, hi, e⟩ => by have := List.mem_range.mp hi; omega, fun ⟨a, b⟩ => ⟨k.toNat, List.mem_range.mpr (by omega), by omega⟩⟩
theorem idx_nodup (n : Nat) : (idx n).Nodup := by
  unfold idx List.Nodup
  rw [List.pairwise_map]
  exact List.nodup_range.imp fun h e => h (by omega)
def rowAt (rows : List Row) (k : Int) : Row := rows.getD k.toNat ⟨0, 0, 0⟩
theorem rowAt_of {rows : List Row} {i : Nat} {r : Row} (h : rows[i]? = some r) : rowAt rows (i : Int) = r := by
  unfold rowAt
  rw [show ((i : Int)).toNat = i by omega, List.getD_eq_getElem?_getD, h]
  rfl
theorem idx_rows (rows : List Row) : (idx rows.length).map (rowAt rows) = rows := by
  apply List.ext_getElem?
  intro i
  unfold idx
  rw [List.getElem?_map, List.getElem?_map]
  by_cases h : i < rows.length
  · rw [List.getElem?_range h, List.getElem?_eq_getElem h]
    show some (rowAt rows (i : Int)) = _
    rw [rowAt_of (List.getElem?_eq_getElem h)]
  · rw [List.getElem?_eq_none (by rw [List.length_range]; omega), List.getElem?_eq_none (by omega)]
    rfl
theorem cost_rowAt (rows : List Row) (ns : List Int) : costOfK (rowAt rows) ns = costOf rows ns := by
  unfold costOfK costOf
  congr 1
  refine List.map_congr_left fun k _ => ?_
  unfold rowAt
  rw [List.getD_eq_getElem?_getD]
  cases rows[k.toNat]? <;> rfl
theorem rows_ok {n root : Int} {rows : List Row} (ok : ChartOk n root rows) : RdOk n (idx rows.length) (rowAt rows) := by
  obtain ⟨m0, m1, r0, r1, hl, hr⟩ := ok
  refine ⟨idx_nodup _, fun k hk => ?_, ?_, fun k hk => ?_⟩
  · obtain ⟨a, b⟩ := mem_idx.mp hk
    exact ⟨a, by omega⟩
  · unfold idx
    rw [List.length_map, List.length_range]
    omega
  · obtain ⟨a, b⟩ := mem_idx.mp hk
    have hk2 : k.toNat < rows.length := by omega
    have e : rowAt rows k = rows[k.toNat] := by
      have := rowAt_of (List.getElem?_eq_getElem hk2)
      rw [show ((k.toNat : Nat) : Int) = k by omega] at this
      exact this
    have h := hr _ (List.getElem_mem hk2)
    rw [e]
    exact ⟨h.b0, h.b1, h.g0, h.g1⟩
def adr (xs : List V) (k : Int) : Addr := match xs[k.toNat]? with
  | some (.ref a) => a
  | _ => 0
theorem num_intD {K : PySem.W.Frag} {H : Hp} {xs : List V} {rows : List Row} (h : DpAll K H xs (rows.map Row.dat)) : numFrom 0 xs = intD (idx rows.length) fun k => .ref (adr xs k) := by
  have hl : xs.length = rows.length := by rw [dpAll_len h, List.length_map]
  apply List.ext_getElem?
  intro i
  rw [numFrom_get]
  unfold intD idx
  rw [List.getElem?_map, List.getElem?_map]
  by_cases hi : i < rows.length
  · rw [List.getElem?_range hi]
    obtain ⟨t, ht, _⟩ := rows_at h (List.getElem?_eq_getElem hi)
    rw [ht]
    have ea : adr xs (i : Int) = t := by
      unfold adr
      rw [show ((i : Int)).toNat = i by omega, ht]
    show some ((Sum.inl ((0 + i : Nat) : Int) : Key), V.ref t) = some ((Sum.inl (i : Int) : Key), V.ref (adr xs (i : Int)))
    rw [ea, Nat.zero_add]
  · rw [List.getElem?_eq_none (by rw [hl]; omega), List.getElem?_eq_none (l := List.range rows.length) (by rw [List.length_range]; omega)]
    rfl
/-- what is told of a map: the tree ns, what it costs, the prices prs; or the places that are left -/
def spCheapest (K : PySem.W.Frag) (C B TL TR : Addr) : Sp := fun vs H Q E => ∃ (p : Addr) (n root : Int) (rows : List Row), vs = [.ref p] ∧ MapAt K C H p n root rows ∧ ChartOk n root rows ∧ LamX.TabS H TL lamQ ∧ GxR.TabG H TR ∧ TL ≠ TR ∧
  (∀ d l H' (ns : List Int), Tb TL TR H H' → H d = none → H l = none → H' d = some (.xd [("left", .ref l)]) → H' l = some (.lst (ns.map V.int)) → (∀ v, v ∈ ns ↔ 0 ≤ v ∧ v < n ∧ ¬ Reach rows root v) → ns.Pairwise (fun a b => a < b) → ns ≠ [] → E (.ref B) (some d) H') ∧
  ∀ t H' (ns : List Int) (prs : List Pr) D ρ log, Tb TL TR H H' → TellAt K H H' t (costOf rows ns) ns prs → (∀ v, 0 ≤ v → v < n → Reach rows root v) → Run n root (idx rows.length) (rowAt rows) n.toNat D ρ log →
    ns.Perm (taken (rowAt rows) log).1 → ns.Pairwise (· ≤ ·) → prs.Perm (priced log) → Ord (prs.map Pr.dat) → Q (.ref t) H'
/-- the roads of a map by their numbers, in a new dict -/
def spByNum (K : PySem.W.Frag) (C : Addr) : Sp := fun vs H Q _ => ∃ (p : Addr) (n root : Int) (rows : List Row), vs = [.ref p] ∧ MapAt K C H p n root rows ∧
  ∀ d H' tw, Same H H' → H d = none → RoadsAt K H' d (idx rows.length) (rowAt rows) tw → Q (.ref d) H'
section
variable {P : Program} {w : World} {K : PySem.W.Frag} {mg : Str → Option Value} {base : Heap}
theorem ok_by_number {f C : Addr} {fd : FuncData} {k : Nat} (F : Fun K "roads_by_number" "roads_by_number" s_roads_by_number f fd) (TM : TxtM K mg C) (di : mg "dict" = none) (hRo : HasM P w K mg base C "roads" ["self"] k (spRoads K C)) : FnOk P w K mg base CX0 (k + 1) f fd ["chart"] (spByNum K C) := by
  obtain ⟨fR, fdR, mR, bR, GR⟩ := hRo
  refine F.ok sc_roads_by_number (fun vs H Q E h => ?_) (fun cdv A outer s H vs Q E hr h => ?_)
  · obtain ⟨p, n, root, rows, rfl, _⟩ := h
    rfl
  · obtain ⟨p, n, root, rows, rfl, hM, q⟩ := h
    refine ⟨_, (pss_one (ps_ret (pe_dictEnum rfl (by rfl) di (by rfl) TM.enum (pa_cons (pe_meth0 (pv 0) TM.cl mR GR hr bR .nil pass0) pa_nil)))), ?_⟩
    obtain ⟨dx, l0, hp0, _⟩ := id hM
    refine ⟨_, rfl, p, dx, _, rfl, hp0, lk_roads, p, n, root, rows, rfl, hM, fun l xs hl hXA => ?_⟩
    refine ⟨l, xs, rfl, .of upd_same, fun d hd => ?_⟩
    rw [num_intD hXA]
    have e1 : Same H (upd (upd H l (.lst xs)) d (.dK (intD (idx rows.length) fun k => .ref (adr xs k)))) := (same_new hl).trans (same_new hd)
    have hdd : (upd (upd H l (.lst xs)) d (.dK (intD (idx rows.length) fun k => .ref (adr xs k)))) d = some (.dK (intD (idx rows.length) fun k => .ref (adr xs k))) := upd_same
    have hd0 : H d = none := (same_new hl).free hd
    refine q d _ (adr xs) e1 hd0 ⟨hdd, fun k hk => ?_⟩
    obtain ⟨a, b⟩ := mem_idx.mp hk
    have hk2 : k.toNat < rows.length := by omega
    obtain ⟨t, ht, hT⟩ := rows_at (dpAll_same e1 _ _ hXA) (List.getElem?_eq_getElem hk2)
    have ea : adr xs k = t := by
      unfold adr
      rw [ht]
    have er : rowAt rows k = rows[k.toNat] := by
      have := rowAt_of (List.getElem?_eq_getElem hk2)
      rw [show ((k.toNat : Nat) : Int) = k by omega] at this
      exact this
    rw [ea, er]
    exact hT
theorem ok_cheapest {f C B TL TR : Addr} {fd : FuncData} {k : Nat} (F : Fun K "cheapest" "cheapest" s_cheapest f fd) (TM : TxtM K mg C) (hBy : Has P w K mg base "roads_by_number" ["chart"] k (spByNum K C)) (hSi : HasM P w K mg base C "size" ["self"] k (spSize K C)) (hBe : HasM P w K mg base C "begin" ["self"] k (spBegin K C))
    (hA : HasN P w K mg base "cheapest_among" ["many", "root", "roads"] k (spAmong K B TL TR)) : FnOk P w K mg base (L2N.CX P w) (k + 1) f fd ["chart"] (spCheapest K C B TL TR) := by
  obtain ⟨fR, fdR, gR, kR, bR, GR⟩ := hBy
  obtain ⟨fS, fdS, mS, bS, GS⟩ := hSi
  obtain ⟨fB, fdB, mB, bB, GB⟩ := hBe
  obtain ⟨fA, fdA, gA, kA, bA, GA⟩ := hA
  refine Fun.okN F sc_cheapest (fun vs H Q E h => ?_) (fun cdv A outer s H vs Q E hr h tk => ?_)
  · obtain ⟨p, n, root, rows, rfl, _⟩ := h
    rfl
  · obtain ⟨p, n, root, rows, rfl, hM, ok, tl, tr, ne, qE, q⟩ := h
    refine ⟨_, (pss_one (ps_ret (pe_call GA hr (by rfl) gA kA bA .nil (L2N.passes_call tk (E := E) fun _ _ _ _ h => h) (pa_cons (pe_meth0 (pv 0) TM.cl mS GS hr bS .nil pass0) (pa_cons (pe_meth0 (pv 0) TM.cl mB GB hr bB .nil pass0) (pa_cons (pe_call GR hr (by rfl) gR kR bR .nil pass0 (pa_cons (pv 0) pa_nil)) pa_nil)))))), ?_⟩
    obtain ⟨dx, l0, hp0, _⟩ := id hM
    obtain ⟨m0, m1, r0, r1, h60, hrows⟩ := id ok
    refine ⟨_, rfl, p, dx, _, rfl, hp0, lk_size, p, n, root, rows, rfl, hM, _, rfl, p, dx, _, rfl, hp0, lk_begin, p, n, root, rows, rfl, hM, _, rfl, p, n, root, rows, rfl, hM, fun d G tw e1 hd0 hRd => ?_⟩
    have T1 := Tb.start tl tr e1
    refine ⟨n, root, d, idx rows.length, rowAt rows, tw, rfl, hRd, r0, r1, by omega, rows_ok ok, T1.tl, T1.tr, ne, fun d2 l2 H' ns t2 hd2 hl0 hxd hl2 hns hup hne => ?_, fun t H' ns prs D ρ log t2 hDt hreach run hperm hup hpr hord => ?_⟩
    · rw [idx_rows] at hns
      exact qE d2 l2 H' ns (T1.trans t2) (e1.free hd2) (e1.free hl0) hxd hl2 hns hup hne
    · rw [idx_rows] at hreach
      rw [cost_rowAt] at hDt
      exact q t H' ns prs D ρ log (T1.trans t2) (hDt.back e1) hreach run hperm hup hpr hord
end
end Rc
/-! part RcV4 -/
/-! What is told of a map is its first cheapest tree, and its prices show it. -/
namespace Rc
open PySem PySem.Spec PyProof.Rows L2
theorem pick_row (rows : List Row) (is : List Int) : pick rows is = is.map (rowAt rows) := by
  unfold pick
  refine List.map_congr_left fun i _ => ?_
  unfold rowAt
  rw [List.getD_eq_getElem?_getD]
theorem rowAt_get {rows : List Row} {k : Int} (h0 : 0 ≤ k) (h1 : k < (rows.length : Int)) : rowAt rows k = rows[k.toNat]'(by omega) := by
  have := rowAt_of (rows := rows) (i := k.toNat) (List.getElem?_eq_getElem (by omega))
  rw [show ((k.toNat : Nat) : Int) = k by omega] at this
  exact this
/-- what a map's roads have -/
theorem chart_roads {n root : Int} {rows : List Row} (ok : ChartOk n root rows) : (∀ k ∈ idx rows.length, 0 ≤ (rowAt rows k).c) ∧ ∀ k ∈ idx rows.length, (rowAt rows k).b ≠ (rowAt rows k).g := by
  have key : ∀ k ∈ idx rows.length, Row.Ok n (rowAt rows k) := fun k hk => by
    obtain ⟨a, b⟩ := mem_idx.mp hk
    rw [rowAt_get a b]
    exact ok.rows _ (List.getElem_mem _)
  exact ⟨fun k hk => (key k hk).c0, fun k hk => (key k hk).ne⟩
/-- the roads of a tree lead into each place but the root, just once -/
theorem tree_goals {n root : Int} {rows : List Row} {js : List Int} (r0 : 0 ≤ root) (r1 : root < n) (t : IsTree n root rows js) : (js.map fun r => (rowAt rows r).g).Perm (others root n.toNat) := by
  obtain ⟨h1, h2, h3⟩ := t
  have hol := others_len (root := root) (n := n.toNat) r0 (by omega)
  refine perm_of_sub (others_nodup _ _) (fun v hv => ?_) (by rw [List.length_map]; omega)
  obtain ⟨v0, v1, vn⟩ := mem_others.mp hv
  rcases reach_last (h3 v v0 (by omega)) with e | ⟨r, hr, hg⟩
  · exact absurd e vn
  · rw [pick_row] at hr
    obtain ⟨i, hi, e⟩ := List.mem_map.mp hr
    exact List.mem_map.mpr ⟨i, hi, by rw [← hg, ← e]⟩
theorem nodup_of_map {α β : Type} {f : α → β} : ∀ {l : List α}, (l.map f).Nodup → l.Nodup
  | [], _ => List.nodup_nil
  | a :: l, h => by
    rw [List.map_cons, List.nodup_cons] at h
    exact List.nodup_cons.mpr ⟨fun z => h.1 (List.mem_map_of_mem z), nodup_of_map h.2⟩
theorem tree_nodup {n root : Int} {rows : List Row} {js : List Int} (r0 : 0 ≤ root) (r1 : root < n) (t : IsTree n root rows js) : js.Nodup :=
  nodup_of_map ((tree_goals r0 r1 t).nodup_iff.mpr (others_nodup _ _))
/-! ### sums -/
theorem map_add {α : Type} (f g : α → Int) : ∀ l : List α, (l.map fun x => f x + g x).sum = (l.map f).sum + (l.map g).sum
  | [] => rfl
  | x :: l => by
    rw [List.map_cons, List.map_cons, List.map_cons, List.sum_cons, List.sum_cons, List.sum_cons, map_add f g l]
    omega
theorem count_sum (q : Int → Bool) (c : Int) : ∀ J : List Int, (J.map fun r => if q r = true then c else 0).sum = (J.countP q : Int) * c
  | [] => by simp
  | r :: J => by
    rw [List.map_cons, List.sum_cons, count_sum q c J, List.countP_cons]
    by_cases h : q r = true
    · rw [if_pos h, if_pos h, Int.natCast_add, Int.add_mul]
      simp
      omega
    · rw [if_neg h, if_neg h]
      simp
theorem swap_sum (rw : Int → Row) (f : Pay → Int) (J : List Int) : ∀ log : List Pay, (J.map fun r => (log.map fun x => if ent rw x.g r = true then f x else 0).sum).sum = (log.map fun x => (J.countP (ent rw x.g) : Int) * f x).sum
  | [] => by
    show (J.map fun _ => (0 : Int)).sum = 0
    exact sum_none fun _ _ => rfl
  | x :: log => by
    rw [List.map_cons, List.sum_cons, ← swap_sum rw f J log, ← count_sum (ent rw x.g) (f x) J, ← map_add]
    rfl
theorem le2_sum {α : Type} {f1 f2 g1 g2 : α → Int} : ∀ {l : List α}, (∀ x ∈ l, Le2 (f1 x, f2 x) (g1 x, g2 x)) → Le2 ((l.map f1).sum, (l.map f2).sum) ((l.map g1).sum, (l.map g2).sum)
  | [], _ => .inr ⟨rfl, Int.le_refl _⟩
  | x :: l, h => by
    have a := h x List.mem_cons_self
    have b := le2_sum (l := l) fun y hy => h y (List.mem_cons_of_mem _ hy)
    unfold Le2 at a b ⊢
    simp only [List.map_cons, List.sum_cons] at a b ⊢
    omega
def rankSum (js : List Int) : Int := (js.map rankOf).sum
theorem mul_le2 {c : Int × Int} {k : Nat} (hk : 1 ≤ k) (hc : k = 1 ∨ Le2 (0, 0) c) : Le2 c ((k : Int) * c.1, (k : Int) * c.2) := by
  rcases hc with z | z
  · rw [z]
    refine .inr ⟨?_, ?_⟩
    · simp
    · simp
  · obtain ⟨m, rfl⟩ : ∃ m, k = m + 1 := ⟨k - 1, by omega⟩
    have e1 : ((m + 1 : Nat) : Int) * c.1 = (m : Int) * c.1 + c.1 := by rw [Int.natCast_add, Int.add_mul]; simp
    have e2 : ((m + 1 : Nat) : Int) * c.2 = (m : Int) * c.2 + c.2 := by rw [Int.natCast_add, Int.add_mul]; simp
    rw [e1, e2]
    unfold Le2 at z ⊢
    dsimp only at z ⊢
    have m0 : (0 : Int) ≤ (m : Int) := by omega
    rcases z with z | ⟨z1, z2⟩
    · have h1 := Int.mul_nonneg m0 (Int.le_of_lt z)
      by_cases hm : m = 0
      · subst hm
        simp
      · have h2 : 0 < (m : Int) * c.1 := Int.mul_pos (by omega) z
        omega
    · have h1 : (m : Int) * c.1 = 0 := by rw [← z1]; simp
      have h2 := Int.mul_nonneg m0 z2
      omega
section
variable {n root : Int} {rows : List Row} {D : List Bool} {ρ : Int → Int × Int} {log : List Pay}
theorem taken_tree (ok : ChartOk n root rows) (run : Run n root (idx rows.length) (rowAt rows) n.toNat D ρ log) : IsTree n root rows (taken (rowAt rows) log).1 := by
  obtain ⟨m0, m1, r0, r1, hl, hr⟩ := id ok
  have R := rows_ok ok
  obtain ⟨c0, lp⟩ := chart_roads ok
  have A := ran_all r0 r1 R c0 lp run
  obtain ⟨dl, dr, da⟩ := run_ok r0 r1 R run
  have pays := run_pays r0 r1 (by omega) R run
  have reach : ∀ v, 0 ≤ v → v < n → Reach ((taken (rowAt rows) log).1.map (rowAt rows)) root v := fun v v0 v1 => by
    have := run_reach r0 r1 R c0 lp run [] (by simpa using A.paid.lam) (by simpa using A.paid.pg) (fun x hx => nomatch hx) v v0 v1 (by
      have := da v.toNat (by omega)
      rw [show ((v.toNat : Nat) : Int) = v by omega] at this
      exact this)
    rw [List.append_nil] at this
    exact this
  refine ⟨?_, fun i hi => ?_, fun v v0 v1 => by rw [pick_row]; exact reach v v0 v1⟩
  · have g1 := goals_nodup A.paid.pg
    have hol := others_len (root := root) (n := n.toNat) r0 (by omega)
    have e : (taken (rowAt rows) log).2.length = (taken (rowAt rows) log).1.length := by rw [taken_goals, List.length_map]
    have le1 := g1.length_le_of_subset (l₂ := others root n.toNat) fun v hv => by
      obtain ⟨r, hr1, rfl⟩ := taken_goal.mp hv
      obtain ⟨x, hx, rfl⟩ := taken_sub r hr1
      have P := pays x hx
      obtain ⟨a, b⟩ := P.mem _ P.g
      exact mem_others.mpr ⟨a, by omega, fun z => P.rt (z ▸ P.g)⟩
    have le2 := (others_nodup root n.toNat).length_le_of_subset (l₂ := (taken (rowAt rows) log).2) fun v hv => by
      obtain ⟨v0, v1, vn⟩ := mem_others.mp hv
      rcases reach_last (reach v v0 (by omega)) with z | ⟨r, hr1, e⟩
      · exact absurd z vn
      · obtain ⟨i, hi, rfl⟩ := List.mem_map.mp hr1
        exact taken_goal.mpr ⟨i, hi, e⟩
    omega
  · obtain ⟨x, hx, rfl⟩ := taken_sub i hi
    exact mem_idx.mp (pays x hx).k
theorem rests (ok : ChartOk n root rows) (run : Run n root (idx rows.length) (rowAt rows) n.toNat D ρ log) {J : List Int} (hJ : ∀ k ∈ J, k ∈ idx rows.length) :
    costOf rows J = (J.map fun r => (ρ r).1).sum + (log.map fun x => (J.countP (ent (rowAt rows) x.g) : Int) * x.c.1).sum ∧
    rankSum J = (J.map fun r => (ρ r).2).sum + (log.map fun x => (J.countP (ent (rowAt rows) x.g) : Int) * x.c.2).sum := by
  obtain ⟨m0, m1, r0, r1, hl, hr⟩ := id ok
  obtain ⟨c0, lp⟩ := chart_roads ok
  have A := ran_all r0 r1 (rows_ok ok) c0 lp run
  rw [← swap_sum, ← swap_sum, ← map_add, ← map_add, ← cost_rowAt]
  constructor
  · unfold costOfK
    congr 1
    refine List.map_congr_left fun k hk => ?_
    have := A.paid.acc1 k (hJ k hk)
    have e : (rest0 (rowAt rows) k).1 = (rowAt rows k).c := rfl
    unfold sum1 at this
    omega
  · unfold rankSum
    congr 1
    refine List.map_congr_left fun k hk => ?_
    have := A.paid.acc2 k (hJ k hk)
    have e : (rest0 (rowAt rows) k).2 = rankOf k := rfl
    unfold sum2 at this
    omega
/-- what all payments come to is what the tree costs -/
theorem taken_cost (ok : ChartOk n root rows) (run : Run n root (idx rows.length) (rowAt rows) n.toNat D ρ log) :
    costOf rows (taken (rowAt rows) log).1 = (log.map fun x => x.c.1).sum ∧ rankSum (taken (rowAt rows) log).1 = (log.map fun x => x.c.2).sum := by
  obtain ⟨m0, m1, r0, r1, hl, hr⟩ := id ok
  obtain ⟨c0, lp⟩ := chart_roads ok
  have A := ran_all r0 r1 (rows_ok ok) c0 lp run
  have pays := run_pays r0 r1 (by omega) (rows_ok ok) run
  obtain ⟨h1, h2⟩ := rests ok run (J := (taken (rowAt rows) log).1) fun k hk => by
    obtain ⟨x, hx, rfl⟩ := taken_sub k hk
    exact (pays x hx).k
  have z : ∀ r ∈ (taken (rowAt rows) log).1, ρ r = (0, 0) := fun r hr => by
    obtain ⟨x, hx, rfl⟩ := taken_sub r hr
    exact A.paid.zero x hx
  rw [sum_none fun r hr => by rw [z r hr], Int.zero_add] at h1 h2
  rw [h1, h2]
  constructor
  · congr 1
    refine List.map_congr_left fun x hx => ?_
    rw [ent_one A.paid.lam A.paid.pg x hx]
    simp
  · congr 1
    refine List.map_congr_left fun x hx => ?_
    rw [ent_one A.paid.lam A.paid.pg x hx]
    simp
/-- none costs less, by cost and rank -/
theorem taken_least (ok : ChartOk n root rows) (run : Run n root (idx rows.length) (rowAt rows) n.toNat D ρ log) {js : List Int} (t : IsTree n root rows js) :
    Le2 (costOf rows (taken (rowAt rows) log).1, rankSum (taken (rowAt rows) log).1) (costOf rows js, rankSum js) := by
  obtain ⟨m0, m1, r0, r1, hl, hr⟩ := id ok
  obtain ⟨c0, lp⟩ := chart_roads ok
  have A := ran_all r0 r1 (rows_ok ok) c0 lp run
  have pays := run_pays r0 r1 (by omega) (rows_ok ok) run
  obtain ⟨dl, dr, da⟩ := run_ok r0 r1 (rows_ok ok) run
  obtain ⟨tc, tr⟩ := taken_cost ok run
  have jk : ∀ k ∈ js, k ∈ idx rows.length := fun k hk => mem_idx.mpr (t.2.1 k hk)
  obtain ⟨h1, h2⟩ := rests ok run jk
  have goals := tree_goals r0 r1 t
  have gmem : ∀ k ∈ js, (rowAt rows k).g ∈ others root n.toNat := fun k hk => goals.mem_iff.mp (List.mem_map_of_mem (f := fun r => (rowAt rows r).g) hk)
  -- the rests
  have le1 : Le2 (0, 0) ((js.map fun r => (ρ r).1).sum, (js.map fun r => (ρ r).2).sum) := by
    have := le2_sum (f1 := fun _ => 0) (f2 := fun _ => 0) (g1 := fun r => (ρ r).1) (g2 := fun r => (ρ r).2) (l := js) fun k hk => by
      obtain ⟨v0, v1, vn⟩ := mem_others.mp (gmem k hk)
      refine A.rest k (jk k hk) ?_ vn
      have := da (rowAt rows k).g.toNat (by omega)
      rw [show (((rowAt rows k).g.toNat : Nat) : Int) = (rowAt rows k).g by omega] at this
      exact this
    rw [sum_none (f := fun _ : Int => (0 : Int)) fun _ _ => rfl] at this
    exact this
  -- the payments
  have le2 : Le2 ((log.map fun x => x.c.1).sum, (log.map fun x => x.c.2).sum) ((log.map fun x => (js.countP (ent (rowAt rows) x.g) : Int) * x.c.1).sum, (log.map fun x => (js.countP (ent (rowAt rows) x.g) : Int) * x.c.2).sum) := by
    refine le2_sum fun x hx => ?_
    have P := pays x hx
    have pos : 1 ≤ js.countP (ent (rowAt rows) x.g) := by
      obtain ⟨v, hv⟩ := List.exists_mem_of_ne_nil _ P.ne
      obtain ⟨v0, v1⟩ := P.mem v hv
      obtain ⟨r, hr1, hr2, hr3⟩ := entered_by (t.2.2 v v0 v1) hv P.rt
      rw [pick_row] at hr1
      obtain ⟨k, hk, rfl⟩ := List.mem_map.mp hr1
      exact List.countP_pos_iff.mpr ⟨k, hk, ent_iff.mpr ⟨hr2, hr3⟩⟩
    refine mul_le2 pos ?_
    rcases A.paid.pos x hx with ⟨v, e⟩ | z
    · left
      have le : js.countP (ent (rowAt rows) x.g) ≤ (js.map fun r => (rowAt rows r).g).count v := by
        rw [List.count, List.countP_map]
        refine List.countP_mono_left fun k _ hk => ?_
        have := (ent_iff.mp hk).1
        rw [e] at this
        exact beq_iff_eq.mpr (List.mem_singleton.mp this)
      have := List.nodup_iff_count.mp (goals.nodup_iff.mpr (others_nodup root n.toNat)) v
      omega
    · exact .inr z
  rw [tc, tr, h1, h2]
  unfold Le2 at le1 le2 ⊢
  dsimp only at le1 le2 ⊢
  omega
end
end Rc
/-! part RcV5 -/
/-! The prices that are told, the tree that is first. -/
namespace Rc
open PySem PySem.Spec PyProof.Rows L2
section
variable {n root : Int} {rows : List Row} {D : List Bool} {ρ : Int → Int × Int} {log : List Pay}
theorem priced_sum (f : Pr → Bool) : ∀ {log : List Pay}, (∀ x ∈ log, 0 ≤ x.c.1) → (((priced log).filter f).map Pr.p).sum = (log.map fun x => if f (toPr x) = true then x.c.1 else 0).sum
  | [], _ => rfl
  | x :: log, h => by
    have ih := priced_sum f (log := log) fun y hy => h y (List.mem_cons_of_mem _ hy)
    have h0 := h x List.mem_cons_self
    rw [List.map_cons, List.sum_cons, ← ih]
    unfold priced
    rw [List.filter_cons]
    by_cases hp : 0 < x.c.1
    · rw [if_pos (decide_eq_true hp), List.map_cons, List.filter_cons]
      by_cases hf : f (toPr x) = true
      · rw [if_pos hf, if_pos hf, List.map_cons, List.sum_cons]
        rfl
      · rw [if_neg hf, if_neg hf]
        omega
    · rw [if_neg (by rw [decide_eq_false hp]; exact Bool.noConfusion)]
      have : x.c.1 = 0 := by omega
      split <;> omega
/-- the prices show that no tree costs less -/
theorem priced_shown (ok : ChartOk n root rows) (run : Run n root (idx rows.length) (rowAt rows) n.toNat D ρ log) :
    Shown n root rows (costOf rows (taken (rowAt rows) log).1) (priced log) ∧ allOf (priced log) = costOf rows (taken (rowAt rows) log).1 ∧ ∀ x ∈ priced log, 1 ≤ x.p ∧ x.g.Nodup := by
  obtain ⟨m0, m1, r0, r1, hl, hr⟩ := id ok
  obtain ⟨c0, lp⟩ := chart_roads ok
  have A := ran_all r0 r1 (rows_ok ok) c0 lp run
  have pays := run_pays r0 r1 (by omega) (rows_ok ok) run
  obtain ⟨dl, dr, da⟩ := run_ok r0 r1 (rows_ok ok) run
  obtain ⟨tc, _⟩ := taken_cost ok run
  have mem : ∀ y ∈ priced log, ∃ x ∈ log, y = toPr x ∧ 0 < x.c.1 := fun y hy => by
    obtain ⟨x, hx, rfl⟩ := List.mem_map.mp hy
    obtain ⟨a, b⟩ := List.mem_filter.mp hx
    exact ⟨x, a, rfl, of_decide_eq_true b⟩
  have all : allOf (priced log) = costOf rows (taken (rowAt rows) log).1 := by
    have := priced_sum (fun _ => true) A.paid.c0
    rw [List.filter_eq_self.mpr fun _ _ => rfl] at this
    unfold allOf
    rw [this, tc]
    simp
  refine ⟨⟨fun y hy => ?_, fun r hrm => ?_, by rw [all]; exact Int.le_refl _⟩, all, fun y hy => ?_⟩
  · obtain ⟨x, hx, rfl, h⟩ := mem y hy
    have P := pays x hx
    exact ⟨Int.le_of_lt h, P.ne, P.rt, P.mem⟩
  · obtain ⟨i, hi⟩ := List.getElem?_of_mem hrm
    have il := (List.getElem?_eq_some_iff.mp hi).1
    have er := rowAt_of hi
    have hk : (i : Int) ∈ idx rows.length := mem_idx.mpr ⟨by omega, by omega⟩
    unfold entered
    rw [priced_sum (enters r) A.paid.c0]
    have e : (log.map fun x => if enters r (toPr x) = true then x.c.1 else 0).sum = sum1 (rowAt rows) log (i : Int) := by
      unfold sum1
      congr 1
      refine List.map_congr_left fun x _ => ?_
      have : enters r (toPr x) = ent (rowAt rows) x.g (i : Int) := by
        unfold enters ent
        rw [er]
        rfl
      rw [this]
    rw [e]
    have a1 := A.paid.acc1 (i : Int) hk
    have e0 : (rest0 (rowAt rows) (i : Int)).1 = r.c := by
      show (rowAt rows (i : Int)).c = r.c
      rw [er]
    have hro := hr r hrm
    by_cases hroot : r.g = root
    · have z : sum1 (rowAt rows) log (i : Int) = 0 := sum_none fun x hx => by
        rw [if_neg]
        rw [ent_iff, er, hroot]
        exact fun q => (pays x hx).rt q.1
      have := hro.c0
      omega
    · have := A.rest (i : Int) hk (by
        rw [er]
        have h2 := da r.g.toNat (by have := hro.g0; have := hro.g1; omega)
        rw [show ((r.g.toNat : Nat) : Int) = r.g by have := hro.g0; omega] at h2
        exact h2) (by rw [er]; exact hroot)
      unfold Le2 at this
      dsimp only at this
      omega
  · obtain ⟨x, hx, rfl, h⟩ := mem y hy
    exact ⟨by show 1 ≤ x.c.1; omega, (pays x hx).nd⟩
/-! ### of trees that cost as much, which is first -/
def pw (r : Int) : Int := 2 ^ (60 - r).toNat
theorem pw_pos (r : Int) : 0 < pw r := by
  unfold pw
  exact Int.pow_pos (by decide)
theorem pw_two {x y : Int} (h : x < y) (hy : y ≤ 60) : 2 * pw y ≤ pw x := by
  unfold pw
  obtain ⟨d, hd⟩ : ∃ d, (60 - x).toNat = (60 - y).toNat + 1 + d := ⟨(60 - x).toNat - (60 - y).toNat - 1, by omega⟩
  rw [hd, Int.pow_add, Int.pow_succ]
  have a : (0 : Int) < 2 ^ (60 - y).toNat := Int.pow_pos (by decide)
  have b : (1 : Int) ≤ 2 ^ d := by
    have : (0 : Int) < 2 ^ d := Int.pow_pos (by decide)
    omega
  have := Int.mul_le_mul_of_nonneg_left b (show (0 : Int) ≤ 2 ^ (60 - y).toNat * 2 by omega)
  omega
theorem pw_sum : ∀ {l : List Int} {x : Int}, (x :: l).Pairwise (fun a b => a < b) → (∀ r ∈ l, r ≤ 60) → (l.map pw).sum < pw x
  | [], x, _, _ => pw_pos x
  | y :: l, x, hp, h => by
    obtain ⟨h1, h2⟩ := List.pairwise_cons.mp hp
    have ih := pw_sum h2 fun r hr => h r (List.mem_cons_of_mem _ hr)
    have := pw_two (h1 y List.mem_cons_self) (h y List.mem_cons_self)
    rw [List.map_cons, List.sum_cons]
    omega
theorem rank_pw : ∀ l : List Int, rankSum l = -(l.map pw).sum
  | [] => rfl
  | r :: l => by
    have ih := rank_pw l
    have e : rankOf r = -pw r := rfl
    unfold rankSum at ih ⊢
    rw [List.map_cons, List.map_cons, List.sum_cons, List.sum_cons, ih, e]
    omega
theorem first_diff : ∀ {a b : List Int}, a.length = b.length → a ≠ b → ∃ (pre : List Int) (x y : Int) (ra rb : List Int), a = pre ++ x :: ra ∧ b = pre ++ y :: rb ∧ x ≠ y
  | [], [], _, h => absurd rfl h
  | x :: a, y :: b, hl, h => by
    by_cases e : x = y
    · subst e
      obtain ⟨pre, x', y', ra, rb, h1, h2, h3⟩ := first_diff (a := a) (b := b) (by simpa using hl) fun z => h (by rw [z])
      exact ⟨x :: pre, x', y', ra, rb, by rw [h1]; rfl, by rw [h2]; rfl, h3⟩
    · exact ⟨[], x, y, a, b, rfl, rfl, e⟩
  | [], _ :: _, hl, _ => by cases hl
  | _ :: _, [], hl, _ => by cases hl
theorem rank_lt {pre ra rb : List Int} {x y : Int} (hxy : x < y) (hb : (pre ++ y :: rb).Pairwise (fun a b => a < b)) (h60 : ∀ r ∈ pre ++ y :: rb, r ≤ 60) : rankSum (pre ++ x :: ra) < rankSum (pre ++ y :: rb) := by
  rw [rank_pw, rank_pw, List.map_append, List.map_append, List.sum_append, List.sum_append]
  have hb2 := (List.pairwise_append.mp hb).2.1
  have h1 := pw_sum (l := y :: rb) (x := x) (List.pairwise_cons.mpr ⟨fun z hz => by
    rcases List.mem_cons.mp hz with w | w
    · rw [w]; exact hxy
    · have := (List.pairwise_cons.mp hb2).1 z w
      omega, hb2⟩) fun r hr => h60 r (List.mem_append_right _ hr)
  have h2 : 0 ≤ (ra.map pw).sum := by
    have nn : ∀ l : List Int, 0 ≤ (l.map pw).sum := fun l => by
      induction l with
      | nil => exact Int.le_refl _
      | cons a l ih =>
        rw [List.map_cons, List.sum_cons]
        have := pw_pos a
        omega
    exact nn ra
  rw [List.map_cons, List.sum_cons]
  omega
theorem up_lt {l : List Int} (h : l.Pairwise (· ≤ ·)) (nd : l.Nodup) : l.Pairwise (fun a b => a < b) := by
  have := h.and (List.nodup_iff_pairwise_ne.mp nd)
  exact this.imp fun {a b} z => by
    have h1 := z.1
    have h2 := z.2
    omega
theorem eqv_int (x y : Int) : PyData.eqv (.int x) (.int y) = true ↔ x = y :=
  (num_eqv 0 (.int x) (.int y) trivial trivial).trans ⟨fun e => PyData.int.inj e, fun e => by rw [e]⟩
theorem no_int {x y : Int} (h : x ≠ y) : PyData.eqv (.int x) (.int y) = false := by
  cases e : PyData.eqv (.int x) (.int y) with
  | false => rfl
  | true => exact absurd ((eqv_int x y).mp e) h
theorem alike_int (x y : Int) : PySem.W.alike (.int x) (.int y) = true := by
  unfold PySem.W.alike
  rfl
theorem lt_ints : ∀ (pre : List Int) {x y : Int} {ra rb : List Int}, x ≠ y → PySem.W.dataLt (intsD (pre ++ x :: ra)) (intsD (pre ++ y :: rb)) = decide (x < y)
  | [], x, y, ra, rb, h => by
    unfold intsD
    rw [PySem.W.dataLt_list]
    exact (PySem.W.dataLt_all_no (alike_int x y) (no_int h)).trans (PySem.W.dataLt_int x y)
  | p :: pre, x, y, ra, rb, h => by
    have ih := lt_ints pre (ra := ra) (rb := rb) h
    unfold intsD at ih ⊢
    rw [PySem.W.dataLt_list] at ih ⊢
    exact (PySem.W.dataLt_all_yes (alike_int p p) ((eqv_int p p).mpr rfl)).trans ih
theorem lt_treeD {a b : List Int} (h : costOf rows a < costOf rows b ∨ (costOf rows a = costOf rows b ∧ a ≠ b ∧ PySem.W.dataLt (intsD a) (intsD b) = true)) : PySem.W.dataLt (treeD rows a) (treeD rows b) = true := by
  unfold treeD
  rw [PySem.W.dataLt_tuple]
  rcases h with h | ⟨h1, h2, h3⟩
  · rw [PySem.W.dataLt_all_no (alike_int _ _) (no_int (Int.ne_of_lt h)), PySem.W.dataLt_int]
    exact decide_eq_true h
  · rw [PySem.W.dataLt_all_yes (alike_int _ _) ((eqv_int _ _).mpr h1), PySem.W.dataLt_all_no (alike_intsD a b) (by
      cases e : PyData.eqv (intsD a) (intsD b) with
      | false => rfl
      | true => exact absurd (by
          have := (num_eqv 1 _ _ (num_ints a) (num_ints b)).mp e
          unfold intsD at this
          have h4 := PyData.list.inj this
          exact (List.map_inj_right fun _ _ e => PyData.int.inj e).mp h4) h2)]
    exact h3
/-- the tree that is told is the first of all -/
theorem told_first (ok : ChartOk n root rows) (run : Run n root (idx rows.length) (rowAt rows) n.toNat D ρ log) {ns js : List Int} (hns : ns.Perm (taken (rowAt rows) log).1) (un : ns.Pairwise (· ≤ ·)) (uj : js.Pairwise (· ≤ ·)) (t : IsTree n root rows js) :
    IsTree n root rows ns ∧ costOf rows ns ≤ costOf rows js ∧ (ns = js ∨ PySem.W.dataLt (treeD rows ns) (treeD rows js) = true) := by
  obtain ⟨m0, m1, r0, r1, hl, hr⟩ := id ok
  have tn := isTree_perm hns.symm (taken_tree ok run)
  have le := taken_least ok run t
  have ec : costOf rows ns = costOf rows (taken (rowAt rows) log).1 := by
    unfold costOf
    exact perm_sum (hns.map _)
  have er : rankSum ns = rankSum (taken (rowAt rows) log).1 := by
    unfold rankSum
    exact perm_sum (hns.map _)
  rw [← ec, ← er] at le
  unfold Le2 at le
  dsimp only at le
  refine ⟨tn, by omega, ?_⟩
  by_cases e : ns = js
  · exact .inl e
  · right
    by_cases hc : costOf rows ns < costOf rows js
    · exact lt_treeD (.inl hc)
    · have hc2 : costOf rows ns = costOf rows js := by omega
      have hrk : rankSum ns ≤ rankSum js := by omega
      have l1 := up_lt un (tree_nodup r0 r1 tn)
      have l2 := up_lt uj (tree_nodup r0 r1 t)
      have hlen : ns.length = js.length := by
        have := tn.1
        have := t.1
        omega
      obtain ⟨pre, x, y, ra, rb, e1, e2, e3⟩ := first_diff hlen e
      have s60 : ∀ l : List Int, IsTree n root rows l → ∀ r ∈ l, r ≤ 60 := fun l tl r hr2 => by
        have := tl.2.1 r hr2
        omega
      by_cases hxy : x < y
      · refine lt_treeD (.inr ⟨hc2, e, ?_⟩)
        rw [e1, e2, lt_ints pre e3]
        exact decide_eq_true hxy
      · exfalso
        have a1 := l1
        have a2 := s60 ns tn
        rw [e1] at a1 a2 hrk
        rw [e2] at hrk
        have := rank_lt (ra := rb) (show y < x by omega) a1 a2
        omega
end
end Rc
/-! part RcV6 -/
/-! cheapest: what it tells of a map, in the document's words. -/
namespace Rc
open PySem PySem.Spec PyProof.Rows L2
structure Cheap (n root : Int) (rows : List Row) (ns : List Int) (prs : List Pr) : Prop where
  tree : IsTree n root rows ns
  up : ns.Pairwise (· ≤ ·)
  first : ∀ js : List Int, js.Pairwise (· ≤ ·) → IsTree n root rows js → costOf rows ns ≤ costOf rows js ∧ (ns = js ∨ PySem.W.dataLt (treeD rows ns) (treeD rows js) = true)
  shown : Shown n root rows (costOf rows ns) prs
  all : allOf prs = costOf rows ns
  each : ∀ x ∈ prs, 1 ≤ x.p ∧ x.g.Nodup ∧ x.g.Pairwise (· ≤ ·)
  ord : Ord (prs.map Pr.dat)
  few : prs.length ≤ 900
  small : ∀ x ∈ prs, x.g.length ≤ 1000
section
variable {n root : Int} {rows : List Row} {D : List Bool} {ρ : Int → Int × Int} {log : List Pay}
theorem with_up {path init : List (List Int)} {g : List Int} {b : Int} (h : With path b (init ++ [g])) : g.Pairwise (· ≤ ·) := by
  generalize e : init ++ [g] = q at h
  cases h with
  | alone hal =>
    obtain ⟨_, h2⟩ := List.append_inj' e rfl
    rw [(List.cons.inj h2).1]
    simp
  | circle hi hp hb hc hs =>
    obtain ⟨_, h2⟩ := List.append_inj' e rfl
    rw [(List.cons.inj h2).1]
    exact hs
theorem go_up {ks : List Int} {rw : Int → Row} {S0 S : Sit} (h0 : ∀ x ∈ S0.log, x.g.Pairwise (· ≤ ·)) (h : Go ks rw D S0 S) : ∀ x ∈ S.log, x.g.Pairwise (· ≤ ·) := by
  induction h with
  | here => exact h0
  | @on S1 init g p h hb hw hp hm hf ih =>
    intro x hx
    rcases List.mem_append.mp (show x ∈ S1.log ++ [⟨g, S1.rho p, p⟩] from hx) with z | z
    · exact ih x z
    · rw [List.mem_singleton.mp z]
      exact with_up hw
theorem run_up {ks : List Int} {rw : Int → Row} {i : Nat} (h : Run n root ks rw i D ρ log) : ∀ x ∈ log, x.g.Pairwise (· ≤ ·) := by
  induction h with
  | start => exact fun x hx => nomatch hx
  | place h hi hg he ih => exact go_up ih hg
theorem shown_perm {whole : Int} {a b : List Pr} (h : a.Perm b) (S : Shown n root rows whole b) : Shown n root rows whole a := by
  refine ⟨fun x hx => S.each x (h.mem_iff.mp hx), fun r hr => ?_, ?_⟩
  · have e : entered a r = entered b r := by
      unfold entered
      exact perm_sum ((h.filter _).map _)
    rw [e]
    exact S.road r hr
  · have e : allOf a = allOf b := by
      unfold allOf
      exact perm_sum (h.map _)
    rw [e]
    exact S.all
theorem cheap_of (ok : ChartOk n root rows) (run : Run n root (idx rows.length) (rowAt rows) n.toNat D ρ log) {ns : List Int} {prs : List Pr} (hns : ns.Perm (taken (rowAt rows) log).1) (un : ns.Pairwise (· ≤ ·)) (hpr : prs.Perm (priced log)) (ho : Ord (prs.map Pr.dat)) : Cheap n root rows ns prs := by
  obtain ⟨m0, m1, r0, r1, hl, hr⟩ := id ok
  obtain ⟨h1, h2, h3⟩ := priced_shown ok run
  have ec : costOf rows ns = costOf rows (taken (rowAt rows) log).1 := by
    unfold costOf
    exact perm_sum (hns.map _)
  have pays := run_pays r0 r1 (by omega) (rows_ok ok) run
  have mem : ∀ x ∈ prs, ∃ y ∈ log, x = toPr y := fun x hx => by
    obtain ⟨y, hy, rfl⟩ := List.mem_map.mp (hpr.mem_iff.mp hx)
    exact ⟨y, (List.mem_filter.mp hy).1, rfl⟩
  refine ⟨isTree_perm hns.symm (taken_tree ok run), un, fun js uj t => (told_first ok run hns un uj t).2, by rw [ec]; exact shown_perm hpr h1, ?_, fun x hx => ?_, ho, ?_, fun x hx => ?_⟩
  · rw [ec, ← h2]
    unfold allOf
    exact perm_sum (hpr.map _)
  · obtain ⟨y, hy, rfl⟩ := mem x hx
    obtain ⟨a, b⟩ := h3 _ (hpr.mem_iff.mp hx)
    exact ⟨a, b, run_up run y hy⟩
  · have hl1 := run_log (rows_ok ok) run
    have hl2 : n.toNat * (2 * n.toNat) ≤ 20 * 40 := Nat.mul_le_mul (by omega) (by omega)
    have hpl : prs.length ≤ log.length := by
      rw [hpr.length_eq]
      unfold priced
      rw [List.length_map]
      exact List.length_filter_le _ _
    omega
  · obtain ⟨y, hy, rfl⟩ := mem x hx
    exact (pays y hy).len
end
/-- what is told of a map; or the places that are left -/
def spCheap (K : PySem.W.Frag) (C B TL TR : Addr) : Sp := fun vs H Q E => ∃ (p : Addr) (n root : Int) (rows : List Row), vs = [.ref p] ∧ MapAt K C H p n root rows ∧ ChartOk n root rows ∧ LamX.TabS H TL lamQ ∧ GxR.TabG H TR ∧ TL ≠ TR ∧
  (∀ d l H' (ns : List Int), Tb TL TR H H' → H d = none → H' d = some (.xd [("left", .ref l)]) → H' l = some (.lst (ns.map V.int)) → (∀ v, v ∈ ns ↔ 0 ≤ v ∧ v < n ∧ ¬ Reach rows root v) → ns.Pairwise (fun a b => a < b) → ns ≠ [] → E (.ref B) (some d) H') ∧
  ∀ t H' (ns : List Int) (prs : List Pr), Tb TL TR H H' → TellAt K H H' t (costOf rows ns) ns prs → (∀ v, 0 ≤ v → v < n → Reach rows root v) → Cheap n root rows ns prs → Q (.ref t) H'
theorem spCheap_of {K : PySem.W.Frag} {C B TL TR : Addr} (vs : List V) (H : Hp) (Q : VK) (E : XK) (h : spCheap K C B TL TR vs H Q E) : spCheapest K C B TL TR vs H Q E := by
  obtain ⟨p, n, root, rows, h1, h2, ok, h4, h5, h6, h7, q⟩ := h
  exact ⟨p, n, root, rows, h1, h2, ok, h4, h5, h6, fun d l H' ns tb hd _ => h7 d l H' ns tb hd, fun t H' ns prs D ρ log tb hD hreach run hperm hup hpr hord => q t H' ns prs tb hD hreach (cheap_of ok run hperm hup hpr hord)⟩
theorem no_tree {n root : Int} {rows : List Row} {v : Int} (v0 : 0 ≤ v) (v1 : v < n) (h : ¬ Reach rows root v) (js : List Int) : ¬ IsTree n root rows js := fun t => h (by
  have := t.2.2 v v0 v1
  refine reach_sub (fun r hr => ?_) this
  obtain ⟨i, hi, rfl⟩ := List.mem_map.mp hr
  obtain ⟨a, b⟩ := t.2.1 i hi
  rw [List.getElem?_eq_getElem (show i.toNat < rows.length by omega)]
  exact List.getElem_mem _)
end Rc
/-! part RcM3 -/
namespace Rc
open PySem PySem.Spec PyProof.Rows L2
mutual
theorem dp_but {K : PySem.W.Frag} {H H' : Hp} (e : ∀ b o, H b = some o → (∀ C dx fs, o ≠ .ins C dx fs) → H' b = some o) : ∀ (d : PyData) (v : V), Dp K H v d → Dp K H' v d
  | .none, _, h => by cases h; exact .non
  | .bool b, _, h => by cases h; exact .bl b
  | .int i, _, h => by cases h; exact .int i
  | .str x, _, h => by cases h; exact .str x
  | .list ds, _, h => by
    cases h with
    | lst hs ha =>
      refine .lst ?_ (dpAll_but e ds _ ha)
      rcases hs with (h | ⟨o, h⟩) | h
      · exact .inl (.inl (e _ _ h (by intro _ _ _ z; cases z)))
      · exact .inl (.inr ⟨o, e _ _ h (by intro _ _ _ z; cases z)⟩)
      · exact .inr h
  | .tuple ds, _, h => by
    cases h with
    | tup hs ha =>
      refine .tup ?_ (dpAll_but e ds _ ha)
      rcases hs with (h | ⟨o, h⟩) | h
      · exact .inl (.inl (e _ _ h (by intro _ _ _ z; cases z)))
      · exact .inl (.inr ⟨o, e _ _ h (by intro _ _ _ z; cases z)⟩)
      · exact .inr h
  | .dict _, _, h => by cases h
theorem dpAll_but {K : PySem.W.Frag} {H H' : Hp} (e : ∀ b o, H b = some o → (∀ C dx fs, o ≠ .ins C dx fs) → H' b = some o) : ∀ (ds : List PyData) (vs : List V), DpAll K H vs ds → DpAll K H' vs ds
  | [], _, h => by cases h; exact .nil
  | d :: ds, _, h => by
    cases h with
    | cons h1 h2 => exact .cons (dp_but e d _ h1) (dpAll_but e ds _ h2)
end
/-- Map(many, root, rows) -/
theorem mk_map {K : PySem.W.Frag} {C x dx : Addr} {H : Hp} {many root : Int} {v : V} {rows : List Row} {Q : Hp → Prop} {E : XK} (hD : Dp K H v (rowsDat rows)) (ok : ChartOk many root rows) (hx : H x = none) (hdx : H dx = none) (ne : dx ≠ x) (q : ∀ H', Same H H' → MapAt K C H' x many root rows → Q H') :
    spInit K C (.ref x :: ([.int many, .int root, v] ++ [])) (upd (upd H dx (.own x)) x (.ins C dx [])) (fun u H2 => u = .non ∧ Q H2) E := by
  have s1 : Same H (upd (upd H dx (.own x)) x (.ins C dx [])) := (same_new hdx).trans (same_new (by rw [upd_ne (Ne.symm ne)]; exact hx))
  refine ⟨x, dx, many, root, v, rows, rfl, upd_same, dp_same s1 _ _ hD, ok, fun H' l xs old hl nl hl' hA hp => ⟨rfl, q H' (fun b o e => ?_) ⟨dx, l, hp, .lst (.of hl') (dpAll_but (fun b o e no => ?_) _ _ hA)⟩⟩⟩
  · exact old b o (ne_of_none e hx) (s1 _ _ e)
  · refine old b o (fun z => ?_) e
    rw [z, upd_same] at e
    exact no _ _ _ (Option.some.inj e).symm
end Rc
/-! part RcQ0 -/
namespace Rc
open PySem PySem.Spec PyProof.Rows L2
theorem seq_via {t u : TS} {D : Ends} {σ : L2.St} {H : Hp} (S : L2.St → Hp → Prop) (h1 : ∀ N : L2.St → Hp → Prop, (∀ σ H, S σ H → N σ H) → t { D with nx := N } σ H) (h2 : ∀ σ H, S σ H → u D σ H) : tSeq t u D σ H := h1 _ h2
theorem gname_go {i : Nat} {v : V} {σ : L2.St} {H : Hp} {Q : L2.St → Hp → Prop} (h : Q (σ.set i (some v)) H) : gName i v σ H Q := h
def rLenK (K : PySem.W.Frag) : List V → Hp → VK → Prop := fun xs H Q => ∃ p ys, xs = [.ref p] ∧ (SqL K H p ys ∨ SqT K H p ys) ∧ Q (.int ys.length) H
theorem takes0J {X : Cx} : L2.Takes X (fun _ _ _ _ => False) := fun _ _ x => by
  obtain ⟨_, _, _, _, _, _, _, _, _, _, _, _, _, _, _, _, z⟩ := x
  exact z.elim
section
variable {X : Cx} {o e : Expr} {es : List Expr} {to : TE} {t : TA} {name : Str} {apos cpos : Pos} {T id : String} {r : V → List V → Hp → VK → Prop}
/-- a method of a built-in type, the class facts by name -/
theorem pe_bmK {K : PySem.W.Frag} (hK : X.K = K) (pa : PlainAttrs T) (slot : Slot T name id) (hty : typeOf (.builtin id) = pure (.type "method_descriptor")) (hm : MtR X id r) (ho : PE X o to) (ha : PA X (e :: es) t)
    (hbase : attributeBase o name X.env (eval o X.env) = eval o X.env := by rfl)
    (hfew : ((backTo cpos (starEach (e :: es) X.env)).all (fun x => !x.1) && (backToKw cpos (keywordEach [] X.env)).all (fun x => x.1.isSome)
      && decide ((e :: es).length + ([] : List Keyword).length + (if ([] : List Keyword).isEmpty then 0 else 1) < 30)) = true := by rfl)
    (hline : (apos.endLine == cpos.line) = true := by rfl) (hs : starEach (e :: es) X.env = (false, eval e X.env) :: starEach es X.env := by rfl) (hplain : (backTo cpos (starEach es X.env)).any (·.1) = false := by rfl) :
    PE X (.Call (.Attribute o name apos) (e :: es) [] cpos) (tBM K T r to t) := hK ▸ pe_bm pa slot hty hm ho ha hbase hfew hline hs hplain
end
end Rc
/-! part RcJ1 -/
/-! The law's own def: dice and tables, and what stands beside them. -/
namespace Rc
open PySem PySem.Spec PyProof.Rows L2
def m3 (TL TR TM : Addr) : Addr → Prop := fun b => b = TL ∨ b = TR ∨ b = TM
def m4 (d TL TR TM : Addr) : Addr → Prop := fun b => b = d ∨ m3 TL TR TM b
structure LI (K : PySem.W.Frag) (d TL TR TM : Addr) (H : Hp) : Prop where
  dice : Dice K H (sans (m4 d TL TR TM) H) d
  tl : LamX.TabS H TL lamQ
  tr : GxR.TabG H TR
  tm : GxR.TabG H TM
theorem sqT_off {K : PySem.W.Frag} {H : Hp} {m : Addr → Prop} {b : Addr} {xs : List V} (hm : ∀ b, m b → ∃ o, H b = some o ∧ (∀ xs, o ≠ .tup xs) ∧ ∀ u o', o ≠ .frz u o') (h : SqT K H b xs) : SqT K (sans m H) b xs := by
  rcases h with (h | ⟨o, h⟩) | h
  · refine .inl (.inl ?_)
    rw [sans_no fun z => ?_]
    · exact h
    · obtain ⟨u, e, n, _⟩ := hm b z
      rw [h] at e
      exact n _ (Option.some.inj e).symm
  · refine .inl (.inr ⟨o, ?_⟩)
    rw [sans_no fun z => ?_]
    · exact h
    · obtain ⟨u, e, _, n⟩ := hm b z
      rw [h] at e
      exact n _ _ (Option.some.inj e).symm
  · exact .inr h
namespace LI
variable {K : PySem.W.Frag} {d TL TR TM : Addr} {H H' Hb' : Hp}
theorem tabs (L : LI K d TL TR TM H) : ∀ b, m3 TL TR TM b → GxR.TabG H b := fun b hb => by
  rcases hb with z | z | z
  · rw [z]; exact tabG_of L.tl
  · rw [z]; exact L.tr
  · rw [z]; exact L.tm
theorem dd (L : LI K d TL TR TM H) : ∃ a i x c, H d = some (.lst (dl a i x c)) := by
  obtain ⟨_, _, a, _, i, x, c, h, _⟩ := L.dice
  exact ⟨a, i, x, c, h⟩
theorem d_no (L : LI K d TL TR TM H) : ¬ m3 TL TR TM d := fun z => by
  obtain ⟨ps, e, _⟩ := L.tabs d z
  obtain ⟨a, i, x, c, h⟩ := L.dd
  rw [h] at e
  cases e
theorem off (L : LI K d TL TR TM H) : ∀ b, m4 d TL TR TM b → ∃ o, H b = some o ∧ (∀ xs, o ≠ .tup xs) ∧ ∀ u o', o ≠ .frz u o' := fun b hb => by
  rcases hb with z | z
  · obtain ⟨a, i, x, c, h⟩ := L.dd
    rw [z]
    exact ⟨_, h, fun xs y => (by cases y), fun u o' y => by cases y⟩
  · obtain ⟨ps, e, _⟩ := L.tabs b z
    exact ⟨_, e, fun xs y => (by cases y), fun u o' y => by cases y⟩
theorem fresh (L : LI K d TL TR TM H) {p : Addr} (h : H p = none) : ¬ m4 d TL TR TM p := fun z => by
  obtain ⟨o, e, _⟩ := L.off p z
  rw [h] at e
  cases e
/-- all but the tables stays, the tables are tables -/
theorem keep (L : LI K d TL TR TM H) (tl : LamX.TabS H' TL lamQ) (tr : GxR.TabG H' TR) (tm : GxR.TabG H' TM) (old : ∀ b o, ¬ m3 TL TR TM b → H b = some o → H' b = some o) : LI K d TL TR TM H' ∧ Same (sans (m4 d TL TR TM) H) (sans (m4 d TL TR TM) H') := by
  have e : Same (sans (m4 d TL TR TM) H) (sans (m4 d TL TR TM) H') := part_same fun b o n h => old b o (fun z => n (.inr z)) h
  obtain ⟨_, _, a, ns, i, x, c, hd, ok, hs⟩ := L.dice
  exact ⟨⟨⟨sans_same, sans_at (.inl rfl), a, ns, i, x, c, old d _ L.d_no hd, ok, e.seq hs⟩, tl, tr, tm⟩, e⟩
theorem same (L : LI K d TL TR TM H) (e : Same H H') : LI K d TL TR TM H' ∧ Same (sans (m4 d TL TR TM) H) (sans (m4 d TL TR TM) H') :=
  L.keep (L.tl.ext e) (by obtain ⟨ps, h, t⟩ := L.tr; exact ⟨ps, e _ _ h, t⟩) (by obtain ⟨ps, h, t⟩ := L.tm; exact ⟨ps, e _ _ h, t⟩) fun b o _ h => e b o h
theorem tb (L : LI K d TL TR TM H) (hM : TM = TR ∨ (TM ≠ TL ∧ TM ≠ TR)) (T : Tb TL TR H H') : LI K d TL TR TM H' ∧ Same (sans (m4 d TL TR TM) H) (sans (m4 d TL TR TM) H') :=
  L.keep T.tl T.tr (by
    rcases hM with e | ⟨n1, n2⟩
    · rw [e]
      exact T.tr
    · obtain ⟨ps, h, t⟩ := L.tm
      exact ⟨ps, T.old _ _ n1 n2 h, t⟩) fun b o n h => T.old b o (fun z => n (.inl z)) (fun z => n (.inr (.inl z))) h
theorem tabd (L : LI K d TL TR TM H) (n1 : TM ≠ TL) (n2 : TM ≠ TR) (T : Tabd (at1 TM) H H') : LI K d TL TR TM H' ∧ Same (sans (m4 d TL TR TM) H) (sans (m4 d TL TR TM) H') :=
  L.keep (tabS_keep2 L.tl (fun o h => T.old _ _ (Ne.symm n1) h) fun c q h => T.old _ _ (fun z => by
      obtain ⟨ps, e, _⟩ := L.tm
      have z' : c = TM := z
      rw [z', e] at h
      exact LamX.codeO_ne _ (Option.some.inj h).symm) h)
    (by obtain ⟨ps, h, t⟩ := L.tr; exact ⟨ps, T.old _ _ (Ne.symm n2) h, t⟩) (T.tab TM rfl) fun b o n h => T.old b o (fun z => n (.inr (.inr z))) h
/-- the dice are thrown -/
theorem step (L : LI K d TL TR TM H) (S : Sub (at1 d) H (sans (m4 d TL TR TM) H) H' Hb') (D : Dice K H' Hb' d) : LI K d TL TR TM H' ∧ Same (sans (m4 d TL TR TM) H) (sans (m4 d TL TR TM) H') ∧ Same Hb' (sans (m4 d TL TR TM) H') := by
  have nd : ∀ b, m3 TL TR TM b → ¬ at1 d b := fun b hb z => by
    have z' : b = d := z
    exact L.d_no (z' ▸ hb)
  have tl : LamX.TabS H' TL lamQ := tabS_keep2 L.tl (fun o h => S.old _ _ (nd TL (.inl rfl)) h) fun c q h => S.old _ _ (fun z => by
    obtain ⟨a, i, x, cc, hd⟩ := L.dd
    have z' : c = d := z
    rw [z', hd] at h
    exact codeO_no (Option.some.inj h) fun φ w => by cases w) h
  have tab : ∀ T, m3 TL TR TM T → GxR.TabG H' T := fun T hT => by
    obtain ⟨ps, h, t⟩ := L.tabs T hT
    exact ⟨ps, S.old _ _ (nd T hT) h, t⟩
  have e1 : Same (sans (m4 d TL TR TM) H) (sans (m4 d TL TR TM) H') := part_same fun b o n h => S.old b o (fun z => n (.inl z)) h
  have e2 : Same Hb' (sans (m4 d TL TR TM) H') := fun b o h => by
    rw [sans_no fun z => ?_]
    · exact D.sub _ _ h
    · rcases z with z | z
      · rw [z, D.dn] at h
        cases h
      · obtain ⟨ps, e, _⟩ := L.tabs b z
        rw [S.new b (sans_at (.inr z)) (hp_ne e)] at h
        cases h
  obtain ⟨_, _, a, ns, i, x, c, hd, ok, hs⟩ := D
  exact ⟨⟨⟨sans_same, sans_at (.inl rfl), a, ns, i, x, c, hd, ok, e2.seq hs⟩, tl, tab TR (.inr (.inl rfl)), tab TM (.inr (.inr rfl))⟩, e1, e2⟩
theorem prs (L : LI K d TL TR TM H) : ∀ {ps : List Pr} {xs : List V}, DpAll K H xs (ps.map Pr.dat) → DpAll K (sans (m4 d TL TR TM) H) xs (ps.map Pr.dat)
  | [], _, h => by cases h; exact .nil
  | x :: ps, _, h => by
    cases h with
    | cons h1 h2 =>
      obtain ⟨t, b, rfl, hT, hB⟩ := pr_inv h1
      exact .cons (.tup (sqT_off L.off hT) (.cons (.tup (sqT_off L.off hB) (dpAll_ints _)) (.cons (.int _) .nil))) (L.prs h2)
theorem prices (L : LI K d TL TR TM H) {v : V} {ps : List Pr} (h : Dp K H v (pricesDat ps)) : Dp K (sans (m4 d TL TR TM) H) v (pricesDat ps) := by
  obtain ⟨l, xs, rfl, hS, hA⟩ := dp_list_inv h
  refine .lst ?_ (L.prs hA)
  rcases hS with (h | ⟨o, h⟩) | h
  · refine .inl (.inl ?_)
    rw [sans_no fun z => ?_]
    · exact h
    · rcases z with z | z
      · obtain ⟨a, i, x, c, hd⟩ := L.dd
        rw [z, hd] at h
        have e : dl a i x c = xs := by
          cases h
          rfl
        rw [← e] at hA
        obtain ⟨dd, hdd, hx⟩ := dpAll_get' (i := 1) (v := .int i) hA rfl
        obtain ⟨y, _, rfl⟩ := List.mem_map.mp (List.mem_of_getElem? hdd)
        obtain ⟨t, b, e2, _⟩ := pr_inv hx
        cases e2
      · obtain ⟨ps, e, _⟩ := L.tabs l z
        rw [h] at e
        cases e
  · refine .inl (.inr ⟨o, ?_⟩)
    rw [sans_no fun z => ?_]
    · exact h
    · obtain ⟨u, e, _, n⟩ := L.off l z
      rw [h] at e
      exact n _ _ (Option.some.inj e).symm
  · exact .inr h
end LI
theorem rows_off {K : PySem.W.Frag} {H : Hp} {m : Addr → Prop} (hm : ∀ b, m b → ∃ o, H b = some o ∧ (∀ xs, o ≠ .tup xs) ∧ ∀ u o', o ≠ .frz u o') : ∀ {rows : List Row} {xs : List V}, DpAll K H xs (rows.map Row.dat) → DpAll K (sans m H) xs (rows.map Row.dat)
  | [], _, h => by cases h; exact .nil
  | r :: rows, _, h => by
    cases h with
    | cons h1 h2 =>
      obtain ⟨t, rfl, hT⟩ := row_inv h1
      exact .cons (.tup (sqT_off hm hT) (.cons (.int _) (.cons (.int _) (.cons (.int _) .nil)))) (rows_off hm h2)
/-- Map(many, root, rows), beside what m names -/
theorem mk_mapS {K : PySem.W.Frag} {C x dx : Addr} {H : Hp} {m : Addr → Prop} {many root : Int} {v : V} {rows : List Row} {Q : Hp → Prop} {E : XK} (hm : ∀ b, m b → ∃ o, H b = some o ∧ (∀ xs, o ≠ .tup xs) ∧ ∀ u o', o ≠ .frz u o') (hD : Dp K H v (rowsDat rows)) (ok : ChartOk many root rows) (hx : H x = none) (hdx : H dx = none) (ne : dx ≠ x)
    (q : ∀ H', Same H H' → MapAt K C (sans m H') x many root rows → Q H') :
    spInit K C (.ref x :: ([.int many, .int root, v] ++ [])) (upd (upd H dx (.own x)) x (.ins C dx [])) (fun u H2 => u = .non ∧ Q H2) E := by
  have s1 : Same H (upd (upd H dx (.own x)) x (.ins C dx [])) := (same_new hdx).trans (same_new (by rw [upd_ne (Ne.symm ne)]; exact hx))
  refine ⟨x, dx, many, root, v, rows, rfl, upd_same, dp_same s1 _ _ hD, ok, fun H' l xs old hl nl hl' hA hp => ?_⟩
  have e : Same H H' := fun b o e => old b o (ne_of_none e hx) (s1 _ _ e)
  have hm' : ∀ b, m b → ∃ o, H' b = some o ∧ (∀ xs, o ≠ .tup xs) ∧ ∀ u o', o ≠ .frz u o' := fun b hb => by
    obtain ⟨o, h, r⟩ := hm b hb
    exact ⟨o, e _ _ h, r⟩
  have hl0 : H l = none := by
    rw [upd_ne nl] at hl
    by_cases z : l = dx
    · rw [z]
      exact hdx
    · rw [upd_ne z] at hl
      exact hl
  have nm : ∀ b, H b = none → ¬ m b := fun b h z => by
    obtain ⟨o, h2, _⟩ := hm b z
    rw [h] at h2
    cases h2
  refine ⟨rfl, q H' e ⟨dx, l, ?_, .lst (.of ?_) (rows_off hm' (dpAll_but (fun b o e no => ?_) _ _ hA))⟩⟩
  · rw [sans_no (nm x hx)]
    exact hp
  · rw [sans_no (nm l hl0)]
    exact hl'
  · refine old b o (fun z => ?_) e
    rw [z, upd_same] at e
    exact no _ _ _ (Option.some.inj e).symm
/-- the dice are made -/
theorem li_start {K : PySem.W.Frag} {d TL TR TM : Addr} {H H1 : Hp} (htl : LamX.TabS H TL lamQ) (htr : GxR.TabG H TR) (htm : GxR.TabG H TM) (D1 : Dice K H1 H d) : LI K d TL TR TM H1 := by
  obtain ⟨sub, dn, a', ns', i, x, c, hd, ok, hs⟩ := D1
  have ntab : ∀ b, m3 TL TR TM b → GxR.TabG H b := fun b hb => by
    rcases hb with z | z | z
    · rw [z]; exact tabG_of htl
    · rw [z]; exact htr
    · rw [z]; exact htm
  have e : ∀ {b : Addr} {o : HO}, H b = some o → (∀ ps, o ≠ .tbl ps) → (sans (m4 d TL TR TM) H1) b = some o := fun {b o} h ho => by
    rw [sans_no fun z => ?_]
    · exact sub _ _ h
    · rcases z with z | z
      · rw [z, dn] at h; cases h
      · obtain ⟨ps, y, _⟩ := ntab b z
        rw [h] at y
        exact ho ps (Option.some.inj y)
  have hs' : SqL K (sans (m4 d TL TR TM) H1) a' (ns'.map V.int) := by
    rcases hs with (h | ⟨o, h⟩) | h
    · exact .inl (.inl (e h fun ps z => by cases z))
    · exact .inl (.inr ⟨o, e h fun ps z => by cases z⟩)
    · exact .inr h
  exact ⟨⟨sans_same, sans_at (.inl rfl), a', ns', i, x, c, hd, ok, hs'⟩, htl.ext sub, (by obtain ⟨ps, h, t⟩ := htr; exact ⟨ps, sub _ _ h, t⟩), (by obtain ⟨ps, h, t⟩ := htm; exact ⟨ps, sub _ _ h, t⟩)⟩
/-- what an exception of the law's own tries is told of: its class and dict alone -/
theorem fn_cx {P : Program} {w : World} {K : PySem.W.Frag} {mg : Str → Option Value} {base : Heap} {k : Nat} {f : Addr} {fd : FuncData} {ps : List Str} {sp : Sp} (F : FnOk P w K mg base (L2N.CX P w) k f fd ps sp) : FnOk P w K mg base (L2.CX P w) k f fd ps sp :=
  ⟨F.len, fun A outer s H args us vs Q E hr e0 hb r hsp => codeAny_mono (F.run A outer s H args us vs Q E hr e0 hb r hsp) fun r s' h => by
    match r, h with
    | .ok (.ret u), h => exact h
    | .error e, h =>
      obtain ⟨a, B, H', cls, d, rfl, ⟨f1, f2, f3, oe, vs, T, oT, ts, g1, g2, g3⟩, rest⟩ := h
      exact ⟨a, B, H', cls, d, rfl, ⟨f1, f2, f3, oe, vs, T, oT, ts, g1, g2.zc, g3⟩, rest⟩⟩
end Rc
/-! part RcY1 -/
/-! The first cheapest tree of some roads of a map (numbers ks, roads rw). -/
namespace Rc
open PySem PySem.Spec PyProof.Rows L2
structure ChartK (n root : Int) (ks : List Int) (rw : Int → Row) : Prop where
  m0 : 1 ≤ n
  m1 : n ≤ 20
  r0 : 0 ≤ root
  r1 : root < n
  rd : RdOk n ks rw
  c0 : ∀ k ∈ ks, 0 ≤ (rw k).c
  lp : ∀ k ∈ ks, (rw k).b ≠ (rw k).g
/-- a tree whose roads are all of ks -/
def TreeIn (n root : Int) (ks : List Int) (rw : Int → Row) (js : List Int) : Prop := (js.length : Int) = n - 1 ∧ (∀ j ∈ js, j ∈ ks) ∧ ∀ v, 0 ≤ v → v < n → Reach (js.map rw) root v
def treeK (rw : Int → Row) (js : List Int) : PyData := .tuple [.int (costOfK rw js), intsD js]
structure CheapK (n root : Int) (ks : List Int) (rw : Int → Row) (ns : List Int) (prs : List Pr) : Prop where
  tree : TreeIn n root ks rw ns
  up : ns.Pairwise (· ≤ ·)
  first : ∀ js : List Int, js.Pairwise (· ≤ ·) → TreeIn n root ks rw js → costOfK rw ns ≤ costOfK rw js ∧ (ns = js ∨ PySem.W.dataLt (treeK rw ns) (treeK rw js) = true)
  shown : Shown n root (ks.map rw) (costOfK rw ns) prs
  all : allOf prs = costOfK rw ns
  each : ∀ x ∈ prs, 1 ≤ x.p ∧ x.g.Nodup ∧ x.g.Pairwise (· ≤ ·)
  ord : Ord (prs.map Pr.dat)
  few : prs.length ≤ 900
  small : ∀ x ∈ prs, x.g.length ≤ 1000
theorem goalsK {n root : Int} {ks : List Int} {rw : Int → Row} {js : List Int} (r0 : 0 ≤ root) (r1 : root < n) (t : TreeIn n root ks rw js) : (js.map fun r => (rw r).g).Perm (others root n.toNat) := by
  obtain ⟨h1, h2, h3⟩ := t
  have hol := others_len (root := root) (n := n.toNat) r0 (by omega)
  refine perm_of_sub (others_nodup _ _) (fun v hv => ?_) (by rw [List.length_map]; omega)
  obtain ⟨v0, v1, vn⟩ := mem_others.mp hv
  rcases reach_last (h3 v v0 (by omega)) with e | ⟨r, hr, hg⟩
  · exact absurd e vn
  · obtain ⟨i, hi, e⟩ := List.mem_map.mp hr
    exact List.mem_map.mpr ⟨i, hi, by rw [← hg, ← e]⟩
theorem nodupK {n root : Int} {ks : List Int} {rw : Int → Row} {js : List Int} (r0 : 0 ≤ root) (r1 : root < n) (t : TreeIn n root ks rw js) : js.Nodup :=
  nodup_of_map ((goalsK r0 r1 t).nodup_iff.mpr (others_nodup _ _))
theorem permK {n root : Int} {ks : List Int} {rw : Int → Row} {a b : List Int} (h : a.Perm b) (t : TreeIn n root ks rw a) : TreeIn n root ks rw b :=
  ⟨by rw [← h.length_eq]; exact t.1, fun j hj => t.2.1 j (h.mem_iff.mpr hj), fun v v0 v1 => reach_sub (fun r hr => (h.map rw).mem_iff.mp hr) (t.2.2 v v0 v1)⟩
theorem lt_treeK {rw : Int → Row} {a b : List Int} (h : costOfK rw a < costOfK rw b ∨ (costOfK rw a = costOfK rw b ∧ a ≠ b ∧ PySem.W.dataLt (intsD a) (intsD b) = true)) : PySem.W.dataLt (treeK rw a) (treeK rw b) = true := by
  unfold treeK
  rw [PySem.W.dataLt_tuple]
  rcases h with h | ⟨h1, h2, h3⟩
  · rw [PySem.W.dataLt_all_no (alike_int _ _) (no_int (Int.ne_of_lt h)), PySem.W.dataLt_int]
    exact decide_eq_true h
  · rw [PySem.W.dataLt_all_yes (alike_int _ _) ((eqv_int _ _).mpr h1), PySem.W.dataLt_all_no (alike_intsD a b) (by
      cases e : PyData.eqv (intsD a) (intsD b) with
      | false => rfl
      | true => exact absurd (by
          have := (num_eqv 1 _ _ (num_ints a) (num_ints b)).mp e
          unfold intsD at this
          have h4 := PyData.list.inj this
          exact (List.map_inj_right fun _ _ e => PyData.int.inj e).mp h4) h2)]
    exact h3
section
variable {n root : Int} {ks : List Int} {rw : Int → Row} {D : List Bool} {ρ : Int → Int × Int} {log : List Pay}
theorem taken_treeK (ok : ChartK n root ks rw) (run : Run n root (ks) rw n.toNat D ρ log) : TreeIn n root ks rw (taken rw log).1 := by
  obtain ⟨m0, m1, r0, r1, R, c0, lp⟩ := id ok
  have A := ran_all r0 r1 R c0 lp run
  obtain ⟨dl, dr, da⟩ := run_ok r0 r1 R run
  have pays := run_pays r0 r1 (by omega) R run
  have reach : ∀ v, 0 ≤ v → v < n → Reach ((taken rw log).1.map rw) root v := fun v v0 v1 => by
    have := run_reach r0 r1 R c0 lp run [] (by simpa using A.paid.lam) (by simpa using A.paid.pg) (fun x hx => nomatch hx) v v0 v1 (by
      have := da v.toNat (by omega)
      rw [show ((v.toNat : Nat) : Int) = v by omega] at this
      exact this)
    rw [List.append_nil] at this
    exact this
  refine ⟨?_, fun i hi => ?_, reach⟩
  · have g1 := goals_nodup A.paid.pg
    have hol := others_len (root := root) (n := n.toNat) r0 (by omega)
    have e : (taken rw log).2.length = (taken rw log).1.length := by rw [taken_goals, List.length_map]
    have le1 := g1.length_le_of_subset (l₂ := others root n.toNat) fun v hv => by
      obtain ⟨r, hr1, rfl⟩ := taken_goal.mp hv
      obtain ⟨x, hx, rfl⟩ := taken_sub r hr1
      have P := pays x hx
      obtain ⟨a, b⟩ := P.mem _ P.g
      exact mem_others.mpr ⟨a, by omega, fun z => P.rt (z ▸ P.g)⟩
    have le2 := (others_nodup root n.toNat).length_le_of_subset (l₂ := (taken rw log).2) fun v hv => by
      obtain ⟨v0, v1, vn⟩ := mem_others.mp hv
      rcases reach_last (reach v v0 (by omega)) with z | ⟨r, hr1, e⟩
      · exact absurd z vn
      · obtain ⟨i, hi, rfl⟩ := List.mem_map.mp hr1
        exact taken_goal.mpr ⟨i, hi, e⟩
    omega
  · obtain ⟨x, hx, rfl⟩ := taken_sub i hi
    exact (pays x hx).k
theorem restsK (ok : ChartK n root ks rw) (run : Run n root (ks) rw n.toNat D ρ log) {J : List Int} (hJ : ∀ k ∈ J, k ∈ ks) :
    costOfK rw J = (J.map fun r => (ρ r).1).sum + (log.map fun x => (J.countP (ent rw x.g) : Int) * x.c.1).sum ∧
    rankSum J = (J.map fun r => (ρ r).2).sum + (log.map fun x => (J.countP (ent rw x.g) : Int) * x.c.2).sum := by
  obtain ⟨m0, m1, r0, r1, R, c0, lp⟩ := id ok
  have A := ran_all r0 r1 R c0 lp run
  rw [← swap_sum, ← swap_sum, ← map_add, ← map_add]
  constructor
  · unfold costOfK
    congr 1
    refine List.map_congr_left fun k hk => ?_
    have := A.paid.acc1 k (hJ k hk)
    have e : (rest0 rw k).1 = (rw k).c := rfl
    unfold sum1 at this
    omega
  · unfold rankSum
    congr 1
    refine List.map_congr_left fun k hk => ?_
    have := A.paid.acc2 k (hJ k hk)
    have e : (rest0 rw k).2 = rankOf k := rfl
    unfold sum2 at this
    omega
/-- what all payments come to is what the tree costs -/
theorem taken_costK (ok : ChartK n root ks rw) (run : Run n root (ks) rw n.toNat D ρ log) :
    costOfK rw (taken rw log).1 = (log.map fun x => x.c.1).sum ∧ rankSum (taken rw log).1 = (log.map fun x => x.c.2).sum := by
  obtain ⟨m0, m1, r0, r1, R, c0, lp⟩ := id ok
  have A := ran_all r0 r1 R c0 lp run
  have pays := run_pays r0 r1 (by omega) R run
  obtain ⟨h1, h2⟩ := restsK ok run (J := (taken rw log).1) fun k hk => by
    obtain ⟨x, hx, rfl⟩ := taken_sub k hk
    exact (pays x hx).k
  have z : ∀ r ∈ (taken rw log).1, ρ r = (0, 0) := fun r hr => by
    obtain ⟨x, hx, rfl⟩ := taken_sub r hr
    exact A.paid.zero x hx
  rw [sum_none fun r hr => by rw [z r hr], Int.zero_add] at h1 h2
  rw [h1, h2]
  constructor
  · congr 1
    refine List.map_congr_left fun x hx => ?_
    rw [ent_one A.paid.lam A.paid.pg x hx]
    simp
  · congr 1
    refine List.map_congr_left fun x hx => ?_
    rw [ent_one A.paid.lam A.paid.pg x hx]
    simp
/-- none costs less, by cost and rank -/
theorem taken_leastK (ok : ChartK n root ks rw) (run : Run n root (ks) rw n.toNat D ρ log) {js : List Int} (t : TreeIn n root ks rw js) :
    Le2 (costOfK rw (taken rw log).1, rankSum (taken rw log).1) (costOfK rw js, rankSum js) := by
  obtain ⟨m0, m1, r0, r1, R, c0, lp⟩ := id ok
  have A := ran_all r0 r1 R c0 lp run
  have pays := run_pays r0 r1 (by omega) R run
  obtain ⟨dl, dr, da⟩ := run_ok r0 r1 R run
  obtain ⟨tc, tr⟩ := taken_costK ok run
  have jk : ∀ k ∈ js, k ∈ ks := fun k hk => t.2.1 k hk
  obtain ⟨h1, h2⟩ := restsK ok run jk
  have goals := goalsK r0 r1 t
  have gmem : ∀ k ∈ js, (rw k).g ∈ others root n.toNat := fun k hk => goals.mem_iff.mp (List.mem_map_of_mem (f := fun r => (rw r).g) hk)
  -- the restsK
  have le1 : Le2 (0, 0) ((js.map fun r => (ρ r).1).sum, (js.map fun r => (ρ r).2).sum) := by
    have := le2_sum (f1 := fun _ => 0) (f2 := fun _ => 0) (g1 := fun r => (ρ r).1) (g2 := fun r => (ρ r).2) (l := js) fun k hk => by
      obtain ⟨v0, v1, vn⟩ := mem_others.mp (gmem k hk)
      refine A.rest k (jk k hk) ?_ vn
      have := da (rw k).g.toNat (by omega)
      rw [show (((rw k).g.toNat : Nat) : Int) = (rw k).g by omega] at this
      exact this
    rw [sum_none (f := fun _ : Int => (0 : Int)) fun _ _ => rfl] at this
    exact this
  -- the payments
  have le2 : Le2 ((log.map fun x => x.c.1).sum, (log.map fun x => x.c.2).sum) ((log.map fun x => (js.countP (ent rw x.g) : Int) * x.c.1).sum, (log.map fun x => (js.countP (ent rw x.g) : Int) * x.c.2).sum) := by
    refine le2_sum fun x hx => ?_
    have P := pays x hx
    have pos : 1 ≤ js.countP (ent rw x.g) := by
      obtain ⟨v, hv⟩ := List.exists_mem_of_ne_nil _ P.ne
      obtain ⟨v0, v1⟩ := P.mem v hv
      obtain ⟨r, hr1, hr2, hr3⟩ := entered_by (t.2.2 v v0 v1) hv P.rt
      obtain ⟨k, hk, rfl⟩ := List.mem_map.mp hr1
      exact List.countP_pos_iff.mpr ⟨k, hk, ent_iff.mpr ⟨hr2, hr3⟩⟩
    refine mul_le2 pos ?_
    rcases A.paid.pos x hx with ⟨v, e⟩ | z
    · left
      have le : js.countP (ent rw x.g) ≤ (js.map fun r => (rw r).g).count v := by
        rw [List.count, List.countP_map]
        refine List.countP_mono_left fun k _ hk => ?_
        have := (ent_iff.mp hk).1
        rw [e] at this
        exact beq_iff_eq.mpr (List.mem_singleton.mp this)
      have := List.nodup_iff_count.mp (goals.nodup_iff.mpr (others_nodup root n.toNat)) v
      omega
    · exact .inr z
  rw [tc, tr, h1, h2]
  unfold Le2 at le1 le2 ⊢
  dsimp only at le1 le2 ⊢
  omega
/-- the prices show that no tree costs less -/
theorem priced_shownK (ok : ChartK n root ks rw) (run : Run n root (ks) rw n.toNat D ρ log) :
    Shown n root (ks.map rw) (costOfK rw (taken rw log).1) (priced log) ∧ allOf (priced log) = costOfK rw (taken rw log).1 ∧ ∀ x ∈ priced log, 1 ≤ x.p ∧ x.g.Nodup := by
  obtain ⟨m0, m1, r0, r1, R, c0, lp⟩ := id ok
  have A := ran_all r0 r1 R c0 lp run
  have pays := run_pays r0 r1 (by omega) R run
  obtain ⟨dl, dr, da⟩ := run_ok r0 r1 R run
  obtain ⟨tc, _⟩ := taken_costK ok run
  have mem : ∀ y ∈ priced log, ∃ x ∈ log, y = toPr x ∧ 0 < x.c.1 := fun y hy => by
    obtain ⟨x, hx, rfl⟩ := List.mem_map.mp hy
    obtain ⟨a, b⟩ := List.mem_filter.mp hx
    exact ⟨x, a, rfl, of_decide_eq_true b⟩
  have all : allOf (priced log) = costOfK rw (taken rw log).1 := by
    have := priced_sum (fun _ => true) A.paid.c0
    rw [List.filter_eq_self.mpr fun _ _ => rfl] at this
    unfold allOf
    rw [this, tc]
    simp
  refine ⟨⟨fun y hy => ?_, fun r hrm => ?_, by rw [all]; exact Int.le_refl _⟩, all, fun y hy => ?_⟩
  · obtain ⟨x, hx, rfl, h⟩ := mem y hy
    have P := pays x hx
    exact ⟨Int.le_of_lt h, P.ne, P.rt, P.mem⟩
  · obtain ⟨k, hk, rfl⟩ := List.mem_map.mp hrm
    unfold entered
    rw [priced_sum (enters (rw k)) A.paid.c0]
    have e : (log.map fun x => if enters (rw k) (toPr x) = true then x.c.1 else 0).sum = sum1 rw log k := rfl
    rw [e]
    have a1 := A.paid.acc1 k hk
    have e0 : (rest0 rw k).1 = (rw k).c := rfl
    obtain ⟨b0, b1, g0, g1⟩ := R.row k hk
    by_cases hroot : (rw k).g = root
    · have z : sum1 rw log k = 0 := sum_none fun x hx => by
        rw [if_neg]
        rw [ent_iff, hroot]
        exact fun q => (pays x hx).rt q.1
      have := c0 k hk
      omega
    · have := A.rest k hk (by
        have h2 := da (rw k).g.toNat (by omega)
        rw [show (((rw k).g.toNat : Nat) : Int) = (rw k).g by omega] at h2
        exact h2) hroot
      unfold Le2 at this
      dsimp only at this
      omega
  · obtain ⟨x, hx, rfl, h⟩ := mem y hy
    exact ⟨by show 1 ≤ x.c.1; omega, (pays x hx).nd⟩
/-- the tree that is told is the first of all -/
theorem told_firstK (ok : ChartK n root ks rw) (run : Run n root (ks) rw n.toNat D ρ log) {ns js : List Int} (hns : ns.Perm (taken rw log).1) (un : ns.Pairwise (· ≤ ·)) (uj : js.Pairwise (· ≤ ·)) (t : TreeIn n root ks rw js) :
    TreeIn n root ks rw ns ∧ costOfK rw ns ≤ costOfK rw js ∧ (ns = js ∨ PySem.W.dataLt (treeK rw ns) (treeK rw js) = true) := by
  obtain ⟨m0, m1, r0, r1, R, c0, lp⟩ := id ok
  have tn := permK hns.symm (taken_treeK ok run)
  have le := taken_leastK ok run t
  have ec : costOfK rw ns = costOfK rw (taken rw log).1 := by
    unfold costOfK
    exact perm_sum (hns.map _)
  have er : rankSum ns = rankSum (taken rw log).1 := by
    unfold rankSum
    exact perm_sum (hns.map _)
  rw [← ec, ← er] at le
  unfold Le2 at le
  dsimp only at le
  refine ⟨tn, by omega, ?_⟩
  by_cases e : ns = js
  · exact .inl e
  · right
    by_cases hc : costOfK rw ns < costOfK rw js
    · exact lt_treeK (.inl hc)
    · have hc2 : costOfK rw ns = costOfK rw js := by omega
      have hrk : rankSum ns ≤ rankSum js := by omega
      have l1 := up_lt un (nodupK r0 r1 tn)
      have l2 := up_lt uj (nodupK r0 r1 t)
      have hlen : ns.length = js.length := by
        have := tn.1
        have := t.1
        omega
      obtain ⟨pre, x, y, ra, rb, e1, e2, e3⟩ := first_diff hlen e
      have s60 : ∀ l : List Int, TreeIn n root ks rw l → ∀ r ∈ l, r ≤ 60 := fun l tl r hr2 => by
        exact (R.num r (tl.2.1 r hr2)).2
      by_cases hxy : x < y
      · refine lt_treeK (.inr ⟨hc2, e, ?_⟩)
        rw [e1, e2, lt_ints pre e3]
        exact decide_eq_true hxy
      · exfalso
        have a1 := l1
        have a2 := s60 ns tn
        rw [e1] at a1 a2 hrk
        rw [e2] at hrk
        have := rank_lt (ra := rb) (show y < x by omega) a1 a2
        omega
theorem cheap_ofK (ok : ChartK n root ks rw) (run : Run n root (ks) rw n.toNat D ρ log) {ns : List Int} {prs : List Pr} (hns : ns.Perm (taken rw log).1) (un : ns.Pairwise (· ≤ ·)) (hpr : prs.Perm (priced log)) (ho : Ord (prs.map Pr.dat)) : CheapK n root ks rw ns prs := by
  obtain ⟨m0, m1, r0, r1, R, c0, lp⟩ := id ok
  obtain ⟨h1, h2, h3⟩ := priced_shownK ok run
  have ec : costOfK rw ns = costOfK rw (taken rw log).1 := by
    unfold costOfK
    exact perm_sum (hns.map _)
  have pays := run_pays r0 r1 (by omega) R run
  have mem : ∀ x ∈ prs, ∃ y ∈ log, x = toPr y := fun x hx => by
    obtain ⟨y, hy, rfl⟩ := List.mem_map.mp (hpr.mem_iff.mp hx)
    exact ⟨y, (List.mem_filter.mp hy).1, rfl⟩
  refine ⟨permK hns.symm (taken_treeK ok run), un, fun js uj t => (told_firstK ok run hns un uj t).2, by rw [ec]; exact shown_perm hpr h1, ?_, fun x hx => ?_, ho, ?_, fun x hx => ?_⟩
  · rw [ec, ← h2]
    unfold allOf
    exact perm_sum (hpr.map _)
  · obtain ⟨y, hy, rfl⟩ := mem x hx
    obtain ⟨a, b⟩ := h3 _ (hpr.mem_iff.mp hx)
    exact ⟨a, b, run_up run y hy⟩
  · have hl1 := run_log R run
    have hl2 : n.toNat * (2 * n.toNat) ≤ 20 * 40 := Nat.mul_le_mul (by omega) (by omega)
    have hpl : prs.length ≤ log.length := by
      rw [hpr.length_eq]
      unfold priced
      rw [List.length_map]
      exact List.length_filter_le _ _
    omega
  · obtain ⟨y, hy, rfl⟩ := mem x hx
    exact (pays y hy).len
end
end Rc
/-! part RcY2 -/
/-! Trees with a road, without it; roads that cost otherwise. -/
namespace Rc
open PySem PySem.Spec PyProof.Rows L2
section
variable {n root : Int} {ks : List Int} {rw : Int → Row} {js : List Int}
theorem treeK_rowAt (rows : List Row) (js : List Int) : treeK (rowAt rows) js = treeD rows js := by
  unfold treeK treeD
  rw [cost_rowAt]
/-- trees of some roads of a map -/
theorem treeIn_iff {rows : List Row} (hk : ∀ k ∈ ks, k ∈ idx rows.length) : TreeIn n root ks (rowAt rows) js ↔ IsTree n root rows js ∧ ∀ j ∈ js, j ∈ ks := by
  unfold TreeIn IsTree
  rw [pick_row]
  exact ⟨fun ⟨a, b, c⟩ => ⟨⟨a, fun j hj => mem_idx.mp (hk j (b j hj)), c⟩, b⟩, fun ⟨⟨a, _, c⟩, b⟩ => ⟨a, b, c⟩⟩
theorem treeIn_all {rows : List Row} : TreeIn n root (idx rows.length) (rowAt rows) js ↔ IsTree n root rows js :=
  (treeIn_iff fun _ h => h).trans ⟨fun z => z.1, fun z => ⟨z, fun j hj => mem_idx.mpr (z.2.1 j hj)⟩⟩
theorem treeIn_sub {ks' : List Int} (h : ∀ j ∈ js, j ∈ ks') (t : TreeIn n root ks rw js) : TreeIn n root ks' rw js := ⟨t.1, h, t.2.2⟩
theorem treeIn_reach (t : TreeIn n root ks rw js) {v : Int} (v0 : 0 ≤ v) (v1 : v < n) : Reach (ks.map rw) root v :=
  reach_sub (fun r hr => by
    obtain ⟨i, hi, rfl⟩ := List.mem_map.mp hr
    exact List.mem_map_of_mem (t.2.1 i hi)) (t.2.2 v v0 v1)
theorem no_treeK {v : Int} (v0 : 0 ≤ v) (v1 : v < n) (h : ¬ Reach (ks.map rw) root v) : ¬ TreeIn n root ks rw js := fun t => h (treeIn_reach t v0 v1)
/-- the roads but j -/
theorem without_iff {j : Int} : TreeIn n root (ks.filter fun k => !decide (k = j)) rw js ↔ TreeIn n root ks rw js ∧ j ∉ js := by
  constructor
  · intro t
    have h : ∀ i ∈ js, i ∈ ks ∧ i ≠ j := fun i hi => by
      obtain ⟨a, b⟩ := List.mem_filter.mp (t.2.1 i hi)
      exact ⟨a, fun z => by rw [z] at b; simp at b⟩
    exact ⟨treeIn_sub (fun i hi => (h i hi).1) t, fun hj => (h j hj).2 rfl⟩
  · rintro ⟨t, hj⟩
    exact treeIn_sub (fun i hi => List.mem_filter.mpr ⟨t.2.1 i hi, by
      have : i ≠ j := fun z => hj (z ▸ hi)
      simp [this]⟩) t
theorem goal_injK (r0 : 0 ≤ root) (r1 : root < n) (t : TreeIn n root ks rw js) {a b : Int} (ha : a ∈ js) (hb : b ∈ js) (e : (rw a).g = (rw b).g) : a = b := by
  have nd := (goalsK r0 r1 t).nodup_iff.mpr (others_nodup root n.toNat)
  clear t
  induction js with
  | nil => cases ha
  | cons x l ih =>
    rw [List.map_cons, List.nodup_cons] at nd
    rcases List.mem_cons.mp ha with ea | ha'
    · rcases List.mem_cons.mp hb with eb | hb'
      · rw [ea, eb]
      · refine absurd ?_ nd.1
        rw [← ea, e]
        exact List.mem_map_of_mem (f := fun r => (rw r).g) hb'
    · rcases List.mem_cons.mp hb with eb | hb'
      · refine absurd ?_ nd.1
        rw [← eb, ← e]
        exact List.mem_map_of_mem (f := fun r => (rw r).g) ha'
      · exact ih ha' hb' nd.2
/-- into each place but the root just one -/
theorem into_oneK (r0 : 0 ≤ root) (r1 : root < n) (t : TreeIn n root ks rw js) {v : Int} (v0 : 0 ≤ v) (v1 : v < n) (vr : v ≠ root) : ∃ j ∈ js, (rw j).g = v := by
  have : v ∈ others root n.toNat := mem_others.mpr ⟨v0, by omega, vr⟩
  obtain ⟨j, hj, e⟩ := List.mem_map.mp ((goalsK r0 r1 t).mem_iff.mpr this)
  exact ⟨j, hj, e⟩
theorem root_noneK (r0 : 0 ≤ root) (r1 : root < n) (t : TreeIn n root ks rw js) {j : Int} (hj : j ∈ js) : (rw j).g ≠ root := fun e =>
  (mem_others.mp ((goalsK r0 r1 t).mem_iff.mp (List.mem_map_of_mem (f := fun r => (rw r).g) hj))).2.2 e
/-- the roads of which j is alone into its place -/
theorem alone_iff {j : Int} (r0 : 0 ≤ root) (r1 : root < n) (g0 : 0 ≤ (rw j).g) (g1 : (rw j).g < n) (gr : (rw j).g ≠ root) :
    TreeIn n root (ks.filter fun k => !decide ((rw k).g = (rw j).g) || decide (k = j)) rw js ↔ TreeIn n root ks rw js ∧ j ∈ js := by
  constructor
  · intro t
    have h : ∀ i ∈ js, i ∈ ks ∧ ((rw i).g = (rw j).g → i = j) := fun i hi => by
      obtain ⟨a, b⟩ := List.mem_filter.mp (t.2.1 i hi)
      refine ⟨a, fun e => ?_⟩
      simp [e] at b
      exact b
    refine ⟨treeIn_sub (fun i hi => (h i hi).1) t, ?_⟩
    obtain ⟨i, hi, e⟩ := into_oneK r0 r1 t g0 g1 gr
    rw [← (h i hi).2 e]
    exact hi
  · rintro ⟨t, hj⟩
    refine treeIn_sub (fun i hi => List.mem_filter.mpr ⟨t.2.1 i hi, ?_⟩) t
    by_cases e : (rw i).g = (rw j).g
    · have := goal_injK r0 r1 t hi hj e
      simp [this]
    · simp [e]
/-! ### other costs -/
theorem treeIn_same {rw' : Int → Row} (h : ∀ k ∈ ks, (rw' k).b = (rw k).b ∧ (rw' k).g = (rw k).g) (t : TreeIn n root ks rw js) : TreeIn n root ks rw' js := by
  refine ⟨t.1, t.2.1, fun v v0 v1 => ?_⟩
  have key : ∀ u, Reach (js.map rw) root u → Reach (js.map rw') root u := fun u x => by
    induction x with
    | root => exact .root
    | @step r hr _ ih =>
      obtain ⟨k, hk, rfl⟩ := List.mem_map.mp hr
      obtain ⟨e1, e2⟩ := h k (t.2.1 k hk)
      rw [← e2]
      exact .step (List.mem_map_of_mem (f := rw') hk) (by rw [e1]; exact ih)
  exact key v (t.2.2 v v0 v1)
/-- a cost changes: trees with the road by as much, those without it not -/
theorem cost_one {rw' : Int → Row} {j by' : Int} (hj : (rw' j).c = (rw j).c + by') (ho : ∀ k, k ≠ j → (rw' k).c = (rw k).c) : ∀ {js : List Int}, js.Nodup → costOfK rw' js = costOfK rw js + if j ∈ js then by' else 0
  | [], _ => by simp [costOfK]
  | k :: js, nd => by
    have ih := cost_one hj ho (List.nodup_cons.mp nd).2
    have hk := (List.nodup_cons.mp nd).1
    have e : ∀ f : Int → Row, costOfK f (k :: js) = (f k).c + costOfK f js := fun f => by
      unfold costOfK
      rw [List.map_cons, List.sum_cons]
    rw [e, e, ih]
    by_cases c : k = j
    · subst c
      rw [hj, if_neg hk, if_pos List.mem_cons_self]
      omega
    · rw [ho k c]
      by_cases d : j ∈ js
      · rw [if_pos d, if_pos (List.mem_cons_of_mem _ d)]
        omega
      · rw [if_neg d, if_neg (fun z => (List.mem_cons.mp z).elim (fun y => c y.symm) d)]
        omega
theorem cost_into {rw' : Int → Row} {v by' : Int} (h : ∀ k, (rw' k).c = (rw k).c + if (rw k).g = v then by' else 0) : ∀ js : List Int, costOfK rw' js = costOfK rw js + (((js.map fun k => (rw k).g).count v : Nat) : Int) * by'
  | [] => by simp [costOfK]
  | k :: js => by
    have ih := cost_into h js
    have e : ∀ f : Int → Row, costOfK f (k :: js) = (f k).c + costOfK f js := fun f => by
      unfold costOfK
      rw [List.map_cons, List.sum_cons]
    rw [e, e, ih, h k, List.map_cons, List.count_cons]
    by_cases c : (rw k).g = v
    · rw [if_pos c, if_pos (beq_iff_eq.mpr c), Int.natCast_add, Int.add_mul]
      simp
      omega
    · rw [if_neg c, if_neg (fun z => c (beq_iff_eq.mp z))]
      simp
      omega
/-- all roads into v dearer: each tree by as much, where v isn't the root -/
theorem tree_into {rw' : Int → Row} {v by' : Int} (r0 : 0 ≤ root) (r1 : root < n) (v0 : 0 ≤ v) (v1 : v < n) (h : ∀ k, (rw' k).c = (rw k).c + if (rw k).g = v then by' else 0) (t : TreeIn n root ks rw js) :
    costOfK rw' js = costOfK rw js + if v = root then 0 else by' := by
  rw [cost_into h, (goalsK r0 r1 t).count_eq]
  by_cases c : v = root
  · rw [if_pos c, List.count_eq_zero.mpr fun z => (mem_others.mp z).2.2 c]
    simp
  · rw [if_neg c]
    have h1 := List.nodup_iff_count.mp (others_nodup root n.toNat) v
    have h2 := List.count_pos_iff.mpr (mem_others.mpr ⟨v0, by omega, c⟩ : v ∈ others root n.toNat)
    have : (others root n.toNat).count v = 1 := by omega
    rw [this]
    simp
end
/-- what cheapest_among tells of some roads -/
def spAmongK (K : PySem.W.Frag) (B TL TR : Addr) : Sp := fun vs H Q E => ∃ (n root : Int) (r : Addr) (ks : List Int) (rw : Int → Row) (tw : Int → Addr), vs = [.int n, .int root, .ref r] ∧ RoadsAt K H r ks rw tw ∧ ChartK n root ks rw ∧ LamX.TabS H TL lamQ ∧ GxR.TabG H TR ∧ TL ≠ TR ∧
  (∀ d l H' (ns : List Int), Tb TL TR H H' → H d = none → H' d = some (.xd [("left", .ref l)]) → H' l = some (.lst (ns.map V.int)) → (∀ v, v ∈ ns ↔ 0 ≤ v ∧ v < n ∧ ¬ Reach (ks.map rw) root v) → ns.Pairwise (fun a b => a < b) → ns ≠ [] → E (.ref B) (some d) H') ∧
  ∀ t H' (ns : List Int) (prs : List Pr), Tb TL TR H H' → TellAt K H H' t (costOfK rw ns) ns prs → (∀ v, 0 ≤ v → v < n → Reach (ks.map rw) root v) → CheapK n root ks rw ns prs → Q (.ref t) H'
theorem spAmongK_of {K : PySem.W.Frag} {B TL TR : Addr} (vs : List V) (H : Hp) (Q : VK) (E : XK) (h : spAmongK K B TL TR vs H Q E) : spAmong K B TL TR vs H Q E := by
  obtain ⟨n, root, r, ks, rw, tw, h1, h2, ok, h4, h5, h6, h7, q⟩ := h
  obtain ⟨m0, m1, r0, r1, R, c0, lp⟩ := id ok
  exact ⟨n, root, r, ks, rw, tw, h1, h2, r0, r1, by omega, R, h4, h5, h6, fun d l H' ns tb hd _ => h7 d l H' ns tb hd, fun t H' ns prs D ρ log tb hD hreach run hperm hup hpr hord => q t H' ns prs tb hD hreach (cheap_ofK ok run hperm hup hpr hord)⟩
end Rc
/-! part RcY3 -/
/-! The first so many of all trees. -/
namespace Rc
open PySem PySem.Spec PyProof.Rows L2
theorem lt_trans' {a b c : PyData} (h1 : PySem.W.dataLt a b = true) (h2 : PySem.W.dataLt b c = true) : PySem.W.dataLt a c = true := lex_trans _ _ _ h1 h2
theorem lt_asym {a b : PyData} (h1 : PySem.W.dataLt a b = true) (h2 : PySem.W.dataLt b a = true) : False := by
  have := lt_trans' h1 h2
  have e : PySem.W.dataLt a a = false := lex_irrefl _
  rw [e] at this
  cases this
def Bef (rw : Int → Row) (a b : List Int) : Prop := PySem.W.dataLt (treeK rw a) (treeK rw b) = true
theorem bef_trans {rw : Int → Row} {a b c : List Int} (h1 : Bef rw a b) (h2 : Bef rw b c) : Bef rw a c := lt_trans' h1 h2
theorem bef_asym {rw : Int → Row} {a b : List Int} (h1 : Bef rw a b) (h2 : Bef rw b a) : False := lt_asym h1 h2
theorem bef_irr {rw : Int → Row} {a : List Int} (h : Bef rw a a) : False := bef_asym h h
/-- of two lists that are as long one is first -/
theorem bef_tri {rw : Int → Row} {a b : List Int} (hl : a.length = b.length) (ne : a ≠ b) : Bef rw a b ∨ Bef rw b a := by
  by_cases c1 : costOfK rw a < costOfK rw b
  · exact .inl (lt_treeK (.inl c1))
  · by_cases c2 : costOfK rw b < costOfK rw a
    · exact .inr (lt_treeK (.inl c2))
    · have ec : costOfK rw a = costOfK rw b := by omega
      obtain ⟨pre, x, y, ra, rb, e1, e2, e3⟩ := first_diff hl ne
      by_cases h : x < y
      · refine .inl (lt_treeK (.inr ⟨ec, ne, ?_⟩))
        rw [e1, e2, lt_ints pre e3]
        exact decide_eq_true h
      · refine .inr (lt_treeK (.inr ⟨ec.symm, ne.symm, ?_⟩))
        rw [e1, e2, lt_ints pre e3.symm]
        exact decide_eq_true (by omega)
theorem treeIn_len {n root : Int} {ks : List Int} {rw : Int → Row} {a b : List Int} (ta : TreeIn n root ks rw a) (tb : TreeIn n root ks rw b) : a.length = b.length := by
  have := ta.1
  have := tb.1
  omega
/-- the first m of all trees of some roads -/
structure BestIs (n root : Int) (ks : List Int) (rw : Int → Row) (m : Nat) (L : List (List Int)) : Prop where
  tree : ∀ js ∈ L, TreeIn n root ks rw js ∧ js.Pairwise (· ≤ ·)
  ord : L.Pairwise (Bef rw)
  rest : ∀ js, TreeIn n root ks rw js → js.Pairwise (· ≤ ·) → js ∈ L ∨ (L.length = m ∧ ∀ x ∈ L, Bef rw x js)
  len : L.length ≤ m
/-- what is closed downwards is a beginning -/
theorem down_take {α : Type} {lt : α → α → Prop} (asym : ∀ a b, lt a b → lt b a → False) : ∀ {E A : List α}, E.Pairwise lt → A.Pairwise lt → (∀ a ∈ A, a ∈ E) → (∀ e ∈ E, ∀ a ∈ A, lt e a → e ∈ A) → A = E.take A.length
  | E, [], _, _, _, _ => rfl
  | [], a :: A, _, _, h, _ => absurd (h a List.mem_cons_self) (by simp)
  | e :: E, a :: A, hE, hA, h, hd => by
    obtain ⟨hE1, hE2⟩ := List.pairwise_cons.mp hE
    obtain ⟨hA1, hA2⟩ := List.pairwise_cons.mp hA
    have ea : a = e := by
      rcases List.mem_cons.mp (h a List.mem_cons_self) with z | z
      · exact z
      · have l1 := hE1 a z
        rcases List.mem_cons.mp (hd e List.mem_cons_self a List.mem_cons_self l1) with y | y
        · exact y.symm
        · exact (asym _ _ l1 (hA1 e y)).elim
    subst ea
    have ih := down_take asym hE2 hA2 (fun x hx => by
      rcases List.mem_cons.mp (h x (List.mem_cons_of_mem _ hx)) with z | z
      · have := hA1 x hx
        rw [z] at this
        exact (asym _ _ this this).elim
      · exact z) (fun x hx y hy l => by
      rcases List.mem_cons.mp (hd x (List.mem_cons_of_mem _ hx) y (List.mem_cons_of_mem _ hy) l) with z | z
      · have := hE1 x hx
        rw [z] at this
        exact (asym _ _ this this).elim
      · exact z)
    show a :: A = a :: E.take A.length
    rw [← ih]
/-- the first m are the beginning of all trees in order -/
theorem best_take {n root : Int} {rows : List Row} {m : Nat} {L : List (List Int)} {es : List PyData} (B : BestIs n root (idx rows.length) (rowAt rows) m L) (hT : ∀ e ∈ es, ∃ js, Told rows n root e js) (hA : ∀ js : List Int, js.Pairwise (· ≤ ·) → IsTree n root rows js → treeD rows js ∈ es) (hO : Ord es) (hN : es.Nodup) :
    L.map (treeD rows) = es.take m := by
  have eK : ∀ js, treeK (rowAt rows) js = treeD rows js := treeK_rowAt rows
  have inj : ∀ {a b : List Int}, treeD rows a = treeD rows b → a = b := fun {a b} h => by
    unfold treeD intsD at h
    have e := PyData.tuple.inj h
    rw [List.cons.injEq, List.cons.injEq] at e
    exact (List.map_inj_right fun _ _ e => PyData.int.inj e).mp (PyData.list.inj e.2.1)
  have hS : es.Pairwise fun a b => PySem.W.dataLt a b = true := by
    have := hO.and (List.nodup_iff_pairwise_ne.mp hN)
    refine this.imp_of_mem fun {a b} ha hb h => ?_
    obtain ⟨x, tx⟩ := hT a ha
    obtain ⟨y, ty⟩ := hT b hb
    have hne : x ≠ y := fun z => h.2 (by rw [tx.eq, ty.eq, z])
    rcases bef_tri (rw := rowAt rows) (treeIn_len (treeIn_all.mpr tx.tree) (treeIn_all.mpr ty.tree)) hne with z | z
    · unfold Bef at z
      rw [eK, eK, ← tx.eq, ← ty.eq] at z
      exact z
    · unfold Bef at z
      rw [eK, eK, ← tx.eq, ← ty.eq] at z
      rw [h.1] at z
      cases z
  have hL : (L.map (treeD rows)).Pairwise fun a b => PySem.W.dataLt a b = true := by
    rw [List.pairwise_map]
    refine B.ord.imp fun {a b} h => ?_
    unfold Bef at h
    rw [eK, eK] at h
    exact h
  have hin : ∀ a ∈ L.map (treeD rows), a ∈ es := fun a ha => by
    obtain ⟨x, hx, rfl⟩ := List.mem_map.mp ha
    obtain ⟨t, u⟩ := B.tree x hx
    exact hA x u (treeIn_all.mp t)
  have key := down_take (lt := fun a b => PySem.W.dataLt a b = true) (fun a b h1 h2 => lt_asym h1 h2) hS hL hin fun e he a ha l => by
    obtain ⟨x, hx, rfl⟩ := List.mem_map.mp ha
    obtain ⟨y, ty⟩ := hT e he
    rcases B.rest y (treeIn_all.mpr ty.tree) ty.up with z | ⟨_, z⟩
    · rw [ty.eq]
      exact List.mem_map_of_mem z
    · have := z x hx
      unfold Bef at this
      rw [eK, eK, ← ty.eq] at this
      exact (lt_asym l this).elim
  by_cases c : L.length = m
  · rw [List.length_map, c] at key
    exact key
  · have hle := B.len
    have hall : es.length ≤ L.length := by
      have := hN.length_le_of_subset (l₂ := L.map (treeD rows)) fun e he => by
        obtain ⟨y, ty⟩ := hT e he
        rcases B.rest y (treeIn_all.mpr ty.tree) ty.up with z | ⟨z, _⟩
        · rw [ty.eq]
          exact List.mem_map_of_mem z
        · exact absurd z c
      rw [List.length_map] at this
      exact this
    rw [List.length_map, List.take_of_length_le hall] at key
    rw [key, List.take_of_length_le (by omega)]
/-- two lists that are as long, none twice: unlike, the one has something that the other hasn't -/
theorem first_out {T js : List Int} (hl : T.length = js.length) (nd : T.Nodup) (u1 : T.Pairwise (· ≤ ·)) (u2 : js.Pairwise (· ≤ ·)) (ne : T ≠ js) : ∃ pre t post, T = pre ++ t :: post ∧ (∀ x ∈ pre, x ∈ js) ∧ t ∉ js := by
  have split : ∀ A : List Int, (∀ x ∈ A, x ∈ js) ∨ ∃ pre t post, A = pre ++ t :: post ∧ (∀ x ∈ pre, x ∈ js) ∧ t ∉ js := fun A => by
    induction A with
    | nil => exact .inl (fun x hx => nomatch hx)
    | cons a A ih =>
      by_cases c : a ∈ js
      · rcases ih with h | ⟨pre, t, post, e, h1, h2⟩
        · exact .inl fun x hx => by
            rcases List.mem_cons.mp hx with z | z
            · rw [z]; exact c
            · exact h x z
        · exact .inr ⟨a :: pre, t, post, by rw [e]; rfl, fun x hx => by
            rcases List.mem_cons.mp hx with z | z
            · rw [z]; exact c
            · exact h1 x z, h2⟩
      · exact .inr ⟨[], a, A, rfl, (fun x hx => nomatch hx), c⟩
  rcases split T with h | h
  · exfalso
    have P : T.Perm js := (perm_of_sub nd h (by omega)).symm
    exact ne (P.eq_of_pairwise (fun a b _ _ h1 h2 => Int.le_antisymm h1 h2) u1 u2)
  · exact h
end Rc
/-! part RcY4 -/
/-! Margins: what the cheapest tree with a road, or without it, costs more. -/
namespace Rc
open PySem PySem.Spec PyProof.Rows L2
/-- ns costs the least -/
structure LeastT (n root : Int) (ks : List Int) (rw : Int → Row) (ns : List Int) : Prop where
  tree : TreeIn n root ks rw ns
  le : ∀ js, TreeIn n root ks rw js → costOfK rw ns ≤ costOfK rw js
/-- far: how much more the cheapest of the others costs, of which those with j are others where ns hasn't j -/
def MarginIs (n root : Int) (ks : List Int) (rw : Int → Row) (j : Int) (ns : List Int) : Option Int → Prop
  | none => ∀ js, TreeIn n root ks rw js → (j ∈ js ↔ j ∈ ns)
  | some f => (∃ js, TreeIn n root ks rw js ∧ ¬ (j ∈ js ↔ j ∈ ns) ∧ costOfK rw js = costOfK rw ns + f) ∧ ∀ js, TreeIn n root ks rw js → ¬ (j ∈ js ↔ j ∈ ns) → costOfK rw ns + f ≤ costOfK rw js
section
variable {n root : Int} {ks : List Int} {rw : Int → Row} {j : Int} {ns : List Int}
theorem cheapK_least {prs : List Pr} (C : CheapK n root ks rw ns prs) : LeastT n root ks rw ns := ⟨C.tree, fun js t => by
  by_cases hn : ∃ is : List Int, is.Perm js ∧ is.Pairwise (· ≤ ·)
  · obtain ⟨is, hp, hu⟩ := hn
    have e : costOfK rw is = costOfK rw js := by
      unfold costOfK
      exact perm_sum (hp.map _)
    have := (C.first is hu (permK hp.symm t)).1
    omega
  · exact absurd ⟨js.mergeSort (· ≤ ·), List.mergeSort_perm _ _, by
      have := List.pairwise_mergeSort (le := fun a b : Int => decide (a ≤ b)) (fun a b c h1 h2 => by simp at *; omega) (fun a b => by simp; omega) js
      exact this.imp fun h => of_decide_eq_true h⟩ hn⟩
theorem margin_nonneg (L : LeastT n root ks rw ns) {f : Int} (M : MarginIs n root ks rw j ns (some f)) : 0 ≤ f := by
  obtain ⟨⟨js, t, _, e⟩, _⟩ := M
  have := L.le js t
  omega
/-- what the cheapest costs where the road costs by' more -/
def dueOf (inn : Bool) (far : Option Int) (least by' : Int) : Int :=
  match inn, far with
  | true, none => least + by'
  | true, some f => if by' < f then least + by' else least + f
  | false, none => least
  | false, some f => if 0 ≤ f + by' then least else least + f + by'
theorem due_is {rw' : Int → Row} {by' c' : Int} {far : Option Int} (r0 : 0 ≤ root) (r1 : root < n) (L : LeastT n root ks rw ns) (M : MarginIs n root ks rw j ns far) (hb : ∀ k, (rw' k).b = (rw k).b ∧ (rw' k).g = (rw k).g)
    (hj : (rw' j).c = (rw j).c + by') (ho : ∀ k, k ≠ j → (rw' k).c = (rw k).c) {ns' : List Int} (L' : LeastT n root ks rw' ns') (hc : c' = costOfK rw' ns') : c' = dueOf (decide (j ∈ ns)) far (costOfK rw ns) by' := by
  have back : ∀ js, TreeIn n root ks rw' js → TreeIn n root ks rw js := fun js t => treeIn_same (fun k _ => ⟨(hb k).1.symm, (hb k).2.symm⟩) t
  have forth : ∀ js, TreeIn n root ks rw js → TreeIn n root ks rw' js := fun js t => treeIn_same (fun k _ => hb k) t
  have cost : ∀ js, TreeIn n root ks rw js → costOfK rw' js = costOfK rw js + if j ∈ js then by' else 0 := fun js t => cost_one hj ho (nodupK r0 r1 t)
  have t' := back ns' L'.tree
  have e' := cost ns' t'
  have l1 := L'.le ns (forth ns L.tree)
  rw [cost ns L.tree] at l1
  have l2 := L.le ns' t'
  unfold dueOf
  cases far with
  | none =>
    have hm : j ∈ ns' ↔ j ∈ ns := M ns' t'
    by_cases h : j ∈ ns
    · have h' := hm.mpr h
      rw [if_pos h'] at e'
      rw [if_pos h] at l1
      simp only [h, decide_true]
      omega
    · have h' : ¬ j ∈ ns' := fun z => h (hm.mp z)
      rw [if_neg h'] at e'
      rw [if_neg h] at l1
      simp only [h, decide_false]
      omega
  | some f =>
    have f0 := margin_nonneg L M
    obtain ⟨⟨js, t, hne, ej⟩, hmin⟩ := M
    have l3 := L'.le js (forth js t)
    rw [cost js t] at l3
    by_cases h : j ∈ ns
    · have hjs : ¬ j ∈ js := fun z => hne ⟨fun _ => h, fun _ => z⟩
      rw [if_pos h] at l1
      rw [if_neg hjs] at l3
      simp only [h, decide_true]
      by_cases h' : j ∈ ns'
      · rw [if_pos h'] at e'
        split <;> omega
      · have := hmin ns' t' fun z => h' (z.mpr h)
        rw [if_neg h'] at e'
        split <;> omega
    · have hjs : j ∈ js := Classical.byContradiction fun z => hne ⟨fun y => absurd y z, fun y => absurd y h⟩
      rw [if_neg h] at l1
      rw [if_pos hjs] at l3
      simp only [h, decide_false]
      by_cases h' : j ∈ ns'
      · have := hmin ns' t' fun z => h (z.mp h')
        rw [if_pos h'] at e'
        split <;> omega
      · rw [if_neg h'] at e'
        split <;> omega
/-- the least trees and a road: all have it, some, none -/
theorem always_all {far : Option Int} (L : LeastT n root ks rw ns) (M : MarginIs n root ks rw j ns far) : (∀ js, LeastT n root ks rw js → j ∈ js) ↔ j ∈ ns ∧ far ≠ some 0 := by
  constructor
  · intro h
    refine ⟨h ns L, fun e => ?_⟩
    subst e
    obtain ⟨⟨js, t, hne, ej⟩, _⟩ := M
    have : LeastT n root ks rw js := ⟨t, fun is ti => by have := L.le is ti; omega⟩
    exact hne ⟨fun _ => h ns L, fun _ => h js this⟩
  · rintro ⟨h, hf⟩ js Lj
    refine Classical.byContradiction fun z => ?_
    have hne : ¬ (j ∈ js ↔ j ∈ ns) := fun y => z (y.mpr h)
    cases far with
    | none => exact hne (M js Lj.tree)
    | some f =>
      have f0 := margin_nonneg L M
      have := M.2 js Lj.tree hne
      have := Lj.le ns L.tree
      exact hf (by rw [show f = 0 by omega])
theorem always_none {far : Option Int} (L : LeastT n root ks rw ns) (M : MarginIs n root ks rw j ns far) : (∀ js, LeastT n root ks rw js → j ∉ js) ↔ j ∉ ns ∧ far ≠ some 0 := by
  constructor
  · intro h
    refine ⟨h ns L, fun e => ?_⟩
    subst e
    obtain ⟨⟨js, t, hne, ej⟩, _⟩ := M
    have : LeastT n root ks rw js := ⟨t, fun is ti => by have := L.le is ti; omega⟩
    exact hne ⟨fun y => absurd y (h js this), fun y => absurd y (h ns L)⟩
  · rintro ⟨h, hf⟩ js Lj z
    have hne : ¬ (j ∈ js ↔ j ∈ ns) := fun y => h (y.mp z)
    cases far with
    | none => exact hne (M js Lj.tree)
    | some f =>
      have f0 := margin_nonneg L M
      have := M.2 js Lj.tree hne
      have := Lj.le ns L.tree
      exact hf (by rw [show f = 0 by omega])
/-- the margin, from the cheapest trees without j, or with it alone into its place -/
theorem margin_in {js : List Int} (h : j ∈ ns) (Lj : LeastT n root (ks.filter fun k => !decide (k = j)) rw js) : MarginIs n root ks rw j ns (some (costOfK rw js - costOfK rw ns)) := by
  obtain ⟨t, hj⟩ := without_iff.mp Lj.tree
  refine ⟨⟨js, t, fun z => hj (z.mpr h), by omega⟩, fun is ti hne => ?_⟩
  have hi : j ∉ is := fun z => hne ⟨fun _ => h, fun _ => z⟩
  have := Lj.le is (without_iff.mpr ⟨ti, hi⟩)
  omega
theorem margin_in_none (h : j ∈ ns) (no : ∀ js, ¬ TreeIn n root (ks.filter fun k => !decide (k = j)) rw js) : MarginIs n root ks rw j ns none := fun js t =>
  ⟨fun _ => h, fun _ => Classical.byContradiction fun z => no js (without_iff.mpr ⟨t, z⟩)⟩
theorem margin_out {js : List Int} (r0 : 0 ≤ root) (r1 : root < n) (g0 : 0 ≤ (rw j).g) (g1 : (rw j).g < n) (gr : (rw j).g ≠ root) (h : j ∉ ns) (Lj : LeastT n root (ks.filter fun k => !decide ((rw k).g = (rw j).g) || decide (k = j)) rw js) :
    MarginIs n root ks rw j ns (some (costOfK rw js - costOfK rw ns)) := by
  obtain ⟨t, hj⟩ := (alone_iff r0 r1 g0 g1 gr).mp Lj.tree
  refine ⟨⟨js, t, fun z => h (z.mp hj), by omega⟩, fun is ti hne => ?_⟩
  have hi : j ∈ is := Classical.byContradiction fun z => hne ⟨fun y => absurd y z, fun y => absurd y h⟩
  have := Lj.le is ((alone_iff r0 r1 g0 g1 gr).mpr ⟨ti, hi⟩)
  omega
theorem margin_out_none (r0 : 0 ≤ root) (r1 : root < n) (g0 : 0 ≤ (rw j).g) (g1 : (rw j).g < n) (gr : (rw j).g ≠ root) (h : j ∉ ns) (no : ∀ js, ¬ TreeIn n root (ks.filter fun k => !decide ((rw k).g = (rw j).g) || decide (k = j)) rw js) : MarginIs n root ks rw j ns none := fun js t =>
  ⟨fun z => absurd ((alone_iff r0 r1 g0 g1 gr).mpr ⟨t, z⟩) (no js), fun z => absurd z h⟩
/-- a road into the root is in no tree -/
theorem margin_root (r0 : 0 ≤ root) (r1 : root < n) (gr : (rw j).g = root) (t0 : TreeIn n root ks rw ns) : MarginIs n root ks rw j ns none := fun js t =>
  ⟨fun z => absurd gr (root_noneK r0 r1 t z), fun z => absurd gr (root_noneK r0 r1 t0 z)⟩
end
end Rc
/-! part RcY5 -/
/-! Orders of trees under other costs; the first so many are just one list. -/
namespace Rc
open PySem PySem.Spec PyProof.Rows L2
section
variable {n root : Int} {ks : List Int} {rw rw' : Int → Row} {m : Nat} {L L' : List (List Int)}
theorem bef_iff {a b : List Int} : Bef rw a b ↔ costOfK rw a < costOfK rw b ∨ (costOfK rw a = costOfK rw b ∧ a ≠ b ∧ PySem.W.dataLt (intsD a) (intsD b) = true) := by
  constructor
  · intro h
    unfold Bef treeK at h
    have al : PySem.W.alike (intsD a) (intsD b) = true := alike_intsD a b
    rw [PySem.W.dataLt_pair (alike_int _ _) al] at h
    by_cases e : costOfK rw a = costOfK rw b
    · rw [if_pos ((eqv_int _ _).mpr e)] at h
      by_cases e2 : PyData.eqv (intsD a) (intsD b) = true
      · rw [if_pos e2] at h
        cases h
      · rw [if_neg e2] at h
        refine .inr ⟨e, fun z => e2 ?_, h⟩
        rw [z]
        exact (num_eqv 1 _ _ (num_ints b) (num_ints b)).mpr rfl
    · rw [if_neg (fun z => e ((eqv_int _ _).mp z)), PySem.W.dataLt_int] at h
      exact .inl (of_decide_eq_true h)
  · exact fun h => lt_treeK h
theorem bef_same {a b : List Int} (h1 : costOfK rw' a < costOfK rw' b ↔ costOfK rw a < costOfK rw b) (h2 : costOfK rw' a = costOfK rw' b ↔ costOfK rw a = costOfK rw b) : Bef rw' a b ↔ Bef rw a b := by
  rw [bef_iff, bef_iff, h1, h2]
theorem best_nodup (B : BestIs n root ks rw m L) : L.Nodup := List.nodup_iff_pairwise_ne.mpr (B.ord.imp fun {a b} h (e : a = b) => bef_irr (rw := rw) (a := a) (by rw [← e] at h; exact h))
theorem best_in (B : BestIs n root ks rw m L) (B' : BestIs n root ks rw m L') {x : List Int} (hx : x ∈ L) : x ∈ L' := by
  refine Classical.byContradiction fun hn => ?_
  obtain ⟨tx, ux⟩ := B.tree x hx
  rcases B'.rest x tx ux with z | ⟨hl, hb⟩
  · exact hn z
  · by_cases c : ∀ y ∈ L', y ∈ L
    · have := (List.nodup_cons.mpr ⟨hn, best_nodup B'⟩).length_le_of_subset (l₂ := L) fun y hy => by
        rcases List.mem_cons.mp hy with z | z
        · rw [z]; exact hx
        · exact c y z
      have := B.len
      rw [List.length_cons] at *
      omega
    · obtain ⟨y, hy⟩ := Classical.not_forall.mp c
      obtain ⟨hy1, hy2⟩ := Classical.not_imp.mp hy
      obtain ⟨ty, uy⟩ := B'.tree y hy1
      rcases B.rest y ty uy with z | ⟨_, z⟩
      · exact hy2 z
      · exact bef_asym (z x hx) (hb y hy1)
/-- the first m are one list -/
theorem best_uniq (B : BestIs n root ks rw m L) (B' : BestIs n root ks rw m L') : L = L' := by
  have P : L.Perm L' := (List.perm_ext_iff_of_nodup (best_nodup B) (best_nodup B')).mpr fun x => ⟨best_in B B', best_in B' B⟩
  exact P.eq_of_pairwise (le := Bef rw) (fun a b _ _ h1 h2 => (bef_asym h1 h2).elim) B.ord B'.ord
/-- where the order stays, the first m stay -/
theorem best_move (hb : ∀ k ∈ ks, (rw' k).b = (rw k).b ∧ (rw' k).g = (rw k).g) (ho : ∀ a b, TreeIn n root ks rw a → TreeIn n root ks rw b → (Bef rw' a b ↔ Bef rw a b)) (B : BestIs n root ks rw m L) : BestIs n root ks rw' m L := by
  have back : ∀ js, TreeIn n root ks rw' js → TreeIn n root ks rw js := fun js t => treeIn_same (fun k hk => ⟨(hb k hk).1.symm, (hb k hk).2.symm⟩) t
  refine ⟨fun js h => ⟨treeIn_same hb (B.tree js h).1, (B.tree js h).2⟩, ?_, fun js t u => ?_, B.len⟩
  · exact B.ord.imp_of_mem fun {a b} ha hb' h => (ho a b (B.tree a ha).1 (B.tree b hb').1).mpr h
  · rcases B.rest js (back js t) u with z | ⟨h1, h2⟩
    · exact .inl z
    · exact .inr ⟨h1, fun x hx => (ho x js (B.tree x hx).1 (back js t)).mpr (h2 x hx)⟩
/-- all roads into a place dearer: the order stays -/
theorem best_into {v by' : Int} (r0 : 0 ≤ root) (r1 : root < n) (v0 : 0 ≤ v) (v1 : v < n) (hb : ∀ k, (rw' k).b = (rw k).b ∧ (rw' k).g = (rw k).g) (h : ∀ k, (rw' k).c = (rw k).c + if (rw k).g = v then by' else 0) (B : BestIs n root ks rw m L) : BestIs n root ks rw' m L :=
  best_move (fun k _ => hb k) (fun a b ta tb => by
    have ea := tree_into r0 r1 v0 v1 h ta
    have eb := tree_into r0 r1 v0 v1 h tb
    exact bef_same (by rw [ea, eb]; split <;> omega) (by rw [ea, eb]; split <;> omega)) B
theorem cost_times {s : Int} (h : ∀ k, (rw' k).c = s * (rw k).c) : ∀ js : List Int, costOfK rw' js = s * costOfK rw js
  | [] => by simp [costOfK]
  | k :: js => by
    have ih := cost_times h js
    have e : ∀ f : Int → Row, costOfK f (k :: js) = (f k).c + costOfK f js := fun f => by
      unfold costOfK
      rw [List.map_cons, List.sum_cons]
    rw [e, e, ih, h k, Int.mul_add]
/-- all costs so many times as great: the order stays -/
theorem best_times {s : Int} (s0 : 0 < s) (hb : ∀ k, (rw' k).b = (rw k).b ∧ (rw' k).g = (rw k).g) (h : ∀ k, (rw' k).c = s * (rw k).c) (B : BestIs n root ks rw m L) : BestIs n root ks rw' m L :=
  best_move (fun k _ => hb k) (fun a b _ _ => by
    rw [bef_same]
    · rw [cost_times h, cost_times h]
      exact ⟨fun z => Int.lt_of_mul_lt_mul_left z (Int.le_of_lt s0), fun z => Int.mul_lt_mul_of_pos_left z s0⟩
    · rw [cost_times h, cost_times h]
      exact ⟨fun z => Int.eq_of_mul_eq_mul_left (by omega) z, fun z => by rw [z]⟩) B
/-- the first one is the cheapest -/
theorem best_first {prs : List Pr} {ns : List Int} (C : CheapK n root ks rw ns prs) (hm : 1 ≤ m) (B : BestIs n root ks rw m L) : ∃ r, L = ns :: r := by
  have key : ∀ js, TreeIn n root ks rw js → js.Pairwise (· ≤ ·) → ns = js ∨ Bef rw ns js := fun js t u => (C.first js u t).2
  cases L with
  | nil =>
    rcases B.rest ns C.tree C.up with z | ⟨z, _⟩
    · cases z
    · simp at z
      omega
  | cons a r =>
    refine ⟨r, ?_⟩
    obtain ⟨ta, ua⟩ := B.tree a List.mem_cons_self
    rcases key a ta ua with z | z
    · rw [z]
    · rcases B.rest ns C.tree C.up with w | ⟨_, w⟩
      · rcases List.mem_cons.mp w with y | y
        · rw [y]
        · exact (bef_asym z ((List.pairwise_cons.mp B.ord).1 ns y)).elim
      · exact (bef_asym z (w a List.mem_cons_self)).elim
end
end Rc
/-! part RcZ1 -/
/-! The law's trees, as lists of numbers. -/
namespace Rc
open PySem PySem.Spec PyProof.Rows L2
structure TxtJ (K : PySem.W.Frag) (mg : Str → Option Value) (C B : Addr) : Prop extends TxtM K mg C where
  mgB : mg "NoTree" = some (.ref B)
  ex : PySem.W.exmOne K (.ref B) (.ref B) = some true
theorem intsD_inj {a b : List Int} (h : intsD a = intsD b) : a = b := by
  unfold intsD at h
  exact (List.map_inj_right fun _ _ e => PyData.int.inj e).mp (PyData.list.inj h)
theorem treeD_inj {rows : List Row} {a b : List Int} (h : treeD rows a = treeD rows b) : a = b := by
  unfold treeD at h
  have e := PyData.tuple.inj h
  rw [List.cons.injEq, List.cons.injEq] at e
  exact intsD_inj e.2.1
theorem num_treeD (rows : List Row) (js : List Int) : Num 2 (treeD rows js) := fun d hd => by
  have : d = .int (costOf rows js) ∨ d = intsD js := by simpa [treeD] using hd
  rcases this with rfl | rfl
  · trivial
  · exact num_ints js
/-- the first of all trees, told in order -/
theorem head_is {n root : Int} {rows : List Row} {ns : List Int} {prs : List Pr} {es : List PyData} (Cp : Cheap n root rows ns prs) (hTold : ∀ e ∈ es, ∃ js, Told rows n root e js) (hAll : ∀ js : List Int, js.Pairwise (· ≤ ·) → IsTree n root rows js → treeD rows js ∈ es) (hOrd : Ord es) :
    ∃ r, es = treeD rows ns :: r := by
  have hm := hAll ns Cp.up Cp.tree
  cases es with
  | nil => cases hm
  | cons e r =>
    obtain ⟨js, t⟩ := hTold e List.mem_cons_self
    refine ⟨r, ?_⟩
    rw [t.eq] at hm hOrd ⊢
    rcases (Cp.first js t.up t.tree).2 with z | z
    · rw [z]
    · rcases List.mem_cons.mp hm with w | w
      · rw [w]
      · have := (List.pairwise_cons.mp hOrd).1 _ w
        rw [z] at this
        cases this
theorem plain_ints {n : Nat} {l : List Int} (h : l.length ≤ 1000) : Plain (n + 1) (.list (l.map .int)) := by
  refine ⟨by rw [List.length_map]; exact h, fun d hd => ?_⟩
  obtain ⟨i, _, rfl⟩ := List.mem_map.mp hd
  cases n <;> trivial
/-- all trees, in order -/
structure TreesAre (n root : Int) (rows : List Row) (L : List (List Int)) : Prop where
  told : ∀ js ∈ L, js.Pairwise (· ≤ ·) ∧ IsTree n root rows js
  all : ∀ js : List Int, js.Pairwise (· ≤ ·) → IsTree n root rows js → js ∈ L
  ord : Ord (L.map (treeD rows))
  nd : L.Nodup
theorem told_list {n root : Int} {rows : List Row} : ∀ {es : List PyData}, (∀ e ∈ es, ∃ js, Told rows n root e js) → ∃ L : List (List Int), es = L.map (treeD rows) ∧ ∀ js ∈ L, js.Pairwise (· ≤ ·) ∧ IsTree n root rows js
  | [], _ => ⟨[], rfl, fun _ h => nomatch h⟩
  | e :: es, h => by
    obtain ⟨js, t⟩ := h e List.mem_cons_self
    obtain ⟨L, e1, e2⟩ := told_list fun x hx => h x (List.mem_cons_of_mem _ hx)
    refine ⟨js :: L, by rw [List.map_cons, ← e1, t.eq], fun x hx => ?_⟩
    rcases List.mem_cons.mp hx with z | z
    · rw [z]
      exact ⟨t.up, t.tree⟩
    · exact e2 x z
theorem trees_are {n root : Int} {rows : List Row} {es : List PyData} (h1 : ∀ e ∈ es, ∃ js, Told rows n root e js) (h2 : ∀ js : List Int, js.Pairwise (· ≤ ·) → IsTree n root rows js → treeD rows js ∈ es) (h3 : Ord es) (h4 : es.Nodup) : ∃ L, es = L.map (treeD rows) ∧ TreesAre n root rows L := by
  obtain ⟨L, e, h⟩ := told_list h1
  subst e
  refine ⟨L, rfl, h, fun js u t => ?_, h3, ?_⟩
  · obtain ⟨x, hx, e⟩ := List.mem_map.mp (h2 js u t)
    rw [← treeD_inj e]
    exact hx
  · unfold List.Nodup at h4 ⊢
    rw [List.pairwise_map] at h4
    exact h4.imp fun h e => h (by rw [e])
/-- sorted, the same tree -/
theorem sort_tree (js : List Int) : ∃ is : List Int, is.Perm js ∧ is.Pairwise (· ≤ ·) := ⟨js.mergeSort (· ≤ ·), List.mergeSort_perm _ _, by
  have := List.pairwise_mergeSort (le := fun a b : Int => decide (a ≤ b)) (fun a b c h1 h2 => by simp at *; omega) (fun a b => by simp; omega) js
  exact this.imp fun h => of_decide_eq_true h⟩
theorem cost_perm {rows : List Row} {a b : List Int} (h : a.Perm b) : costOf rows a = costOf rows b := by
  unfold costOf
  exact perm_sum (h.map _)
theorem TreesAre.nil {n root : Int} {rows : List Row} (A : TreesAre n root rows []) (js : List Int) : ¬ IsTree n root rows js := fun t => by
  obtain ⟨is, hp, hu⟩ := sort_tree js
  exact nomatch A.all is hu (isTree_perm hp.symm t)
theorem TreesAre.none {n root : Int} {rows : List Row} {L : List (List Int)} (A : TreesAre n root rows L) (h : ∀ js, ¬ IsTree n root rows js) : L = [] := by
  cases L with
  | nil => rfl
  | cons x l => exact absurd (A.told x List.mem_cons_self).2 (h x)
/-- the first one is what is told as the cheapest -/
theorem TreesAre.head {n root : Int} {rows : List Row} {L : List (List Int)} {ns : List Int} {prs : List Pr} (A : TreesAre n root rows L) (Cp : Cheap n root rows ns prs) : ∃ r, L = ns :: r := by
  obtain ⟨r, e⟩ := head_is (es := L.map (treeD rows)) Cp (fun e he => by
    obtain ⟨js, hj, rfl⟩ := List.mem_map.mp he
    exact ⟨js, rfl, (A.told js hj).1, (A.told js hj).2⟩) (fun js u t => List.mem_map_of_mem (A.all js u t)) A.ord
  cases L with
  | nil => cases e
  | cons x l =>
    rw [List.map_cons, List.cons.injEq] at e
    exact ⟨l, by rw [treeD_inj e.1]⟩
/-- what the others cost, of which those with j are others where ns hasn't j -/
def others2 (rows : List Row) (L : List (List Int)) (j : Int) (ns : List Int) : List Int := (L.filter fun js => !decide (decide (j ∈ js) = decide (j ∈ ns))).map (costOf rows)
theorem mem_others2 {rows : List Row} {L : List (List Int)} {j : Int} {ns : List Int} {c : Int} : c ∈ others2 rows L j ns ↔ ∃ js ∈ L, ¬ (j ∈ js ↔ j ∈ ns) ∧ costOf rows js = c := by
  unfold others2
  simp only [List.mem_map, List.mem_filter, Bool.not_eq_true', decide_eq_false_iff_not, decide_eq_decide]
  exact ⟨fun ⟨js, ⟨a, b⟩, e⟩ => ⟨js, a, b, e⟩, fun ⟨js, a, b, e⟩ => ⟨js, ⟨a, b⟩, e⟩⟩
theorem far_is {n root : Int} {rows : List Row} {L : List (List Int)} {j : Int} {ns : List Int} {far : Option Int} (A : TreesAre n root rows L) (M : MarginIs n root (idx rows.length) (rowAt rows) j ns far) :
    (others2 rows L j ns = [] → far = none) ∧ ∀ m, m ∈ others2 rows L j ns → (∀ y ∈ others2 rows L j ns, m ≤ y) → far = some (m - costOf rows ns) := by
  cases far with
  | none =>
    refine ⟨fun _ => rfl, fun m hm _ => ?_⟩
    obtain ⟨js, hj, hne, _⟩ := mem_others2.mp hm
    exact absurd (M js (treeIn_all.mpr (A.told js hj).2)) hne
  | some f =>
    obtain ⟨⟨js, t, hne, e⟩, hmin⟩ := M
    obtain ⟨is, hp, hu⟩ := sort_tree js
    rw [cost_rowAt, cost_rowAt] at e
    have hin : costOf rows is ∈ others2 rows L j ns := mem_others2.mpr ⟨is, A.all is hu (isTree_perm hp.symm (treeIn_all.mp t)), by rw [hp.mem_iff]; exact hne, rfl⟩
    refine ⟨fun z => ?_, fun m hm hall => ?_⟩
    · rw [z] at hin
      cases hin
    · have h1 := hall _ hin
      rw [cost_perm hp] at h1
      obtain ⟨ks, hk, hne2, e2⟩ := mem_others2.mp hm
      have h2 := hmin ks (treeIn_all.mpr (A.told ks hk).2) hne2
      rw [cost_rowAt, cost_rowAt] at h2
      rw [show m - costOf rows ns = f by omega]
end Rc
/-! part RcA2 -/
/-! without, with_no_other: some of some roads, in a new dict. -/
namespace Rc
open PySem PySem.Spec PyProof.Rows L2
def spWithout (K : PySem.W.Frag) : Sp := fun vs H Q _ => ∃ (r : Addr) (ks : List Int) (rw : Int → Row) (tw : Int → Addr) (j : Int), vs = [.ref r, .int j] ∧ RoadsAt K H r ks rw tw ∧ ks.Nodup ∧ ks.length ≤ 1000 ∧
  ∀ d H', Same H H' → H d = none → RoadsAt K H' d (ks.filter fun k => !decide (k = j)) rw tw → Q (.ref d) H'
def spWithNo (K : PySem.W.Frag) : Sp := fun vs H Q _ => ∃ (r : Addr) (ks : List Int) (rw : Int → Row) (tw : Int → Addr) (j : Int), vs = [.ref r, .int j] ∧ RoadsAt K H r ks rw tw ∧ ks.Nodup ∧ ks.length ≤ 1000 ∧ j ∈ ks ∧
  ∀ d H', Same H H' → H d = none → RoadsAt K H' d (ks.filter fun k => !decide ((rw k).g = (rw j).g) || decide (k = j)) rw tw → Q (.ref d) H'
/-- the part so far, the whole being locked -/
structure PartAt (H H' : Hp) (r d : Addr) (od : Obj) (ks ls : List Int) (tw : Int → Addr) : Prop where
  lk : H' r = some (.frz od (.dK (intD ks fun k => .ref (tw k))))
  same : Same H (upd H' r (.dK (intD ks fun k => .ref (tw k))))
  new : H d = none
  dd : H' d = some (.dK (intD ls fun k => .ref (tw k)))
theorem PartAt.start {K : PySem.W.Frag} {H : Hp} {r d : Addr} {od : Obj} {ks : List Int} {rw : Int → Row} {tw : Int → Addr} (R : RoadsAt K H r ks rw tw) (hd : (upd H r (.frz od (.dK (intD ks fun k => .ref (tw k))))) d = none) : PartAt H (upd (upd H r (.frz od (.dK (intD ks fun k => .ref (tw k))))) d (.dK [])) r d od ks [] tw := by
  have ndr : d ≠ r := fun z => by rw [z, upd_same] at hd; cases hd
  have hd1 : H d = none := by rw [upd_ne ndr] at hd; exact hd
  refine ⟨by rw [upd_ne (Ne.symm ndr), upd_same], ?_, hd1, upd_same⟩
  rw [upd_com ndr, upd_back R.dd]
  exact same_new hd1
theorem PartAt.row {K : PySem.W.Frag} {H H' : Hp} {r d : Addr} {od : Obj} {ks ls : List Int} {rw : Int → Row} {tw : Int → Addr} (S : PartAt H H' r d od ks ls tw) (R : RoadsAt K H r ks rw tw) {k : Int} (hk : k ∈ ks) : SqT K H' (tw k) [.int (rw k).b, .int (rw k).g, .int (rw k).c] := sqT_un (sqT_same S.same (R.has k hk))
theorem PartAt.push {H H' : Hp} {r d : Addr} {od : Obj} {ks ls : List Int} {tw : Int → Addr} {k : Int} (S : PartAt H H' r d od ks ls tw) (hk : k ∉ ls) : PartAt H (upd H' d (.dK (putK (intD ls fun k => .ref (tw k)) (.inl k) (.ref (tw k))))) r d od ks (ls ++ [k]) tw := by
  have nrd : r ≠ d := fun z => by
    have h1 := S.lk
    rw [z, S.dd] at h1
    cases h1
  refine ⟨by rw [upd_ne nrd]; exact S.lk, ?_, S.new, ?_⟩
  · rw [upd_com (Ne.symm nrd)]
    exact same_mut S.same S.new
  · rw [upd_same, putK_intD_new hk]
    congr 3
    funext j
    by_cases e : j = k
    · show (if j = k then V.ref (tw k) else V.ref (tw j)) = V.ref (tw j)
      rw [if_pos e, e]
    · show (if j = k then V.ref (tw k) else V.ref (tw j)) = V.ref (tw j)
      rw [if_neg e]
theorem PartAt.done {K : PySem.W.Frag} {H H' : Hp} {r d : Addr} {od : Obj} {ks ls : List Int} {rw : Int → Row} {tw : Int → Addr} (S : PartAt H H' r d od ks ls tw) (R : RoadsAt K H r ks rw tw) (hs : ∀ k ∈ ls, k ∈ ks) : RoadsAt K (upd H' r (.dK (intD ks fun k => .ref (tw k)))) d ls rw tw := by
  refine ⟨?_, fun k hk => sqT_same S.same (R.has k (hs k hk))⟩
  rw [upd_ne (fun z => by
    have h1 := S.lk
    rw [← z, S.dd] at h1
    cases h1)]
  exact S.dd
theorem take_filter_succ {ks : List Int} {i : Nat} {k : Int} (f : Int → Bool) (h : ks[i]? = some k) : (ks.take (i + 1)).filter f = if f k = true then (ks.take i).filter f ++ [k] else (ks.take i).filter f := by
  rw [take_succ h, List.filter_append]
  by_cases c : f k = true
  · rw [if_pos c]
    simp [c]
  · rw [if_neg c]
    simp [c]
theorem not_taken {ks : List Int} {i : Nat} {k : Int} (nd : ks.Nodup) (h : ks[i]? = some k) (f : Int → Bool) : k ∉ (ks.take i).filter f := fun z => by
  obtain ⟨j, hj⟩ := List.getElem?_of_mem ((List.mem_filter.mp z).1)
  have hj2 : j < i ∧ ks[j]? = some k := by
    rw [List.getElem?_take] at hj
    split at hj
    · exact ⟨by assumption, hj⟩
    · cases hj
  have := nodup_at nd hj2.2 h
  omega
theorem ne_int {a b : Int} : (!decide (V.int a = V.int b)) = !decide (a = b) := by rw [int_eq_decide]
section
variable {P : Program} {w : World} {K : PySem.W.Frag} {mg : Str → Option Value} {base : Heap}
theorem ok_without {f : Addr} {fd : FuncData} {k : Nat} (F : Fun K "without" "without" s_without f fd) : FnOk P w K mg base CX0 (k + 1) f fd ["roads", "road"] (spWithout K) := by
  refine F.ok sc_without (fun vs H Q E h => ?_) (fun cdv A outer s H vs Q E hr h => ?_)
  · obtain ⟨r, ks, rw, tw, j, rfl, _⟩ := h
    rfl
  · obtain ⟨r, ks, rw, tw, j, rfl, hR, nd, hl, q⟩ := h
    have hu : (A.deeper (envOfC "without" (defScope s_without) s.heap.objs.size f cdv)).units + 1 < cLine := by
      have := hr.un
      omega
    refine ⟨_, (pss_one (ps_lock (ps_ret (pe_dc (own := [("other", 2)]) (g := gName 2) (tt := tTest (tOp rNe (tVar 2) (tVar 1))) (tk := tVar 2) (tv := tDGet (tVar 0) (tVar 2)) rfl sc_without.nd (pi_keys (pv 0)) (blkOk_by (N := N_without) (sc := defScope s_without) (by decide +kernel)) (fun _ _ _ _ _ => (pg_name (i := 2) sc_without.nd rfl (Or.inl rfl)))
      (fun _ _ _ _ _ => pts_one (pt_cmpR op_ne (pv 2) (pv 1) (nomark _))) (fun _ _ _ _ _ => (pv 2)) (fun _ _ _ _ _ => pe_dget hu (pv 0) (pv 2) (fun _ _ => rfl)))))), ?_⟩
    refine ⟨r, _, hR.dd, trivial, fun od => ⟨_, rfl, r, od, rfl, .inl ⟨_, upd_same, fun d hd => dc_it walk_keys (fun i H' => PartAt H H' r d od ks ((ks.take i).filter fun k => !decide (k = j)) tw) (PartAt.start hR hd) (fun i H' _ z => z.lk) ?_ ?_⟩⟩⟩
    · rintro i x H2 H3 hi S ⟨rfl, key, v, hkv, rfl⟩
      obtain ⟨k, hk, rfl, rfl⟩ := intD_get hkv
      have hkm := List.mem_of_getElem? hk
      refine ⟨rfl, _, rfl, _, rfl, rfl, _, rfl, ?_⟩
      show if (!decide (V.int k = V.int j)) = true then _ else _
      rw [ne_int]
      refine ite2 (fun c => ?_) (fun c => ?_)
      · refine ⟨_, rfl, _, rfl, _, rfl, r, _, rfl, RoadsAt.get (K := K) (H := H) (rw := rw) (.inr ⟨od, S.lk⟩) hkm, _, .inl k, rfl, S.dd, ?_, ?_⟩
        · rw [intD_len]
          have h1 := List.length_filter_le (fun k => !decide (k = j)) (ks.take i)
          have h2 : (ks.take i).length ≤ ks.length := by rw [List.length_take]; omega
          exact small_lt (by omega)
        · have S2 := S.push (not_taken nd hk _)
          rw [take_filter_succ _ hk, if_pos c]
          exact S2
      · show PartAt H H3 r d od ks ((ks.take (i + 1)).filter fun k => !decide (k = j)) tw
        rw [take_filter_succ _ hk, if_neg c]
        exact S
    · rintro H2 S
      rw [intD_len, List.take_length] at S
      exact ⟨S.lk, q d _ S.same S.new (S.done hR fun k hk => (List.mem_filter.mp hk).1)⟩
theorem ok_with_no {f : Addr} {fd : FuncData} {k : Nat} (F : Fun K "with_no_other" "with_no_other" s_with_no_other f fd) : FnOk P w K mg base CX0 (k + 1) f fd ["roads", "road"] (spWithNo K) := by
  refine F.ok sc_with_no_other (fun vs H Q E h => ?_) (fun cdv A outer s H vs Q E hr h => ?_)
  · obtain ⟨r, ks, rw, tw, j, rfl, _⟩ := h
    rfl
  · obtain ⟨r, ks, rw, tw, j, rfl, hR, nd, hl, hj, q⟩ := h
    have hu : (A.deeper (envOfC "with_no_other" (defScope s_with_no_other) s.heap.objs.size f cdv)).units + 1 < cLine := by
      have := hr.un
      omega
    refine ⟨_, (pss_cons (ps_set (i := 2) sc_with_no_other.nd rfl (Or.inr rfl) (pe_ix (r := rIxT K) ix_tup (pe_dget hu (pv 0) (pv 1) (fun _ _ => rfl)) pe_int (fun _ _ => rfl)))
      (pss_one (ps_lock (ps_ret (pe_dc (own := [("other", 3)]) (g := gName 3) (tt := tOr (tTest (tOp rEq (tVar 3) (tVar 1))) (tTest (tOp rNe (tOp (rIxT K) (tDGet (tVar 0) (tVar 3)) (tC (.int 1))) (tVar 2)))) (tk := tVar 3) (tv := tDGet (tVar 0) (tVar 3)) rfl sc_with_no_other.nd (pi_keys (pv 0)) (blkOk_by (N := N_with_no_other) (sc := defScope s_with_no_other) (by decide +kernel)) (fun _ _ _ _ _ => (pg_name (i := 3) sc_with_no_other.nd rfl (Or.inl rfl)))
      (fun _ _ _ _ _ => pts_one (PW.pt (pw_or (pt_cmpR op_eq (pv 3) (pv 1) (nomark _)) (pw_or1 (pt_cmpR op_ne (pe_ix (r := rIxT K) ix_tup (pe_dget hu (pv 0) (pv 3) (fun _ _ => rfl)) pe_int (fun _ _ => rfl)) (pv 2) (nomark _)))))) (fun _ _ _ _ _ => (pv 3)) (fun _ _ _ _ _ => pe_dget hu (pv 0) (pv 3) (fun _ _ => rfl))))))), ?_⟩
    refine ⟨_, rfl, _, rfl, r, _, rfl, hR.dget hj, tw j, _, _, _, rfl, rfl, hR.has j hj, rfl, ?_⟩
    have hsym : ∀ k, (!decide ((rw k).g = (rw j).g) || decide (k = j)) = (decide (k = j) || !decide ((rw k).g = (rw j).g)) := fun k => Bool.or_comm _ _
    refine ⟨r, _, hR.dd, trivial, fun od => ⟨_, rfl, r, od, rfl, .inl ⟨_, upd_same, fun d hd => dc_it walk_keys (fun i H' => PartAt H H' r d od ks ((ks.take i).filter fun k => !decide ((rw k).g = (rw j).g) || decide (k = j)) tw) (PartAt.start hR hd) (fun i H' _ z => z.lk) ?_ ?_⟩⟩⟩
    · rintro i x H2 H3 hi S ⟨rfl, key, v, hkv, rfl⟩
      obtain ⟨k, hk, rfl, rfl⟩ := intD_get hkv
      have hkm := List.mem_of_getElem? hk
      have keep : (!decide ((rw k).g = (rw j).g) || decide (k = j)) = true → ∃ kvs k2, kV (.inl k) = kV k2 ∧ H3 d = some (.dK kvs) ∧ kvs.length < sizeLine ∧ PartAt H (upd H3 d (.dK (putK kvs k2 (.ref (tw k))))) r d od ks ((ks.take (i + 1)).filter fun k => !decide ((rw k).g = (rw j).g) || decide (k = j)) tw := fun c => by
        refine ⟨_, .inl k, rfl, S.dd, ?_, ?_⟩
        · rw [intD_len]
          have h1 := List.length_filter_le (fun k => !decide ((rw k).g = (rw j).g) || decide (k = j)) (ks.take i)
          have h2 : (ks.take i).length ≤ ks.length := by rw [List.length_take]; omega
          exact small_lt (by omega)
        · have S2 := S.push (not_taken nd hk _)
          rw [take_filter_succ _ hk, if_pos c]
          exact S2
      refine ⟨rfl, _, rfl, _, rfl, rfl, _, rfl, ?_⟩
      show if (decide (V.int k = V.int j)) = true then _ else _
      rw [int_eq_decide]
      refine ite2 (fun c => ?_) (fun c => ?_)
      · exact ⟨_, rfl, _, rfl, _, rfl, r, _, rfl, RoadsAt.get (K := K) (H := H) (rw := rw) (.inr ⟨od, S.lk⟩) hkm, keep (by rw [hsym, c]; rfl)⟩
      · refine ⟨_, rfl, _, rfl, r, _, rfl, RoadsAt.get (K := K) (H := H) (rw := rw) (.inr ⟨od, S.lk⟩) hkm, tw k, _, _, _, rfl, rfl, S.row hR hkm, rfl, _, rfl, rfl, _, rfl, ?_⟩
        have c0 : decide (k = j) = false := by simpa using c
        show if (!decide (V.int (rw k).g = V.int (rw j).g)) = true then _ else _
        rw [ne_int]
        refine ite2 (fun c2 => ?_) (fun c2 => ?_)
        · exact ⟨_, rfl, _, rfl, _, rfl, r, _, rfl, RoadsAt.get (K := K) (H := H) (rw := rw) (.inr ⟨od, S.lk⟩) hkm, keep (by rw [hsym, c0]; exact c2)⟩
        · show PartAt H H3 r d od ks ((ks.take (i + 1)).filter fun k => !decide ((rw k).g = (rw j).g) || decide (k = j)) tw
          rw [take_filter_succ _ hk, if_neg (by rw [hsym, c0]; exact c2)]
          exact S
    · rintro H2 S
      rw [intD_len, List.take_length] at S
      exact ⟨S.lk, q d _ S.same S.new (S.done hR fun k hk => (List.mem_filter.mp hk).1)⟩
end
end Rc
/-! part RcA3 -/
/-! first_among, least_among: the first cheapest tree of some roads, or None. -/
namespace Rc
open PySem PySem.Spec PyProof.Rows L2
def NoTreeK (n root : Int) (ks : List Int) (rw : Int → Row) : Prop := ∀ js, ¬ TreeIn n root ks rw js
/-- what an exception of the program's own is told of: NoTree -/
structure TxtF (K : PySem.W.Frag) (mg : Str → Option Value) (B : Addr) : Prop where
  mgB : mg "NoTree" = some (.ref B)
  ex : PySem.W.exmOne K (.ref B) (.ref B) = some true
def spFirst (K : PySem.W.Frag) (TL TR : Addr) : Sp := fun vs H Q _ => ∃ (n root : Int) (r : Addr) (ks : List Int) (rw : Int → Row) (tw : Int → Addr), vs = [.int n, .int root, .ref r] ∧ RoadsAt K H r ks rw tw ∧ ChartK n root ks rw ∧ LamX.TabS H TL lamQ ∧ GxR.TabG H TR ∧ TL ≠ TR ∧
  (∀ H', Tb TL TR H H' → NoTreeK n root ks rw → Q .non H') ∧
  ∀ t l H' (ns : List Int) (prs : List Pr), Tb TL TR H H' → H' t = some (.tup [.int (costOfK rw ns), .ref l]) → H' l = some (.lst (ns.map V.int)) → H t = none → H l = none → CheapK n root ks rw ns prs → Q (.ref t) H'
/-- a number, or None -/
def optV : Option Int → V
  | none => .non
  | some c => .int c
/-- the least cost of all trees, None where there is none -/
def LeastIs (n root : Int) (ks : List Int) (rw : Int → Row) : Option Int → Prop
  | none => NoTreeK n root ks rw
  | some c => ∃ ns, LeastT n root ks rw ns ∧ c = costOfK rw ns
def spLeast (K : PySem.W.Frag) (TL TR : Addr) : Sp := fun vs H Q _ => ∃ (n root : Int) (r : Addr) (ks : List Int) (rw : Int → Row) (tw : Int → Addr), vs = [.int n, .int root, .ref r] ∧ RoadsAt K H r ks rw tw ∧ ChartK n root ks rw ∧ LamX.TabS H TL lamQ ∧ GxR.TabG H TR ∧ TL ≠ TR ∧
  ∀ o H', Tb TL TR H H' → LeastIs n root ks rw o → Q (optV o) H'
section
variable {P : Program} {w : World} {K : PySem.W.Frag} {mg : Str → Option Value} {base : Heap}
theorem ok_first {f B TL TR : Addr} {fd : FuncData} {k : Nat} (F : Fun K "first_among" "first_among" s_first_among f fd) (T : TxtF K mg B) (hA : HasN P w K mg base "cheapest_among" ["many", "root", "roads"] k (spAmongK K B TL TR)) :
    FnOk P w K mg base CX0 (k + 1) f fd ["many", "root", "roads"] (spFirst K TL TR) := by
  obtain ⟨fA, fdA, gA, kA, bA, GA0⟩ := hA
  have GA := fn_cx GA0
  refine F.ok sc_first_among (fun vs H Q E h => ?_) (fun cdv A outer s H vs Q E hr h => ?_)
  · obtain ⟨n, root, r, ks, rw, tw, rfl, _⟩ := h
    rfl
  · obtain ⟨n, root, r, ks, rw, tw, rfl, hR, ok, tl, tr, ne, qN, q⟩ := h
    refine ⟨_, (pss_cons (ps_try_only rfl rfl ⟨by rfl, by decide, .inl T.mgB⟩ takes0J
     (fun W pn xe tk hp => pss_one (ps_asg (g := gTup K 3 (gCons (gName 3) (gCons (gName 4) (gCons (gName 5) gNil)))) (pe_callS GA hr (by rfl) gA kA bA (fun σ => passAt tk σ) (pa_cons (pv 0) (pa_cons (pv 1) (pa_cons (pv 2) pa_nil)))) (pg_tup (by rfl) (pgs_cons (pg_name (i := 3) sc_first_among.nd rfl (Or.inl rfl)) (pgs_cons (pg_name (i := 4) sc_first_among.nd rfl (Or.inl rfl)) (pgs_cons (pg_name (i := 5) sc_first_among.nd rfl (Or.inl rfl)) pgs_nil))))))
     (fun a oe cls d pn hz hf => pss_one (ps_ret pe_non)))
  (pss_one (ps_ret (pe_tup (pa_cons (pv 4) (pa_cons (pv 3) pa_nil)))))), ?_⟩
    obtain ⟨m0, m1, r0, r1, R, c0, lp⟩ := id ok
    refine ⟨_, rfl, _, rfl, _, rfl, n, root, r, ks, rw, tw, rfl, hR, ok, tl, tr, ne, fun d2 l2 H' ns tb hd2 hxd hl2 hns hup hne => ⟨true, T.ex, fun _ a2 ha2 => ?_, fun z => Bool.noConfusion z⟩, fun t H' ns prs tb hD hreach Cp => ?_⟩
    · obtain ⟨v, hv⟩ := List.exists_mem_of_ne_nil _ hne
      obtain ⟨v0, v1, v2⟩ := (hns v).mp hv
      exact qN H' tb fun js => no_treeK v0 v1 v2
    · obtain ⟨l1, l2, ys, h1, h2, h3, h4, h5, h6, h7, h8⟩ := hD
      refine ⟨t, _, rfl, .of h1, rfl, _, _, rfl, _, _, rfl, _, _, rfl, rfl, ?_⟩
      refine ⟨_, rfl, _, rfl, (by show 2 ≤ sizeLine; decide), fun t2 ht2 => ?_⟩
      exact q t2 l1 _ ns prs (tb.same (same_new ht2)) upd_same (by rw [upd_ne (ne_of_none h2 ht2)]; exact h2) (tb.free ht2) h6 Cp
theorem ok_least {f TL TR : Addr} {fd : FuncData} {k : Nat} (F : Fun K "least_among" "least_among" s_least_among f fd) (hF : Has P w K mg base "first_among" ["many", "root", "roads"] k (spFirst K TL TR)) :
    FnOk P w K mg base CX0 (k + 1) f fd ["many", "root", "roads"] (spLeast K TL TR) := by
  obtain ⟨fA, fdA, gA, kA, bA, GA⟩ := hF
  refine F.ok sc_least_among (fun vs H Q E h => ?_) (fun cdv A outer s H vs Q E hr h => ?_)
  · obtain ⟨n, root, r, ks, rw, tw, rfl, _⟩ := h
    rfl
  · obtain ⟨n, root, r, ks, rw, tw, rfl, hR, ok, tl, tr, ne, q⟩ := h
    refine ⟨_, (pss_cons (ps_set (i := 3) sc_least_among.nd rfl (Or.inl rfl) (pe_call GA hr (by rfl) gA kA bA .nil pass0 (pa_cons (pv 0) (pa_cons (pv 1) (pa_cons (pv 2) pa_nil)))))
  (pss_cons (ps_if (pt_cmpR op_isN (pv 3) pe_non (nomark _)) (pss_one (ps_ret pe_non)) pss_nil)
  (pss_one (ps_ret (pe_ix (r := rIxT K) ix_tup (pv 3) pe_int (fun _ _ => rfl)))))), ?_⟩
    refine ⟨_, rfl, _, rfl, _, rfl, n, root, r, ks, rw, tw, rfl, hR, ok, tl, tr, ne, fun H' tb hno => ?_, fun t l H' ns prs tb h1 h2 _ _ Cp => ?_⟩
    · exact ⟨_, rfl, rfl, _, rfl, ite2 (fun _ => q none H' tb hno) (fun z => absurd rfl z)⟩
    · refine ⟨_, rfl, rfl, _, rfl, ite2 (fun z => ?_) (fun _ => ?_)⟩
      · exact absurd (of_decide_eq_true z) (fun y => nomatch y)
      · exact ⟨_, rfl, t, _, 0, .int (costOfK rw ns), rfl, rfl, .of h1, atI_nat (j := 0) rfl, q (some _) H' tb ⟨ns, cheapK_least Cp, rfl⟩⟩
end
end Rc
/-! part RcE1 -/
/-! BadMap: its making, its raising. -/
namespace Rc
open PySem PySem.Spec PyProof.Rows L2
def badF (i : Int) (y : Str) : List (Str × V) := [("why", .str y), ("at", .int i)]
structure TxtB (K : PySem.W.Frag) (mg : Str → Option Value) (B R : Addr) : Prop where
  ox : OexC K B
  nA : PySem.W.findIn K (.ref B) "at" = some none
  nW : PySem.W.findIn K (.ref B) "why" = some none
  mgB : mg "BadMap" = some (.ref B)
  ini : IniC K R
  mgR : mg "RootError" = some (.ref R)
def spBad (K : PySem.W.Frag) (B : Addr) : Sp := fun vs H Q _ => ∃ (a : Addr) (i : Int) (y : Str), vs = [.ref a, .int i, .str y] ∧ H a = some (exo a B none) ∧ i.natAbs ≤ 1000 ∧ y.length ≤ 100 ∧
  ∀ d, H d = none → d ≠ a → Q .non (upd (upd (upd H d (exd d [("at", .int i)])) a (exo a B (some d))) d (exd d (badF i y)))
def HasE (P : Program) (w : World) (K : PySem.W.Frag) (mg : Str → Option Value) (base : Heap) (B : Addr) (k : Nat) : Prop :=
  ∃ (f : Addr) (fd : FuncData), PySem.W.findIn K (.ref B) "__init__" = some (some (.ref f)) ∧ PySem.W.typeIn K (.ref f) = some (.type "function") ∧ Binds K fd ["self", "at", "why"] [] ∧ FnOk P w K mg base CX0 k f fd ["self", "at", "why"] (spBad K B)
theorem log_small {i : Int} (h : i.natAbs ≤ 1000) : i.natAbs.log2 < 1920 := by
  by_cases z : i.natAbs = 0
  · rw [z]
    decide
  · exact (Nat.log2_lt z).mpr (Nat.lt_of_le_of_lt h (Nat.lt_of_lt_of_le (by decide : 1000 < 2 ^ 10) (Nat.pow_le_pow_right (by decide) (by decide))))
section
variable {P : Program} {w : World} {K : PySem.W.Frag} {mg : Str → Option Value} {base : Heap}
theorem ok_bad {f B R : Addr} {fd : FuncData} {k : Nat} (F : Fun K "__init__" "BadMap.__init__" s_BadMap___init__ f fd) (T : TxtB K mg B R) : FnOk P w K mg base CX0 (k + 1) f fd ["self", "at", "why"] (spBad K B) := by
  refine F.ok sc_BadMap___init__ (fun vs H Q E h => ?_) (fun cdv A outer s H vs Q E hr h => ?_)
  · obtain ⟨a, i, y, rfl, _⟩ := h
    rfl
  · obtain ⟨a, i, y, rfl, ha, hi, hy, q⟩ := h
    refine ⟨_, (pss_cons (ps_expr (pe_rinit T.ini (by rfl) T.mgR (pa_cons (pv 0) (pa_cons (pe_joined (.cons pe_str (.cons (pe_fmt (pv 2)) (.cons pe_str (.cons (pe_fmt (pv 1)) .nil))))) pa_nil))))
  (pss_cons (ps_ost (pv 0) (pv 1))
  (pss_one (ps_ost (pv 0) (pv 2))))), ?_⟩
    have e1 : ("no map can be so: " : Str).length = 18 := by decide +kernel
    have e2 : (" at " : Str).length = 4 := by decide +kernel
    have e0 : Str.empty.length = 0 := by decide +kernel
    have e3 : (Str.ofString (toString i)).length ≤ 1921 := by
      have := int_text_length_le (a := i) (k := 1920) (by decide) (log_small hi)
      rw [PySem.ofString_length]
      exact this
    have T1 := T.ox
    refine ⟨_, rfl, ?_⟩
    refine ⟨_, rfl, small_line ?_, _, rfl, .inl ⟨y, rfl, small_line (by omega), y, rfl, small_line ?_, _, rfl, small_line ?_, _, rfl, .inr ⟨i, rfl, log_small hi, _, rfl, small_line ?_, ?_⟩⟩⟩
    · rw [Str.length_append, e0, e1]
      omega
    · rw [Str.length_append, Str.length_append, e0, e1]
      omega
    · rw [Str.length_append, Str.length_append, Str.length_append, e0, e1, e2]
      omega
    · rw [Str.length_append, Str.length_append, Str.length_append, Str.length_append, e0, e1, e2]
      have e4 : ((toString i : String) : Str).length ≤ 1921 := e3
      omega
    · refine ⟨a, B, _, rfl, (by show 1 ≤ 1000; decide), T1, ha, ?_⟩
      refine ⟨_, rfl, _, rfl, a, B, rfl, T1, T.nA, .inl ⟨ha, fun d hd ne => ?_⟩⟩
      exact ⟨_, rfl, _, rfl, a, B, rfl, T1, T.nW, .inr ⟨d, [("at", .int i)], upd_same, by rw [upd_ne ne, upd_same], (by show 1 ≤ 900; decide), q d hd ne⟩⟩
/-- BadMap(i, y), to be raised -/
theorem mk_bad {B : Addr} {H : Hp} {i : Int} {y : Str} {Q : XK} (hi : i.natAbs ≤ 1000) (hy : y.length ≤ 100) (q : ∀ d H', Same H H' → H d = none → H' d = some (.xd (badF i y)) → Q (.ref B) (some d) H') :
    [V.int i, V.str y].length ≤ 1000 ∧ ∀ a, H a = none → spBad K B (.ref a :: ([V.int i, V.str y] ++ [])) (upd H a (exo a B none))
      (fun v H2 => v = .non ∧ ∃ (d : Addr) (fs : List (Str × V)), H2 a = some (exo a B (some d)) ∧ H2 d = some (exd d fs) ∧ H d = none ∧ Q (.ref B) (some d) (upd (del H2 a) d (.xd fs))) (fun _ _ _ => False) := by
  refine ⟨(by show 2 ≤ 1000; decide), fun a ha => ⟨a, i, y, rfl, upd_same, hi, hy, fun d hd ne => ⟨rfl, d, badF i y, ?_, upd_same, ?_, ?_⟩⟩⟩
  · rw [upd_ne (Ne.symm ne), upd_same]
  · rw [upd_ne ne] at hd
    exact hd
  · have hd0 : H d = none := by
      rw [upd_ne ne] at hd
      exact hd
    refine q d _ (fun b o e => ?_) hd0 upd_same
    have nb : b ≠ d := ne_of_none e hd0
    have na : b ≠ a := ne_of_none e ha
    rw [upd_ne nb, del_ne na, upd_ne nb, upd_ne na, upd_ne nb, upd_ne na]
    exact e
end
end Rc
/-! part RcA4 -/
/-! least_with, least_without: the least cost with a road, without it. -/
namespace Rc
open PySem PySem.Spec PyProof.Rows L2
theorem ChartK.filter {n root : Int} {ks : List Int} {rw : Int → Row} (C : ChartK n root ks rw) (f : Int → Bool) : ChartK n root (ks.filter f) rw := by
  obtain ⟨m0, m1, r0, r1, R, c0, lp⟩ := C
  have mem : ∀ k ∈ ks.filter f, k ∈ ks := fun k hk => (List.mem_filter.mp hk).1
  exact ⟨m0, m1, r0, r1, ⟨R.nd.filter _, fun k hk => R.num k (mem k hk), Nat.le_trans (List.length_filter_le _ _) R.len, fun k hk => R.row k (mem k hk)⟩, fun k hk => c0 k (mem k hk), fun k hk => lp k (mem k hk)⟩
theorem chartK_of {n root : Int} {rows : List Row} (ok : ChartOk n root rows) : ChartK n root (idx rows.length) (rowAt rows) := by
  have R := rows_ok ok
  obtain ⟨m0, m1, r0, r1, hl, hr⟩ := ok
  have key : ∀ k ∈ idx rows.length, Row.Ok n (rowAt rows k) := fun k hk => by
    obtain ⟨a, b⟩ := mem_idx.mp hk
    rw [rowAt_get a b]
    exact hr _ (List.getElem_mem _)
  exact ⟨m0, m1, r0, r1, R, fun k hk => (key k hk).c0, fun k hk => (key k hk).ne⟩
/-- the least cost of the trees with j -/
def LeastWith (n root : Int) (ks : List Int) (rw : Int → Row) (j : Int) : Option Int → Prop
  | none => ∀ js, TreeIn n root ks rw js → j ∉ js
  | some c => (∃ js, TreeIn n root ks rw js ∧ j ∈ js ∧ c = costOfK rw js) ∧ ∀ js, TreeIn n root ks rw js → j ∈ js → c ≤ costOfK rw js
/-- .. of those without it -/
def LeastOut (n root : Int) (ks : List Int) (rw : Int → Row) (j : Int) : Option Int → Prop
  | none => ∀ js, TreeIn n root ks rw js → j ∈ js
  | some c => (∃ js, TreeIn n root ks rw js ∧ j ∉ js ∧ c = costOfK rw js) ∧ ∀ js, TreeIn n root ks rw js → j ∉ js → c ≤ costOfK rw js
theorem leastOut_of {n root : Int} {ks : List Int} {rw : Int → Row} {j : Int} {o : Option Int} (h : LeastIs n root (ks.filter fun k => !decide (k = j)) rw o) : LeastOut n root ks rw j o := by
  cases o with
  | none => exact fun js t => Classical.byContradiction fun z => h js (without_iff.mpr ⟨t, z⟩)
  | some c =>
    obtain ⟨ns, L, e⟩ := h
    obtain ⟨t, hj⟩ := without_iff.mp L.tree
    exact ⟨⟨ns, t, hj, e⟩, fun js ti hi => by rw [e]; exact L.le js (without_iff.mpr ⟨ti, hi⟩)⟩
theorem leastWith_of {n root : Int} {ks : List Int} {rw : Int → Row} {j : Int} {o : Option Int} (r0 : 0 ≤ root) (r1 : root < n) (g0 : 0 ≤ (rw j).g) (g1 : (rw j).g < n) (gr : (rw j).g ≠ root) (h : LeastIs n root (ks.filter fun k => !decide ((rw k).g = (rw j).g) || decide (k = j)) rw o) : LeastWith n root ks rw j o := by
  have iff := fun js => alone_iff (ks := ks) (js := js) r0 r1 g0 g1 gr
  cases o with
  | none => exact fun js t z => h js ((iff js).mpr ⟨t, z⟩)
  | some c =>
    obtain ⟨ns, L, e⟩ := h
    obtain ⟨t, hj⟩ := (iff ns).mp L.tree
    exact ⟨⟨ns, t, hj, e⟩, fun js ti hi => by rw [e]; exact L.le js ((iff js).mpr ⟨ti, hi⟩)⟩
theorem leastWith_root {n root : Int} {ks : List Int} {rw : Int → Row} {j : Int} (r0 : 0 ≤ root) (r1 : root < n) (gr : (rw j).g = root) : LeastWith n root ks rw j none := fun js t z => root_noneK r0 r1 t z gr
/-- the margin, told by these -/
theorem margin_of_out {n root : Int} {ks : List Int} {rw : Int → Row} {j : Int} {ns : List Int} {o : Option Int} (h : j ∈ ns) (L : LeastOut n root ks rw j o) : MarginIs n root ks rw j ns (o.map (· - costOfK rw ns)) := by
  cases o with
  | none => exact fun js t => ⟨fun _ => h, fun _ => L js t⟩
  | some c =>
    show MarginIs n root ks rw j ns (some (c - costOfK rw ns))
    obtain ⟨⟨js, t, hj, e⟩, hm⟩ := L
    refine ⟨⟨js, t, fun z => hj (z.mpr h), by omega⟩, fun is ti hne => ?_⟩
    have := hm is ti fun z => hne ⟨fun _ => h, fun _ => z⟩
    omega
theorem margin_of_with {n root : Int} {ks : List Int} {rw : Int → Row} {j : Int} {ns : List Int} {o : Option Int} (h : j ∉ ns) (L : LeastWith n root ks rw j o) : MarginIs n root ks rw j ns (o.map (· - costOfK rw ns)) := by
  cases o with
  | none => exact fun js t => ⟨fun z => absurd z (L js t), fun z => absurd z h⟩
  | some c =>
    show MarginIs n root ks rw j ns (some (c - costOfK rw ns))
    obtain ⟨⟨js, t, hj, e⟩, hm⟩ := L
    refine ⟨⟨js, t, fun z => h (z.mp hj), by omega⟩, fun is ti hne => ?_⟩
    have := hm is ti (Classical.byContradiction fun z => hne ⟨fun y => absurd y z, fun y => absurd y h⟩)
    omega
def spLeastOf (K : PySem.W.Frag) (C TL TR : Addr) (S : Int → Int → List Int → (Int → Row) → Int → Option Int → Prop) : Sp := fun vs H Q _ => ∃ (p : Addr) (n root : Int) (rows : List Row) (j : Int), vs = [.ref p, .int j] ∧ MapAt K C H p n root rows ∧ ChartOk n root rows ∧ 0 ≤ j ∧ j < (rows.length : Int) ∧ LamX.TabS H TL lamQ ∧ GxR.TabG H TR ∧ TL ≠ TR ∧
  ∀ o H', Tb TL TR H H' → S n root (idx rows.length) (rowAt rows) j o → Q (optV o) H'
def spMore : Sp := fun vs H Q _ => ∃ (o : Option Int) (c : Int), vs = [optV o, .int c] ∧ Q (optV (o.map (· - c))) H
theorem map_tb {K : PySem.W.Frag} {C p TL TR : Addr} {n r : Int} {rows : List Row} {H H' : Hp} (tl : LamX.TabS H TL lamQ) (tr : GxR.TabG H TR) (T : Tb TL TR H H') (h : MapAt K C H p n r rows) : MapAt K C H' p n r rows := (map_sans (mids tl tr) h).same T.sans
theorem cheapK_of_cheap {n root : Int} {rows : List Row} {ns : List Int} {prs : List Pr} (Cp : Cheap n root rows ns prs) : CheapK n root (idx rows.length) (rowAt rows) ns prs := by
  obtain ⟨t, u, f, s, a, e, o, fw, sm⟩ := Cp
  refine ⟨treeIn_all.mpr t, u, fun js uj tj => ?_, ?_, ?_, e, o, fw, sm⟩
  · rw [cost_rowAt, cost_rowAt, treeK_rowAt, treeK_rowAt]
    exact f js uj (treeIn_all.mp tj)
  · rw [cost_rowAt, idx_rows]
    exact s
  · rw [cost_rowAt]
    exact a
section
variable {P : Program} {w : World} {K : PySem.W.Frag} {mg : Str → Option Value} {base : Heap}
theorem ok_least_without {f C TL TR : Addr} {fd : FuncData} {k : Nat} (F : Fun K "least_without" "least_without" s_least_without f fd) (TM : TxtM K mg C) (hBy : Has P w K mg base "roads_by_number" ["chart"] k (spByNum K C)) (hW : Has P w K mg base "without" ["roads", "road"] k (spWithout K))
    (hL : Has P w K mg base "least_among" ["many", "root", "roads"] k (spLeast K TL TR)) (hSi : HasM P w K mg base C "size" ["self"] k (spSize K C)) (hBe : HasM P w K mg base C "begin" ["self"] k (spBegin K C)) :
    FnOk P w K mg base CX0 (k + 1) f fd ["chart", "road"] (spLeastOf K C TL TR LeastOut) := by
  obtain ⟨fR, fdR, gR, kR, bR, GR⟩ := hBy
  obtain ⟨fW, fdW, gW, kW, bW, GW⟩ := hW
  obtain ⟨fL, fdL, gL, kL, bL, GL⟩ := hL
  obtain ⟨fS, fdS, mS, bS, GS⟩ := hSi
  obtain ⟨fB, fdB, mB, bB, GB⟩ := hBe
  refine F.ok sc_least_without (fun vs H Q E h => ?_) (fun cdv A outer s H vs Q E hr h => ?_)
  · obtain ⟨p, n, root, rows, j, rfl, _⟩ := h
    rfl
  · obtain ⟨p, n, root, rows, j, rfl, hM, ok, j0, j1, tl, tr, ne, q⟩ := h
    refine ⟨_, (pss_one (ps_ret (pe_call GL hr (by rfl) gL kL bL .nil pass0 (pa_cons (pe_meth0 (pv 0) TM.cl mS GS hr bS .nil pass0) (pa_cons (pe_meth0 (pv 0) TM.cl mB GB hr bB .nil pass0) (pa_cons (pe_call GW hr (by rfl) gW kW bW .nil pass0 (pa_cons (pe_call GR hr (by rfl) gR kR bR .nil pass0 (pa_cons (pv 0) pa_nil)) (pa_cons (pv 1) pa_nil))) pa_nil)))))), ?_⟩
    obtain ⟨dx, l0, hp0, _⟩ := id hM
    have CK := chartK_of ok
    refine ⟨_, rfl, p, dx, _, rfl, hp0, lk_size, p, n, root, rows, rfl, hM, _, rfl, p, dx, _, rfl, hp0, lk_begin, p, n, root, rows, rfl, hM, _, rfl, p, n, root, rows, rfl, hM, fun d H1 tw e1 hd0 hRd => ?_⟩
    refine ⟨_, rfl, d, _, rowAt rows, tw, j, rfl, hRd, CK.rd.nd, CK.rd.len, fun d2 H2 e2 hd2 hRd2 => ?_⟩
    have T0 : Tb TL TR H H2 := Tb.start tl tr (e1.trans e2)
    exact ⟨n, root, d2, _, rowAt rows, tw, rfl, hRd2, CK.filter _, T0.tl, T0.tr, ne, fun o H' tb L => q o H' (T0.trans tb) (leastOut_of L)⟩
theorem ok_least_with {f C TL TR : Addr} {fd : FuncData} {k : Nat} (F : Fun K "least_with" "least_with" s_least_with f fd) (TM : TxtM K mg C) (hBy : Has P w K mg base "roads_by_number" ["chart"] k (spByNum K C)) (hW : Has P w K mg base "with_no_other" ["roads", "road"] k (spWithNo K))
    (hL : Has P w K mg base "least_among" ["many", "root", "roads"] k (spLeast K TL TR)) (hSi : HasM P w K mg base C "size" ["self"] k (spSize K C)) (hBe : HasM P w K mg base C "begin" ["self"] k (spBegin K C)) :
    FnOk P w K mg base CX0 (k + 1) f fd ["chart", "road"] (spLeastOf K C TL TR LeastWith) := by
  obtain ⟨fR, fdR, gR, kR, bR, GR⟩ := hBy
  obtain ⟨fW, fdW, gW, kW, bW, GW⟩ := hW
  obtain ⟨fL, fdL, gL, kL, bL, GL⟩ := hL
  obtain ⟨fS, fdS, mS, bS, GS⟩ := hSi
  obtain ⟨fB, fdB, mB, bB, GB⟩ := hBe
  refine F.ok sc_least_with (fun vs H Q E h => ?_) (fun cdv A outer s H vs Q E hr h => ?_)
  · obtain ⟨p, n, root, rows, j, rfl, _⟩ := h
    rfl
  · obtain ⟨p, n, root, rows, j, rfl, hM, ok, j0, j1, tl, tr, ne, q⟩ := h
    have hu : (A.deeper (envOfC "least_with" (defScope s_least_with) s.heap.objs.size f cdv)).units + 1 < cLine := by
      have := hr.un
      omega
    refine ⟨_, (pss_cons (ps_set (i := 2) sc_least_with.nd rfl (Or.inl rfl) (pe_call GR hr (by rfl) gR kR bR .nil pass0 (pa_cons (pv 0) pa_nil)))
  (pss_cons (ps_if (pt_cmpR op_eq (pe_ix (r := rIxT K) ix_tup (pe_dget hu (pv 2) (pv 1) (fun _ _ => rfl)) pe_int (fun _ _ => rfl)) (pe_meth0 (pv 0) TM.cl mB GB hr bB .nil pass0) (nomark _))
   (pss_one (ps_ret pe_non)) pss_nil)
  (pss_one (ps_ret (pe_call GL hr (by rfl) gL kL bL .nil pass0 (pa_cons (pe_meth0 (pv 0) TM.cl mS GS hr bS .nil pass0) (pa_cons (pe_meth0 (pv 0) TM.cl mB GB hr bB .nil pass0) (pa_cons (pe_call GW hr (by rfl) gW kW bW .nil pass0 (pa_cons (pv 2) (pa_cons (pv 1) pa_nil))) pa_nil)))))))), ?_⟩
    have CK := chartK_of ok
    have hj : j ∈ idx rows.length := mem_idx.mpr ⟨j0, j1⟩
    obtain ⟨b0, b1, g0, g1⟩ := CK.rd.row j hj
    refine ⟨_, rfl, p, n, root, rows, rfl, hM, fun d H1 tw e1 hd0 hRd => ?_⟩
    have hM1 := hM.same e1
    obtain ⟨dx, l0, hp0, _⟩ := id hM1
    have T1 : Tb TL TR H H1 := Tb.start tl tr e1
    refine ⟨_, rfl, _, rfl, d, _, rfl, hRd.dget hj, tw j, _, _, _, rfl, rfl, hRd.has j hj, rfl, _, rfl, p, dx, _, rfl, hp0, lk_begin, p, n, root, rows, rfl, hM1, rfl, _, rfl, ite2 (fun c => ?_) (fun c => ?_)⟩
    · have gr : (rowAt rows j).g = root := V.int.inj (of_decide_eq_true c)
      exact q none H1 T1 (leastWith_root CK.r0 CK.r1 gr)
    · have gr : (rowAt rows j).g ≠ root := fun z => c (decide_eq_true (by rw [z]))
      refine ⟨_, rfl, p, dx, _, rfl, hp0, lk_size, p, n, root, rows, rfl, hM1, _, rfl, p, dx, _, rfl, hp0, lk_begin, p, n, root, rows, rfl, hM1, _, rfl, _, rfl, d, _, rowAt rows, tw, j, rfl, hRd, CK.rd.nd, CK.rd.len, hj, fun d2 H2 e2 hd2 hRd2 => ?_⟩
      have T0 : Tb TL TR H H2 := T1.same e2
      exact ⟨n, root, d2, _, rowAt rows, tw, rfl, hRd2, CK.filter _, T0.tl, T0.tr, ne, fun o H' tb L => q o H' (T0.trans tb) (leastWith_of CK.r0 CK.r1 g0 g1 gr L)⟩
theorem ok_more {f : Addr} {fd : FuncData} {k : Nat} (F : Fun K "how_much_more" "how_much_more" s_how_much_more f fd) : FnOk P w K mg base CX0 (k + 1) f fd ["least", "cost"] spMore := by
  refine F.ok sc_how_much_more (fun vs H Q E h => ?_) (fun cdv A outer s H vs Q E hr h => ?_)
  · obtain ⟨o, c, rfl, _⟩ := h
    rfl
  · obtain ⟨o, c, rfl, q⟩ := h
    refine ⟨_, (pss_cons (ps_if (pt_cmpR op_isN (pv 0) pe_non (nomark _)) (pss_one (ps_ret pe_non)) pss_nil)
  (pss_one (ps_ret (pe_op op_sub (pv 0) (pv 1))))), ?_⟩
    cases o with
    | none => exact ⟨_, rfl, rfl, _, rfl, ite2 (fun _ => q) (fun z => absurd rfl z)⟩
    | some i => exact ⟨_, rfl, rfl, _, rfl, ite2 (fun z => absurd (of_decide_eq_true z) (fun y => nomatch y)) (fun _ => ⟨_, rfl, _, rfl, _, _, rfl, rfl, q⟩)⟩
end
end Rc
/-! part RcY7 -/
/-! The parts of all trees, each by its first one; the next of all. -/
namespace Rc
open PySem PySem.Spec PyProof.Rows L2
def Apart (A B : List Int → Prop) : Prop := ∀ js : List Int, js.Pairwise (· ≤ ·) → A js → ¬ B js
theorem Apart.symm {A B : List Int → Prop} (h : Apart A B) : Apart B A := fun js u a b => h js u b a
structure Cov (n root : Int) (ks : List Int) (rw : Int → Row) (L : List (List Int)) (Ss : List (List Int → Prop)) : Prop where
  tree : ∀ js ∈ L, TreeIn n root ks rw js ∧ js.Pairwise (· ≤ ·)
  ord : L.Pairwise (Bef rw)
  sub : ∀ S ∈ Ss, ∀ js, S js → TreeIn n root ks rw js
  apart : Ss.Pairwise Apart
  cover : ∀ js, TreeIn n root ks rw js → js.Pairwise (· ≤ ·) → js ∈ L ∨ ∃ S ∈ Ss, S js
  after : ∀ x ∈ L, ∀ S ∈ Ss, ∀ js : List Int, js.Pairwise (· ≤ ·) → S js → Bef rw x js
structure Firsts (rw : Int → Row) (S : List Int → Prop) (T : List Int) : Prop where
  self : S T
  up : T.Pairwise (· ≤ ·)
  le : ∀ js : List Int, js.Pairwise (· ≤ ·) → S js → T = js ∨ Bef rw T js
section
variable {n root : Int} {ks : List Int} {rw : Int → Row} {m : Nat} {L : List (List Int)} {S : List Int → Prop} {Ss : List (List Int → Prop)} {T : List Int}
theorem Cov.start : Cov n root ks rw [] [TreeIn n root ks rw] :=
  ⟨(fun _ h => nomatch h), .nil, (fun S hS js h => by
    rw [List.mem_singleton.mp hS] at h
    exact h), List.pairwise_singleton _ _, (fun js t _ => .inr ⟨_, List.mem_singleton.mpr rfl, t⟩), (fun _ h => nomatch h)⟩
theorem Cov.perm {Ss' : List (List Int → Prop)} (C : Cov n root ks rw L Ss) (h : Ss.Perm Ss') : Cov n root ks rw L Ss' :=
  ⟨C.tree, C.ord, fun S hS => C.sub S (h.mem_iff.mpr hS), (h.pairwise_iff fun {a b} => Apart.symm).mp C.apart, fun js t u => (C.cover js t u).imp id fun ⟨S, hS, z⟩ => ⟨S, h.mem_iff.mp hS, z⟩, fun x hx S hS => C.after x hx S (h.mem_iff.mpr hS)⟩
theorem Cov.drop (C : Cov n root ks rw L (S :: Ss)) (h : ∀ js, ¬ S js) : Cov n root ks rw L Ss :=
  ⟨C.tree, C.ord, fun S' hS => C.sub S' (List.mem_cons_of_mem _ hS), (List.pairwise_cons.mp C.apart).2, (fun js t u => (C.cover js t u).imp id fun ⟨S', hS, z⟩ => by
    rcases List.mem_cons.mp hS with e | e
    · rw [e] at z
      exact absurd z (h js)
    · exact ⟨S', e, z⟩), fun x hx S' hS => C.after x hx S' (List.mem_cons_of_mem _ hS)⟩
theorem Cov.pop (C : Cov n root ks rw L (S :: Ss)) (F : Firsts rw S T) (hmin : ∀ S' ∈ Ss, ∃ T', Firsts rw S' T' ∧ ¬ Bef rw T' T) {Ps : List (List Int → Prop)} (pa : Ps.Pairwise Apart) (ps : ∀ P ∈ Ps, ∀ js, P js → S js ∧ js ≠ T)
    (pc : ∀ js : List Int, js.Pairwise (· ≤ ·) → S js → js = T ∨ ∃ P ∈ Ps, P js) : Cov n root ks rw (L ++ [T]) (Ps ++ Ss) := by
  have mS : S ∈ S :: Ss := List.mem_cons_self
  have tT := C.sub S mS T F.self
  refine ⟨fun js hj => ?_, ?_, fun S' hS js z => ?_, ?_, fun js t u => ?_, fun x hx S' hS js u z => ?_⟩
  · rcases List.mem_append.mp hj with h | h
    · exact C.tree js h
    · rw [List.mem_singleton.mp h]
      exact ⟨tT, F.up⟩
  · refine List.pairwise_append.mpr ⟨C.ord, List.pairwise_singleton _ _, fun a ha b hb => ?_⟩
    rw [List.mem_singleton.mp hb]
    exact C.after a ha S mS T F.up F.self
  · rcases List.mem_append.mp hS with h | h
    · exact C.sub S mS js (ps S' h js z).1
    · exact C.sub S' (List.mem_cons_of_mem _ h) js z
  · exact List.pairwise_append.mpr ⟨pa, (List.pairwise_cons.mp C.apart).2, fun P hP S' hS js u p => (List.pairwise_cons.mp C.apart).1 S' hS js u (ps P hP js p).1⟩
  · rcases C.cover js t u with h | ⟨S', hS, z⟩
    · exact .inl (List.mem_append_left _ h)
    · rcases List.mem_cons.mp hS with e | e
      · rw [e] at z
        rcases pc js u z with y | ⟨P, hP, y⟩
        · exact .inl (List.mem_append_right _ (List.mem_singleton.mpr y))
        · exact .inr ⟨P, List.mem_append_left _ hP, y⟩
      · exact .inr ⟨S', List.mem_append_right _ e, z⟩
  · rcases List.mem_append.mp hx with hl | hl
    · rcases List.mem_append.mp hS with h | h
      · exact C.after x hl S mS js u (ps S' h js z).1
      · exact C.after x hl S' (List.mem_cons_of_mem _ h) js u z
    · rw [List.mem_singleton.mp hl]
      rcases List.mem_append.mp hS with h | h
      · obtain ⟨z1, z2⟩ := ps S' h js z
        rcases F.le js u z1 with e | e
        · exact absurd e.symm z2
        · exact e
      · obtain ⟨T', F', hn⟩ := hmin S' h
        have ap := (List.pairwise_cons.mp C.apart).1 S' h
        have tT' := C.sub S' (List.mem_cons_of_mem _ h) T' F'.self
        have ne : T ≠ T' := fun e => ap T F.up F.self (e ▸ F'.self)
        have b : Bef rw T T' := (bef_tri (treeIn_len tT tT') ne).resolve_right hn
        rcases F'.le js u z with e | e
        · exact e ▸ b
        · exact bef_trans b e
theorem Cov.best_all (C : Cov n root ks rw L []) (h : L.length ≤ m) : BestIs n root ks rw m L :=
  ⟨C.tree, C.ord, (fun js t u => (C.cover js t u).elim .inl fun ⟨_, hS, _⟩ => (nomatch hS)), h⟩
theorem Cov.best_full (C : Cov n root ks rw L Ss) (h : L.length = m) : BestIs n root ks rw m L :=
  ⟨C.tree, C.ord, fun js t u => (C.cover js t u).imp id fun ⟨S, hS, z⟩ => ⟨h, fun x hx => C.after x hx S hS js u z⟩, Nat.le_of_eq h⟩
theorem Cov.nodup (C : Cov n root ks rw L Ss) : L.Nodup := List.nodup_iff_pairwise_ne.mpr (C.ord.imp fun {a b} h (e : a = b) => bef_irr (rw := rw) (a := a) (by rw [← e] at h; exact h))
/-! the parts beside a tree -/
def fixd (rw : Int → Row) (ks pre : List Int) : List Int := pre.foldl (fun ks j => ks.filter fun k => !decide ((rw k).g = (rw j).g) || decide (k = j)) ks
def partK (rw : Int → Row) (ks T : List Int) (i : Nat) : List Int := (fixd rw ks (T.take i)).filter fun k => !decide (k = T.getD i 0)
theorem fixd_snoc (pre : List Int) (j : Int) : fixd rw ks (pre ++ [j]) = (fixd rw ks pre).filter fun k => !decide ((rw k).g = (rw j).g) || decide (k = j) := by
  unfold fixd
  rw [List.foldl_append]
  rfl
theorem fixd_mem : ∀ {pre ks : List Int} {k : Int}, k ∈ fixd rw ks pre → k ∈ ks
  | [], _, _, h => h
  | j :: pre, ks, k, h => by
    have : k ∈ fixd rw (ks.filter fun k => !decide ((rw k).g = (rw j).g) || decide (k = j)) pre := h
    exact (List.mem_filter.mp (fixd_mem this)).1
theorem fixd_chart : ∀ {pre ks : List Int}, ChartK n root ks rw → ∀ (f : ∀ {ks : List Int}, ChartK n root ks rw → ∀ p : Int → Bool, ChartK n root (ks.filter p) rw), ChartK n root (fixd rw ks pre) rw
  | [], _, C, _ => C
  | j :: pre, ks, C, f => fixd_chart (pre := pre) (f C _) f
theorem fixd_iff (r0 : 0 ≤ root) (r1 : root < n) : ∀ {pre ks : List Int}, (∀ k ∈ ks, 0 ≤ (rw k).g ∧ (rw k).g < n) → TreeIn n root ks rw T → (∀ x ∈ pre, x ∈ T) → ∀ js, TreeIn n root (fixd rw ks pre) rw js ↔ TreeIn n root ks rw js ∧ ∀ x ∈ pre, x ∈ js
  | [], _, _, _, _, js => ⟨fun h => ⟨h, fun _ z => nomatch z⟩, fun h => h.1⟩
  | j :: pre, ks, R, t, hp, js => by
    have hj := hp j List.mem_cons_self
    have gr := root_noneK r0 r1 t hj
    obtain ⟨g0, g1⟩ := R j (t.2.1 j hj)
    have al := fun js => alone_iff (ks := ks) (rw := rw) (js := js) r0 r1 g0 g1 gr
    have ih := fixd_iff r0 r1 (pre := pre) (ks := ks.filter fun k => !decide ((rw k).g = (rw j).g) || decide (k = j)) (fun k hk => R k (List.mem_filter.mp hk).1) ((al T).mpr ⟨t, hj⟩) (fun x hx => hp x (List.mem_cons_of_mem _ hx)) js
    refine ih.trans ?_
    rw [al js]
    constructor
    · rintro ⟨⟨a, b⟩, c⟩
      exact ⟨a, fun x hx => by
        rcases List.mem_cons.mp hx with e | e
        · exact e ▸ b
        · exact c x e⟩
    · rintro ⟨a, b⟩
      exact ⟨⟨a, b j List.mem_cons_self⟩, fun x hx => b x (List.mem_cons_of_mem _ hx)⟩
/-- a tree is of the part i -/
theorem part_iff (r0 : 0 ≤ root) (r1 : root < n) (R : ∀ k ∈ ks, 0 ≤ (rw k).g ∧ (rw k).g < n) (t : TreeIn n root ks rw T) (i : Nat) (js : List Int) : TreeIn n root (partK rw ks T i) rw js ↔ (TreeIn n root ks rw js ∧ ∀ x ∈ T.take i, x ∈ js) ∧ T.getD i 0 ∉ js := by
  unfold partK
  rw [without_iff, fixd_iff r0 r1 R t fun x hx => List.mem_of_mem_take hx]
def partsOf (n root : Int) (rw : Int → Row) (ks T : List Int) (i : Nat) : List (List Int → Prop) := ((List.range T.length).drop i).map fun i => TreeIn n root (partK rw ks T i) rw
theorem partsOf_next {i : Nat} (h : i < T.length) : partsOf n root rw ks T i = TreeIn n root (partK rw ks T i) rw :: partsOf n root rw ks T (i + 1) := by
  unfold partsOf
  rw [List.drop_eq_getElem_cons (by rw [List.length_range]; exact h), List.map_cons, List.getElem_range]
theorem partsOf_end : partsOf n root rw ks T T.length = [] := by
  unfold partsOf
  rw [List.drop_of_length_le (by rw [List.length_range]; exact Nat.le_refl _)]
  rfl
theorem Cov.beside (r0 : 0 ≤ root) (r1 : root < n) {kept : List Int} (R : ∀ k ∈ kept, 0 ≤ (rw k).g ∧ (rw k).g < n) (C : Cov n root ks rw L (TreeIn n root kept rw :: Ss)) (nd : T.Nodup) (F : Firsts rw (TreeIn n root kept rw) T) (hmin : ∀ S' ∈ Ss, ∃ T', Firsts rw S' T' ∧ ¬ Bef rw T' T) :
    Cov n root ks rw (L ++ [T]) (partsOf n root rw kept T 0 ++ Ss) := by
  have iff := part_iff r0 r1 R F.self
  have at_ : ∀ i, i < T.length → T.getD i 0 ∈ T := fun i hi => by
    rw [List.getD_eq_getElem?_getD, List.getElem?_eq_getElem hi]
    exact List.getElem_mem _
  refine C.pop F hmin ?_ (fun P hP js p => ?_) fun js u s => ?_
  · unfold partsOf
    rw [List.drop_zero, List.pairwise_map]
    refine List.Pairwise.imp_of_mem (fun {i j} hi hj (h : i < j) js _ a b => ?_) List.pairwise_lt_range
    have hi' := List.mem_range.mp hi
    refine ((iff i js).mp a).2 (((iff j js).mp b).1.2 _ ?_)
    rw [List.getD_eq_getElem?_getD, List.getElem?_eq_getElem hi']
    exact List.mem_take_iff_getElem.mpr ⟨i, by omega, rfl⟩
  · unfold partsOf at hP
    rw [List.drop_zero] at hP
    obtain ⟨i, hi, rfl⟩ := List.mem_map.mp hP
    obtain ⟨⟨a, _⟩, b⟩ := (iff i js).mp p
    exact ⟨a, fun e => b (e ▸ at_ i (List.mem_range.mp hi))⟩
  · by_cases e : js = T
    · exact .inl e
    · obtain ⟨pre, x, post, e1, e2, e3⟩ := first_out (treeIn_len F.self s) nd F.up u (Ne.symm e)
      have hlt : pre.length < T.length := by
        rw [e1, List.length_append, List.length_cons]
        omega
      refine .inr ⟨_, ?_, (iff pre.length js).mpr ⟨⟨s, fun y hy => ?_⟩, ?_⟩⟩
      · unfold partsOf
        rw [List.drop_zero]
        exact List.mem_map_of_mem (List.mem_range.mpr hlt)
      · rw [e1, List.take_left] at hy
        exact e2 y hy
      · rw [e1, List.getD_eq_getElem?_getD, List.getElem?_append_right (Nat.le_refl _), Nat.sub_self]
        exact e3
/-! what stands in the queue -/
def itemD (rw : Int → Row) (kept ns : List Int) : PyData := .tuple [.int (costOfK rw ns), intsD ns, intsD kept]
theorem intsD_injQ {a b : List Int} (h : intsD a = intsD b) : a = b := by
  unfold intsD at h
  exact (List.map_inj_right fun _ _ e => PyData.int.inj e).mp (PyData.list.inj h)
theorem itemD_inj {a b x y : List Int} (h : itemD rw a x = itemD rw b y) : a = b ∧ x = y := by
  unfold itemD at h
  have e := PyData.tuple.inj h
  rw [List.cons.injEq, List.cons.injEq, List.cons.injEq] at e
  exact ⟨intsD_injQ e.2.2.1, intsD_injQ e.2.1⟩
def PartD (n root : Int) (rw : Int → Row) (d : PyData) : List Int → Prop := fun js => ∃ kept ns, d = itemD rw kept ns ∧ TreeIn n root kept rw js
theorem partD_eq (kept ns : List Int) : PartD n root rw (itemD rw kept ns) = TreeIn n root kept rw := by
  funext js
  refine propext ⟨fun ⟨a, b, e, t⟩ => ?_, fun t => ⟨kept, ns, rfl, t⟩⟩
  rw [(itemD_inj e).1]
  exact t
theorem lt_itemD {a b x y : List Int} (h : Bef rw x y) : PySem.W.dataLt (itemD rw a x) (itemD rw b y) = true := by
  unfold itemD
  rcases bef_iff.mp h with h | ⟨h1, h2, h3⟩
  · rw [PySem.W.dataLt_tuple, PySem.W.dataLt_all_no (alike_int _ _) (no_int (Int.ne_of_lt h)), PySem.W.dataLt_int]
    exact decide_eq_true h
  · rw [PySem.W.dataLt_tuple, PySem.W.dataLt_all_yes (alike_int _ _) ((eqv_int _ _).mpr h1), PySem.W.dataLt_all_no (alike_intsD x y) (by
      rw [Bool.eq_false_iff]
      exact fun z => h2 ((num_eqv 1 _ _ (num_ints x) (num_ints y)).mp z |> intsD_injQ))]
    exact h3
theorem num_itemD (a x : List Int) : Num 2 (itemD rw a x) := by
  show Num 2 (.tuple [_, _, _])
  intro d hd
  rcases List.mem_cons.mp hd with e | hd
  · rw [e]; exact trivial
  · rcases List.mem_cons.mp hd with e | hd
    · rw [e]; exact num_ints x
    · rw [List.mem_singleton.mp hd]; exact num_ints a
theorem alike_itemD (a b x y : List Int) : PySem.W.alike (itemD rw a x) (itemD rw b y) = true := by
  unfold itemD PySem.W.alike PySem.W.alikeAll
  rw [alike_int]
  simp only [PySem.W.alikeAll, alike_intsD, Bool.and_true, Bool.true_and]
end
end Rc
/-! part RcA7 -/
/-! parts_beside. -/
namespace Rc
open PySem PySem.Spec PyProof.Rows L2
def spParts (K : PySem.W.Frag) : Sp := fun vs H Q _ => ∃ (a r : Addr) (n root : Int) (ks : List Int) (rw : Int → Row) (tw : Int → Addr) (ns : List Int), vs = [.ref a, .ref r] ∧ SqL K H a (ns.map V.int) ∧ RoadsAt K H r ks rw tw ∧ ChartK n root ks rw ∧ TreeIn n root ks rw ns ∧
  ∀ (l : Addr) (ds : List Addr) H', Same H H' → H l = none → H' l = some (.lst (ds.map V.ref)) → ds.length = ns.length → (∀ i d, ds[i]? = some d → H d = none ∧ RoadsAt K H' d (partK rw ks ns i) rw tw) → Q (.ref l) H'
theorem roadsAt_off {K : PySem.W.Frag} {m : Addr → Prop} {H : Hp} {r : Addr} {ks : List Int} {rw : Int → Row} {tw : Int → Addr} (hm : ∀ b, m b → ∃ o, H b = some o ∧ (∀ xs, o ≠ .tup xs) ∧ ∀ u o', o ≠ .frz u o') (hr : ¬ m r) (R : RoadsAt K H r ks rw tw) : RoadsAt K (Rc.sans m H) r ks rw tw :=
  ⟨by rw [sans_no hr]; exact R.dd, fun k hk => sqT_off hm (R.has k hk)⟩
theorem fixd_ck {n root : Int} {ks : List Int} {rw : Int → Row} (C : ChartK n root ks rw) (pre : List Int) : ChartK n root (fixd rw ks pre) rw := fixd_chart C fun h p => h.filter p
theorem partK_ck {n root : Int} {ks : List Int} {rw : Int → Row} (C : ChartK n root ks rw) (T : List Int) (i : Nat) : ChartK n root (partK rw ks T i) rw := (fixd_ck C _).filter _
theorem partK_mem {rw : Int → Row} {ks T : List Int} {i : Nat} {k : Int} (h : k ∈ partK rw ks T i) : k ∈ ks := fixd_mem (List.mem_filter.mp h).1
section
variable {P : Program} {w : World} {K : PySem.W.Frag} {mg : Str → Option Value} {base : Heap}
theorem ok_parts {f : Addr} {fd : FuncData} {k : Nat} (F : Fun K "parts_beside" "parts_beside" s_parts_beside f fd) (hW : Has P w K mg base "without" ["roads", "road"] k (spWithout K)) (hN : Has P w K mg base "with_no_other" ["roads", "road"] k (spWithNo K)) :
    FnOk P w K mg base CX0 (k + 1) f fd ["tree", "roads"] (spParts K) := by
  obtain ⟨fW, fdW, gW, kW, bW, GW⟩ := hW
  obtain ⟨fN, fdN, gN, kN, bN, GN⟩ := hN
  refine F.ok sc_parts_beside (fun vs H Q E h => ?_) (fun cdv A outer s H vs Q E hr h => ?_)
  · obtain ⟨a, r, n, root, ks, rw, tw, ns, rfl, _⟩ := h
    rfl
  · obtain ⟨a, r, n, root, ks, rw, tw, ns, rfl, ha, hR, ok, t, q⟩ := h
    refine ⟨_, (pss_cons (ps_set (i := 2) sc_parts_beside.nd rfl (Or.inl rfl) (pe_lst pa_nil))
  (pss_cons (ps_for PassesOwn.never rfl (pi_list (pv 0)) (pg_name (i := 3) sc_parts_beside.nd rfl (Or.inl rfl))
   (pss_cons (ps_expr (pe_bm PySem.F.plainAttrs_list PySem.F.slot_list_append PySem.F.type_list_append mt_append (pv 2) (pa_cons (pe_call GW hr (by rfl) gW kW bW .nil pass0 (pa_cons (pv 1) (pa_cons (pv 3) pa_nil))) pa_nil)))
  (pss_one (ps_set (i := 1) sc_parts_beside.nd rfl (Or.inl rfl) (pe_call GN hr (by rfl) gN kN bN .nil pass0 (pa_cons (pv 1) (pa_cons (pv 3) pa_nil)))))))
  (pss_one (ps_ret (pv 2))))), ?_⟩
    obtain ⟨m0, m1, r0, r1, R, c0, lp⟩ := id ok
    have nl : ns.length ≤ 19 := by
      have := t.1
      omega
    have gR : ∀ k ∈ ks, 0 ≤ (rw k).g ∧ (rw k).g < n := fun k hk => ⟨(R.row k hk).2.2.1, (R.row k hk).2.2.2⟩
    refine ⟨Nat.zero_le _, fun l hl => ?_⟩
    dsimp only
    have lNe : ∀ {H' : Hp} {b : Addr} {o : HO}, Same H H' → H b = some o → b ≠ l := fun _ h1 h2 => by
      rw [h2, hl] at h1
      cases h1
    refine ⟨_, rfl, a, rfl, ⟨_, (same_new hl).seq ha⟩, for_list (K := K) (a := a) (xs := ns.map V.int) (fun i σ H' => ∃ (r' : Addr) (ds : List Addr) (v3 : Option V), σ = [some (.ref a), some (.ref r'), some (.ref l), v3] ∧ Same H H' ∧ H' l = some (.lst (ds.map V.ref)) ∧ ds.length = i ∧
        RoadsAt K (sans (at1 l) H') r' (fixd rw ks (ns.take i)) rw tw ∧ ∀ j d, ds[j]? = some d → H d = none ∧ RoadsAt K (sans (at1 l) H') d (partK rw ks ns j) rw tw)
      ⟨r, [], none, rfl, same_new hl, upd_same, rfl, ?_, fun j d z => by cases z⟩ (fun i σ H' _ ⟨_, _, _, _, e, _⟩ => e.seq ha) ?_ ?_⟩
    · refine hR.same fun b o hb => ?_
      have hb' := same_new (o := HO.lst []) hl _ _ hb
      rw [sans_no (fun z : at1 l b => by
        have z' : b = l := z
        rw [z', hl] at hb
        cases hb)]
      exact hb'
    · rintro i x σ H1 hi ⟨r', ds, v3, rfl, e1, h1, hd, R1, hds⟩
      rw [List.getElem?_map] at hi
      obtain ⟨tj, hti, rfl⟩ : ∃ tj, ns[i]? = some tj ∧ V.int tj = x := by
        cases z : ns[i]? with
        | none => rw [z] at hi; cases hi
        | some tj => rw [z] at hi; cases hi; exact ⟨_, rfl, rfl⟩
      have CK := fixd_ck ok (ns.take i)
      have tin : tj ∈ fixd rw ks (ns.take i) := by
        have := (fixd_iff r0 r1 gR t (pre := ns.take i) (fun x hx => List.mem_of_mem_take hx) ns).mpr ⟨t, fun x hx => List.mem_of_mem_take hx⟩
        exact this.2.1 tj (List.mem_of_getElem? hti)
      have eg : ns.getD i 0 = tj := by
        rw [List.getD_eq_getElem?_getD, hti]
        rfl
      -- what lies beside the list
      have up : ∀ {H1 H2 : Hp} {b : Addr} {ls : List Int}, Same H1 H2 → RoadsAt K (sans (at1 l) H1) b ls rw tw → RoadsAt K (sans (at1 l) H2) b ls rw tw := fun e z => z.same (ep_same e)
      have nw : ∀ {H1 H2 : Hp} {b : Addr} {vs : List V} {ls : List Int}, Same H1 H2 → H1 l = some (.lst vs) → H1 b = none → RoadsAt K H2 b ls rw tw → RoadsAt K (sans (at1 l) H2) b ls rw tw := fun {H1 H2 b vs ls} e z hb R2 => by
        refine roadsAt_off (fun c hc => ⟨.lst vs, ?_, fun _ => nofun, fun _ _ => nofun⟩) (fun hc => ?_) R2
        · have hc' : c = l := hc
          rw [hc']
          exact e _ _ z
        · have hc' : b = l := hc
          rw [hc', z] at hb
          cases hb
      refine ⟨_, rfl, .inl ⟨rfl, _, SqL.of h1⟩, _, rfl, _, rfl, r', _, rw, tw, tj, rfl, R1.same sans_same, CK.rd.nd, CK.rd.len, fun d H2 e2 hd2 hRd => ⟨_, _, _, rfl, rfl, e2 _ _ h1, ?_, ?_⟩⟩
      · rw [List.length_map, hd]
        exact small_lt (by have := (List.getElem?_eq_some_iff.mp hti).1; omega)
      · have hRd2 := nw e2 h1 hd2 hRd
        have e3 : ∀ {b : Addr} {ls : List Int}, RoadsAt K (sans (at1 l) H2) b ls rw tw → RoadsAt K (sans (at1 l) (upd H2 l (.lst (ds.map V.ref ++ [.ref d])))) b ls rw tw := fun z => z.same (St5.part_put rfl)
        have eq2 : Same H (upd H2 l (.lst (ds.map V.ref ++ [.ref d]))) := same_mut (e1.trans e2) hl
        have h3 : (upd H2 l (.lst (ds.map V.ref ++ [.ref d]))) l = some (.lst ((ds ++ [d]).map V.ref)) := by rw [upd_same, List.map_append]; rfl
        have R3 := e3 (up e2 R1)
        have hds3 : ∀ j d', (ds ++ [d])[j]? = some d' → H d' = none ∧ RoadsAt K (sans (at1 l) (upd H2 l (.lst (ds.map V.ref ++ [.ref d])))) d' (partK rw ks ns j) rw tw := fun j d' z => by
          rcases Nat.lt_or_ge j ds.length with c | c
          · rw [List.getElem?_append_left c] at z
            exact ⟨(hds j d' z).1, e3 (up e2 (hds j d' z).2)⟩
          · rw [List.getElem?_append_right c] at z
            have c2 : j - ds.length = 0 := by
              have := (List.getElem?_eq_some_iff.mp z).1
              simp at this
              omega
            rw [c2] at z
            cases z
            have c3 : j = i := by omega
            subst c3
            refine ⟨e1.free hd2, e3 ?_⟩
            unfold partK
            rw [eg]
            exact hRd2
        generalize upd H2 l (.lst (ds.map V.ref ++ [.ref d])) = H3 at eq2 h3 R3 hds3
        refine ⟨_, rfl, _, rfl, r', _, rw, tw, tj, rfl, R3.same sans_same, CK.rd.nd, CK.rd.len, tin, fun d' H4 e4 hd4 hR4 => ?_⟩
        refine ⟨d', ds ++ [d], _, rfl, eq2.trans e4, e4 _ _ h3, by rw [List.length_append, hd]; rfl, ?_, fun j d' z => ⟨(hds3 j d' z).1, up e4 (hds3 j d' z).2⟩⟩
        rw [take_succ hti, fixd_snoc]
        exact nw e4 h3 hd4 hR4
    · rintro σ H1 ⟨r', ds, v3, rfl, e1, h1, hd, R1, hds⟩
      refine ⟨_, rfl, ?_⟩
      rw [List.length_map] at hd
      exact q l ds H1 e1 hl h1 hd fun i d z => ⟨(hds i d z).1, (hds i d z).2.same sans_same⟩
end
end Rc
/-! part RcHq1 -/
/-! Heaps as lists: the mathematics of sifting. -/
namespace Rc
open PySem PySem.Spec PyProof.Rows L2
abbrev Itm : Type := V × PyData
def ltZ (a b : Itm) : Prop := PySem.W.dataLt a.2 b.2 = true
theorem ltZ_trans {a b c : Itm} (h1 : ltZ a b) (h2 : ltZ b c) : ltZ a c := lt_trans' h1 h2
theorem ltZ_asym {a b : Itm} (h1 : ltZ a b) (h2 : ltZ b a) : False := lt_asym h1 h2
theorem ltZ_neg {a b c : Itm} (h1 : ¬ ltZ a b) (h2 : ¬ ltZ b c) : ¬ ltZ a c := fun h => by
  rcases lex_negTrans _ (PySem.W.keyToks b.2) _ h with z | z
  · exact h1 z
  · exact h2 z
theorem ltZ_irr {a : Itm} : ¬ ltZ a a := fun h => ltZ_asym h h
def par (i : Nat) : Nat := (i - 1) / 2
theorem par_lt {i : Nat} (h : 0 < i) : par i < i := by unfold par; omega
def HeapOk (zs : List Itm) : Prop := ∀ i a b, 0 < i → zs[i]? = some a → zs[par i]? = some b → ¬ ltZ a b
/-- all but the place pos -/
def UpOk (zs : List Itm) (pos : Nat) : Prop := (∀ i a b, 0 < i → i ≠ pos → zs[i]? = some a → zs[par i]? = some b → ¬ ltZ a b) ∧ ∀ i a c, 0 < i → par i = pos → 0 < pos → zs[i]? = some a → zs[par pos]? = some c → ¬ ltZ a c
/-- all but the place pos and what is below it -/
def DownOk (zs : List Itm) (pos : Nat) : Prop := (∀ i a b, 0 < i → i ≠ pos → par i ≠ pos → zs[i]? = some a → zs[par i]? = some b → ¬ ltZ a b) ∧ ∀ i a c, 0 < i → par i = pos → 0 < pos → zs[i]? = some a → zs[par pos]? = some c → ¬ ltZ a c
def swp (zs : List Itm) (i j : Nat) (x y : Itm) : List Itm := (zs.set i y).set j x
theorem swp_len {zs : List Itm} {i j : Nat} {x y : Itm} : (swp zs i j x y).length = zs.length := by unfold swp; rw [List.length_set, List.length_set]
theorem swp_i {zs : List Itm} {i j : Nat} {x y : Itm} (hi : zs[i]? = some x) (ne : i ≠ j) : (swp zs i j x y)[i]? = some y := by
  unfold swp
  rw [List.getElem?_set_ne (Ne.symm ne), List.getElem?_set_self (List.getElem?_eq_some_iff.mp hi).1]
theorem swp_j {zs : List Itm} {i j : Nat} {x y : Itm} (hj : zs[j]? = some y) : (swp zs i j x y)[j]? = some x := by
  unfold swp
  rw [List.getElem?_set_self (by rw [List.length_set]; exact (List.getElem?_eq_some_iff.mp hj).1)]
theorem swp_o {zs : List Itm} {i j k : Nat} {x y : Itm} (h1 : k ≠ i) (h2 : k ≠ j) : (swp zs i j x y)[k]? = zs[k]? := by
  unfold swp
  rw [List.getElem?_set_ne (Ne.symm h2), List.getElem?_set_ne (Ne.symm h1)]
theorem swp_perm {zs : List Itm} {i j : Nat} {x y : Itm} (hi : zs[i]? = some x) (hj : zs[j]? = some y) : (swp zs i j x y).Perm zs := by
  obtain ⟨hi1, hi2⟩ := List.getElem?_eq_some_iff.mp hi
  obtain ⟨hj1, hj2⟩ := List.getElem?_eq_some_iff.mp hj
  have := List.set_set_perm (as := zs) hi1 hj1
  rw [hi2, hj2] at this
  exact this
theorem up_step {zs : List Itm} {pos : Nat} {x p : Itm} (U : UpOk zs pos) (h0 : 0 < pos) (hx : zs[pos]? = some x) (hp : zs[par pos]? = some p) (hl : ltZ x p) : UpOk (swp zs (par pos) pos p x) (par pos) := by
  have ne : par pos ≠ pos := Nat.ne_of_lt (par_lt h0)
  refine ⟨fun i a b hi hne ha hb => ?_, fun i a c hi hpi hp0 ha hc => ?_⟩
  · by_cases c1 : i = pos
    · subst c1
      rw [swp_j hx] at ha
      rw [swp_i hp ne] at hb
      cases ha; cases hb
      exact fun z => ltZ_asym hl z
    · rw [swp_o hne c1] at ha
      by_cases c2 : par i = pos
      · rw [c2, swp_j hx] at hb
        cases hb
        exact U.2 i a _ hi c2 h0 ha hp
      · by_cases c3 : par i = par pos
        · rw [c3, swp_i hp ne] at hb
          cases hb
          exact fun z => U.1 i a p hi c1 ha (by rw [c3]; exact hp) (ltZ_trans z hl)
        · rw [swp_o c3 c2] at hb
          exact U.1 i a b hi c1 ha hb
  · have pp : par (par pos) ≠ par pos := Nat.ne_of_lt (par_lt hp0)
    have pp2 : par (par pos) ≠ pos := by have := par_lt hp0; have := par_lt h0; omega
    rw [swp_o pp pp2] at hc
    have hpc : ¬ ltZ p c := U.1 (par pos) p c hp0 ne hp hc
    by_cases c1 : i = pos
    · subst c1
      rw [swp_j hx] at ha
      cases ha
      exact hpc
    · have c2 : i ≠ par pos := fun z => by
        have := par_lt hi
        rw [hpi] at this
        omega
      rw [swp_o c2 c1] at ha
      exact ltZ_neg (U.1 i a p hi c1 ha (by rw [hpi]; exact hp)) hpc
theorem up_done {zs : List Itm} {pos : Nat} (U : UpOk zs pos) (h : ∀ x p, 0 < pos → zs[pos]? = some x → zs[par pos]? = some p → ¬ ltZ x p) : HeapOk zs := fun i a b hi ha hb => by
  by_cases c : i = pos
  · rw [c] at hi ha hb
    exact h a b hi ha hb
  · exact U.1 i a b hi c ha hb
theorem down_step {zs : List Itm} {pos ch : Nat} {v y : Itm} (D : DownOk zs pos) (hc0 : 0 < ch) (hpc : par ch = pos) (hv : zs[pos]? = some v) (hy : zs[ch]? = some y) (hmin : ∀ i a, 0 < i → par i = pos → zs[i]? = some a → ¬ ltZ a y) : DownOk (swp zs ch pos y v) ch := by
  have ne : ch ≠ pos := by have := par_lt hc0; omega
  refine ⟨fun i a b hi hne hpne ha hb => ?_, fun i a c hi hpi _ ha hc => ?_⟩
  · by_cases c1 : i = pos
    · subst c1
      rw [swp_j hv] at ha
      cases ha
      rw [swp_o (by rintro rfl; have := par_lt hi; have := par_lt hc0; omega) (Nat.ne_of_lt (par_lt hi))] at hb
      exact D.2 ch _ b hc0 hpc hi hy hb
    · rw [swp_o hne c1] at ha
      by_cases c2 : par i = pos
      · rw [c2, swp_j hv] at hb
        cases hb
        exact hmin i a hi c2 ha
      · rw [swp_o hpne c2] at hb
        exact D.1 i a b hi c1 c2 ha hb
  · rw [hpc, swp_j hv] at hc
    cases hc
    have c1 : i ≠ ch := fun z => by have := par_lt hi; omega
    have c2 : i ≠ pos := fun z => by have := par_lt hi; have := par_lt hc0; omega
    rw [swp_o c1 c2] at ha
    exact D.1 i a _ hi c2 (by rw [hpi]; exact ne) ha (by rw [hpi]; exact hy)
theorem down_up {zs : List Itm} {pos : Nat} (D : DownOk zs pos) (h : zs.length / 2 ≤ pos) : UpOk zs pos := by
  have no : ∀ i a, 0 < i → zs[i]? = some a → par i ≠ pos := fun i a hi ha z => by
    have := (List.getElem?_eq_some_iff.mp ha).1
    unfold par at z
    omega
  exact ⟨fun i a b hi hne ha hb => D.1 i a b hi hne (no i a hi ha) ha hb, fun i a c hi hp _ ha _ => absurd hp (no i a hi ha)⟩
theorem heap_push {zs : List Itm} {z : Itm} (h : HeapOk zs) : UpOk (zs ++ [z]) zs.length := by
  refine ⟨fun i a b hi hne ha hb => ?_, fun i a c hi hp h0 ha hc => ?_⟩
  · have h1 : i < zs.length := by
      have := (List.getElem?_eq_some_iff.mp ha).1
      rw [List.length_append, List.length_singleton] at this
      omega
    have h2 := par_lt hi
    rw [List.getElem?_append_left h1] at ha
    rw [List.getElem?_append_left (by omega)] at hb
    exact h i a b hi ha hb
  · exfalso
    have := (List.getElem?_eq_some_iff.mp ha).1
    rw [List.length_append, List.length_singleton] at this
    have := par_lt hi
    omega
theorem heap_min {zs : List Itm} {z : Itm} (h : HeapOk zs) (h0 : zs[0]? = some z) : ∀ (i : Nat) a, zs[i]? = some a → ¬ ltZ a z := by
  intro i
  induction i using Nat.strongRecOn with
  | ind i ih =>
    intro a ha
    by_cases c : i = 0
    · subst c
      rw [h0] at ha
      cases ha
      exact ltZ_irr
    · have hp := par_lt (i := i) (by omega)
      have hl := (List.getElem?_eq_some_iff.mp ha).1
      have hb : zs[par i]? = some zs[par i] := List.getElem?_eq_getElem (by omega)
      exact ltZ_neg (h i a _ (by omega) ha hb) (ih _ hp _ hb)
theorem heap_pop {z last : Itm} {r : List Itm} (h : HeapOk (z :: (r ++ [last]))) : DownOk ((z :: r).set 0 last) 0 := by
  refine ⟨fun i a b hi hne hp ha hb => ?_, fun i a c hi hp h0 => absurd h0 (Nat.lt_irrefl 0)⟩
  rw [List.getElem?_set_ne (by omega)] at ha
  rw [List.getElem?_set_ne (by omega)] at hb
  have h1 := (List.getElem?_eq_some_iff.mp ha).1
  have h2 := par_lt hi
  refine h i a b hi ?_ ?_
  · rw [show z :: (r ++ [last]) = (z :: r) ++ [last] by rfl, List.getElem?_append_left h1]
    exact ha
  · rw [show z :: (r ++ [last]) = (z :: r) ++ [last] by rfl, List.getElem?_append_left (by omega)]
    exact hb
theorem heap_nil : HeapOk [] := fun i a b _ ha _ => by simp at ha
theorem heap_one (z : Itm) : HeapOk [z] := fun i a b hi ha _ => by
  have := (List.getElem?_eq_some_iff.mp ha).1
  simp at this
  omega
end Rc
/-! part RcHq2 -/
/-! heapq: the two calls. -/
namespace Rc
open PySem PySem.Spec PyProof.Rows L2
theorem entry_push : entryFor table "_heapq.heappush" = some Builtin.«_heapq.heappush» := entryFor_of_fast (by kernel_rfl)
theorem entry_pop : entryFor table "_heapq.heappop" = some Builtin.«_heapq.heappop» := entryFor_of_fast (by kernel_rfl)
theorem entry_sift : entryFor table "_heapq.heapify.sift" = some Builtin.«_heapq.heapify.sift» := entryFor_of_fast (by kernel_rfl)
theorem plain_push : plainId "_heapq.heappush" = true := by decide +kernel
theorem plain_pop : plainId "_heapq.heappop" = true := by decide +kernel
theorem plain_sift : plainId "_heapq.heapify.sift" = true := by decide +kernel
theorem args_push (a b : Value) : argsOk "_heapq.heappush" ⟨[a, b], []⟩ := by unfold argsOk; kernel_rfl
theorem args_pop (a : Value) : argsOk "_heapq.heappop" ⟨[a], []⟩ := by unfold argsOk; kernel_rfl
/-- what is put into a heap: data that is read in a part of the heap, alike to one another -/
structure Itms (K : PySem.W.Frag) (Hb : Hp) (zs : List Itm) : Prop where
  dp : ∀ z ∈ zs, Dp K Hb z.1 z.2
  al : ∀ z ∈ zs, ∀ y ∈ zs, PySem.W.alike z.2 y.2 = true
  nn : ∀ z ∈ zs, z.2 ≠ .none
  dep : ∀ z ∈ zs, PyData.depth z.2 ≤ 40
theorem Itms.perm {K : PySem.W.Frag} {Hb : Hp} {zs ys : List Itm} (I : Itms K Hb zs) (h : ys.Perm zs) : Itms K Hb ys :=
  ⟨fun z hz => I.dp z (h.mem_iff.mp hz), fun z hz y hy => I.al z (h.mem_iff.mp hz) y (h.mem_iff.mp hy), fun z hz => I.nn z (h.mem_iff.mp hz), fun z hz => I.dep z (h.mem_iff.mp hz)⟩
theorem vals_set {xs : List V} {us : List Value} {x : V} {u : Value} (h : Vals xs us) (r : RelV x u) : ∀ i : Nat, Vals (xs.set i x) (us.set i u) := by
  induction h with
  | nil => intro i; exact .nil
  | cons h1 h2 ih =>
    intro i
    cases i with
    | zero => exact .cons r h2
    | succ i => exact .cons h1 (ih i)
theorem toA_set (us : List Value) (i : Nat) (u : Value) : us.toArray.setIfInBounds i u = (us.set i u).toArray := by simp
section
variable {X : Cx} {pins : List (Addr × Obj)} {σ : L2.St} {l : Addr} {Hb : Hp} {res : Value} {R : Result → Shared → Prop}
/-- the items of two places are swapped -/
theorem swap_inv {zs : List Itm} {H : Hp} {s : Shared} {its : List Value} {n i j : Nat} {x y : Itm} {u w : Value} (I : Inv X pins σ H s) (hH : H l = some (.lst (zs.map Prod.fst))) (rv : Vals (zs.map Prod.fst) its)
    (e : s.heap.get? l = some { cls := .type "list", data := .seq its.toArray n }) (hz : (zs.map Prod.fst).length ≤ sizeLine) (ru : RelV x.1 u) (rw' : RelV y.1 w) :
    Inv X pins σ (upd H l (.lst ((swp zs i j x y).map Prod.fst))) { s with heap := s.heap.update l (Obj.mapSeq fun xs => (xs.setIfInBounds i w).setIfInBounds j u) } := by
  have := I.lset (t' := s.toks) (its' := (its.set i w).set j u) (ys := (swp zs i j x y).map Prod.fst) (f := fun xs => (xs.setIfInBounds i w).setIfInBounds j u) hH e (by rw [toA_set, toA_set]) (by
    unfold swp
    rw [List.map_set, List.map_set]
    exact vals_set (vals_set rv rw' i) ru j) (by rw [List.length_map, swp_len, ← List.length_map (f := Prod.fst)]; exact hz)
  exact this
theorem sift_up (hu : X.A.units + 64 < cLine) (hb : Hb l = none) : ∀ (pos : Nat) {zs : List Itm} {H : Hp} {s : Shared}, pos < zs.length → Inv X pins σ H s → H l = some (.lst (zs.map Prod.fst)) → Same Hb H → Itms X.K Hb zs → UpOk zs pos →
    (∀ zs' s', zs'.Perm zs → HeapOk zs' → Inv X pins σ (upd H l (.lst (zs'.map Prod.fst))) s' → R (.ok (.ret res)) s') →
    codeAny (model X.prog X.w) X.A (.builtin "_heapq.heapify.sift" ⟨[.ref l, .bool false, .bool false, rawInt pos, rawInt 0, res, rawInt (-1)], []⟩) R s := by
  intro pos
  induction pos using Nat.strongRecOn with
  | ind pos ih =>
    intro zs H s hpos I hH hsub hI hU hR
    obtain ⟨z, its, n, rv, hl, e⟩ := I.lstM hH
    have hus : H = upd H l (.lst (zs.map Prod.fst)) := by
      funext b
      by_cases hb2 : b = l
      · rw [hb2, upd_same, hH]
      · rw [upd_ne hb2]
    refine codeAny_builtin entry_sift ?_
    rw [Around.under_plainId plain_sift _]
    show wpAny _ X.A.in1 ((seqItems? (.ref l) >>= _) >>= _) _ _ s
    refine wpAny_bind (wpAny_bind (wpAny_seqItems e rfl ?_))
    refine wpAny_pure ?_
    dsimp only
    rw [if_neg Bool.false_ne_true, Int.toNat_natCast]
    have hz : its.toArray.size = zs.length := by rw [List.size_toArray, ← hl, List.length_map]
    by_cases h0 : pos > Int.toNat 0
    · rw [if_pos h0]
      have h0' : 0 < pos := h0
      have hpp := par_lt h0'
      have hx : zs[pos]? = some zs[pos] := List.getElem?_eq_getElem hpos
      have hp : zs[par pos]? = some (zs[par pos]'(by omega)) := List.getElem?_eq_getElem (by omega)
      generalize zs[pos] = x at hx
      generalize zs[par pos]'(by omega) = p at hp
      obtain ⟨u, hu1, ru⟩ := rv.get (i := pos) (x := x.1) (by rw [List.getElem?_map, hx]; rfl)
      obtain ⟨w, hw1, rw'⟩ := rv.get (i := par pos) (x := p.1) (by rw [List.getElem?_map, hp]; rfl)
      have au : its.toArray[pos]? = some u := by simpa using hu1
      have aw : its.toArray[(pos - 1) / 2]? = some w := by simpa [par] using hw1
      have mx : x ∈ zs := List.mem_of_getElem? hx
      have mp : p ∈ zs := List.mem_of_getElem? hp
      obtain ⟨as, rx⟩ := Dp.reads I x.2 x.1 u (dp_same hsub _ _ (hI.dp x mx)) ru
      obtain ⟨bs, rp⟩ := Dp.reads I p.2 p.1 w (dp_same hsub _ _ (hI.dp p mp)) rw'
      have un : X.A.in1.units + min (PyData.depth x.2) (PyData.depth p.2) < cLine := by
        have h1 : X.A.in1.units = X.A.units + 1 := rfl
        have h2 := hI.dep x mx
        have h3 : min (PyData.depth x.2) (PyData.depth p.2) ≤ PyData.depth x.2 := Nat.min_le_left _ _
        omega
      refine wpAny_bind ?_
      show wpAny _ _ (match its.toArray[pos]? with | some v => pure v | none => _) _ _ _
      rw [au]
      refine wpAny_pure ?_
      refine wpAny_bind ?_
      show wpAny _ _ (match its.toArray[(pos - 1) / 2]? with | some v => pure v | none => _) _ _ _
      rw [aw]
      refine wpAny_pure ?_
      rw [if_neg Bool.false_ne_true]
      refine wpAny_bind ?_
      show wpAny _ _ (holding [u, w] (richCompare .Lt u w >>= _) >>= _) _ _ _
      refine wpAny_bind (wpAny_holding (wpAny_bind ?_))
      show wpAny _ _ (compareOp .Lt u w) _ _ _
      refine PySem.W.lt_data rx rp (hI.al x mx p mp) (hI.nn x mx) un ?_
      refine wpAny_truthy_bool ?_
      show wpAny _ _ ((seqItems? (.ref l) >>= _) >>= _) _ _ _
      refine wpAny_bind (wpAny_bind (wpAny_seqItems e rfl ?_))
      refine wpAny_pure ?_
      show wpAny _ _ (if (its.toArray.size != its.toArray.size) = true then _ else _) _ _ _
      rw [if_neg (by simp)]
      refine wpAny_pure ?_
      cases hlt : PySem.W.dataLt x.2 p.2 with
      | true =>
        rw [if_pos rfl]
        refine wpAny_bind ?_
        show wpAny _ _ ((seqItems? (.ref l) >>= _) >>= _) _ _ _
        refine wpAny_bind (wpAny_bind (wpAny_seqItems e rfl ?_))
        refine wpAny_pure ?_
        refine wpAny_bind ?_
        show wpAny _ _ (match its.toArray[(pos - 1) / 2]? with | some v => pure v | none => _) _ _ _
        rw [aw]
        refine wpAny_pure ?_
        refine wpAny_bind ?_
        show wpAny _ _ (match its.toArray[pos]? with | some v => pure v | none => _) _ _ _
        rw [au]
        refine wpAny_pure ?_
        refine wpAny_updateSeq e rfl ?_ (by rw [List.size_toArray, ← hl]; exact z) (by rw [Array.size_setIfInBounds, Array.size_setIfInBounds, List.size_toArray, ← hl]; omega)
        have I2 := swap_inv (i := par pos) (j := pos) I hH rv e z rw' ru
        refine wpAny_pure ⟨plainId_quiet plain_sift _, ih (par pos) hpp (zs := swp zs (par pos) pos p x) (H := upd H l (.lst ((swp zs (par pos) pos p x).map Prod.fst))) (by rw [swp_len]; omega) I2 upd_same (same_mut hsub hb) (hI.perm (swp_perm hp hx)) (up_step hU h0' hx hp hlt) fun zs' s' hperm hok I' => ?_⟩
        rw [upd_upd] at I'
        exact hR zs' s' (hperm.trans (swp_perm hp hx)) hok I'
      | false =>
        rw [if_neg Bool.false_ne_true, if_pos (by decide)]
        refine wpAny_pure (hR zs _ (.refl _) (up_done hU fun x' p' _ hx' hp' => ?_) (hus ▸ I))
        rw [hx] at hx'
        rw [hp] at hp'
        cases hx'; cases hp'
        intro y
        unfold ltZ at y
        rw [hlt] at y
        cases y
    · rw [if_neg h0, if_pos (by decide)]
      refine wpAny_pure (hR zs _ (.refl _) (up_done hU fun x p h => absurd h h0) (hus ▸ I))
theorem sift_down (hu : X.A.units + 64 < cLine) (hb : Hb l = none) : ∀ (k pos : Nat) {zs : List Itm} {H : Hp} {s : Shared}, zs.length - pos ≤ k → pos < zs.length → Inv X pins σ H s → H l = some (.lst (zs.map Prod.fst)) → Same Hb H → Itms X.K Hb zs → DownOk zs pos →
    (∀ zs' s', zs'.Perm zs → HeapOk zs' → Inv X pins σ (upd H l (.lst (zs'.map Prod.fst))) s' → R (.ok (.ret res)) s') →
    codeAny (model X.prog X.w) X.A (.builtin "_heapq.heapify.sift" ⟨[.ref l, .bool false, .bool true, rawInt pos, rawInt 0, res, rawInt (-1)], []⟩) R s := by
  intro k
  induction k with
  | zero =>
    intro pos zs H s hk hpos
    omega
  | succ k ih0 =>
    intro pos zs H s hk hpos I hH hsub hI hD hR
    have ih : ∀ pos', pos < pos' → pos' < zs.length → ∀ {zs' : List Itm} {H : Hp} {s : Shared}, zs'.length = zs.length → pos' < zs'.length → Inv X pins σ H s → H l = some (.lst (zs'.map Prod.fst)) → Same Hb H → Itms X.K Hb zs' → DownOk zs' pos' →
        (∀ zs'' s', zs''.Perm zs' → HeapOk zs'' → Inv X pins σ (upd H l (.lst (zs''.map Prod.fst))) s' → R (.ok (.ret res)) s') →
        codeAny (model X.prog X.w) X.A (.builtin "_heapq.heapify.sift" ⟨[.ref l, .bool false, .bool true, rawInt pos', rawInt 0, res, rawInt (-1)], []⟩) R s := fun pos' h1 h2 {zs' H s} h3 h4 => ih0 pos' (by omega) h4
    obtain ⟨z, its, n, rv, hl, e⟩ := I.lstM hH
    refine codeAny_builtin entry_sift ?_
    rw [Around.under_plainId plain_sift _]
    show wpAny _ X.A.in1 ((seqItems? (.ref l) >>= _) >>= _) _ _ s
    refine wpAny_bind (wpAny_bind (wpAny_seqItems e rfl ?_))
    refine wpAny_pure ?_
    dsimp only
    rw [if_pos rfl, Int.toNat_natCast]
    have hz : its.toArray.size = zs.length := by rw [List.size_toArray, ← hl, List.length_map]
    have hv : zs[pos]? = some zs[pos] := List.getElem?_eq_getElem hpos
    generalize zs[pos] = v at hv
    obtain ⟨u, hu1, rv'⟩ := rv.get (i := pos) (x := v.1) (by rw [List.getElem?_map, hv]; rfl)
    have av : its.toArray[pos]? = some u := by simpa using hu1
    by_cases h0 : pos < its.toArray.size / 2
    · rw [if_pos h0]
      have hx : zs[2 * pos + 1]? = some (zs[2 * pos + 1]'(by omega)) := List.getElem?_eq_getElem (by omega)
      generalize zs[2 * pos + 1]'(by omega) = x at hx
      obtain ⟨ux, hx1, rx'⟩ := rv.get (i := 2 * pos + 1) (x := x.1) (by rw [List.getElem?_map, hx]; rfl)
      have ax : its.toArray[2 * pos + 1]? = some ux := by simpa using hx1
      have mx : x ∈ zs := List.mem_of_getElem? hx
      have child : ∀ i a, 0 < i → par i = pos → zs[i]? = some a → i = 2 * pos + 1 ∨ i = 2 * pos + 1 + 1 := fun i a hi hp ha => by
        unfold par at hp
        omega
      by_cases h1 : 2 * pos + 1 + 1 < its.toArray.size
      · rw [if_pos h1]
        have hy : zs[2 * pos + 1 + 1]? = some (zs[2 * pos + 1 + 1]'(by omega)) := List.getElem?_eq_getElem (by omega)
        generalize zs[2 * pos + 1 + 1]'(by omega) = y at hy
        obtain ⟨uy, hy1, ry'⟩ := rv.get (i := 2 * pos + 1 + 1) (x := y.1) (by rw [List.getElem?_map, hy]; rfl)
        have ay : its.toArray[2 * pos + 1 + 1]? = some uy := by simpa using hy1
        have my : y ∈ zs := List.mem_of_getElem? hy
        obtain ⟨as, rx⟩ := Dp.reads I x.2 x.1 ux (dp_same hsub _ _ (hI.dp x mx)) rx'
        obtain ⟨bs, ry⟩ := Dp.reads I y.2 y.1 uy (dp_same hsub _ _ (hI.dp y my)) ry'
        have un : X.A.in1.units + min (PyData.depth x.2) (PyData.depth y.2) < cLine := by
          have h1 : X.A.in1.units = X.A.units + 1 := rfl
          have h2 := hI.dep x mx
          have h3 : min (PyData.depth x.2) (PyData.depth y.2) ≤ PyData.depth x.2 := Nat.min_le_left _ _
          omega
        refine wpAny_bind ?_
        show wpAny _ _ (match its.toArray[2 * pos + 1]? with | some v => pure v | none => _) _ _ _
        rw [ax]
        refine wpAny_pure ?_
        refine wpAny_bind ?_
        show wpAny _ _ (match its.toArray[2 * pos + 1 + 1]? with | some v => pure v | none => _) _ _ _
        rw [ay]
        refine wpAny_pure ?_
        rw [if_neg Bool.false_ne_true]
        refine wpAny_bind ?_
        show wpAny _ _ (holding [ux, uy] (richCompare .Lt ux uy >>= _) >>= _) _ _ _
        refine wpAny_bind (wpAny_holding (wpAny_bind ?_))
        show wpAny _ _ (compareOp .Lt ux uy) _ _ _
        refine PySem.W.lt_data rx ry (hI.al x mx y my) (hI.nn x mx) un ?_
        refine wpAny_truthy_bool ?_
        show wpAny _ _ ((seqItems? (.ref l) >>= _) >>= _) _ _ _
        refine wpAny_bind (wpAny_bind (wpAny_seqItems e rfl ?_))
        refine wpAny_pure ?_
        show wpAny _ _ (if (its.toArray.size != its.toArray.size) = true then _ else _) _ _ _
        rw [if_neg (by simp)]
        refine wpAny_pure ?_
        cases hlt : PySem.W.dataLt x.2 y.2 with
        | true =>
          rw [if_neg (by decide)]
          have hmin : ∀ i a, 0 < i → par i = pos → zs[i]? = some a → ¬ ltZ a x := fun i a hi hp ha => by
            rcases child i a hi hp ha with c | c
            · rw [c, hx] at ha
              cases ha
              exact ltZ_irr
            · rw [c, hy] at ha
              cases ha
              exact fun q => ltZ_asym hlt q
          refine wpAny_bind ?_
          show wpAny _ _ ((seqItems? (.ref l) >>= _) >>= _) _ _ _
          refine wpAny_bind (wpAny_bind (wpAny_seqItems e rfl ?_))
          refine wpAny_pure ?_
          refine wpAny_bind ?_
          show wpAny _ _ (match its.toArray[2 * pos + 1]? with | some v => pure v | none => _) _ _ _
          rw [ax]
          refine wpAny_pure ?_
          refine wpAny_bind ?_
          show wpAny _ _ (match its.toArray[pos]? with | some v => pure v | none => _) _ _ _
          rw [av]
          refine wpAny_pure ?_
          refine wpAny_updateSeq e rfl ?_ (by rw [List.size_toArray, ← hl]; exact z) (by rw [Array.size_setIfInBounds, Array.size_setIfInBounds, List.size_toArray, ← hl]; omega)
          have I2 := swap_inv (i := 2 * pos + 1) (j := pos) I hH rv e z rx' rv'
          refine wpAny_pure ⟨plainId_quiet plain_sift _, ih (2 * pos + 1) (by omega) (by omega) (zs' := swp zs (2 * pos + 1) pos x v) (H := upd H l (.lst ((swp zs (2 * pos + 1) pos x v).map Prod.fst))) swp_len (by rw [swp_len]; omega) I2 upd_same (same_mut hsub hb) (hI.perm (swp_perm hx hv)) (down_step hD (by omega) (by unfold par; omega) hv hx hmin) fun zs' s' hperm hok I' => ?_⟩
          rw [upd_upd] at I'
          exact hR zs' s' (hperm.trans (swp_perm hx hv)) hok I'
        | false =>
          rw [if_pos (by decide)]
          have hmin : ∀ i a, 0 < i → par i = pos → zs[i]? = some a → ¬ ltZ a y := fun i a hi hp ha => by
            rcases child i a hi hp ha with c | c
            · rw [c, hx] at ha
              cases ha
              intro q
              unfold ltZ at q
              rw [hlt] at q
              cases q
            · rw [c, hy] at ha
              cases ha
              exact ltZ_irr
          refine wpAny_bind ?_
          show wpAny _ _ ((seqItems? (.ref l) >>= _) >>= _) _ _ _
          refine wpAny_bind (wpAny_bind (wpAny_seqItems e rfl ?_))
          refine wpAny_pure ?_
          refine wpAny_bind ?_
          show wpAny _ _ (match its.toArray[2 * pos + 1 + 1]? with | some v => pure v | none => _) _ _ _
          rw [ay]
          refine wpAny_pure ?_
          refine wpAny_bind ?_
          show wpAny _ _ (match its.toArray[pos]? with | some v => pure v | none => _) _ _ _
          rw [av]
          refine wpAny_pure ?_
          refine wpAny_updateSeq e rfl ?_ (by rw [List.size_toArray, ← hl]; exact z) (by rw [Array.size_setIfInBounds, Array.size_setIfInBounds, List.size_toArray, ← hl]; omega)
          have I2 := swap_inv (i := 2 * pos + 1 + 1) (j := pos) I hH rv e z ry' rv'
          refine wpAny_pure ⟨plainId_quiet plain_sift _, ih (2 * pos + 1 + 1) (by omega) (by omega) (zs' := swp zs (2 * pos + 1 + 1) pos y v) (H := upd H l (.lst ((swp zs (2 * pos + 1 + 1) pos y v).map Prod.fst))) swp_len (by rw [swp_len]; omega) I2 upd_same (same_mut hsub hb) (hI.perm (swp_perm hy hv)) (down_step hD (by omega) (by unfold par; omega) hv hy hmin) fun zs' s' hperm hok I' => ?_⟩
          rw [upd_upd] at I'
          exact hR zs' s' (hperm.trans (swp_perm hy hv)) hok I'
      · rw [if_neg h1]
        have hmin : ∀ i a, 0 < i → par i = pos → zs[i]? = some a → ¬ ltZ a x := fun i a hi hp ha => by
          rcases child i a hi hp ha with c | c
          · rw [c, hx] at ha
            cases ha
            exact ltZ_irr
          · have := (List.getElem?_eq_some_iff.mp ha).1
            omega
        refine wpAny_bind ?_
        show wpAny _ _ ((seqItems? (.ref l) >>= _) >>= _) _ _ _
        refine wpAny_bind (wpAny_bind (wpAny_seqItems e rfl ?_))
        refine wpAny_pure ?_
        refine wpAny_bind ?_
        show wpAny _ _ (match its.toArray[2 * pos + 1]? with | some v => pure v | none => _) _ _ _
        rw [ax]
        refine wpAny_pure ?_
        refine wpAny_bind ?_
        show wpAny _ _ (match its.toArray[pos]? with | some v => pure v | none => _) _ _ _
        rw [av]
        refine wpAny_pure ?_
        refine wpAny_updateSeq e rfl ?_ (by rw [List.size_toArray, ← hl]; exact z) (by rw [Array.size_setIfInBounds, Array.size_setIfInBounds, List.size_toArray, ← hl]; omega)
        have I2 := swap_inv (i := 2 * pos + 1) (j := pos) I hH rv e z rx' rv'
        refine wpAny_pure ⟨plainId_quiet plain_sift _, ih (2 * pos + 1) (by omega) (by omega) (zs' := swp zs (2 * pos + 1) pos x v) (H := upd H l (.lst ((swp zs (2 * pos + 1) pos x v).map Prod.fst))) swp_len (by rw [swp_len]; omega) I2 upd_same (same_mut hsub hb) (hI.perm (swp_perm hx hv)) (down_step hD (by omega) (by unfold par; omega) hv hx hmin) fun zs' s' hperm hok I' => ?_⟩
        rw [upd_upd] at I'
        exact hR zs' s' (hperm.trans (swp_perm hx hv)) hok I'
    · rw [if_neg h0]
      refine wpAny_pure ⟨plainId_quiet plain_sift _, sift_up hu hb pos hpos I hH hsub hI (down_up hD (by omega)) hR⟩
end
/-- heappush(xs, x) -/
def rHPush (K : PySem.W.Frag) : List V → Hp → VK → Prop := fun vs H Q => ∃ (l : Addr) (zs : List Itm) (z : Itm) (Hb : Hp), vs = [.ref l, z.1] ∧ H l = some (.lst (zs.map Prod.fst)) ∧ Same Hb H ∧ Hb l = none ∧ Itms K Hb (zs ++ [z]) ∧ HeapOk zs ∧ zs.length < sizeLine ∧
  ∀ zs' : List Itm, zs'.Perm (zs ++ [z]) → HeapOk zs' → Q .non (upd H l (.lst (zs'.map Prod.fst)))
/-- heappop(xs) -/
def rHPop (K : PySem.W.Frag) : List V → Hp → VK → Prop := fun vs H Q => ∃ (l : Addr) (zs : List Itm) (Hb : Hp), vs = [.ref l] ∧ H l = some (.lst (zs.map Prod.fst)) ∧ Same Hb H ∧ Hb l = none ∧ Itms K Hb zs ∧ HeapOk zs ∧ zs ≠ [] ∧
  ∀ (z : Itm) (zs' : List Itm), (z :: zs').Perm zs → HeapOk zs' → (∀ y ∈ zs, ¬ ltZ y z) → Q z.1 (upd H l (.lst (zs'.map Prod.fst)))
section
variable {X : Cx}
theorem call_hpush (hu : X.A.units + 64 < cLine) : CallR X (.builtin "_heapq.heappush") (rHPush X.K) := by
  intro pins s σ H vs us Q I r h
  obtain ⟨l, zs, z, Hb, rfl, hH, hsub, hb, hI, hok, hlen, q⟩ := h
  obtain ⟨u1, u2, rfl, r1, r2⟩ : ∃ u1 u2, us = [u1, u2] ∧ RelV (.ref l) u1 ∧ RelV z.1 u2 := by
    cases r with
    | cons r1 rr =>
      cases rr with
      | cons r2 rr =>
        cases rr
        exact ⟨_, _, rfl, r1, r2⟩
  obtain rfl : u1 = Value.ref l := r1
  obtain ⟨hz, its, n, rv, hl, e⟩ := I.lstM hH
  refine kmb_tree (by decide +kernel) plain_push entry_push (args_push _ _) ?_
  have hT : s.TypeIs (.ref l) "list" := ⟨_, e, rfl⟩
  show wpAny _ _ ((noKeywords "_heapq.heappush" ⟨[.ref l, u2], []⟩ >>= _) >>= _) _ _ _
  refine wpAny_bind (wpAny_bind (wpAny_of_eq (a := ()) rfl ?_))
  refine wpAny_bind (wpAny_of_eq (a := ()) rfl ?_)
  show wpAny _ _ ((isInstance (.ref l) (.type "list") >>= _) >>= _) _ _ _
  refine wpAny_bind (wpAny_bind (wpAny_isInstance hT sub_list_self ?_))
  rw [if_pos rfl]
  refine wpAny_pure ?_
  refine wpAny_pure ?_
  dsimp only
  have hl2 : zs.length = its.length := by rw [← hl, List.length_map]
  refine wpAny_bind (wpAny_updateSeq e rfl ?_ (by rw [List.size_toArray, ← hl]; exact hz) (by rw [Array.size_push, List.size_toArray]; omega))
  have I2 := I.lset (t' := s.toks) (its' := its ++ [u2]) (ys := (zs ++ [z]).map Prod.fst) (f := fun xs => xs.push u2) hH e (by simp) (by
    rw [List.map_append]
    exact Vals.append rv (.cons r2 .nil)) (by rw [List.length_map, List.length_append, List.length_singleton]; omega)
  obtain ⟨hz2, its2, n2, rv2, hl3, e2⟩ := I2.lstM (upd_same (H := H) (a := l))
  show wpAny _ _ ((seqItems? (.ref l) >>= _) >>= _) _ _ _
  refine wpAny_bind (wpAny_bind (wpAny_seqItems e2 rfl ?_))
  refine wpAny_pure ?_
  have hs : its2.toArray.size - 1 = zs.length := by
    rw [List.size_toArray, ← hl3, List.length_map, List.length_append, List.length_singleton]
    rfl
  rw [hs]
  refine wpAny_pure ⟨plainId_quiet plain_sift _, sift_up hu hb zs.length (zs := zs ++ [z]) (by simp) I2 upd_same (same_mut hsub hb) hI (heap_push hok) fun zs' s' hp hk I' => ?_⟩
  rw [upd_upd] at I'
  exact ⟨.non, _, I', rfl, q zs' hp hk⟩
theorem call_hpop (hu : X.A.units + 64 < cLine) : CallR X (.builtin "_heapq.heappop") (rHPop X.K) := by
  intro pins s σ H vs us Q I r h
  obtain ⟨l, zs, Hb, rfl, hH, hsub, hb, hI, hok, hne, q⟩ := h
  obtain ⟨u1, rfl, r1⟩ : ∃ u1, us = [u1] ∧ RelV (.ref l) u1 := by
    cases r with
    | cons r1 rr =>
      cases rr
      exact ⟨_, rfl, r1⟩
  obtain rfl : u1 = Value.ref l := r1
  obtain ⟨hz, its, n, rv, hl, e⟩ := I.lstM hH
  refine kmb_tree (by decide +kernel) plain_pop entry_pop (args_pop _) ?_
  have hT : s.TypeIs (.ref l) "list" := ⟨_, e, rfl⟩
  show wpAny _ _ ((oneArg "_heapq.heappop" ⟨[.ref l], []⟩ >>= _) >>= _) _ _ _
  refine wpAny_bind (wpAny_bind (wpAny_of_eq (a := Value.ref l) rfl ?_))
  show wpAny _ _ ((isInstance (.ref l) (.type "list") >>= _) >>= _) _ _ _
  refine wpAny_bind (wpAny_bind (wpAny_isInstance hT sub_list_self ?_))
  rw [if_pos rfl]
  refine wpAny_pure ?_
  refine wpAny_pure ?_
  dsimp only
  have hl2 : zs.length = its.length := by rw [← hl, List.length_map]
  show wpAny _ _ ((seqItems? (.ref l) >>= _) >>= _) _ _ _
  refine wpAny_bind (wpAny_bind (wpAny_seqItems e rfl ?_))
  refine wpAny_pure ?_
  -- the last item
  obtain ⟨ys, y, rfl⟩ : ∃ ys y, zs = ys ++ [y] := ⟨zs.dropLast, zs.getLast hne, (List.dropLast_concat_getLast hne).symm⟩
  obtain ⟨ws, w, rfl⟩ : ∃ ws w, its = ws ++ [w] := by
    have : its ≠ [] := by
      rintro rfl
      simp at hl2
    exact ⟨its.dropLast, its.getLast this, (List.dropLast_concat_getLast this).symm⟩
  have hl4 : ys.length = ws.length := by
    rw [List.length_append, List.length_append] at hl2
    simpa using hl2
  have rvy : Vals (ys.map Prod.fst) ws := by
    have := rv.take ys.length
    rw [List.map_append, List.take_left' (by rw [List.length_map]), List.take_left' hl4.symm] at this
    exact this
  have rvl : RelV y.1 w := by
    obtain ⟨u, hu1, ru⟩ := rv.get (i := ys.length) (x := y.1) (by rw [List.map_append, List.getElem?_append_right (by rw [List.length_map]; exact Nat.le_refl _), List.length_map, Nat.sub_self]; rfl)
    rw [hl4, List.getElem?_append_right (Nat.le_refl _), Nat.sub_self] at hu1
    cases hu1
    exact ru
  have hbk : (ws ++ [w]).toArray.back? = some w := by simp
  rw [hbk]
  dsimp only
  refine wpAny_bind (wpAny_updateSeq e rfl ?_ (by rw [List.size_toArray, ← hl]; exact hz) (by rw [Array.size_pop, List.size_toArray, ← hl]; omega))
  have hzy : (ys.map Prod.fst).length ≤ sizeLine := by
    rw [List.map_append, List.length_append] at hz
    omega
  have I2 := I.lset (t' := s.toks) (its' := ws) (ys := ys.map Prod.fst) (f := fun xs => xs.pop) hH e (by simp) rvy hzy
  have hsz : (ws ++ [w]).toArray.size = ys.length + 1 := by simp [hl4]
  rw [hsz]
  cases ys with
  | nil =>
    rw [if_pos (by rfl)]
    refine wpAny_pure ⟨y.1, _, I2, rvl, q y [] (.refl _) heap_nil fun x hx => ?_⟩
    obtain rfl : x = y := by simpa using hx
    exact ltZ_irr
  | cons z0 r0 =>
    rw [if_neg (by simp)]
    obtain ⟨w0, ws', rfl⟩ : ∃ w0 ws', ws = w0 :: ws' := by
      cases ws with
      | nil => simp at hl4
      | cons a b => exact ⟨a, b, rfl⟩
    have rv0 : RelV z0.1 w0 := by
      cases rvy with
      | cons h1 h2 => exact h1
    have h0 : (w0 :: ws' ++ [w]).toArray[0]? = some w0 := by simp
    generalize (w0 :: ws' ++ [w]).toArray = arr at h0
    refine wpAny_bind ?_
    show wpAny _ _ (match arr[0]? with | some v => pure v | none => _) _ _ _
    rw [h0]
    refine wpAny_pure ?_
    obtain ⟨hz2, its2, n2, rv2, hl3, e2⟩ := I2.lstM (upd_same (H := H) (a := l))
    refine wpAny_bind (wpAny_updateSeq e2 rfl ?_ (by rw [List.size_toArray, ← hl3]; exact hz2) (by rw [Array.size_setIfInBounds, List.size_toArray, ← hl3]; omega))
    have I3 := I2.lset (t' := s.toks) (its' := its2.set 0 w) (ys := ((z0 :: r0).set 0 y).map Prod.fst) (f := fun xs => xs.setIfInBounds 0 w) upd_same e2 (by rw [toA_set]) (by
      rw [List.map_set]
      exact vals_set rv2 rvl 0) (by rw [List.length_map, List.length_set, ← List.length_map (f := Prod.fst)]; exact hz2)
    rw [upd_upd] at I3
    refine wpAny_pure ⟨plainId_quiet plain_sift _, sift_down (pos := 0) hu hb (k := r0.length + 1) (zs := (z0 :: r0).set 0 y) (by simp) (by simp) I3 upd_same (same_mut hsub hb) ?_ (heap_pop hok) fun zs' s' hp hk I' => ?_⟩
    · have hm : ∀ x ∈ (z0 :: r0).set 0 y, x ∈ z0 :: r0 ++ [y] := fun x hx => by
        rw [List.set_cons_zero] at hx
        rcases List.mem_cons.mp hx with c | c
        · exact c ▸ List.mem_append_right _ (List.mem_singleton.mpr rfl)
        · exact List.mem_append_left _ (List.mem_cons_of_mem _ c)
      exact ⟨fun x hx => hI.dp x (hm x hx), fun x hx y' hy' => hI.al x (hm x hx) y' (hm y' hy'), fun x hx => hI.nn x (hm x hx), fun x hx => hI.dep x (hm x hx)⟩
    · rw [upd_upd] at I'
      refine ⟨z0.1, _, I', rv0, q z0 zs' ?_ hk fun x hx => ?_⟩
      · rw [List.set_cons_zero] at hp
        rw [List.cons_append]
        exact .cons z0 (hp.trans (List.perm_append_singleton y r0).symm)
      · obtain ⟨i, hi⟩ := List.mem_iff_getElem?.mp hx
        exact heap_min hok rfl i x hi
end
end Rc
/-! part RcA5 -/
/-! margin. -/
namespace Rc
open PySem PySem.Spec PyProof.Rows L2
structure TxtR (K : PySem.W.Frag) (mg : Str → Option Value) (R : Addr) : Prop where
  q : PySem.W.excIn K R [.type "ValueError", .type "Exception", .type "BaseException", .type "object"] "ValueError.__new__" = true
  kp : PySem.W.keepIn K (.ref R) = true
  bs : PySem.W.subIn K (.ref R) (.type "BaseException") = some true
  ty : PySem.W.typeIn K (.ref R) = some (.type "type")
  mgR : mg "NoRoad" = some (.ref R)
def inOut (b : Bool) : V := if b = true then .str "in" else .str "out"
/-- what is told of a road; or the places that are left; or that it is no road -/
def spMargin (K : PySem.W.Frag) (C B R TL TR : Addr) : Sp := fun vs H Q E => ∃ (p : Addr) (n root : Int) (rows : List Row) (j : Int), vs = [.ref p, .int j] ∧ MapAt K C H p n root rows ∧ ChartOk n root rows ∧ j.natAbs ≤ 1000 ∧ LamX.TabS H TL lamQ ∧ GxR.TabG H TR ∧ TL ≠ TR ∧
  (¬ (0 ≤ j ∧ j < (rows.length : Int)) → ∀ H', Same H H' → E (.ref R) none H') ∧
  (0 ≤ j → j < (rows.length : Int) → ∀ d l H' (ns : List Int), Tb TL TR H H' → H d = none → H' d = some (.xd [("left", .ref l)]) → H' l = some (.lst (ns.map V.int)) → (∀ v, v ∈ ns ↔ 0 ≤ v ∧ v < n ∧ ¬ Reach rows root v) → ns.Pairwise (fun a b => a < b) → ns ≠ [] → E (.ref B) (some d) H') ∧
  (0 ≤ j → j < (rows.length : Int) → ∀ t H' (ns : List Int) (prs : List Pr) (far : Option Int), Tb TL TR H H' → H t = none → H' t = some (.tup [inOut (decide (j ∈ ns)), optV far]) → Cheap n root rows ns prs → MarginIs n root (idx rows.length) (rowAt rows) j ns far → Q (.ref t) H')
section
variable {P : Program} {w : World} {K : PySem.W.Frag} {mg : Str → Option Value} {base : Heap}
theorem ok_margin {f C B R TL TR : Addr} {fd : FuncData} {k : Nat} (F : Fun K "margin" "margin" s_margin f fd) (TM : TxtM K mg C) (T : TxtR K mg R) (hRo : HasM P w K mg base C "roads" ["self"] k (spRoads K C)) (hCh : HasN P w K mg base "cheapest" ["chart"] k (spCheap K C B TL TR))
    (hO : Has P w K mg base "least_without" ["chart", "road"] k (spLeastOf K C TL TR LeastOut)) (hW : Has P w K mg base "least_with" ["chart", "road"] k (spLeastOf K C TL TR LeastWith)) (hD : Has P w K mg base "how_much_more" ["least", "cost"] k spMore) :
    FnOk P w K mg base (L2N.CX P w) (k + 1) f fd ["chart", "road"] (spMargin K C B R TL TR) := by
  obtain ⟨fR, fdR, mR, bR, GR⟩ := hRo
  obtain ⟨fCh, fdCh, gCh, kCh, bCh, GCh⟩ := hCh
  obtain ⟨fO, fdO, gO, kO, bO, GO⟩ := hO
  obtain ⟨fW, fdW, gW, kW, bW, GW⟩ := hW
  obtain ⟨fD, fdD, gD, kD, bD, GD⟩ := hD
  refine Fun.okN F sc_margin (fun vs H Q E h => ?_) (fun cdv A outer s H vs Q E hr h tk => ?_)
  · obtain ⟨p, n, root, rows, j, rfl, _⟩ := h
    rfl
  · obtain ⟨p, n, root, rows, j, rfl, hM, ok, jl, tl, tr, ne, qR, qE, q⟩ := h
    refine ⟨_, (pss_cons (ps_if (pt_not (pt_chain op_le op_lt pe_int (pv 1) (pe_callB call_len_seq (by rfl) TM.len PySem.boot_len (pa_cons (pe_meth0 (pv 0) TM.cl mR GR hr bR .nil pass0) pa_nil))))
   (pss_one (L2N.ps_raise rfl tk (mk_own1N PySem.F.excBase_ValueError T.q T.mgR T.kp (raises_own T.bs T.ty) (by rfl) (pe_joined (.cons pe_str (.cons (pe_fmt (pv 1)) .nil))))))
   pss_nil)
  (pss_cons (ps_asg (pe_call GCh hr (by rfl) gCh kCh bCh .nil (L2N.passes_call tk (E := E) fun _ _ _ _ h => h) (pa_cons (pv 0) pa_nil)) (pg_tup (by rfl) (pgs_cons (pg_name (i := 2) sc_margin.nd rfl (Or.inl rfl)) (pgs_cons (pg_name (i := 3) sc_margin.nd rfl (Or.inl rfl)) (pgs_cons (pg_name (i := 4) sc_margin.nd rfl (Or.inl rfl)) pgs_nil)))))
  (pss_cons (ps_if (pt_cmpR op_in_seq (pv 1) (pv 2) (by rfl))
   (pss_one (ps_ret (pe_tup (pa_cons pe_str (pa_cons (pe_call GD hr (by rfl) gD kD bD .nil pass0 (pa_cons (pe_call GO hr (by rfl) gO kO bO .nil pass0 (pa_cons (pv 0) (pa_cons (pv 1) pa_nil))) (pa_cons (pv 3) pa_nil))) pa_nil)))))
   pss_nil)
  (pss_one (ps_ret (pe_tup (pa_cons pe_str (pa_cons (pe_call GD hr (by rfl) gD kD bD .nil pass0 (pa_cons (pe_call GW hr (by rfl) gW kW bW .nil pass0 (pa_cons (pv 0) (pa_cons (pv 1) pa_nil))) (pa_cons (pv 3) pa_nil))) pa_nil)))))))), ?_⟩
    have e1 : ("no road has the number " : Str).length = 23 := by decide +kernel
    have e0 : Str.empty.length = 0 := by decide +kernel
    have e3 : (Str.ofString (toString j)).length ≤ 1921 := by
      have := int_text_length_le (a := j) (k := 1920) (by decide) (log_small jl)
      rw [PySem.ofString_length]
      exact this
    obtain ⟨dx, l0, hp0, _⟩ := id hM
    have go : ∀ (H1 : Hp), Same H H1 → ¬ (0 ≤ j ∧ j < (rows.length : Int)) → E (.ref R) none H1 := fun H1 e h => qR h H1 e
    refine ⟨_, rfl, _, _, rfl, rfl, _, rfl, ite2 (fun c1 => ?_) (fun c1 => ?_)⟩
    case refine_2 =>
      have j0 : ¬ 0 ≤ j := fun z => c1 (decide_eq_true z)
      refine ⟨_, rfl, ite2 (fun _ => ?_) (fun z => absurd rfl z)⟩
      refine ⟨_, rfl, small_line ?_, _, rfl, .inr ⟨j, rfl, log_small jl, _, rfl, small_line ?_, go H same_refl fun z => j0 z.1⟩⟩
      · rw [Str.length_append, e0, e1]
        decide
      · rw [Str.length_append, Str.length_append, e0, e1]
        have e4 : ((toString j : String) : Str).length ≤ 1921 := e3
        omega
    have j0 := of_decide_eq_true c1
    refine ⟨_, rfl, p, dx, _, rfl, hp0, lk_roads, p, n, root, rows, rfl, hM, fun l xs hl hXA => ?_⟩
    have hxl : xs.length = rows.length := by rw [dpAll_len hXA, List.length_map]
    have s1 : Same H (upd H l (.lst xs)) := same_new hl
    refine ⟨_, _, rfl, .inl (.of upd_same), _, _, rfl, rfl, _, rfl, ite2 (fun c2 => ?_) (fun c2 => ?_)⟩
    · have j1 : ¬ j < (rows.length : Int) := fun z => by
        rw [hxl, decide_eq_true z] at c2
        cases c2
      refine ⟨_, rfl, small_line ?_, _, rfl, .inr ⟨j, rfl, log_small jl, _, rfl, small_line ?_, go _ s1 fun z => j1 z.2⟩⟩
      · rw [Str.length_append, e0, e1]
        decide
      · rw [Str.length_append, Str.length_append, e0, e1]
        have e4 : ((toString j : String) : Str).length ≤ 1921 := e3
        omega
    have j1 : j < (rows.length : Int) := by
      rw [hxl] at c2
      simpa using c2
    have hM1 := hM.same s1
    have T1 : Tb TL TR H (upd H l (.lst xs)) := Tb.start tl tr s1
    generalize upd H l (.lst xs) = H1 at s1 hM1 T1
    refine ⟨_, rfl, p, n, root, rows, rfl, hM1, ok, T1.tl, T1.tr, ne, fun d2 l2 H' ns tb hd2 hxd hl2 hns hup hne => qE j0 j1 d2 l2 H' ns (T1.trans tb) (s1.free hd2) hxd hl2 hns hup hne, fun t H2 ns prs tb hD2 hreach Cp => ?_⟩
    obtain ⟨l1, l2, ys, h1, h2, h3, h4, h5, h6, h7, h8⟩ := hD2
    have T2 := T1.trans tb
    have hM2 := map_tb T1.tl T1.tr tb hM1
    refine ⟨t, _, rfl, .of h1, rfl, _, _, rfl, _, _, rfl, _, _, rfl, rfl, ?_⟩
    have hc : costOf rows ns = costOfK (rowAt rows) ns := (cost_rowAt rows ns).symm
    refine ⟨_, rfl, _, rfl, l1, _, rfl, .inl (.of h2), rfl, flat_ints ns, _, rfl, ite2 (fun c3 => ?_) (fun c3 => ?_)⟩
    · have hj : j ∈ ns := inV_ints.mp c3
      refine ⟨_, rfl, _, rfl, p, n, root, rows, j, rfl, hM2, ok, j0, j1, T2.tl, T2.tr, ne, fun o H3 tb3 L => ?_⟩
      refine ⟨_, rfl, o, costOf rows ns, rfl, (by show 2 ≤ sizeLine; decide), fun t4 ht4 => ?_⟩
      have T3 := T2.trans tb3
      rw [hc]
      refine q j0 j1 t4 _ ns prs _ (T3.same (same_new ht4)) (T3.free ht4) ?_ Cp (margin_of_out hj L)
      rw [upd_same, decide_eq_true hj]
      rfl
    · have hj : j ∉ ns := fun z => c3 (inV_ints.mpr z)
      refine ⟨_, rfl, _, rfl, p, n, root, rows, j, rfl, hM2, ok, j0, j1, T2.tl, T2.tr, ne, fun o H3 tb3 L => ?_⟩
      refine ⟨_, rfl, o, costOf rows ns, rfl, (by show 2 ≤ sizeLine; decide), fun t4 ht4 => ?_⟩
      have T3 := T2.trans tb3
      rw [hc]
      refine q j0 j1 t4 _ ns prs _ (T3.same (same_new ht4)) (T3.free ht4) ?_ Cp (margin_of_with hj L)
      rw [upd_same, decide_eq_false hj]
      rfl
end
end Rc
/-! part RcA6 -/
/-! always, roots. -/
namespace Rc
open PySem PySem.Spec PyProof.Rows L2
theorem cost_nonneg {rw : Int → Row} (pos : ∀ k, 0 ≤ (rw k).c) : ∀ js : List Int, 0 ≤ costOfK rw js
  | [] => by simp [costOfK]
  | k :: js => by
    have ih := cost_nonneg pos js
    have := pos k
    have e : costOfK rw (k :: js) = (rw k).c + costOfK rw js := by
      unfold costOfK
      rw [List.map_cons, List.sum_cons]
    omega
theorem rowAt_pos {n root : Int} {rows : List Row} (ok : ChartOk n root rows) (k : Int) : 0 ≤ (rowAt rows k).c := by
  unfold rowAt
  rw [List.getD_eq_getElem?_getD]
  cases e : rows[k.toNat]? with
  | none => exact Int.le_refl _
  | some r => exact (ok.rows r (List.mem_of_getElem? e)).c0
/-- which of the three lists a road stands in: 0 all have it, 1 some, 2 none -/
def Kind (n root : Int) (rows : List Row) (j : Int) (c : Nat) : Prop := ∃ a b : Option Int, LeastWith n root (idx rows.length) (rowAt rows) j a ∧ LeastOut n root (idx rows.length) (rowAt rows) j b ∧ ∃ least, (∃ ns, LeastT n root (idx rows.length) (rowAt rows) ns ∧ least = costOfK (rowAt rows) ns) ∧
  c = if a = some least then (if b = some least then 1 else 0) else 2
/-- the roads below i of the kind c -/
def kinds (g : Nat → Nat) (c i : Nat) : List Int := flt (fun j => decide (g j = c)) i
theorem kinds_succ (g : Nat → Nat) (c i : Nat) : kinds g c (i + 1) = if g i = c then kinds g c i ++ [(i : Int)] else kinds g c i := by
  unfold kinds
  rw [flt_succ]
  by_cases h : g i = c
  · rw [if_pos (decide_eq_true h), if_pos h]
  · rw [if_neg (fun z => h (of_decide_eq_true z)), if_neg h]
theorem kinds_len (g : Nat → Nat) (c i : Nat) : (kinds g c i).length ≤ i := flt_len _ _
/-- there is such a least cost -/
theorem leastOut_ex (n root : Int) (ks : List Int) (rw : Int → Row) (j : Int) (pos : ∀ k, 0 ≤ (rw k).c) : ∃ o, LeastOut n root ks rw j o := by
  by_cases h : ∃ js, TreeIn n root ks rw js ∧ j ∉ js
  · have key : ∀ m : Nat, (∃ js, TreeIn n root ks rw js ∧ j ∉ js ∧ costOfK rw js ≤ (m : Int)) → ∃ o, LeastOut n root ks rw j o := fun m => by
      induction m with
      | zero =>
        rintro ⟨js, t, hj, hc⟩
        refine ⟨some (costOfK rw js), ⟨js, t, hj, rfl⟩, fun is ti _ => ?_⟩
        have := cost_nonneg pos is
        omega
      | succ m ih =>
        rintro ⟨js, t, hj, hc⟩
        by_cases c : ∃ is, TreeIn n root ks rw is ∧ j ∉ is ∧ costOfK rw is ≤ (m : Int)
        · exact ih c
        · refine ⟨some (costOfK rw js), ⟨js, t, hj, rfl⟩, fun is ti hi => ?_⟩
          have := Int.not_le.mp fun z => c ⟨is, ti, hi, z⟩
          omega
    obtain ⟨js, t, hj⟩ := h
    have := cost_nonneg pos js
    exact key (costOfK rw js).toNat ⟨js, t, hj, by omega⟩
  · exact ⟨none, fun js t => Classical.byContradiction fun z => h ⟨js, t, z⟩⟩
/-- three lists of numbers, new -/
def ThreeAt (H H' : Hp) (t : Addr) (f : Nat → List Int) : Prop := ∃ l0 l1 l2 : Addr, H' t = some (.tup [.ref l0, .ref l1, .ref l2]) ∧ H' l0 = some (.lst ((f 0).map V.int)) ∧ H' l1 = some (.lst ((f 1).map V.int)) ∧ H' l2 = some (.lst ((f 2).map V.int)) ∧ H t = none ∧ H l0 = none ∧ H l1 = none ∧ H l2 = none ∧ l0 ≠ l1 ∧ l0 ≠ l2 ∧ l1 ≠ l2
/-- the three lists are told; or the places that are left -/
def spAlways (K : PySem.W.Frag) (C B TL TR : Addr) : Sp := fun vs H Q E => ∃ (p : Addr) (n root : Int) (rows : List Row), vs = [.ref p] ∧ MapAt K C H p n root rows ∧ ChartOk n root rows ∧ LamX.TabS H TL lamQ ∧ GxR.TabG H TR ∧ TL ≠ TR ∧
  (∀ d l H' (ns : List Int), Tb TL TR H H' → H d = none → H' d = some (.xd [("left", .ref l)]) → H' l = some (.lst (ns.map V.int)) → (∀ v, v ∈ ns ↔ 0 ≤ v ∧ v < n ∧ ¬ Reach rows root v) → ns.Pairwise (fun a b => a < b) → ns ≠ [] → E (.ref B) (some d) H') ∧
  ∀ t H' (ns : List Int) (prs : List Pr) (g : Nat → Nat), Tb TL TR H H' → ThreeAt H H' t (fun c => kinds g c rows.length) → (∀ j : Nat, j < rows.length → Kind n root rows (j : Int) (g j)) → Cheap n root rows ns prs → Q (.ref t) H'
/-- for each place what the cheapest tree from it costs -/
def spRoots (K : PySem.W.Frag) (C TL TR : Addr) : Sp := fun vs H Q _ => ∃ (p : Addr) (n root : Int) (rows : List Row), vs = [.ref p] ∧ MapAt K C H p n root rows ∧ ChartOk n root rows ∧ LamX.TabS H TL lamQ ∧ GxR.TabG H TR ∧ TL ≠ TR ∧
  ∀ l H' (os : List (Option Int)), Tb TL TR H H' → H l = none → H' l = some (.lst (os.map optV)) → (os.length : Int) = n → (∀ (i : Nat) o, os[i]? = some o → LeastIs n (i : Int) (idx rows.length) (rowAt rows) o) → Q (.ref l) H'
section
variable {P : Program} {w : World} {K : PySem.W.Frag} {mg : Str → Option Value} {base : Heap}
theorem ne_opt {o : Option Int} {c : Int} : (!decide (optV o = V.int c)) = !decide (o = some c) := by
  cases o with
  | none => rfl
  | some i =>
    show (!decide (V.int i = V.int c)) = _
    rw [int_eq_decide]
    congr 1
    by_cases h : i = c
    · rw [decide_eq_true h, decide_eq_true (by rw [h])]
    · rw [decide_eq_false h, decide_eq_false (fun z => h (Option.some.inj z))]
theorem scal_opt {o : Option Int} {c : Int} : scal (optV o) (.int c) = true := by cases o <;> rfl
/-- three lists that grow, apart from all else -/
structure Three (TL TR : Addr) (H H' : Hp) (l0 l1 l2 : Addr) (f : Nat → List Int) : Prop where
  tb : Tb TL TR H H'
  h0 : H' l0 = some (.lst ((f 0).map V.int))
  h1 : H' l1 = some (.lst ((f 1).map V.int))
  h2 : H' l2 = some (.lst ((f 2).map V.int))
  n0 : H l0 = none
  n1 : H l1 = none
  n2 : H l2 = none
  d01 : l0 ≠ l1
  d02 : l0 ≠ l2
  d12 : l1 ≠ l2
theorem Tb.off {TL TR p : Addr} {H H' : Hp} {xs : List V} {o : HO} (T : Tb TL TR H H') (h : H p = none) (hp : H' p = some (.lst xs)) : Tb TL TR H (upd H' p o) := by
  have nL : TL ≠ p := fun z => by
    obtain ⟨ps, e, _⟩ := T.tl
    rw [z, hp] at e
    cases e
  have nR : TR ≠ p := fun z => by
    obtain ⟨ps, e, _⟩ := T.tr
    rw [z, hp] at e
    cases e
  refine ⟨fun b u n1 n2 e => ?_, St5.tab_put T.tl hp, ?_⟩
  · rw [upd_ne (ne_of_none e h)]
    exact T.old b u n1 n2 e
  · obtain ⟨ps, e, t⟩ := T.tr
    exact ⟨ps, by rw [upd_ne nR]; exact e, t⟩
theorem Three.put {TL TR : Addr} {H H' : Hp} {l0 l1 l2 : Addr} {f f' : Nat → List Int} {j : Int} (S : Three TL TR H H' l0 l1 l2 f) (c : Nat) (hc : c < 3) (h1 : f' c = f c ++ [j]) (h2 : ∀ c', c' ≠ c → f' c' = f c') :
    Three TL TR H (upd H' (if c = 0 then l0 else if c = 1 then l1 else l2) (.lst ((f c).map V.int ++ [.int j]))) l0 l1 l2 f' := by
  obtain ⟨tb, a0, a1, a2, n0, n1, n2, d01, d02, d12⟩ := S
  have em : (f c).map V.int ++ [.int j] = (f' c).map V.int := by rw [h1, List.map_append]; rfl
  rw [em]
  match c, hc with
  | 0, _ =>
    rw [if_pos rfl]
    exact ⟨tb.off n0 a0, by rw [upd_same], by rw [upd_ne (Ne.symm d01), h2 1 (by decide)]; exact a1, by rw [upd_ne (Ne.symm d02), h2 2 (by decide)]; exact a2, n0, n1, n2, d01, d02, d12⟩
  | 1, _ =>
    rw [if_neg (by decide), if_pos rfl]
    exact ⟨tb.off n1 a1, by rw [upd_ne d01, h2 0 (by decide)]; exact a0, by rw [upd_same], by rw [upd_ne (Ne.symm d12), h2 2 (by decide)]; exact a2, n0, n1, n2, d01, d02, d12⟩
  | 2, _ =>
    rw [if_neg (by decide), if_neg (by decide)]
    exact ⟨tb.off n2 a2, by rw [upd_ne d02, h2 0 (by decide)]; exact a0, by rw [upd_ne d12, h2 1 (by decide)]; exact a1, by rw [upd_same], n0, n1, n2, d01, d02, d12⟩
  | c + 3, h => omega
theorem tb_lst {TL TR p : Addr} {H H' : Hp} {xs : List V} (tl : LamX.TabS H TL lamQ) (tr : GxR.TabG H TR) (T : Tb TL TR H H') (h : H p = some (.lst xs)) : H' p = some (.lst xs) := T.old p _ (fun z => by
    obtain ⟨ps, e, _⟩ := tl
    rw [← z, h] at e
    cases e) (fun z => by
    obtain ⟨ps, e, _⟩ := tr
    rw [← z, h] at e
    cases e) h
theorem Three.go {TL TR : Addr} {H H' H2 : Hp} {l0 l1 l2 : Addr} {f : Nat → List Int} (S : Three TL TR H H' l0 l1 l2 f) (T : Tb TL TR H' H2) : Three TL TR H H2 l0 l1 l2 f := by
  obtain ⟨tb, a0, a1, a2, n0, n1, n2, d01, d02, d12⟩ := S
  exact ⟨tb.trans T, tb_lst tb.tl tb.tr T a0, tb_lst tb.tl tb.tr T a1, tb_lst tb.tl tb.tr T a2, n0, n1, n2, d01, d02, d12⟩
end
end Rc
/-! part RcA8 -/
/-! best: the queue of parts. -/
namespace Rc
open PySem PySem.Spec PyProof.Rows L2
def mQ (TL TR q f : Addr) : Addr → Prop := fun b => b = TL ∨ b = TR ∨ b = q ∨ b = f
def pairD (rw : Int → Row) (js : List Int) : PyData := .tuple [intsD js, .int (costOfK rw js)]
/-- heapq's two functions are known by their names -/
structure TxtH (mg : Str → Option Value) : Prop where
  pop : mg "heappop" = some (.builtin "_heapq.heappop")
  push : mg "heappush" = some (.builtin "_heapq.heappush")
theorem keys_intD (ks : List Int) (f : Int → V) : ((intD ks f).map fun kv => kV kv.1) = ks.map V.int := by
  unfold intD
  rw [List.map_map]
  rfl
structure QS (K : PySem.W.Frag) (TL TR q f dk : Addr) (H H' : Hp) (n root : Int) (ks : List Int) (rw : Int → Row) (tw : Int → Addr) (zs : List Itm) (fs : List V) (L : List (List Int)) (Ss : List (List Int → Prop)) : Prop where
  tb : Tb TL TR H H'
  nq : H q = none
  nf : H f = none
  qf : q ≠ f
  hq : H' q = some (.lst (zs.map Prod.fst))
  hf : H' f = some (.lst fs)
  kn : RoadsAt K (sans (mQ TL TR q f) H') dk ks rw tw
  its : ∀ z ∈ zs, ∃ kept ns, z.2 = itemD rw kept ns ∧ Dp K (sans (mQ TL TR q f) H') z.1 z.2 ∧ (∀ k ∈ kept, k ∈ ks) ∧ ChartK n root kept rw ∧ Firsts rw (TreeIn n root kept rw) ns
  ok : HeapOk zs
  fd : DpAll K (sans (mQ TL TR q f) H') fs (L.map (pairD rw))
  cv : Cov n root ks rw L (Ss ++ zs.map fun z => PartD n root rw z.2)
  few : zs.length + Ss.length ≤ 1 + 19 * L.length
theorem core_go {TL TR q f : Addr} {H H' : Hp} (T : Tb TL TR H H') : Same (sans (mQ TL TR q f) H) (sans (mQ TL TR q f) H') := part_same fun b o n h => T.old b o (fun z => n (.inl z)) (fun z => n (.inr (.inl z))) h
section
variable {K : PySem.W.Frag} {TL TR q f dk : Addr} {H H' H2 : Hp} {n root : Int} {ks : List Int} {rw : Int → Row} {tw : Int → Addr} {zs : List Itm} {fs : List V} {L : List (List Int)} {Ss : List (List Int → Prop)}
theorem QS.go (S : QS K TL TR q f dk H H' n root ks rw tw zs fs L Ss) (T : Tb TL TR H' H2) : QS K TL TR q f dk H H2 n root ks rw tw zs fs L Ss := by
  have e := core_go (q := q) (f := f) T
  exact ⟨S.tb.trans T, S.nq, S.nf, S.qf, tb_lst S.tb.tl S.tb.tr T S.hq, tb_lst S.tb.tl S.tb.tr T S.hf, S.kn.same e, (fun z hz => by
    obtain ⟨a, b, h1, h2, h3⟩ := S.its z hz
    exact ⟨a, b, h1, dp_same e _ _ h2, h3⟩), S.ok, dpAll_same e _ _ S.fd, S.cv, S.few⟩
theorem QS.same (S : QS K TL TR q f dk H H' n root ks rw tw zs fs L Ss) (e : Same H' H2) : QS K TL TR q f dk H H2 n root ks rw tw zs fs L Ss := S.go (Tb.start S.tb.tl S.tb.tr e)
theorem itms_of {G : Hp} {zs : List Itm} (h : ∀ z ∈ zs, ∃ a b, z.2 = itemD rw a b ∧ Dp K G z.1 z.2) : Itms K G zs :=
  ⟨(fun z hz => by
    obtain ⟨a, b, h1, h2⟩ := h z hz
    exact h2), (fun z hz y hy => by
    obtain ⟨a, b, h1, h2⟩ := h z hz
    obtain ⟨c, d, h4, h5⟩ := h y hy
    rw [h1, h4]
    exact alike_itemD _ _ _ _), (fun z hz => by
    obtain ⟨a, b, h1, h2⟩ := h z hz
    rw [h1]
    exact fun z => nomatch z), (fun z hz => by
    obtain ⟨a, b, h1, h2⟩ := h z hz
    rw [h1]
    have := (num_ok 2 _ (num_itemD (rw := rw) a b)).2
    omega)⟩
theorem QS.itms (S : QS K TL TR q f dk H H' n root ks rw tw zs fs L Ss) : Itms K (sans (mQ TL TR q f) H') zs := itms_of fun z hz => by
  obtain ⟨a, b, h1, h2, _⟩ := S.its z hz
  exact ⟨a, b, h1, h2⟩
theorem QS.itms2 (S : QS K TL TR q f dk H H' n root ks rw tw zs fs L Ss) {v : V} {a b : List Int} (h : Dp K (sans (mQ TL TR q f) H') v (itemD rw a b)) : Itms K (sans (mQ TL TR q f) H') (zs ++ [(v, itemD rw a b)]) := itms_of fun z hz => by
  rcases List.mem_append.mp hz with y | y
  · obtain ⟨a, b, h1, h2, _⟩ := S.its z y
    exact ⟨a, b, h1, h2⟩
  · rw [List.mem_singleton.mp y]
    exact ⟨a, b, rfl, h⟩
theorem off_tup {t : Addr} {xs zq zf : List V} (tl : LamX.TabS H' TL lamQ) (tr : GxR.TabG H' TR) (hq : H' q = some (.lst zq)) (hf : H' f = some (.lst zf)) (h : H' t = some (.tup xs)) : ¬ mQ TL TR q f t := fun hb => by
  rcases hb with z | z | z | z
  · obtain ⟨ps, e, _⟩ := tl
    rw [← z, h] at e
    cases e
  · obtain ⟨ps, e, _⟩ := tr
    rw [← z, h] at e
    cases e
  · rw [z, hq] at h
    cases h
  · rw [z, hf] at h
    cases h
theorem off_lst {t : Addr} {xs : List V} (tl : LamX.TabS H' TL lamQ) (tr : GxR.TabG H' TR) (nq : t ≠ q) (nf : t ≠ f) (h : H' t = some (.lst xs)) : ¬ mQ TL TR q f t := fun hb => by
  rcases hb with z | z | z | z
  · obtain ⟨ps, e, _⟩ := tl
    rw [← z, h] at e
    cases e
  · obtain ⟨ps, e, _⟩ := tr
    rw [← z, h] at e
    cases e
  · exact nq z
  · exact nf z
theorem dp_intsQ {l : Addr} {ns : List Int} (h : SqL K H l (ns.map V.int)) : Dp K H (.ref l) (intsD ns) := .lst h (dpAll_ints ns)
theorem off_all {zq zf : List V} (tl : LamX.TabS H' TL lamQ) (tr : GxR.TabG H' TR) (hq : H' q = some (.lst zq)) (hf : H' f = some (.lst zf)) : ∀ b, mQ TL TR q f b → ∃ o, H' b = some o ∧ (∀ xs, o ≠ .tup xs) ∧ ∀ u o', o ≠ .frz u o' := fun b hb => by
  rcases hb with z | z | z | z
  · obtain ⟨ps, e, _⟩ := tl
    rw [z]
    exact ⟨_, e, fun _ => nofun, fun _ _ => nofun⟩
  · obtain ⟨ps, e, _⟩ := tr
    rw [z]
    exact ⟨_, e, fun _ => nofun, fun _ _ => nofun⟩
  · rw [z]
    exact ⟨_, hq, fun _ => nofun, fun _ _ => nofun⟩
  · rw [z]
    exact ⟨_, hf, fun _ => nofun, fun _ _ => nofun⟩
theorem item_dp {t l lk : Addr} {ns kept : List Int} {zq zf : List V} (tl : LamX.TabS H' TL lamQ) (tr : GxR.TabG H' TR) (hq : H' q = some (.lst zq)) (hf : H' f = some (.lst zf)) (ht : H' t = some (.tup [.int (costOfK rw ns), .ref l, .ref lk])) (hl : H' l = some (.lst (ns.map V.int))) (hlk : H' lk = some (.lst (kept.map V.int)))
    (n1 : l ≠ q) (n2 : l ≠ f) (n3 : lk ≠ q) (n4 : lk ≠ f) : Dp K (sans (mQ TL TR q f) H') (.ref t) (itemD rw kept ns) :=
  .tup (.of (by rw [sans_no (off_tup tl tr hq hf ht)]; exact ht)) (.cons (.int _) (.cons (dp_intsQ (.of (by rw [sans_no (off_lst tl tr n1 n2 hl)]; exact hl))) (.cons (dp_intsQ (.of (by rw [sans_no (off_lst tl tr n3 n4 hlk)]; exact hlk))) .nil)))
theorem pair_dp {t l : Addr} {ns : List Int} {zq zf : List V} (tl : LamX.TabS H' TL lamQ) (tr : GxR.TabG H' TR) (hq : H' q = some (.lst zq)) (hf : H' f = some (.lst zf)) (ht : H' t = some (.tup [.ref l, .int (costOfK rw ns)])) (hl : Dp K (sans (mQ TL TR q f) H') (.ref l) (intsD ns)) :
    Dp K (sans (mQ TL TR q f) H') (.ref t) (pairD rw ns) := .tup (.of (by rw [sans_no (off_tup tl tr hq hf ht)]; exact ht)) (.cons hl (.cons (.int _) .nil))
theorem item_inv {v : V} {kept ns : List Int} (h : Dp K H' v (itemD rw kept ns)) : ∃ t l lk : Addr, v = .ref t ∧ SqT K H' t [.int (costOfK rw ns), .ref l, .ref lk] ∧ SqL K H' l (ns.map V.int) ∧ SqL K H' lk (kept.map V.int) := by
  obtain ⟨t, xs, rfl, hT, hA⟩ := dp_tup_inv h
  cases hA with
  | cons a1 hA =>
    cases hA with
    | cons a2 hA =>
      cases hA with
      | cons a3 hA =>
        cases hA
        obtain rfl := dp_int_inv a1
        obtain ⟨l, xs2, rfl, hS2, hA2⟩ := dp_list_inv a2
        obtain ⟨lk, xs3, rfl, hS3, hA3⟩ := dp_list_inv a3
        rw [dpAll_ints_inv hA2] at hS2
        rw [dpAll_ints_inv hA3] at hS3
        exact ⟨t, l, lk, rfl, hT, hS2, hS3⟩
/-- what is off the tables and the two lists -/
theorem QS.off (S : QS K TL TR q f dk H H' n root ks rw tw zs fs L Ss) : ∀ b, mQ TL TR q f b → ∃ o, H' b = some o ∧ (∀ xs, o ≠ .tup xs) ∧ ∀ u o', o ≠ .frz u o' := off_all S.tb.tl S.tb.tr S.hq S.hf
/-- new: off these -/
theorem QS.fresh (S : QS K TL TR q f dk H H' n root ks rw tw zs fs L Ss) {b : Addr} (h : H' b = none) : ¬ mQ TL TR q f b := fun hb => by
  obtain ⟨o, e, _⟩ := S.off b hb
  rw [h] at e
  cases e
theorem QS.put (S : QS K TL TR q f dk H H' n root ks rw tw zs fs L Ss) {o : HO} : Same (sans (mQ TL TR q f) H') (sans (mQ TL TR q f) (upd H' q o)) := St5.part_put (.inr (.inr (.inl rfl)))
/-- popped -/
theorem QS.pop (S : QS K TL TR q f dk H H' n root ks rw tw zs fs L []) {z : Itm} {zs' : List Itm} (hp : (z :: zs').Perm zs) (hk : HeapOk zs') : QS K TL TR q f dk H (upd H' q (.lst (zs'.map Prod.fst))) n root ks rw tw zs' fs L [PartD n root rw z.2] := by
  have e := S.put (o := .lst (zs'.map Prod.fst))
  refine ⟨S.tb.off S.nq S.hq, S.nq, S.nf, S.qf, upd_same, by rw [upd_ne (Ne.symm S.qf)]; exact S.hf, S.kn.same e, fun y hy => ?_, hk, dpAll_same e _ _ S.fd, S.cv.perm ?_, ?_⟩
  · obtain ⟨a, b, h1, h2, h3⟩ := S.its y (hp.mem_iff.mp (List.mem_cons_of_mem _ hy))
    exact ⟨a, b, h1, dp_same e _ _ h2, h3⟩
  · exact (hp.map (fun z : Itm => PartD n root rw z.2)).symm
  · have := hp.length_eq
    have := S.few
    simp only [List.length_cons, List.length_nil] at *
    omega
/-- told -/
theorem QS.tell (S : QS K TL TR q f dk H H' n root ks rw tw zs fs L [TreeIn n root kept rw]) {T : List Int} {v : V} (C : ChartK n root kept rw) (F : Firsts rw (TreeIn n root kept rw) T) (hmin : ∀ y ∈ zs, ¬ PySem.W.dataLt y.2 (itemD rw kept T) = true) (hv : Dp K (sans (mQ TL TR q f) H') v (pairD rw T)) :
    QS K TL TR q f dk H (upd H' f (.lst (fs ++ [v]))) n root ks rw tw zs (fs ++ [v]) (L ++ [T]) (partsOf n root rw kept T 0) := by
  have e : Same (sans (mQ TL TR q f) H') (sans (mQ TL TR q f) (upd H' f (.lst (fs ++ [v])))) := St5.part_put (.inr (.inr (.inr rfl)))
  obtain ⟨m0, m1, r0, r1, R, c0, lp⟩ := id C
  refine ⟨S.tb.off S.nf S.hf, S.nq, S.nf, S.qf, by rw [upd_ne S.qf]; exact S.hq, upd_same, S.kn.same e, fun y hy => ?_, S.ok, ?_, ?_, ?_⟩
  · obtain ⟨a, b, h1, h2, h3⟩ := S.its y hy
    exact ⟨a, b, h1, dp_same e _ _ h2, h3⟩
  · rw [List.map_append]
    exact dpAll_app (dpAll_same e _ _ S.fd) (dpAll_one (dp_same e _ _ hv))
  · refine Cov.beside r0 r1 (fun k hk => ⟨(R.row k hk).2.2.1, (R.row k hk).2.2.2⟩) S.cv (nodupK r0 r1 F.self) F fun S' hS => ?_
    obtain ⟨y, hy, rfl⟩ := List.mem_map.mp hS
    obtain ⟨a, b, h1, h2, h3, h4, h5⟩ := S.its y hy
    refine ⟨b, ?_, fun z => hmin y hy ?_⟩
    · show Firsts rw (PartD n root rw y.2) b
      rw [h1, partD_eq]
      exact h5
    · rw [h1]
      exact lt_itemD z
  · have h1 := S.few
    have h2 := F.self.1
    have h3 : (partsOf n root rw kept T 0).length = T.length := by unfold partsOf; rw [List.length_map, List.drop_zero, List.length_range]
    rw [h3, List.length_append]
    simp only [List.length_cons, List.length_nil] at *
    omega
/-- a part without a tree -/
theorem QS.none {A : List Int → Prop} (S : QS K TL TR q f dk H H' n root ks rw tw zs fs L (A :: Ss)) (h : ∀ js, ¬ A js) : QS K TL TR q f dk H H' n root ks rw tw zs fs L Ss :=
  ⟨S.tb, S.nq, S.nf, S.qf, S.hq, S.hf, S.kn, S.its, S.ok, S.fd, S.cv.drop h, by have := S.few; rw [List.length_cons] at this; omega⟩
/-- a part comes into the queue -/
theorem QS.push {z : Itm} {zs' : List Itm} {kept T : List Int} (S : QS K TL TR q f dk H H' n root ks rw tw zs fs L (TreeIn n root kept rw :: Ss)) (ez : z.2 = itemD rw kept T) (hz : Dp K (sans (mQ TL TR q f) H') z.1 z.2) (hs : ∀ k ∈ kept, k ∈ ks) (C : ChartK n root kept rw) (F : Firsts rw (TreeIn n root kept rw) T)
    (hp : zs'.Perm (zs ++ [z])) (hk : HeapOk zs') : QS K TL TR q f dk H (upd H' q (.lst (zs'.map Prod.fst))) n root ks rw tw zs' fs L Ss := by
  have e := S.put (o := .lst (zs'.map Prod.fst))
  refine ⟨S.tb.off S.nq S.hq, S.nq, S.nf, S.qf, upd_same, by rw [upd_ne (Ne.symm S.qf)]; exact S.hf, S.kn.same e, fun y hy => ?_, hk, dpAll_same e _ _ S.fd, S.cv.perm ?_, ?_⟩
  · rcases List.mem_append.mp (hp.mem_iff.mp hy) with h | h
    · obtain ⟨a, b, h1, h2, h3⟩ := S.its y h
      exact ⟨a, b, h1, dp_same e _ _ h2, h3⟩
    · rw [List.mem_singleton.mp h]
      exact ⟨kept, T, ez, dp_same e _ _ hz, hs, C, F⟩
  · have h1 : (zs'.map fun z : Itm => PartD n root rw z.2).Perm ((zs.map fun z : Itm => PartD n root rw z.2) ++ [TreeIn n root kept rw]) := by
      have := hp.map fun z : Itm => PartD n root rw z.2
      rw [List.map_append, List.map_cons, List.map_nil, ez, partD_eq] at this
      exact this
    have h2 : ((zs.map fun z : Itm => PartD n root rw z.2) ++ [TreeIn n root kept rw]).Perm (TreeIn n root kept rw :: zs.map fun z : Itm => PartD n root rw z.2) := List.perm_append_singleton _ _
    have h3 := (h1.trans h2).symm
    exact (List.perm_middle (l₁ := Ss)).symm.trans (h3.append_left Ss)
  · have h1 := S.few
    have h2 := hp.length_eq
    rw [List.length_append] at h2
    simp only [List.length_cons, List.length_nil] at *
    omega
theorem firsts_of {prs : List Pr} {ns : List Int} (C : CheapK n root ks rw ns prs) : Firsts rw (TreeIn n root ks rw) ns := ⟨C.tree, C.up, fun js u t => (C.first js u t).2⟩
end
end Rc
/-! part RcA9 -/
/-! best. -/
namespace Rc
open PySem PySem.Spec PyProof.Rows L2
def spBest (K : PySem.W.Frag) (C B TL TR : Addr) : Sp := fun vs H Q E => ∃ (p : Addr) (n root : Int) (rows : List Row) (m : Nat), vs = [.ref p, .int (m : Int)] ∧ MapAt K C H p n root rows ∧ ChartOk n root rows ∧ LamX.TabS H TL lamQ ∧ GxR.TabG H TR ∧ TL ≠ TR ∧
  (∀ L : List (List Int), L.Nodup → (∀ js ∈ L, TreeIn n root (idx rows.length) (rowAt rows) js ∧ js.Pairwise (· ≤ ·)) → L.length ≤ m → L.length * 20 < sizeLine) ∧
  (∀ d l H' (ns : List Int), Tb TL TR H H' → H d = none → H' d = some (.xd [("left", .ref l)]) → H' l = some (.lst (ns.map V.int)) → (∀ v, v ∈ ns ↔ 0 ≤ v ∧ v < n ∧ ¬ Reach rows root v) → ns.Pairwise (fun a b => a < b) → ns ≠ [] → E (.ref B) (some d) H') ∧
  ∀ l H' (fs : List V) (L : List (List Int)) (ns : List Int) (prs : List Pr), Tb TL TR H H' → H l = none → H' l = some (.lst fs) → DpAll K H' fs (L.map (pairD (rowAt rows))) → BestIs n root (idx rows.length) (rowAt rows) m L → Cheap n root rows ns prs → Q (.ref l) H'
section
variable {P : Program} {w : World} {K : PySem.W.Frag} {mg : Str → Option Value} {base : Heap}
theorem ok_best {f C B TL TR : Addr} {fd : FuncData} {k : Nat} (F : Fun K "best" "best" s_best f fd) (TM : TxtM K mg C) (TH : TxtH mg) (hCh : HasN P w K mg base "cheapest" ["chart"] k (spCheap K C B TL TR)) (hBy : Has P w K mg base "roads_by_number" ["chart"] k (spByNum K C))
    (hP : Has P w K mg base "parts_beside" ["tree", "roads"] k (spParts K)) (hF : Has P w K mg base "first_among" ["many", "root", "roads"] k (spFirst K TL TR)) (hSi : HasM P w K mg base C "size" ["self"] k (spSize K C)) (hBe : HasM P w K mg base C "begin" ["self"] k (spBegin K C)) :
    FnOk P w K mg base (L2N.CX P w) (k + 1) f fd ["chart", "many"] (spBest K C B TL TR) := by
  obtain ⟨fCh, fdCh, gCh, kCh, bCh, GCh⟩ := hCh
  obtain ⟨fR, fdR, gR, kR, bR, GR⟩ := hBy
  obtain ⟨fP, fdP, gP, kP, bP, GP⟩ := hP
  obtain ⟨fF, fdF, gF, kF, bF, GF⟩ := hF
  obtain ⟨fS, fdS, mS, bS, GS⟩ := hSi
  obtain ⟨fB, fdB, mB, bB, GB⟩ := hBe
  refine Fun.okN F sc_best (fun vs H Q E h => ?_) (fun cdv A outer s H vs Q E hr h tk => ?_)
  · obtain ⟨p, n, root, rows, m, rfl, _⟩ := h
    rfl
  · obtain ⟨p, n, root, rows, m, rfl, hM, ok, tl, tr, ne, hmany, qE, q⟩ := h
    have hu64 : (A.deeper (envOfC "best" (defScope s_best) s.heap.objs.size f cdv)).units + 64 < cLine := by
      have := hr.un
      omega
    have hu1 : (A.deeper (envOfC "best" (defScope s_best) s.heap.objs.size f cdv)).units + 1 < cLine := by omega
    refine ⟨_, (pss_cons (ps_asg (pe_call GCh hr (by rfl) gCh kCh bCh .nil (L2N.passes_call tk (E := E) fun _ _ _ _ h => h) (pa_cons (pv 0) pa_nil)) (pg_tup (by rfl) (pgs_cons (pg_name (i := 2) sc_best.nd rfl (Or.inl rfl)) (pgs_cons (pg_name (i := 3) sc_best.nd rfl (Or.inl rfl)) (pgs_cons (pg_name (i := 4) sc_best.nd rfl (Or.inl rfl)) pgs_nil)))))
  (pss_cons (ps_set (i := 5) sc_best.nd rfl (Or.inr rfl) (pe_call GR hr (by rfl) gR kR bR .nil pass0 (pa_cons (pv 0) pa_nil)))
  (pss_cons (ps_set (i := 6) sc_best.nd rfl (Or.inl rfl) (pe_lst (pa_cons (pe_tup (pa_cons (pv 3) (pa_cons (pv 2) (pa_cons (pe_callTy (call_listD rfl) (by rfl) TM.list (by decide +kernel) (pa_cons (pv 5) pa_nil)) pa_nil)))) pa_nil)))
  (pss_cons (ps_set (i := 7) sc_best.nd rfl (Or.inl rfl) (pe_lst pa_nil))
  (pss_cons (ps_while PassesOwn.leaving (PW.pt (pw_and (pt_truth (pv 6) (by intro _; rfl)) (pw_and1 (pt_cmpR op_lt (pe_callB call_len_seq (by rfl) TM.len PySem.boot_len (pa_cons (pv 7) pa_nil)) (pv 1) (nomark _)))))
   (pss_cons (ps_asg (pe_callBfun (call_hpop hu64) (by rfl) TH.pop (pa_cons (pv 6) pa_nil)) (pg_tup (by rfl) (pgs_cons (pg_name (i := 3) sc_best.nd rfl (Or.inl rfl)) (pgs_cons (pg_name (i := 2) sc_best.nd rfl (Or.inl rfl)) (pgs_cons (pg_name (i := 8) sc_best.nd rfl (Or.inl rfl)) pgs_nil)))))
  (pss_cons (ps_expr (pe_bm PySem.F.plainAttrs_list PySem.F.slot_list_append PySem.F.type_list_append mt_append (pv 7) (pa_cons (pe_tup (pa_cons (pv 2) (pa_cons (pv 3) pa_nil))) pa_nil)))
  (pss_one (ps_for PassesOwn.leaving rfl (pi_list (pe_call GP hr (by rfl) gP kP bP .nil pass0 (pa_cons (pv 2) (pa_cons
     (pe_dc (own := [("road", 11)]) (g := gName 11) (tt := tYes) (tk := tVar 11) (tv := tDGet (tVar 5) (tVar 11)) rfl sc_best.nd (pi_list (pv 8)) (blkOk_by (N := N_best) (sc := defScope s_best) (by decide +kernel)) (fun _ _ _ _ _ => (pg_name (i := 11) sc_best.nd rfl (Or.inl rfl)))
      (fun _ _ _ _ _ => pts_nil) (fun _ _ _ _ _ => (pv 11)) (fun _ _ _ _ _ => pe_dget hu1 (pv 5) (pv 11) (fun _ _ => rfl))) pa_nil)))) (pg_name (i := 9) sc_best.nd rfl (Or.inl rfl))
   (pss_cons (ps_set (i := 10) sc_best.nd rfl (Or.inl rfl) (pe_call GF hr (by rfl) gF kF bF .nil pass0 (pa_cons (pe_meth0 (pv 0) TM.cl mS GS hr bS .nil pass0) (pa_cons (pe_meth0 (pv 0) TM.cl mB GB hr bB .nil pass0) (pa_cons (pv 9) pa_nil)))))
  (pss_one (ps_if (pt_cmpR op_notN (pv 10) pe_non (nomark _))
   (pss_one (ps_expr (pe_callBfun (call_hpush hu64) (by rfl) TH.push (pa_cons (pv 6) (pa_cons (pe_tup (pa_cons (pe_ix (r := rIxT K) ix_tup (pv 10) pe_int (fun _ _ => rfl)) (pa_cons (pe_ix (r := rIxT K) ix_tup (pv 10) pe_int (fun _ _ => rfl)) (pa_cons (pe_callTy (call_listD rfl) (by rfl) TM.list (by decide +kernel) (pa_cons (pv 9) pa_nil)) pa_nil)))) pa_nil)))))
   pss_nil))))))))
  (pss_one (ps_ret (pv 7)))))))), ?_⟩
    have CK := chartK_of ok
    obtain ⟨dx, l0, hp0, _⟩ := id hM
    refine ⟨_, rfl, p, n, root, rows, rfl, hM, ok, tl, tr, ne, qE, fun t H1 ns prs tb1 hD1 hreach Cp => ?_⟩
    obtain ⟨l1, l2, ys, h1, h2, h3, h4, h5, h6, h7, h8⟩ := hD1
    have CpK := cheapK_of_cheap Cp
    have ec : costOf rows ns = costOfK (rowAt rows) ns := (cost_rowAt rows ns).symm
    refine ⟨t, _, rfl, .of h1, rfl, _, _, rfl, _, _, rfl, _, _, rfl, rfl, ?_⟩
    rw [ec]
    -- all roads
    have hM1 := map_tb tl tr tb1 hM
    refine ⟨_, rfl, p, n, root, rows, rfl, hM1, fun dk H2 tw e2 hdk hRk => ?_⟩
    have tb2 := tb1.same e2
    -- the queue
    refine ⟨_, rfl, _, rfl, _, rfl, dk, _, rfl, .inl hRk.dd, fun lk hlk => ⟨(by show 3 ≤ sizeLine; decide), fun tq htq => ⟨(by show 1 ≤ sizeLine; decide), fun q0 hq0 => ?_⟩⟩⟩
    rw [keys_intD] at htq hq0 ⊢
    refine ⟨Nat.zero_le _, fun f0 hf0 => ?_⟩
    have s3 := same_new (o := HO.lst ((idx rows.length).map V.int)) hlk
    have s4 := same_new (o := HO.tup [V.int (costOfK (rowAt rows) ns), V.ref l1, V.ref lk]) htq
    have s5 := same_new (o := HO.lst [V.ref tq]) hq0
    have s6 := same_new (o := HO.lst []) hf0
    have l1_2 := e2 _ _ h2
    have lk_3 := upd_same (H := H2) (a := lk) (o := HO.lst ((idx rows.length).map V.int))
    have tq_4 := upd_same (H := upd H2 lk (.lst ((idx rows.length).map V.int))) (a := tq) (o := HO.tup [V.int (costOfK (rowAt rows) ns), V.ref l1, V.ref lk])
    have q0_5 := upd_same (H := upd (upd H2 lk (.lst ((idx rows.length).map V.int))) tq (.tup [V.int (costOfK (rowAt rows) ns), V.ref l1, V.ref lk])) (a := q0) (o := HO.lst [V.ref tq])
    have n1 : l1 ≠ q0 := ne_of_none (s4 _ _ (s3 _ _ l1_2)) hq0
    have n2 : l1 ≠ f0 := ne_of_none (s5 _ _ (s4 _ _ (s3 _ _ l1_2))) hf0
    have n3 : lk ≠ q0 := ne_of_none (s4 _ _ lk_3) hq0
    have n4 : lk ≠ f0 := ne_of_none (s5 _ _ (s4 _ _ lk_3)) hf0
    have n5 : q0 ≠ f0 := ne_of_none q0_5 hf0
    have eall := ((s3.trans s4).trans s5).trans s6
    have hq6 := s6 _ _ q0_5
    have hf6 := upd_same (H := upd (upd (upd H2 lk (.lst ((idx rows.length).map V.int))) tq (.tup [V.int (costOfK (rowAt rows) ns), V.ref l1, V.ref lk])) q0 (.lst [V.ref tq])) (a := f0) (o := HO.lst [])
    have tq_6 := s6 _ _ (s5 _ _ tq_4)
    have lk_6 := s6 _ _ (s5 _ _ (s4 _ _ lk_3))
    have l1_6 := eall _ _ l1_2
    have nq2 : H2 q0 = none := ((s3.trans s4).free hq0)
    have nf2 : H2 f0 = none := (((s3.trans s4).trans s5).free hf0)
    generalize upd (upd (upd (upd H2 lk (.lst ((idx rows.length).map V.int))) tq (.tup [V.int (costOfK (rowAt rows) ns), V.ref l1, V.ref lk])) q0 (.lst [V.ref tq])) f0 (.lst []) = H6 at eall hq6 hf6 tq_6 lk_6 l1_6
    clear s3 s4 s5 s6
    have tb6 := tb2.same eall
    have ndk : ¬ mQ TL TR q0 f0 dk := fun hb => by
      rcases hb with z | z | z | z
      · rw [z] at hdk
        obtain ⟨ps, e, _⟩ := tb1.tl
        rw [hdk] at e
        cases e
      · rw [z] at hdk
        obtain ⟨ps, e, _⟩ := tb1.tr
        rw [hdk] at e
        cases e
      · have := hRk.dd
        rw [z, nq2] at this
        cases this
      · have := hRk.dd
        rw [z, nf2] at this
        cases this
    have S0 : QS K TL TR q0 f0 dk H H6 n root (idx rows.length) (rowAt rows) tw [(.ref tq, itemD (rowAt rows) (idx rows.length) ns)] [] [] [] := by
      refine ⟨tb6, tb2.free nq2, tb2.free nf2, n5, hq6, hf6, ?_, fun z hz => ?_, heap_one _, .nil, ?_, by simp⟩
      · exact roadsAt_off (off_all tb6.tl tb6.tr hq6 hf6) ndk (hRk.same eall)
      · rw [List.mem_singleton.mp hz]
        exact ⟨_, _, rfl, item_dp tb6.tl tb6.tr hq6 hf6 tq_6 l1_6 lk_6 n1 n2 n3 n4, fun k hk => hk, CK, firsts_of CpK⟩
      · show Cov _ _ _ _ [] [PartD n root (rowAt rows) (itemD (rowAt rows) (idx rows.length) ns)]
        rw [partD_eq]
        exact Cov.start
    obtain ⟨Pv, hPv⟩ : ∃ Pv : Nat → L2.St → Hp → Prop, ∀ k σ H', Pv k σ H' ↔ ∃ (zs : List Itm) (fs : List V) (L : List (List Int)) (v2 v3 v4 v8 v9 v10 v11 : Option V), σ = [some (.ref p), some (.int (m : Int)), v2, v3, v4, some (.ref dk), some (.ref q0), some (.ref f0), v8, v9, v10, v11] ∧
        QS K TL TR q0 f0 dk H H' n root (idx rows.length) (rowAt rows) tw zs fs L [] ∧ L.length = k ∧ k ≤ m := ⟨_, fun _ _ _ => Iff.rfl⟩
    refine ⟨fun m' σ H' => ∃ k, m' = m - k ∧ Pv k σ H', ⟨_, 0, rfl, (hPv _ _ _).mpr ⟨_, _, _, _, _, _, _, _, _, _, rfl, S0, rfl, Nat.zero_le _⟩⟩, ?_⟩
    rintro m' σ H7 ⟨k', rfl, hp⟩
    obtain ⟨zs, fs, L, v2, v3, v4, v8, v9, v10, v11, rfl, S, hk, hle⟩ := (hPv _ _ _).mp hp
    have hfl : fs.length = L.length := by rw [dpAll_len S.fd, List.length_map]
    refine ⟨_, rfl, _, .inl ⟨_, .of S.hq, rfl⟩, ?_⟩
    cases zs with
    | nil =>
      refine ⟨_, rfl, ?_⟩
      exact q f0 H7 fs L ns prs S.tb S.nf S.hf (dpAll_same sans_same _ _ S.fd) (S.cv.best_all (by omega)) Cp
    | cons z00 zs00 =>
      refine ⟨_, rfl, f0, _, rfl, .inl (.of S.hf), _, rfl, _, _, rfl, rfl, _, rfl, ite2 (fun c => ?_) (fun c => ?_)⟩
      · have hlt : k' < m := by
          have z := of_decide_eq_true c
          omega
        have hne : z00 :: zs00 ≠ [] := by simp
        generalize z00 :: zs00 = zs at S hne hp
        refine ⟨fun σ' H' => ∃ k, m - k < m - k' ∧ Pv k σ' H', fun σ' H' ⟨k, z, p⟩ => ⟨_, z, k, rfl, p⟩, ?_⟩
        refine ⟨_, rfl, q0, zs, sans (mQ TL TR q0 f0) H7, rfl, S.hq, sans_same, sans_at (.inr (.inr (.inl rfl))), S.itms, S.ok, hne, fun z zs' hperm hok hmin => ?_⟩
        have mz : z ∈ zs := hperm.mem_iff.mp List.mem_cons_self
        obtain ⟨kept, T, ez, dz, hsub, CKz, Fz⟩ := S.its z mz
        have S1 := S.pop hperm hok
        rw [ez, partD_eq] at S1
        have dz1 := dp_same (S.put (o := .lst (zs'.map Prod.fst))) _ _ dz
        rw [ez] at dz1
        have hmin1 : ∀ y ∈ zs', ¬ PySem.W.dataLt y.2 (itemD (rowAt rows) kept T) = true := fun y hy z1 => hmin y (hperm.mem_iff.mp (List.mem_cons_of_mem _ hy)) (by
          unfold ltZ
          rw [ez]
          exact z1)
        generalize upd H7 q0 (.lst (zs'.map Prod.fst)) = H8 at S1 dz1
        obtain ⟨tz, lz, kz, e1, hT8, hl8, hk8⟩ := item_inv dz1
        rw [e1]
        refine ⟨tz, _, rfl, sqT_same sans_same hT8, rfl, _, _, rfl, _, _, rfl, _, _, rfl, rfl, ?_⟩
        -- told
        refine ⟨_, rfl, .inl ⟨rfl, _, SqL.of S1.hf⟩, _, rfl, _, rfl, (by show 2 ≤ sizeLine; decide), fun t2 ht2 => ⟨_, _, _, rfl, rfl, same_new ht2 _ _ S1.hf, ?_, ?_⟩⟩
        · rw [hfl, hk]
          have := hmany L S.cv.nodup S.cv.tree (by omega)
          omega
        · have S1' := S1.same (same_new (o := HO.tup [.ref lz, .int (costOfK (rowAt rows) T)]) ht2)
          have e2' := core_go (q := q0) (f := f0) (Tb.start S1.tb.tl S1.tb.tr (same_new (o := HO.tup [.ref lz, .int (costOfK (rowAt rows) T)]) ht2))
          have hp2 : Dp K (sans (mQ TL TR q0 f0) (upd H8 t2 (.tup [.ref lz, .int (costOfK (rowAt rows) T)]))) (.ref t2) (pairD (rowAt rows) T) := pair_dp S1'.tb.tl S1'.tb.tr S1'.hq S1'.hf upd_same (dp_intsQ (e2'.seq hl8))
          have S2 := S1'.tell CKz Fz hmin1 hp2
          have e3' : Same (sans (mQ TL TR q0 f0) H8) (sans (mQ TL TR q0 f0) (upd (upd H8 t2 (.tup [.ref lz, .int (costOfK (rowAt rows) T)])) f0 (.lst (fs ++ [.ref t2])))) := e2'.trans (St5.part_put (.inr (.inr (.inr rfl))))
          have hl9 := sans_same.seq (e3'.seq hl8)
          have hk9 := sans_same.seq (e3'.seq hk8)
          generalize upd (upd H8 t2 (.tup [.ref lz, .int (costOfK (rowAt rows) T)])) f0 (.lst (fs ++ [.ref t2])) = H9 at S2 hl9 hk9
          clear e3' hp2 S1' e2' hT8 hl8 hk8 dz1 hmin1 S1
          -- its roads, by number
          refine ⟨_, rfl, _, rfl, kz, rfl, ⟨_, hk9⟩, fun d hd => dc_it (L2.walk_list (K := K) (a := kz) (xs := kept.map V.int)) (fun i H' => Same H9 H' ∧ H' d = some (.dK (intD (kept.take i) fun k => .ref (tw k)))) ⟨same_new hd, upd_same⟩ (fun i H' _ z => z.1.seq hk9) ?_ ?_⟩
          · rintro i x Ha Hb hi ⟨ea, hda⟩ ⟨rfl, hx⟩
            rw [List.getElem?_map] at hx
            obtain ⟨kj, hkj, rfl⟩ : ∃ kj, kept[i]? = some kj ∧ V.int kj = x := by
              cases z : kept[i]? with
              | none => rw [z] at hx; cases hx
              | some kj => rw [z] at hx; cases hx; exact ⟨_, rfl, rfl⟩
            have hkm := List.mem_of_getElem? hkj
            have hnew : kj ∉ kept.take i := fun z => not_taken CKz.rd.nd hkj (fun _ => true) (by simpa using z)
            refine ⟨rfl, ?_⟩
            refine ⟨_, rfl, _, rfl, _, rfl, dk, _, rfl, ((S2.kn.same sans_same).same ea).dget (hsub _ hkm), _, .inl kj, rfl, hda, ?_, same_mut ea hd, ?_⟩
            · rw [intD_len, List.length_take]
              have := CKz.rd.len
              exact small_lt (by omega)
            · rw [upd_same, putK_intD_new hnew, take_succ hkj]
              congr 3
              funext j
              by_cases e : j = kj
              · rw [if_pos e, e]
              · rw [if_neg e]
          · rintro Ha ⟨ea, hda⟩
            rw [List.length_map, List.take_length] at hda
            have hRd : RoadsAt K Ha d kept (rowAt rows) tw := ⟨hda, fun k hk => ((S2.kn.same sans_same).same ea).has k (hsub k hk)⟩
            have S3 := S2.same ea
            refine ⟨lz, d, n, root, kept, rowAt rows, tw, T, rfl, ea.seq hl9, hRd, CKz, Fz.self, fun l ds Hb eb hl hlds hdl hds => ?_⟩
            have S4 := S3.same eb
            have hlc : SqL K (sans (mQ TL TR q0 f0) Hb) l (ds.map V.ref) := .of (by
              rw [sans_no (off_lst S4.tb.tl S4.tb.tr (fun z => by rw [z, S3.hq] at hl; cases hl) (fun z => by rw [z, S3.hf] at hl; cases hl) hlds)]
              exact hlds)
            have hdc : ∀ i d, ds[i]? = some d → RoadsAt K (sans (mQ TL TR q0 f0) Hb) d (partK (rowAt rows) kept T i) (rowAt rows) tw := fun i d z => roadsAt_off S4.off (fun y => S3.fresh (hds i d z).1 (by exact y)) (hds i d z).2
            refine ⟨l, rfl, ⟨_, .of hlds⟩, for_list (K := K) (a := l) (xs := ds.map V.ref) (fun i σ H' => ∃ (zs : List Itm) (v9 v10 : Option V), σ = [some (.ref p), some (.int (m : Int)), some (.ref lz), some (.int (costOfK (rowAt rows) T)), v4, some (.ref dk), some (.ref q0), some (.ref f0), some (.ref kz), v9, v10, v11] ∧
                QS K TL TR q0 f0 dk H H' n root (idx rows.length) (rowAt rows) tw zs (fs ++ [.ref t2]) (L ++ [T]) (partsOf n root (rowAt rows) kept T i) ∧ Same (sans (mQ TL TR q0 f0) Hb) (sans (mQ TL TR q0 f0) H')) ⟨_, _, _, rfl, S4, .refl _⟩ (fun i σ H' _ ⟨_, _, _, _, _, e⟩ => sans_same.seq (e.seq hlc)) ?_ ?_⟩
            · rintro i x σ Hc hi ⟨zs, v9, v10, rfl, S, ec⟩
              rw [List.getElem?_map] at hi
              obtain ⟨di, hdi, rfl⟩ : ∃ di, ds[i]? = some di ∧ V.ref di = x := by
                cases z : ds[i]? with
                | none => rw [z] at hi; cases hi
                | some di => rw [z] at hi; cases hi; exact ⟨_, rfl, rfl⟩
              have hiT : i < T.length := by
                rw [← hdl]
                exact (List.getElem?_eq_some_iff.mp hdi).1
              rw [partsOf_next hiT] at S
              have hRi := (hdc i di hdi).same ec
              have CKi := partK_ck CKz T i
              have hMc := map_tb tl tr S.tb hM
              obtain ⟨dx', l0', hp0', _⟩ := id hMc
              refine ⟨_, rfl, p, dx', _, rfl, hp0', lk_size, p, n, root, rows, rfl, hMc, _, rfl, p, dx', _, rfl, hp0', lk_begin, p, n, root, rows, rfl, hMc, _, rfl, n, root, di, _, rowAt rows, tw, rfl, hRi.same sans_same, CKi, S.tb.tl, S.tb.tr, ne, fun Hd tbd hno => ?_, fun t5 l5 Hd ns5 prs5 tbd ht5 hl5 nt5 nl5 Cp5 => ?_⟩
              · refine ⟨_, rfl, rfl, _, rfl, ite2 (fun z => ?_) (fun _ => ?_)⟩
                · cases z
                · exact ⟨zs, _, _, rfl, (S.go tbd).none hno, ec.trans (core_go tbd)⟩
              · refine ⟨_, rfl, rfl, _, rfl, ite2 (fun _ => ?_) (fun z => ?_)⟩
                · have S5 := S.go tbd
                  have hRd5 := (hRi.same (core_go tbd)).same sans_same
                  have nl5q : l5 ≠ q0 := fun z => by rw [z, S.hq] at nl5; cases nl5
                  have nl5f : l5 ≠ f0 := fun z => by rw [z, S.hf] at nl5; cases nl5
                  refine ⟨_, rfl, _, rfl, t5, _, 0, .int (costOfK (rowAt rows) ns5), rfl, rfl, .of ht5, atI_nat (j := 0) rfl, _, rfl, t5, _, 1, .ref l5, rfl, rfl, .of ht5, atI_nat (j := 1) rfl, _, rfl, di, _, rfl, .inl hRd5.dd, fun k6 hk6 => ⟨(by show 3 ≤ sizeLine; decide), fun t6 ht6 => ?_⟩⟩
                  rw [keys_intD] at ht6 ⊢
                  have s6 := same_new (o := HO.lst ((partK (rowAt rows) kept T i).map V.int)) hk6
                  have s7 := same_new (o := HO.tup [V.int (costOfK (rowAt rows) ns5), V.ref l5, V.ref k6]) ht6
                  have S7 := S5.same (s6.trans s7)
                  have nk6q : k6 ≠ q0 := fun z => by rw [z, S5.hq] at hk6; cases hk6
                  have nk6f : k6 ≠ f0 := fun z => by rw [z, S5.hf] at hk6; cases hk6
                  have k67 := s7 _ _ (upd_same (H := Hd) (a := k6) (o := HO.lst ((partK (rowAt rows) kept T i).map V.int)))
                  have l57 := (s6.trans s7) _ _ hl5
                  have t67 := upd_same (H := upd Hd k6 (.lst ((partK (rowAt rows) kept T i).map V.int))) (a := t6) (o := HO.tup [V.int (costOfK (rowAt rows) ns5), V.ref l5, V.ref k6])
                  have e7 := core_go (q := q0) (f := f0) (Tb.start S5.tb.tl S5.tb.tr (s6.trans s7))
                  generalize upd (upd Hd k6 (.lst ((partK (rowAt rows) kept T i).map V.int))) t6 (.tup [V.int (costOfK (rowAt rows) ns5), V.ref l5, V.ref k6]) = He at S7 k67 l57 t67 e7
                  have dz7 := item_dp (K := K) S7.tb.tl S7.tb.tr S7.hq S7.hf t67 l57 k67 nl5q nl5f nk6q nk6f
                  have F7 := firsts_of Cp5
                  have I7 : Itms K (sans (mQ TL TR q0 f0) He) (zs ++ [((.ref t6 : V), itemD (rowAt rows) (partK (rowAt rows) kept T i) ns5)]) := S7.itms2 dz7
                  refine ⟨q0, zs, ((.ref t6 : V), itemD (rowAt rows) (partK (rowAt rows) kept T i) ns5), sans (mQ TL TR q0 f0) He, rfl, S7.hq, sans_same, sans_at (.inr (.inr (.inl rfl))), I7, S7.ok, ?_, fun zs' hperm hok => ?_⟩
                  · have h1 := S7.few
                    have h2 := S7.cv.nodup
                    have h3 := hmany (L ++ [T]) h2 S7.cv.tree (by rw [List.length_append, List.length_singleton]; omega)
                    rw [List.length_append] at h1 h3
                    simp only [List.length_cons, List.length_nil] at *
                    omega
                  · exact ⟨zs', _, _, rfl, S7.push rfl dz7 (fun k hk => hsub k (partK_mem hk)) CKi F7 hperm hok, ((ec.trans (core_go tbd)).trans e7).trans S7.put⟩
                · exact absurd rfl z
            · rintro σ Hc ⟨zs, v9, v10, rfl, S, ec⟩
              rw [List.length_map, hdl, partsOf_end] at S
              exact ⟨k' + 1, by omega, (hPv _ _ _).mpr ⟨zs, _, _, _, _, _, _, _, _, _, rfl, S, by rw [List.length_append, hk]; rfl, by omega⟩⟩
      · have hge : L.length = m := by
          have z := mt decide_eq_true c
          omega
        refine ⟨_, rfl, ?_⟩
        exact q f0 H7 fs L ns prs S.tb S.nf S.hf (dpAll_same sans_same _ _ S.fd) (S.cv.best_full hge) Cp
end
end Rc
/-! part RcD6 -/
/-! _law_broad, _law_wide, _law_whole. -/
namespace Rc
open PySem PySem.Spec PyProof.Rows L2
def spBroad (K : PySem.W.Frag) : Sp := fun vs H Q _ => ∃ (Hb : Hp) (d : Addr), vs = [.ref d] ∧ Dice K H Hb d ∧
  ∀ H' Hb' v many root rows, Sub (at1 d) H Hb H' Hb' → Dice K H' Hb' d → Dp K Hb' v (chartDat many root rows) → ChartOk many root rows → Q v H'
def spWide (K : PySem.W.Frag) : Sp := fun vs H Q _ => ∃ (Hb : Hp) (d : Addr), vs = [.ref d] ∧ Dice K H Hb d ∧
  ∀ H' Hb' v many root rows, Sub (at1 d) H Hb H' Hb' → Dice K H' Hb' d → Dp K Hb' v (chartDat many root rows) → ChartOk many root rows → Q v H'
def spWholeP : Sp := fun vs H Q _ => ∃ i : Int, vs = [.int i] ∧ Q (.bl true) H
section
variable {P : Program} {w : World} {K : PySem.W.Frag} {mg : Str → Option Value} {base : Heap}
theorem ok_wide {f : Addr} {fd : FuncData} {k : Nat} (F : Fun K "_law_wide" "_law_wide" s_wide f fd) (hN : Has P w K mg base "_law_next" ["_law_dice_here", "_law_many"] k (spNext K)) (hM : Has P w K mg base "_law_map" ["_law_d", "_law_places", "_law_roads"] k (spMap K)) :
    FnOk P w K mg base CX0 (k + 1) f fd ["_law_d"] (spWide K) := by
  obtain ⟨fN, fdN, gN, kN, bN, GN⟩ := hN
  obtain ⟨fM, fdM, gM, kM, bM, GM⟩ := hM
  refine F.ok sc_wide (fun vs H Q E h => ?_) (fun cdv A outer s H vs Q E hr h => ?_)
  · obtain ⟨Hb, d, rfl, _⟩ := h
    rfl
  · obtain ⟨Hb, d, rfl, D, q⟩ := h
    refine ⟨_, (pss_cons (ps_if (pt_cmpR op_eq (pe_call GN hr (by rfl) gN kN bN .nil pass0 (pa_cons (pv 0) (pa_cons pe_int pa_nil))) pe_int (nomark _))
   (pss_one (ps_ret (pe_call GM hr (by rfl) gM kM bM .nil pass0 (pa_cons (pv 0) (pa_cons pe_int (pa_cons pe_int pa_nil))))))
   pss_nil)
  (pss_one (ps_ret (pe_call GM hr (by rfl) gM kM bM .nil pass0 (pa_cons (pv 0) (pa_cons pe_int (pa_cons pe_int pa_nil))))))), ?_⟩
    refine ⟨_, rfl, Hb, d, 4, rfl, D, by decide, by decide, fun H1 z S1 D1 z0 z1 => ⟨rfl, _, rfl, ite2 (fun _ => ?_) (fun _ => ?_)⟩⟩
    · exact ⟨_, rfl, Hb, d, 20, 60, rfl, D1, by decide, by decide, by decide, by decide, fun H' Hb' v many root rows S2 D2 hD ok _ _ => q H' Hb' v many root rows (S1.dtrans S2 D1) D2 hD ok⟩
    · exact ⟨_, rfl, Hb, d, 8, 16, rfl, D1, by decide, by decide, by decide, by decide, fun H' Hb' v many root rows S2 D2 hD ok _ _ => q H' Hb' v many root rows (S1.dtrans S2 D1) D2 hD ok⟩
theorem ok_whole {f : Addr} {fd : FuncData} {k : Nat} (F : Fun K "_law_whole" "_law_whole" s_whole f fd) (T : TxtL mg) : FnOk P w K mg base CX0 (k + 1) f fd ["_law_found"] spWholeP := by
  refine F.ok sc_whole (fun vs H Q E h => ?_) (fun cdv A outer s H vs Q E hr h => ?_)
  · obtain ⟨i, rfl, _⟩ := h
    rfl
  · obtain ⟨i, rfl, q⟩ := h
    refine ⟨_, (pss_one (ps_ret (pe_and (pe_callB call_isi (by rfl) T.isi (by decide +kernel) (pa_cons (pv 0) (pa_cons (pe_bltn (v := .ty "int") (by rfl) T.int boot_int rfl) pa_nil))) (pe_one (pe_not (pe_callB call_isi (by rfl) T.isi (by decide +kernel) (pa_cons (pv 0) (pa_cons (pe_bltn (v := .ty "bool") (by rfl) T.bool (by decide +kernel) rfl) pa_nil)))))))), ?_⟩
    refine ⟨_, rfl, _, _, _, _, true, rfl, .ty _, .base (.int _), kit_ty (by decide +kernel), _, rfl, ite2 (fun _ => ?_) (fun z => absurd rfl z)⟩
    exact ⟨_, rfl, _, _, _, _, false, rfl, .ty _, .base (.int _), kit_ty (by decide +kernel), _, rfl, q⟩
end
end Rc
/-! part RcJ10a -/
/-! A road at another cost; _law_due. -/
namespace Rc
open PySem PySem.Spec PyProof.Rows L2
theorem dpAll_set {K : PySem.W.Frag} {H : Hp} {v : V} {d : PyData} (hv : Dp K H v d) : ∀ {vs : List V} {ds : List PyData}, DpAll K H vs ds → ∀ n : Nat, DpAll K H (vs.set n v) (ds.set n d)
  | _, _, .nil, n => .nil
  | _, _, .cons h1 h2, 0 => .cons hv h2
  | _, _, .cons h1 h2, n + 1 => .cons h1 (dpAll_set hv h2 n)
theorem set_parts {α : Type} {l : List α} {i : Nat} {x : α} (h : i < l.length) : l.take i ++ [x] ++ l.drop (i + 1) = l.set i x := by
  rw [List.set_eq_take_append_cons_drop, if_pos h, List.append_assoc]
  rfl
theorem rowAt_set {rows : List Row} {j k : Int} {r : Row} (j0 : 0 ≤ j) (j1 : j < (rows.length : Int)) (k0 : 0 ≤ k) : rowAt (rows.set j.toNat r) k = if k = j then r else rowAt rows k := by
  unfold rowAt
  rw [List.getD_eq_getElem?_getD, List.getD_eq_getElem?_getD]
  by_cases h : k = j
  · subst h
    rw [if_pos rfl, List.getElem?_set_self (by omega)]
    rfl
  · rw [if_neg h, List.getElem?_set_ne (by omega)]
theorem chart_set {n root : Int} {rows : List Row} {j : Nat} {r : Row} (ok : ChartOk n root rows) (hr : Row.Ok n r) : ChartOk n root (rows.set j r) := by
  obtain ⟨m0, m1, r0, r1, hl, h⟩ := ok
  refine ⟨m0, m1, r0, r1, by rw [List.length_set]; exact hl, fun x hx => ?_⟩
  rcases List.mem_or_eq_of_mem_set hx with z | z
  · exact h x z
  · rw [z]
    exact hr
theorem treeIn_congr {n root : Int} {ks : List Int} {rw rw' : Int → Row} {js : List Int} (h : ∀ k ∈ ks, rw' k = rw k) (t : TreeIn n root ks rw js) : TreeIn n root ks rw' js := by
  refine ⟨t.1, t.2.1, fun v v0 v1 => ?_⟩
  rw [List.map_congr_left fun k hk => h k (t.2.1 k hk)]
  exact t.2.2 v v0 v1
theorem cost_congr {ks : List Int} {rw rw' : Int → Row} {js : List Int} (h : ∀ k ∈ ks, rw' k = rw k) (hs : ∀ k ∈ js, k ∈ ks) : costOfK rw' js = costOfK rw js := by
  unfold costOfK
  rw [List.map_congr_left fun k hk => by rw [h k (hs k hk)]]
theorem least_congr {n root : Int} {ks : List Int} {rw rw' : Int → Row} {js : List Int} (h : ∀ k ∈ ks, rw' k = rw k) (L : LeastT n root ks rw js) : LeastT n root ks rw' js := by
  refine ⟨treeIn_congr h L.tree, fun is t => ?_⟩
  have t' := treeIn_congr (fun k hk => (h k hk).symm) t
  rw [cost_congr h L.tree.2.1, cost_congr h t'.2.1]
  exact L.le is t'
/-- what the cheapest costs, by the margin -/
theorem due_set {n root : Int} {rows : List Row} {j newer : Int} {r : Row} {ns ns' : List Int} {prs prs' : List Pr} {far : Option Int} (ok : ChartOk n root rows) (j0 : 0 ≤ j) (j1 : j < (rows.length : Int)) (hr : rows[j.toNat]? = some r)
    (Cp : Cheap n root rows ns prs) (M : MarginIs n root (idx rows.length) (rowAt rows) j ns far) (Cp' : Cheap n root (rows.set j.toNat ⟨r.b, r.g, newer⟩) ns' prs') : costOf (rows.set j.toNat ⟨r.b, r.g, newer⟩) ns' = dueOf (decide (j ∈ ns)) far (costOf rows ns) (newer - r.c) := by
  have er : rowAt rows j = r := by
    unfold rowAt
    rw [List.getD_eq_getElem?_getD, hr]
    rfl
  have hlen : (rows.set j.toNat ⟨r.b, r.g, newer⟩).length = rows.length := List.length_set
  have L := cheapK_least (cheapK_of_cheap Cp)
  have L1 := cheapK_least (cheapK_of_cheap Cp')
  rw [hlen] at L1
  have hrw : ∀ k ∈ idx rows.length, (fun k => if k = j then (⟨r.b, r.g, newer⟩ : Row) else rowAt rows k) k = rowAt (rows.set j.toNat ⟨r.b, r.g, newer⟩) k := fun k hk => by
    rw [rowAt_set j0 j1 (mem_idx.mp hk).1]
  have L2 := least_congr hrw L1
  have := due_is (rw' := fun k => if k = j then (⟨r.b, r.g, newer⟩ : Row) else rowAt rows k) (by' := newer - r.c) (c' := costOf (rows.set j.toNat ⟨r.b, r.g, newer⟩) ns') ok.r0 ok.r1 L M (fun k => by
      by_cases h : k = j
      · rw [if_pos h, h, er]
        exact ⟨rfl, rfl⟩
      · rw [if_neg h]
        exact ⟨rfl, rfl⟩) (by rw [if_pos rfl, er]; show newer = r.c + (newer - r.c); omega) (fun k h => by rw [if_neg h]) L2 (by rw [← cost_rowAt, cost_congr hrw L2.tree.2.1])
  rw [this, cost_rowAt]
def spDue : Sp := fun vs H Q _ => ∃ (b : Bool) (far : Option Int) (least by' : Int), vs = [inOut b, optV far, .int least, .int by'] ∧ Q (.int (dueOf b far least by')) H
theorem in_scal (b : Bool) : scal (inOut b) (.str "in") = true := by
  unfold inOut
  split <;> rfl
theorem in_dec (b : Bool) : decide (inOut b = V.str "in") = b := by
  cases b
  · unfold inOut
    rw [if_neg (by decide)]
    decide +kernel
  · unfold inOut
    rw [if_pos rfl]
    exact decide_eq_true rfl
section
variable {P : Program} {w : World} {K : PySem.W.Frag} {mg : Str → Option Value} {base : Heap}
end
end Rc
/-! part RcZ2 -/
/-! A list of all rows, each changed; what the first trees are under dearer roads. -/
namespace Rc
open PySem PySem.Spec PyProof.Rows L2
/-- the slots, written out -/
theorem at_ {t : TS} {D : Ends} {σ σ' : L2.St} {H : Hp} (h : σ = σ') (g : t D σ' H) : t D σ H := h ▸ g
structure NewTo (K : PySem.W.Frag) (H2 H' : Hp) (D : Addr) (ds : List PyData) (j : Nat) (acc : List V) (B : Hp) : Prop where
  old : Same H2 H'
  lst : H' D = some (.lst acc)
  len : acc.length = j
  base : Same H2 B
  sub : Same B H'
  no : B D = none
  all : DpAll K B acc (ds.take j)
theorem NewTo.start {K : PySem.W.Frag} {H2 : Hp} {D : Addr} {ds : List PyData} (h : H2 D = none) : NewTo K H2 (upd H2 D (.lst [])) D ds 0 [] H2 := ⟨same_new h, upd_same, rfl, same_refl, same_new h, h, .nil⟩
theorem NewTo.push {K : PySem.W.Frag} {H2 H3 : Hp} {D p : Addr} {ds : List PyData} {j : Nat} {acc : List V} {B : Hp} {d : PyData} {o : HO} (S : NewTo K H2 H3 D ds j acc B) (hr : ds[j]? = some d) (hp : H3 p = none) (few : ds.length ≤ 1000) (hd : ∀ G, Same B G → G p = some o → Dp K G (.ref p) d) :
    (upd H3 p o) D = some (.lst acc) ∧ acc.length < sizeLine ∧ NewTo K H2 (upd (upd H3 p o) D (.lst (acc ++ [.ref p]))) D ds (j + 1) (acc ++ [.ref p]) (upd B p o) := by
  have nDp : D ≠ p := ne_of_none S.lst hp
  have hBp : B p = none := S.sub.free hp
  have hjl : j < ds.length := (List.getElem?_eq_some_iff.mp hr).1
  refine ⟨by rw [upd_ne nDp]; exact S.lst, by rw [S.len]; exact small_lt (by omega), ?_, upd_same, by rw [List.length_append, S.len]; rfl, S.base.trans (same_new hBp), ?_, ?_, ?_⟩
  · exact same_mut (S.old.trans (same_new hp)) (S.base.free S.no)
  · exact same_mut (same_both S.sub hp) (by rw [upd_ne nDp]; exact S.no)
  · rw [upd_ne nDp]
    exact S.no
  · rw [take_succ hr]
    exact dpAll_app (dpAll_same (same_new hBp) _ _ S.all) (.cons (hd _ (same_new hBp) upd_same) .nil)
theorem NewTo.done {K : PySem.W.Frag} {H2 H' : Hp} {D : Addr} {ds : List PyData} {acc : List V} {B : Hp} {j : Nat} (S : NewTo K H2 H' D ds j acc B) (h : j = ds.length) : Dp K H' (.ref D) (.list ds) := by
  have e := S.all
  rw [h, List.take_length] at e
  exact .lst (.of S.lst) (dpAll_same S.sub _ _ e)
theorem NewTo.done2 {K : PySem.W.Frag} {H2 H' : Hp} {D : Addr} {ds : List PyData} {acc : List V} {B : Hp} {j : Nat} (S : NewTo K H2 H' D ds j acc B) (h : j = ds.length) : DpAll K H' acc ds := by
  have e := S.all
  rw [h, List.take_length] at e
  exact dpAll_same S.sub _ _ e
theorem rowsDat_map (rows : List Row) (φ : Row → Row) : PyData.list (rows.map fun r => (φ r).dat) = rowsDat (rows.map φ) := by
  unfold rowsDat
  rw [List.map_map]
  rfl
theorem pair_inv {K : PySem.W.Frag} {H : Hp} {v : V} {rw : Int → Row} {js : List Int} (h : Dp K H v (pairD rw js)) : ∃ t l : Addr, v = .ref t ∧ SqT K H t [.ref l, .int (costOfK rw js)] ∧ Dp K H (.ref l) (intsD js) := by
  obtain ⟨t, xs, rfl, hT, hA⟩ := dp_tup_inv h
  cases hA with
  | cons a1 hA =>
    cases hA with
    | cons a2 hA =>
      cases hA
      obtain rfl := dp_int_inv a2
      obtain ⟨l, ys, rfl, hS, hA2⟩ := dp_list_inv a1
      exact ⟨t, l, rfl, hT, .lst hS hA2⟩
theorem num_pairD (rw : Int → Row) (js : List Int) : Num 2 (pairD rw js) := fun d hd => by
  have : d = intsD js ∨ d = .int (costOfK rw js) := by simpa [pairD] using hd
  rcases this with rfl | rfl
  · exact num_ints js
  · trivial
theorem rowAt_map {rows : List Row} {φ : Row → Row} {k : Int} (hk : k ∈ idx rows.length) : rowAt (rows.map φ) k = φ (rowAt rows k) := by
  obtain ⟨a, b⟩ := mem_idx.mp hk
  have h : k.toNat < rows.length := by omega
  unfold rowAt
  rw [List.getD_eq_getElem?_getD, List.getD_eq_getElem?_getD, List.getElem?_map, List.getElem?_eq_getElem h]
  rfl
section
variable {n root : Int} {ks : List Int} {rw rw' : Int → Row} {m : Nat} {L L' : List (List Int)}
theorem cost_congrC {js : List Int} (h : ∀ k ∈ js, (rw' k).c = (rw k).c) : costOfK rw' js = costOfK rw js := by
  unfold costOfK
  rw [List.map_congr_left h]
theorem tree_into2 {v by' : Int} {js : List Int} (r0 : 0 ≤ root) (r1 : root < n) (v0 : 0 ≤ v) (v1 : v < n) (h : ∀ k ∈ ks, (rw' k).c = (rw k).c + if (rw k).g = v then by' else 0) (t : TreeIn n root ks rw js) : costOfK rw' js = costOfK rw js + if v = root then 0 else by' := by
  have e := cost_congrC (rw := fun k => ⟨(rw k).b, (rw k).g, (rw k).c + if (rw k).g = v then by' else 0⟩) (rw' := rw') (js := js) fun k hk => h k (t.2.1 k hk)
  rw [e]
  exact tree_into r0 r1 v0 v1 (fun k => rfl) t
theorem best_into2 {v by' : Int} (r0 : 0 ≤ root) (r1 : root < n) (v0 : 0 ≤ v) (v1 : v < n) (hb : ∀ k ∈ ks, (rw' k).b = (rw k).b ∧ (rw' k).g = (rw k).g) (h : ∀ k ∈ ks, (rw' k).c = (rw k).c + if (rw k).g = v then by' else 0) (B : BestIs n root ks rw m L) : BestIs n root ks rw' m L :=
  best_move hb (fun a b ta tb => by
    have ea := tree_into2 r0 r1 v0 v1 h ta
    have eb := tree_into2 r0 r1 v0 v1 h tb
    exact bef_same (by rw [ea, eb]; split <;> omega) (by rw [ea, eb]; split <;> omega)) B
theorem cheap_best1 {ns : List Int} {prs : List Pr} (C : CheapK n root ks rw ns prs) : BestIs n root ks rw 1 [ns] :=
  ⟨(fun js h => by
    rw [List.mem_singleton.mp h]
    exact ⟨C.tree, C.up⟩), List.pairwise_singleton _ _, (fun js t u => by
    rcases (C.first js u t).2 with e | e
    · exact .inl (List.mem_singleton.mpr e.symm)
    · exact .inr ⟨rfl, fun x hx => by
        rw [List.mem_singleton.mp hx]
        exact e⟩), Nat.le_refl _⟩
end
end Rc
/-! part RcHm1 -/
/-! determinant. -/
namespace Rc
open PySem PySem.Spec PyProof.Rows L2
def tabL (k n : Nat) (A : Nat → Nat → Int) : List (List Int) := (List.range n).map fun i => (List.range n).map fun j => ibrd k i j A
theorem tabL_len {k n : Nat} {A : Nat → Nat → Int} : (tabL k n A).length = n := by
  unfold tabL
  rw [List.length_map, List.length_range]
theorem tabL_get {k n i : Nat} {A : Nat → Nat → Int} (h : i < n) : (tabL k n A)[i]? = some ((List.range n).map fun j => ibrd k i j A) := by
  unfold tabL
  rw [List.getElem?_map, List.getElem?_range h]
  rfl
theorem row_get {k n i j : Nat} {A : Nat → Nat → Int} (h : j < n) : (((List.range n).map fun j => ibrd k i j A).map V.int)[j]? = some (.int (ibrd k i j A)) := by
  rw [List.getElem?_map, List.getElem?_map, List.getElem?_range h]
  rfl
theorem row_len {k n i : Nat} {A : Nat → Nat → Int} : (((List.range n).map fun j => ibrd k i j A).map V.int).length = n := by
  rw [List.length_map, List.length_map, List.length_range]
theorem NewTo.pushS {K : PySem.W.Frag} {H2 H3 G : Hp} {D p : Addr} {ds : List PyData} {j : Nat} {acc : List V} {B : Hp} {d : PyData} {o : HO} (S : NewTo K H2 H3 D ds j acc B) (hr : ds[j]? = some d) (hp : H3 p = none) (e : Same H3 G) (hG : G p = some o) (few : ds.length ≤ 1000) (hd : ∀ G, Same B G → G p = some o → Dp K G (.ref p) d) :
    G D = some (.lst acc) ∧ acc.length < sizeLine ∧ NewTo K H2 (upd G D (.lst (acc ++ [.ref p]))) D ds (j + 1) (acc ++ [.ref p]) (upd B p o) := by
  have nDp : D ≠ p := ne_of_none S.lst hp
  have hBp : B p = none := S.sub.free hp
  have hjl : j < ds.length := (List.getElem?_eq_some_iff.mp hr).1
  have sBG : Same (upd B p o) G := fun b o' hb => by
    by_cases z : b = p
    · rw [z, upd_same] at hb
      cases hb
      rw [z]
      exact hG
    · rw [upd_ne z] at hb
      exact e _ _ (S.sub _ _ hb)
  refine ⟨e _ _ S.lst, by rw [S.len]; exact small_lt (by omega), ?_, upd_same, by rw [List.length_append, S.len]; rfl, S.base.trans (same_new hBp), ?_, ?_, ?_⟩
  · exact same_mut (S.old.trans e) (S.base.free S.no)
  · exact same_mut sBG (by rw [upd_ne nDp]; exact S.no)
  · rw [upd_ne nDp]
    exact S.no
  · rw [take_succ hr]
    exact dpAll_app (dpAll_same (same_new hBp) _ _ S.all) (.cons (hd _ (same_new hBp) upd_same) .nil)
theorem cut_behind (xs : List V) (n : Nat) (h : n ≤ xs.length) : cutV xs (some (n : Int)) none = xs.drop n := by
  have h1 : HT.sIx xs.length 0 (some (n : Int)) = n := by
    simp only [HT.sIx]
    rw [if_neg (by omega)]
    omega
  have h2 : HT.sIx xs.length xs.length none = xs.length := rfl
  unfold cutV
  rw [h1, h2, List.take_of_length_le (by rw [List.length_drop]; exact Nat.le_refl _)]
/-- what is told of a table: the determinant; or 0, where a leading part's is 0 -/
def spDet (K : PySem.W.Frag) : Sp := fun vs H Q _ => ∃ (v : V) (m : Nat) (A : Nat → Nat → Int), vs = [v] ∧ m ≤ 20 ∧ (∀ r c, (A r c).natAbs ≤ 60) ∧ Dp K H v (listsD (tabL 0 m A)) ∧ (∀ k, k < m → 0 ≤ ibrd k 0 0 A) ∧
  ∀ z H', Same H H' → (z = ipiv m A ∨ (z = 0 ∧ ∃ k, k < m ∧ ibrd k 0 0 A = 0)) → Q (.int z) H'
section
variable {P : Program} {w : World} {K : PySem.W.Frag} {mg : Str → Option Value} {base : Heap}
theorem ok_det {f : Addr} {fd : FuncData} {k : Nat} (F : Fun K "determinant" "determinant" s_determinant f fd) (T : TxtL mg) : FnOk P w K mg base CX0 (k + 1) f fd ["rows"] (spDet K) := by
  refine F.ok sc_determinant (fun vs H Q E h => ?_) (fun cdv A0 outer s H vs Q E hr h => ?_)
  · obtain ⟨v, m, A, rfl, _⟩ := h
    rfl
  · obtain ⟨v, m, A, rfl, hm, hB, hV, hpos, q⟩ := h
    refine ⟨_, (pss_cons (ps_set (i := 1) sc_determinant.nd rfl (Or.inr rfl) pe_int)
  (pss_cons (ps_while PassesOwn.never (pt_truth (pv 0) (by intro _; rfl))
   (pss_cons (ps_set (i := 2) sc_determinant.nd rfl (Or.inr rfl) (pe_ix ix_list (pv 0) pe_int (fun _ _ => rfl)))
  (pss_cons (ps_set (i := 3) sc_determinant.nd rfl (Or.inr rfl) (pe_ix ix_list (pv 2) pe_int (fun _ _ => rfl)))
  (pss_cons (ps_if (pt_cmpR op_eq (pv 3) pe_int (nomark _))
   (pss_one (ps_ret pe_int))
   pss_nil)
  (pss_cons (ps_setLc (i := 0) (own := [("row", 4)]) (g := gName 4) (tt := tYes) rfl sc_determinant.nd rfl rfl (sw_true rfl rfl rfl (by decide +kernel)) (pi_list (pe_slice sl_list (pv 0) (po_some pe_int) po_none)) (blkOk_by (N := N_determinant) (sc := defScope s_determinant) (by decide +kernel)) (fun _ _ _ _ _ => (pg_name (i := 4) sc_determinant.nd rfl (Or.inr rfl))) (fun _ _ _ _ _ => pts_nil)
    (fun _ _ _ _ _ => (pe_lc (own := [("at", 5)]) (g := gName 5) (tt := tYes) rfl sc_determinant.nd (pi_range2 (by rfl) T.range (pa_cons pe_int (pa_cons (pe_callB (r := rLenK K) call_len_seq (by rfl) T.len PySem.boot_len (pa_cons (pv 4) pa_nil)) pa_nil))) (blkOk_by (by rfl)) (fun _ _ _ _ _ => (pg_name (i := 5) sc_determinant.nd rfl (Or.inl rfl))) (fun _ _ _ _ _ => pts_nil)
      (fun _ _ _ _ _ => (pe_op op_fdivW (pe_op op_sub (pe_op op_mulW (pv 3) (pe_ix (r := rIxL K) ix_list (pv 4) (pv 5) (fun _ _ => rfl))) (pe_op op_mulW (pe_ix (r := rIxL K) ix_list (pv 4) pe_int (fun _ _ => rfl)) (pe_ix (r := rIxL K) ix_list (pv 2) (pv 5) (fun _ _ => rfl)))) (pv 1))))))
  (pss_one (ps_set (i := 1) sc_determinant.nd rfl (Or.inr rfl) (pv 3))))))))
  (pss_one (ps_ret (pv 1))))), ?_⟩
    obtain ⟨a0, xs0, rfl, hS0, hA0⟩ := dp_list_inv hV
    obtain ⟨Inv, hInv⟩ : ∃ Inv : Nat → L2.St → Hp → Prop, ∀ k σ H', Inv k σ H' ↔ ∃ (a : Addr) (v2 v3 : Option V), k ≤ m ∧ Same H H' ∧ σ = [some (.ref a), some (.int (ipiv k A)), v2, v3, none, none] ∧ Dp K H' (.ref a) (listsD (tabL k (m - k) A)) ∧ ∀ t, t < k → 0 < ibrd t 0 0 A := ⟨_, fun _ _ _ => Iff.rfl⟩
    refine ⟨fun m' σ H' => ∃ k, m' = m - k ∧ Inv k σ H', ⟨_, 0, rfl, (hInv _ _ _).mpr ⟨a0, none, none, Nat.zero_le _, same_refl, rfl, hV, fun t ht => nomatch ht⟩⟩, ?_⟩
    rintro m' σ H1 ⟨k, rfl, hI⟩
    obtain ⟨a, v2, v3, hkm, e1, rfl, hD, hgt⟩ := (hInv _ _ _).mp hI
    obtain ⟨_, xs, ea, hS, hA⟩ := dp_list_inv hD
    cases ea
    have hxl : xs.length = m - k := by rw [dpAll_len hA, List.length_map, tabL_len]
    have hp1 : 0 < ipiv k A := by
      cases k with
      | zero => exact Int.one_pos
      | succ k => exact hgt k (by omega)
    refine ⟨_, rfl, !xs.isEmpty, .inl ⟨xs, hS, rfl⟩, ite2 (fun c => ?_) (fun c => ?_)⟩
    · have hlt : k < m := by
        cases xs with
        | nil => cases c
        | cons x xs => rw [List.length_cons] at hxl; omega
      have n0 : 0 < m - k := by omega
      obtain ⟨x0, hx0⟩ : ∃ x0, xs[0]? = some x0 := ⟨_, List.getElem?_eq_getElem (by omega)⟩
      obtain ⟨r0, f0, hr0, rfl, hF0⟩ := lists_get hA hx0
      rw [tabL_get n0] at hr0
      cases hr0
      have hc60 : ∀ i j, (ibrd k i j A).natAbs < 2 ^ 210 := fun i j => ibrd_lt hB (by omega)
      refine ⟨fun σ' H' => ∃ k', m - k' < m - k ∧ Inv k' σ' H', fun σ' H' ⟨k', z, p⟩ => ⟨_, z, k', rfl, p⟩, ?_⟩
      refine ⟨_, rfl, a, xs, _, _, rfl, rfl, hS, atI_nat (j := 0) hx0, ?_⟩
      refine ⟨_, rfl, f0, _, _, _, rfl, rfl, hF0, atI_nat (j := 0) (row_get n0), ?_⟩
      refine ⟨_, rfl, rfl, _, rfl, ite2 (fun c1 => ?_) (fun c1 => ?_)⟩
      · have z0 : ibrd k 0 0 A = 0 := V.int.inj (of_decide_eq_true c1)
        exact q 0 H1 e1 (.inr ⟨rfl, k, hlt, z0⟩)
      · have z0 : ibrd k 0 0 A ≠ 0 := fun z => c1 (decide_eq_true (by rw [z]))
        have z1 : 0 < ibrd k 0 0 A := by have := hpos k hlt; omega
        have hall : ∀ t, t ≤ k → ibrd t 0 0 A ≠ 0 := fun t ht => by
          rcases Nat.lt_or_eq_of_le ht with l | rfl
          · have := hgt t l; omega
          · exact z0
        refine ⟨_, rfl, _, rfl, a, xs, rfl, hS, fun p hp => ?_⟩
        have s2 := same_new (o := HO.lst (cutV xs (some 1) none)) hp
        have hp2 : (upd H1 p (.lst (cutV xs (some 1) none))) p = some (.lst (xs.drop 1)) := by
          rw [upd_same]
          show some (HO.lst (cutV xs (some ((1 : Nat) : Int)) none)) = _
          rw [cut_behind xs 1 (by omega)]
        have hA2 := dpAll_same s2 _ _ hA
        have hF2 : SqL K _ f0 _ := s2.seq hF0
        have e2 := e1.trans s2
        generalize upd H1 p (.lst (cutV xs (some 1) none)) = H2 at s2 hp2 hA2 hF2 e2
        refine ⟨p, rfl, ⟨_, .of hp2⟩, fun D hD => lc_list (K := K) (a := p) (xs := xs.drop 1) (fun i H' => ∃ acc B, NewTo K H2 H' D ((tabL (k + 1) (m - (k + 1)) A).map intsD) i acc B) ⟨_, _, NewTo.start hD⟩ (fun i H' _ ⟨_, _, S⟩ => .of (S.old _ _ hp2)) ?_ ?_⟩
        · rintro i x H3 hi ⟨acc, B, S⟩
          rw [List.getElem?_drop] at hi
          have hil : 1 + i < m - k := by
            have := (List.getElem?_eq_some_iff.mp hi).1
            omega
          obtain ⟨r1, f1, hr1, rfl, hF1⟩ := lists_get hA2 hi
          rw [tabL_get hil] at hr1
          cases hr1
          have hF1' := S.old.seq hF1
          have hF0' := S.old.seq hF2
          refine ⟨rfl, ?_⟩
          refine ⟨_, rfl, f1, _, rfl, .inl hF1', 1, ((((List.range (m - k)).map fun j => ibrd k (1 + i) j A).map V.int).length : Int), rfl, ⟨by decide, by decide, by rw [row_len]; omega, by rw [row_len]; omega⟩, fun D2 hD2 => ?_⟩
          rw [row_len]
          refine lc_range (lo := 1) (n := _) (fun j G => Same H3 G ∧ G D2 = some (.lst (((List.range j).map fun j => ibrd (k + 1) i j A).map V.int))) ⟨same_new hD2, upd_same⟩ ?_ ?_
          · rintro j G hj ⟨eG, hG⟩
            have hj2 : j + 1 < m - k := by omega
            have ej : (1 : Int) + (j : Int) = ((j + 1 : Nat) : Int) := by omega
            rw [ej]
            refine ⟨rfl, ?_⟩
            refine ⟨_, rfl, _, rfl, _, rfl, f1, _, _, _, rfl, rfl, eG.seq hF1', atI_nat (j := j + 1) (row_get hj2), _, _, rfl, rfl, wide_mul (hc60 _ _) (hc60 _ _) (by decide) (by decide) (by decide), ?_⟩
            refine ⟨_, rfl, f1, _, _, _, rfl, rfl, eG.seq hF1', atI_nat (j := 0) (row_get n0), _, rfl, _, rfl, f0, _, _, _, rfl, rfl, eG.seq hF0', atI_nat (j := j + 1) (row_get hj2), _, _, rfl, rfl, wide_mul (hc60 _ _) (hc60 _ _) (by decide) (by decide) (by decide), ?_⟩
            refine ⟨_, _, rfl, rfl, _, rfl, _, _, rfl, rfl, wide_div hp1 (ipiv_lt hB (by omega)) (by decide) (by decide), ?_⟩
            have est := ibrd_step (i := i) (j := j) hall hp1
            rw [Nat.add_comm i 1] at est
            dsimp only
            rw [est]
            refine ⟨_, hG, ?_, same_mut eG hD2, ?_⟩
            · rw [List.length_map, List.length_map, List.length_range]
              exact small_lt (by omega)
            · rw [upd_same, List.range_succ, List.map_append, List.map_append]
              rfl
          · rintro G ⟨eG, hG⟩
            have ek : (((m - k : Nat) : Int) - 1).toNat = m - (k + 1) := by omega
            rw [ek] at hG
            have hil2 : i < m - (k + 1) := by omega
            obtain ⟨h1, h2, h3⟩ := S.pushS (d := intsD ((List.range (m - (k + 1))).map fun j => ibrd (k + 1) i j A)) (by rw [List.getElem?_map, tabL_get hil2]; rfl) hD2 eG hG (by rw [List.length_map, tabL_len]; omega) fun G' eb hg => .lst (.of hg) (dpAll_ints _)
            exact ⟨acc, h1, h2, _, _, h3⟩
        · rintro H3 ⟨acc, B, S⟩
          have hDD := S.done (by rw [List.length_drop, List.length_map, tabL_len]; omega)
          refine ⟨_, rfl, k + 1, by omega, (hInv _ _ _).mpr ⟨D, _, _, by omega, e2.trans S.old, rfl, hDD, fun t ht => ?_⟩⟩
          rcases Nat.lt_or_eq_of_le (Nat.le_of_lt_succ ht) with l | rfl
          · exact hgt t l
          · exact z1
    · have hk : k = m := by
        cases xs with
        | nil => simp at hxl; omega
        | cons x xs => exact absurd rfl c
      subst hk
      exact ⟨_, rfl, q _ H1 e1 (.inl rfl)⟩
end
end Rc
/-! part RcDt3 -/
/-! The table of a way out of each place; the sum over all of them. -/
namespace Rc
def pmR (par : Nat → Option Nat) : Nat → Nat → Rat := fun r c => (if r = c then 1 else 0) - (if par r = some c then 1 else 0)
inductive OutP (par : Nat → Option Nat) : Nat → Prop
  | none {x} : par x = none → OutP par x
  | step {x y} : par x = some y → OutP par y → OutP par x
theorem OutP.ne {par : Nat → Option Nat} {x : Nat} (h : OutP par x) : par x ≠ some x := by
  induction h with
  | none e => rw [e]; exact nofun
  | @step x y e _ ih =>
    intro z
    rw [z] at e
    cases e
    exact ih z
def parP (par : Nat → Option Nat) (x : Nat) (o : Option Nat) : Nat → Option Nat := fun w => if w = x then o else par w
theorem pm_jump {n : Nat} {par : Nat → Option Nat} {x y : Nat} (hx : x < n) (hy : y < n) (e : par x = some y) (ne : y ≠ x) : detR n (pmR (parP par x (par y))) = detR n (pmR par) := by
  rw [← det_addrow (M := pmR par) (x := x) (y := y) (t := 1) hx hy (Ne.symm ne)]
  refine det_congr fun r c _ _ => ?_
  unfold rwR pmR parP
  dsimp only
  by_cases h : r = x
  · subst h
    rw [if_pos rfl, if_pos rfl, e]
    have : (if some y = some c then (1 : Rat) else 0) = if y = c then 1 else 0 := by
      by_cases z : y = c
      · rw [if_pos z, if_pos (by rw [z])]
      · rw [if_neg z, if_neg fun w => z (Option.some.inj w)]
    rw [this]
    grind
  · rw [if_neg h, if_neg h]
/-- k taken out of all ways -/
def skpR (par : Nat → Option Nat) (k j : Nat) : Nat → Option Nat := fun w => if w < j ∧ par w = some k then par k else par w
theorem pm_skp {n : Nat} {par : Nat → Option Nat} {k : Nat} (hk : k < n) (nk : par k ≠ some k) : ∀ j, j ≤ n → detR n (pmR (skpR par k j)) = detR n (pmR par) := by
  intro j
  induction j with
  | zero =>
    intro _
    have : skpR par k 0 = par := funext fun w => if_neg (by omega)
    rw [this]
  | succ j ih =>
    intro hj
    rw [← ih (by omega)]
    by_cases e : par j = some k
    · have ne : k ≠ j := fun z => nk (by rw [← z] at e; exact e)
      have h1 : skpR par k j j = some k := by
        unfold skpR
        rw [if_neg (by omega), e]
      have h2 : skpR par k j k = par k := by
        unfold skpR
        rw [if_neg fun z => nk z.2]
      rw [← pm_jump (par := skpR par k j) (x := j) (y := k) (by omega) hk h1 ne, h2]
      congr 2
      funext w
      unfold skpR parP
      dsimp only
      by_cases h3 : w = j
      · rw [if_pos (⟨by omega, by rw [h3, e]⟩ : w < j + 1 ∧ par w = some k), if_pos h3]
      · rw [if_neg h3]
        by_cases h4 : w < j ∧ par w = some k
        · rw [if_pos h4, if_pos ⟨by omega, h4.2⟩]
        · rw [if_neg h4, if_neg fun z => h4 ⟨by omega, z.2⟩]
    · have : skpR par k (j + 1) = skpR par k j := funext fun w => by
        unfold skpR
        by_cases h4 : w < j ∧ par w = some k
        · rw [if_pos h4, if_pos ⟨by omega, h4.2⟩]
        · rw [if_neg h4, if_neg fun z => ?_]
          have : w = j := by
            have := z.1
            have : ¬ w < j := fun q => h4 ⟨q, z.2⟩
            omega
          rw [this] at z
          exact e z.2
      rw [this]
theorem skp_out {n : Nat} {par : Nat → Option Nat} {k : Nat} (hn : ∀ w, w < n → ∀ v, par w = some v → v < n) {x : Nat} (hx : x < n) (hk : k < n) : OutP (skpR par k n) x ↔ OutP par x := by
  constructor
  · intro h
    induction h with
    | @none x e =>
      unfold skpR at e
      by_cases h : x < n ∧ par x = some k
      · rw [if_pos h] at e
        exact .step h.2 (.none e)
      · rw [if_neg h] at e
        exact .none e
    | @step x y e _ ih =>
      unfold skpR at e
      by_cases h : x < n ∧ par x = some k
      · rw [if_pos h] at e
        exact .step h.2 (.step e (ih (hn k hk y e)))
      · rw [if_neg h] at e
        exact .step e (ih (hn x hx y e))
  · intro h
    induction h with
    | @none x e =>
      refine .none ?_
      unfold skpR
      rw [if_neg (by rw [e]; intro z; cases z.2), e]
    | @step x y e h ih =>
      have hy := hn x hx y e
      have ih := ih hy
      by_cases z : y = k
      · have e2 : skpR par k n x = par k := by
          unfold skpR
          exact if_pos ⟨hx, by rw [e, z]⟩
        have e3 : skpR par k n y = par k := by
          unfold skpR
          by_cases h4 : par y = some k
          · exact absurd (show par y = some y by rw [h4, z]) h.ne
          · rw [if_neg fun q => h4 q.2, z]
        cases ih with
        | none e4 => exact .none (by rw [e2, ← e3, e4])
        | step e4 h4 => exact .step (by rw [e2, ← e3, e4]) h4
      · refine .step (y := y) ?_ ih
        unfold skpR
        rw [if_neg fun q => z (by rw [e] at q; exact Option.some.inj q.2), e]
theorem pm_det {n : Nat} : ∀ (k : Nat), k ≤ n → ∀ {par : Nat → Option Nat}, (∀ w, w < n → ∀ v, par w = some v → v < n) → (∀ w, w < n → ∀ v, par w = some v → v < k ∨ v = w) → ((∀ x, x < n → OutP par x) → detR n (pmR par) = 1) ∧ ((∃ x, x < n ∧ ¬ OutP par x) → detR n (pmR par) = 0) := by
  intro k
  induction k with
  | zero =>
    intro _ par hn hk
    have self : ∀ x, x < n → par x = some x → detR n (pmR par) = 0 := fun x hx e => det_zero_row hx fun c => by
      unfold pmR
      rw [e]
      by_cases z : x = c
      · rw [if_pos z, if_pos (by rw [z])]; grind
      · rw [if_neg z, if_neg fun w => z (Option.some.inj w)]; grind
    refine ⟨fun h => det_id fun r c hr _ => ?_, fun ⟨x, hx, h⟩ => ?_⟩
    · unfold pmR
      have : par r = none := by
        cases e : par r with
        | none => rfl
        | some v =>
          have : v = r := (hk r hr v e).resolve_left (by omega)
          rw [this] at e
          exact absurd e (h r hr).ne
      rw [this, if_neg (c := (none : Option Nat) = some c) nofun]
      grind
    · cases e : par x with
      | none => exact absurd (.none e) h
      | some v =>
        have : v = x := (hk x hx v e).resolve_left (by omega)
        rw [this] at e
        exact self x hx e
  | succ k ih =>
    intro hkn par hn hk
    by_cases nk : par k = some k
    · refine ⟨fun h => absurd nk (h k hkn).ne, fun _ => det_zero_row hkn fun c => ?_⟩
      unfold pmR
      rw [nk]
      by_cases z : k = c
      · rw [if_pos z, if_pos (by rw [z])]; grind
      · rw [if_neg z, if_neg fun w => z (Option.some.inj w)]; grind
    · have hb : ∀ w, w < n → ∀ v, skpR par k n w = some v → v < n := fun w hw v e => by
        unfold skpR at e
        by_cases h : w < n ∧ par w = some k
        · rw [if_pos h] at e
          exact hn k hkn v e
        · rw [if_neg h] at e
          exact hn w hw v e
      have hb2 : ∀ w, w < n → ∀ v, skpR par k n w = some v → v < k ∨ v = w := fun w hw v e => by
        unfold skpR at e
        by_cases h : w < n ∧ par w = some k
        · rw [if_pos h] at e
          rcases hk k hkn v e with q | q
          · refine .inl ?_
            have : v ≠ k := fun z => nk (by rw [e, z])
            omega
          · exact absurd (by rw [e, q]) nk
        · rw [if_neg h] at e
          rcases hk w hw v e with q | q
          · have : v ≠ k := fun z => h ⟨hw, by rw [e, z]⟩
            exact .inl (by omega)
          · exact .inr q
      have I := ih (by omega) hb hb2
      rw [pm_skp hkn nk n (Nat.le_refl _)] at I
      exact ⟨fun h => I.1 fun x hx => (skp_out hn hx hkn).mpr (h x hx), fun ⟨x, hx, h⟩ => I.2 ⟨x, hx, fun z => h ((skp_out hn hx hkn).mp z)⟩⟩
theorem pm_one {n : Nat} {par : Nat → Option Nat} (hn : ∀ w, w < n → ∀ v, par w = some v → v < n) (h : ∀ x, x < n → OutP par x) : detR n (pmR par) = 1 := (pm_det n (Nat.le_refl _) hn fun w hw v e => .inl (hn w hw v e)).1 h
theorem pm_none {n : Nat} {par : Nat → Option Nat} (hn : ∀ w, w < n → ∀ v, par w = some v → v < n) (h : ∃ x, x < n ∧ ¬ OutP par x) : detR n (pmR par) = 0 := (pm_det n (Nat.le_refl _) hn fun w hw v e => .inl (hn w hw v e)).2 h
/-! ### sums of rows -/
def lsm {α : Type} (l : List α) (f : α → Rat) : Rat := (l.map f).sum
theorem ls_nil {α : Type} {f : α → Rat} : lsm [] f = 0 := rfl
theorem ls_cons {α : Type} {a : α} {l : List α} {f : α → Rat} : lsm (a :: l) f = f a + lsm l f := by
  unfold lsm
  rw [List.map_cons, List.sum_cons]
theorem ls_append {α : Type} {a b : List α} {f : α → Rat} : lsm (a ++ b) f = lsm a f + lsm b f := by
  induction a with
  | nil => rw [List.nil_append, ls_nil]; grind
  | cons x a ih => rw [List.cons_append, ls_cons, ls_cons, ih]; grind
theorem ls_congr {α : Type} {l : List α} {f g : α → Rat} (h : ∀ a ∈ l, f a = g a) : lsm l f = lsm l g := by
  unfold lsm
  rw [List.map_congr_left h]
theorem ls_map {α β : Type} {l : List α} {h : α → β} {f : β → Rat} : lsm (l.map h) f = lsm l fun a => f (h a) := by
  unfold lsm
  rw [List.map_map]
  rfl
theorem det_sum {α : Type} {n x : Nat} {M : Nat → Nat → Rat} (hx : x < n) (e : α → Nat → Rat) : ∀ l : List α, detR n (rwR M x fun c => lsm l fun j => e j c) = lsm l fun j => detR n (rwR M x (e j))
  | [] => det_zero_row hx fun c => if_pos rfl
  | j :: l => by
    rw [ls_cons, ← det_sum hx e l]
    have : (fun c => lsm (j :: l) fun j => e j c) = fun c => e j c + 1 * lsm l fun j => e j c := funext fun c => by
      rw [ls_cons]
      grind
    rw [this, det_lin hx]
    grind
def optR {α : Type} (o : Option α) (f : α → Rat) : Rat := match o with | some j => f j | none => 0
/-- one of each -/
def pks {α : Type} : List (List α) → List (List α)
  | [] => [[]]
  | l :: lsm => l.flatMap fun j => (pks lsm).map (j :: ·)
theorem det_chs {α : Type} (e : α → Nat → Rat) : ∀ (rest : List (List α)) (pre : List α) (n : Nat) (R : Nat → Nat → Rat), n = pre.length + rest.length → (∀ r c j, pre[r]? = some j → R r c = e j c) → (∀ r c l, rest[r]? = some l → R (pre.length + r) c = lsm l fun j => e j c) →
    detR n R = lsm (pks rest) fun js => detR n fun r c => optR (pre ++ js)[r]? fun j => e j c
  | [], pre, n, R, hn, h1, _ => by
    show _ = lsm [[]] _
    rw [ls_cons, ls_nil, List.append_nil]
    have : detR n R = detR n fun r c => optR pre[r]? fun j => e j c := det_congr fun r c hr _ => by
      have hr2 : r < pre.length := by simp at hn; omega
      rw [List.getElem?_eq_getElem hr2]
      exact h1 r c _ (List.getElem?_eq_getElem hr2)
    rw [this]
    grind
  | l :: rest, pre, n, R, hn, h1, h2 => by
    have hx : pre.length < n := by rw [List.length_cons] at hn; omega
    have e1 : detR n R = detR n (rwR R pre.length fun c => lsm l fun j => e j c) := by
      congr 1
      funext r c
      unfold rwR
      by_cases z : r = pre.length
      · rw [if_pos z, z]
        exact h2 0 c l rfl
      · rw [if_neg z]
    rw [e1, det_sum hx]
    have e2 : lsm (pks (l :: rest)) (fun js => detR n fun r c => optR (pre ++ js)[r]? fun j => e j c) = lsm l fun j => lsm (pks rest) fun js => detR n fun r c => optR ((pre ++ [j]) ++ js)[r]? fun j => e j c := by
      show lsm (l.flatMap fun j => (pks rest).map (j :: ·)) _ = _
      generalize hf : (fun js : List α => detR n fun r c => optR (pre ++ js)[r]? fun j => e j c) = f
      have hf2 : ∀ j, (fun js : List α => detR n fun r c => optR ((pre ++ [j]) ++ js)[r]? fun j => e j c) = fun js => f (j :: js) := fun j => by
        rw [← hf]
        funext js
        rw [List.append_assoc]
        rfl
      simp only [hf2]
      clear h1 h2 e1 hn hx hf hf2
      induction l with
      | nil => rfl
      | cons j l ih => rw [List.flatMap_cons, ls_append, ih, ls_cons, ls_map]
    rw [e2]
    refine ls_congr fun j _ => ?_
    refine det_chs e rest (pre ++ [j]) n _ (by rw [List.length_append]; simp at hn ⊢; omega) (fun r c i hi => ?_) (fun r c l' hl => ?_)
    · unfold rwR
      by_cases z : r = pre.length
      · rw [if_pos z]
        rw [z, List.getElem?_append_right (Nat.le_refl _), Nat.sub_self] at hi
        cases hi
        rfl
      · rw [if_neg z]
        refine h1 r c i ?_
        have : r < (pre ++ [j]).length := (List.getElem?_eq_some_iff.mp hi).1
        rw [List.length_append] at this
        rw [List.getElem?_append_left (by simp at this; omega)] at hi
        exact hi
    · unfold rwR
      rw [List.length_append, if_neg (by simp; omega)]
      have := h2 (r + 1) c l' (by rw [List.getElem?_cons_succ]; exact hl)
      rw [← this]
      congr 1
      simp
      omega
end Rc
/-! part RcY6 -/
/-! On the way from one tree to another one. -/
namespace Rc
open PySem PySem.Spec PyProof.Rows L2
section
variable {n root : Int} {ks : List Int} {rw : Int → Row} {one other js : List Int}
/-- the roads of the other one into the places of S, which holds whatever leads there in the other one; else those of the one -/
theorem mix_tree (r0 : 0 ≤ root) (r1 : root < n) (row : ∀ k ∈ ks, 0 ≤ (rw k).g ∧ (rw k).g < n) {S : Int → Prop} (t1 : TreeIn n root ks rw one) (t2 : TreeIn n root ks rw other) (closed : ∀ j ∈ other, S (rw j).g → (rw j).b = root ∨ S (rw j).b)
    (hl : (js.length : Int) = n - 1) (hk : ∀ j ∈ js, j ∈ ks) (h1 : ∀ j ∈ one, ¬ S (rw j).g → j ∈ js) (h2 : ∀ j ∈ other, S (rw j).g → j ∈ js) : TreeIn n root ks rw js := by
  have inS : ∀ v, Reach (other.map rw) root v → (v = root ∨ S v) → Reach (js.map rw) root v := fun v x => by
    induction x with
    | root => exact fun _ => .root
    | @step r hr _ ih =>
      intro h
      obtain ⟨j, hj, rfl⟩ := List.mem_map.mp hr
      have hS : S (rw j).g := h.elim (fun e => absurd e (root_noneK r0 r1 t2 hj)) id
      exact .step (List.mem_map_of_mem (f := rw) (h2 j hj hS)) (ih (closed j hj hS))
  have all : ∀ v, Reach (one.map rw) root v → Reach (js.map rw) root v := fun v x => by
    induction x with
    | root => exact .root
    | @step r hr _ ih =>
      obtain ⟨j, hj, rfl⟩ := List.mem_map.mp hr
      obtain ⟨g0, g1⟩ := row j (t1.2.1 j hj)
      by_cases c : S (rw j).g
      · exact inS _ (t2.2.2 _ g0 g1) (.inr c)
      · exact .step (List.mem_map_of_mem (f := rw) (h1 j hj c)) ih
  exact ⟨hl, hk, fun v v0 v1 => all v (t1.2.2 v v0 v1)⟩
/-- how many roads of a tree lead to a place -/
structure DepthIs (root : Int) (rw : Int → Row) (js : List Int) (dp : Int → Nat) : Prop where
  rt : dp root = 0
  on : ∀ j ∈ js, dp (rw j).g = dp (rw j).b + 1
/-- before a place in the told order, or the place itself -/
def Upto (dp : Int → Nat) (v u : Int) : Prop := dp u < dp v ∨ (dp u = dp v ∧ u ≤ v)
theorem upto_closed {dp : Int → Nat} (D : DepthIs root rw other dp) (v : Int) : ∀ j ∈ other, Upto dp v (rw j).g → (rw j).b = root ∨ Upto dp v (rw j).b := fun j hj h => by
  have := D.on j hj
  unfold Upto at h ⊢
  right
  left
  omega
/-- a road of a tree given for another one into the same place -/
theorem swap_len {a b : Int} (nd : js.Nodup) (ha : a ∈ js) (hb : b ∉ js) : (b :: js.erase a).length = js.length ∧ (b :: js.erase a).Nodup := by
  refine ⟨?_, List.nodup_cons.mpr ⟨fun z => hb (List.mem_of_mem_erase z), nd.erase a⟩⟩
  rw [List.length_cons, List.length_erase_of_mem ha]
  have : 0 < js.length := List.length_pos_of_mem ha
  omega
/-- the depths are determined -/
theorem depth_uniq {dp dq : Int → Nat} (D : DepthIs root rw js dp) (E : DepthIs root rw js dq) {v : Int} (h : Reach (js.map rw) root v) : dp v = dq v := by
  induction h with
  | root => rw [D.rt, E.rt]
  | @step r hr _ ih =>
    obtain ⟨j, hj, rfl⟩ := List.mem_map.mp hr
    rw [D.on j hj, E.on j hj, ih]
end
end Rc
/-! part RcY8 -/
/-! The road of a tree into a place; how many roads lead there. -/
namespace Rc
open PySem PySem.Spec PyProof.Rows L2
def inTo (rw : Int → Row) (js : List Int) (v : Int) : Int := (js.find? fun j => decide ((rw j).g = v)).getD 0
section
variable {n root : Int} {ks : List Int} {rw : Int → Row} {js : List Int}
theorem goal_inj (r0 : 0 ≤ root) (r1 : root < n) (t : TreeIn n root ks rw js) {i j : Int} (hi : i ∈ js) (hj : j ∈ js) (e : (rw i).g = (rw j).g) : i = j := by
  have nd : (js.map fun r => (rw r).g).Nodup := (goalsK r0 r1 t).nodup_iff.mpr (others_nodup _ _)
  obtain ⟨a, ha⟩ := List.getElem?_of_mem hi
  obtain ⟨b, hb⟩ := List.getElem?_of_mem hj
  have h1 : (js.map fun r => (rw r).g)[a]? = some (rw i).g := by rw [List.getElem?_map, ha]; rfl
  have h2 : (js.map fun r => (rw r).g)[b]? = some (rw i).g := by rw [List.getElem?_map, hb, e]; rfl
  have := nodup_at nd h1 h2
  rw [this, hb] at ha
  exact (Option.some.inj ha).symm
theorem inTo_at (r0 : 0 ≤ root) (r1 : root < n) (t : TreeIn n root ks rw js) {j : Int} (hj : j ∈ js) : inTo rw js (rw j).g = j := by
  unfold inTo
  cases e : js.find? fun i => decide ((rw i).g = (rw j).g) with
  | none =>
    have := List.find?_eq_none.mp e j hj
    simp at this
  | some i =>
    have h1 := List.find?_some e
    exact goal_inj r0 r1 t (List.mem_of_find?_eq_some e) hj (of_decide_eq_true h1)
theorem into_some (r0 : 0 ≤ root) (r1 : root < n) (t : TreeIn n root ks rw js) {v : Int} (v0 : 0 ≤ v) (v1 : v < n) (ne : v ≠ root) : inTo rw js v ∈ js ∧ (rw (inTo rw js v)).g = v := by
  have : v ∈ js.map fun r => (rw r).g := (goalsK r0 r1 t).mem_iff.mpr (mem_others.mpr ⟨v0, by omega, ne⟩)
  obtain ⟨j, hj, rfl⟩ := List.mem_map.mp this
  rw [inTo_at r0 r1 t hj]
  exact ⟨hj, rfl⟩
/-- m roads lead to v -/
inductive DLen (root : Int) (rw : Int → Row) (js : List Int) : Int → Nat → Prop
  | root : DLen root rw js root 0
  | step {j : Int} {m : Nat} : j ∈ js → DLen root rw js (rw j).b m → DLen root rw js (rw j).g (m + 1)
theorem dlen_ex {v : Int} (h : Reach (js.map rw) root v) : ∃ m, DLen root rw js v m := by
  induction h with
  | root => exact ⟨0, .root⟩
  | @step r hr _ ih =>
    obtain ⟨j, hj, rfl⟩ := List.mem_map.mp hr
    obtain ⟨m, hm⟩ := ih
    exact ⟨m + 1, .step hj hm⟩
theorem dlen_uniq (r0 : 0 ≤ root) (r1 : root < n) (t : TreeIn n root ks rw js) {v : Int} {m : Nat} (h : DLen root rw js v m) : ∀ m', DLen root rw js v m' → m = m' := by
  induction h with
  | root =>
    intro m' h
    generalize hv : root = v at h
    cases h with
    | root => rfl
    | step hj _ => exact absurd hv.symm (root_noneK r0 r1 t hj)
  | @step j m hj _ ih =>
    intro m' h
    generalize hv : (rw j).g = v at h
    cases h with
    | root => exact absurd hv (root_noneK r0 r1 t hj)
    | @step i m2 hi h2 =>
      have := goal_inj r0 r1 t hj hi hv
      subst this
      rw [ih _ h2]
/-- the depths -/
noncomputable def depthsOf (root : Int) (rw : Int → Row) (js : List Int) (v : Int) : Nat := open Classical in if h : ∃ m, DLen root rw js v m then h.choose else 0
theorem depthsOf_is (r0 : 0 ≤ root) (r1 : root < n) (t : TreeIn n root ks rw js) {v : Int} {m : Nat} (h : DLen root rw js v m) : depthsOf root rw js v = m := by
  unfold depthsOf
  rw [dif_pos ⟨m, h⟩]
  exact dlen_uniq r0 r1 t (Exists.choose_spec (⟨m, h⟩ : ∃ m, DLen root rw js v m)) m h
theorem depths_ok (r0 : 0 ≤ root) (r1 : root < n) (row : ∀ k ∈ ks, 0 ≤ (rw k).b ∧ (rw k).b < n) (t : TreeIn n root ks rw js) : DepthIs root rw js (depthsOf root rw js) := by
  refine ⟨depthsOf_is r0 r1 t .root, fun j hj => ?_⟩
  obtain ⟨b0, b1⟩ := row j (t.2.1 j hj)
  obtain ⟨m, hm⟩ := dlen_ex (t.2.2 _ b0 b1)
  rw [depthsOf_is r0 r1 t hm, depthsOf_is r0 r1 t (.step hj hm)]
end
end Rc
/-! part RcDt4 -/
/-! How many trees there are: the mathematics. -/
namespace Rc
open PySem PySem.Spec PyProof.Rows L2
theorem mem_pks {α : Type} : ∀ {Ls : List (List α)} {js : List α}, js ∈ pks Ls ↔ js.length = Ls.length ∧ ∀ (r : Nat) (l : List α) (j : α), Ls[r]? = some l → js[r]? = some j → j ∈ l
  | [], js => by
    show js ∈ [[]] ↔ _
    rw [List.mem_singleton]
    constructor
    · rintro rfl
      exact ⟨rfl, fun r l j h => by simp at h⟩
    · exact fun h => List.length_eq_zero_iff.mp h.1
  | l :: Ls, js => by
    show js ∈ (l.flatMap fun j => (pks Ls).map (j :: ·)) ↔ _
    rw [List.mem_flatMap]
    constructor
    · rintro ⟨j, hj, h⟩
      obtain ⟨is, hi, rfl⟩ := List.mem_map.mp h
      obtain ⟨h1, h2⟩ := mem_pks.mp hi
      refine ⟨by rw [List.length_cons, List.length_cons, h1], fun r l' j' a b => ?_⟩
      cases r with
      | zero =>
        cases a
        cases b
        exact hj
      | succ r => exact h2 r l' j' a b
    · rintro ⟨h1, h2⟩
      cases js with
      | nil => cases h1
      | cons j is =>
        refine ⟨j, h2 0 l j rfl rfl, List.mem_map.mpr ⟨is, mem_pks.mpr ⟨?_, fun r l' j' a b => h2 (r + 1) l' j' a b⟩, rfl⟩⟩
        rw [List.length_cons, List.length_cons] at h1
        omega
theorem pks_nodup {α : Type} : ∀ {Ls : List (List α)}, (∀ l ∈ Ls, l.Nodup) → (pks Ls).Nodup
  | [], _ => by simp [pks]
  | l :: Ls, h => by
    refine flat_nodup (h l List.mem_cons_self) (fun j _ => ?_) (fun a _ b _ z ha hb => ?_)
    · have := pks_nodup fun l' hl => h l' (List.mem_cons_of_mem _ hl)
      unfold List.Nodup at this ⊢
      rw [List.pairwise_map]
      exact this.imp fun h e => h (List.cons.inj e).2
    · obtain ⟨x, _, rfl⟩ := List.mem_map.mp ha
      obtain ⟨y, _, e⟩ := List.mem_map.mp hb
      exact (List.cons.inj e).1.symm
/-- an entry of a road's row -/
def entR (rw : Int → Row) (ps : List Int) (j : Int) (c : Nat) : Rat := (if ps[c]? = some (rw j).g then 1 else 0) - (if ps[c]? = some (rw j).b then 1 else 0)
noncomputable def posOf (ps : List Int) (b : Int) : Option Nat := open Classical in if h : ∃ c : Nat, ps[c]? = some b then some h.choose else none
theorem posOf_iff {ps : List Int} (nd : ps.Nodup) {b : Int} {c : Nat} : posOf ps b = some c ↔ ps[c]? = some b := by
  unfold posOf
  by_cases h : ∃ c : Nat, ps[c]? = some b
  · rw [dif_pos h]
    constructor
    · intro e
      have := h.choose_spec
      rwa [Option.some.inj e] at this
    · intro e
      rw [nodup_at nd h.choose_spec e]
  · rw [dif_neg h]
    exact ⟨nofun, fun e => absurd ⟨c, e⟩ h⟩
noncomputable def parOf (rw : Int → Row) (ps js : List Int) (r : Nat) : Option Nat := (js[r]?).bind fun j => posOf ps (rw j).b
/-- the way leads out of the places from each of them -/
def AllOut (rw : Int → Row) (ps js : List Int) : Prop := ∀ x, x < ps.length → OutP (parOf rw ps js) x
section
variable {rw : Int → Row} {ps : List Int} {into : Int → List Int}
theorem choice_det (nd : ps.Nodup) (hg : ∀ p, ∀ j ∈ into p, (rw j).g = p) {js : List Int} (h : js ∈ pks (ps.map into)) : detR ps.length (fun r c => optR js[r]? fun j => entR rw ps j c) = open Classical in if AllOut rw ps js then 1 else 0 := by
  obtain ⟨h1, h2⟩ := mem_pks.mp h
  rw [List.length_map] at h1
  have e : detR ps.length (fun r c => optR js[r]? fun j => entR rw ps j c) = detR ps.length (pmR (parOf rw ps js)) := det_congr fun r c hr hc => by
    obtain ⟨j, hj⟩ : ∃ j, js[r]? = some j := ⟨_, List.getElem?_eq_getElem (by omega)⟩
    have hp : ps[r]? = some ps[r] := List.getElem?_eq_getElem hr
    have hm := h2 r (into ps[r]) j (by rw [List.getElem?_map, hp]; rfl) hj
    rw [hj]
    show entR rw ps j c = pmR (parOf rw ps js) r c
    unfold entR pmR parOf
    rw [hj, hg _ _ hm]
    show _ = (if r = c then (1 : Rat) else 0) - if posOf ps (rw j).b = some c then 1 else 0
    congr 1
    · by_cases z : r = c
      · rw [if_pos z, if_pos (by rw [← z, hp])]
      · rw [if_neg z, if_neg fun w => z (nodup_at nd hp w)]
    · by_cases z : ps[c]? = some (rw j).b
      · rw [if_pos z, if_pos ((posOf_iff nd).mpr z)]
      · rw [if_neg z, if_neg fun w => z ((posOf_iff nd).mp w)]
  have hb : ∀ w, w < ps.length → ∀ v, parOf rw ps js w = some v → v < ps.length := fun w _ v e => by
    unfold parOf at e
    obtain ⟨j, _, e⟩ := Option.bind_eq_some_iff.mp e
    exact (List.getElem?_eq_some_iff.mp ((posOf_iff nd).mp e)).1
  rw [e]
  open Classical in
  by_cases z : AllOut rw ps js
  · rw [if_pos z]
    exact pm_one hb z
  · rw [if_neg z]
    refine pm_none hb ?_
    obtain ⟨x, hx⟩ := Classical.not_forall.mp z
    exact ⟨x, Classical.not_imp.mp hx⟩
/-- the table of a list of places -/
def lapR (rw : Int → Row) (ps : List Int) (into : Int → List Int) : Nat → Nat → Rat := fun r c => match ps[r]? with | some p => lsm (into p) fun j => entR rw ps j c | none => 0
open Classical in
/-- how many choices lead out -/
noncomputable def outs (rw : Int → Row) (ps : List Int) (into : Int → List Int) : List (List Int) := (pks (ps.map into)).filter fun js => decide (AllOut rw ps js)
open Classical in
theorem lsm_count {α : Type} {p : α → Prop} : ∀ l : List α, lsm l (fun a => if p a then 1 else 0) = (((l.filter fun a => decide (p a)).length : Nat) : Rat)
  | [] => rfl
  | a :: l => by
    rw [ls_cons, lsm_count l, List.filter_cons]
    by_cases h : p a
    · rw [if_pos h, if_pos (decide_eq_true h), List.length_cons]
      grind
    · rw [if_neg h, if_neg (by simpa using h)]
      grind
theorem lap_det (nd : ps.Nodup) (hg : ∀ p, ∀ j ∈ into p, (rw j).g = p) : detR ps.length (lapR rw ps into) = (((outs rw ps into).length : Nat) : Rat) := by
  rw [det_chs (entR rw ps) (ps.map into) [] ps.length _ (by simp) (fun r c j h => by simp at h) (fun r c l h => ?_)]
  · unfold outs
    rw [← lsm_count]
    refine ls_congr fun js hjs => ?_
    exact choice_det nd hg hjs
  · rw [List.getElem?_map] at h
    obtain ⟨p, hp, rfl⟩ := Option.map_eq_some_iff.mp h
    unfold lapR
    show (match ps[([] : List Int).length + r]? with | some p => _ | none => _) = _
    rw [List.length_nil, Nat.zero_add, hp]
open Classical in
/-- fewer places: the leading part -/
theorem outs_take (nd : ps.Nodup) (k : Nat) {js : List Int} (h : js ∈ outs rw ps into) : js.take k ∈ outs rw (ps.take k) into := by
  unfold outs at h ⊢
  obtain ⟨h1, h2⟩ := List.mem_filter.mp h
  have h2 := of_decide_eq_true h2
  obtain ⟨l1, l2⟩ := mem_pks.mp h1
  rw [List.length_map] at l1
  refine List.mem_filter.mpr ⟨mem_pks.mpr ⟨by rw [List.length_map, List.length_take, List.length_take, l1], fun r l j a b => ?_⟩, decide_eq_true ?_⟩
  · rw [List.getElem?_map, List.getElem?_take] at a
    rw [List.getElem?_take] at b
    by_cases z : r < k
    · rw [if_pos z] at a b
      exact l2 r l j (by rw [List.getElem?_map]; exact a) b
    · rw [if_neg z] at b
      cases b
  · intro x hx
    have ndt : (ps.take k).Nodup := nd.sublist (List.take_sublist _ _)
    rw [List.length_take] at hx
    have key : ∀ x, OutP (parOf rw ps js) x → x < k → OutP (parOf rw (ps.take k) (js.take k)) x := fun x h => by
      induction h with
      | @none x e =>
        intro hk
        refine .none ?_
        unfold parOf at e ⊢
        rw [List.getElem?_take, if_pos hk]
        cases hj : js[x]? with
        | none => rfl
        | some j =>
          rw [hj] at e
          show posOf (ps.take k) (rw j).b = none
          cases hq : posOf (ps.take k) (rw j).b with
          | none => rfl
          | some c =>
            have := (posOf_iff ndt).mp hq
            rw [List.getElem?_take] at this
            by_cases z : c < k
            · rw [if_pos z] at this
              have := (posOf_iff nd).mpr this
              rw [show posOf ps (rw j).b = none from e] at this
              cases this
            · rw [if_neg z] at this
              cases this
      | @step x y e _ ih =>
        intro hk
        unfold parOf at e
        cases hj : js[x]? with
        | none => rw [hj] at e; cases e
        | some j =>
          rw [hj] at e
          have e := (posOf_iff nd).mp e
          by_cases z : y < k
          · refine .step (y := y) ?_ (ih z)
            unfold parOf
            rw [List.getElem?_take, if_pos hk, hj]
            exact (posOf_iff ndt).mpr (by rw [List.getElem?_take, if_pos z]; exact e)
          · refine .none ?_
            unfold parOf
            rw [List.getElem?_take, if_pos hk, hj]
            show posOf (ps.take k) (rw j).b = none
            cases hq : posOf (ps.take k) (rw j).b with
            | none => rfl
            | some c =>
              have h3 := (posOf_iff ndt).mp hq
              rw [List.getElem?_take] at h3
              by_cases z2 : c < k
              · rw [if_pos z2] at h3
                have := nodup_at nd h3 e
                omega
              · rw [if_neg z2] at h3
                cases h3
    exact key x (h2 x (by omega)) (by omega)
end
section
variable {n root : Int} {rows : List Row}
theorem into_goal {p j : Int} (h : j ∈ into rows p) : (rowAt rows j).g = p := by
  obtain ⟨_, r, hr, rfl⟩ := mem_into.mp h
  unfold rowAt
  rw [List.getD_eq_getElem?_getD, hr]
  rfl
/-- a choice leads out just where it is a tree -/
theorem out_tree (ok : ChartOk n root rows) {js : List Int} (h : js ∈ pks ((others root n.toNat).map (into rows))) : AllOut (rowAt rows) (others root n.toNat) js ↔ IsTree n root rows js := by
  obtain ⟨m0, m1, r0, r1, _, hrows⟩ := id ok
  have nd := others_nodup root n.toNat
  have hol := others_len (root := root) (n := n.toNat) r0 (by omega)
  generalize hps : others root n.toNat = ps at h nd hol ⊢
  have mps : ∀ v, v ∈ ps ↔ 0 ≤ v ∧ v < n ∧ v ≠ root := fun v => by
    rw [← hps, mem_others]
    omega
  obtain ⟨h1, h2⟩ := mem_pks.mp h
  rw [List.length_map] at h1
  have at_ : ∀ x (hx : x < ps.length), ∃ j, js[x]? = some j ∧ j ∈ into rows ps[x] := fun x hx =>
    ⟨js[x], List.getElem?_eq_getElem (by omega), h2 x (into rows ps[x]) _ (by rw [List.getElem?_map, List.getElem?_eq_getElem hx]; rfl) (List.getElem?_eq_getElem (by omega))⟩
  have inl : ∀ x j, js[x]? = some j → ∃ hx : x < ps.length, j ∈ into rows ps[x] := fun x j hj => by
    have hx : x < js.length := (List.getElem?_eq_some_iff.mp hj).1
    obtain ⟨j', e, m⟩ := at_ x (by omega)
    rw [hj] at e
    cases e
    exact ⟨by omega, m⟩
  have rk : ∀ x j, js[x]? = some j → j ∈ idx rows.length ∧ Row.Ok n (rowAt rows j) := fun x j hj => by
    obtain ⟨hx, m⟩ := inl x j hj
    obtain ⟨j0, r, hr, _⟩ := mem_into.mp m
    have hl := (List.getElem?_eq_some_iff.mp hr).1
    refine ⟨mem_idx.mpr ⟨j0, by omega⟩, ?_⟩
    have : rowAt rows j = r := by
      unfold rowAt
      rw [List.getD_eq_getElem?_getD, hr]
      rfl
    rw [this]
    exact hrows r (List.mem_of_getElem? hr)
  constructor
  · intro ho
    refine treeIn_all.mp ⟨by omega, fun j hj => ?_, ?_⟩
    · obtain ⟨x, hx⟩ := List.getElem?_of_mem hj
      exact (rk x j hx).1
    · have key : ∀ x, OutP (parOf (rowAt rows) ps js) x → ∀ hx : x < ps.length, Reach (js.map (rowAt rows)) root ps[x] := fun x h => by
        induction h with
        | @none x e =>
          intro hx
          obtain ⟨j, hj, m⟩ := at_ x hx
          have hb : (rowAt rows j).b = root := by
            refine Classical.byContradiction fun z => ?_
            have ok' := (rk x j hj).2
            have hm : (rowAt rows j).b ∈ ps := (mps _).mpr ⟨ok'.b0, ok'.b1, z⟩
            obtain ⟨c, hc⟩ := List.getElem?_of_mem hm
            have := (posOf_iff nd).mpr hc
            unfold parOf at e
            rw [hj] at e
            rw [show posOf ps (rowAt rows j).b = none from e] at this
            cases this
          rw [← into_goal m]
          exact .step (List.mem_map_of_mem (f := rowAt rows) (List.mem_of_getElem? hj)) (by rw [hb]; exact .root)
        | @step x y e _ ih =>
          intro hx
          obtain ⟨j, hj, m⟩ := at_ x hx
          unfold parOf at e
          rw [hj] at e
          have e := (posOf_iff nd).mp e
          have hy := (List.getElem?_eq_some_iff.mp e)
          rw [← into_goal m]
          refine .step (List.mem_map_of_mem (f := rowAt rows) (List.mem_of_getElem? hj)) ?_
          have := ih hy.1
          rw [hy.2] at this
          exact this
      intro v v0 v1
      by_cases z : v = root
      · rw [z]; exact .root
      · obtain ⟨x, hx⟩ := List.getElem?_of_mem ((mps v).mpr ⟨v0, v1, z⟩)
        obtain ⟨hx, e⟩ := List.getElem?_eq_some_iff.mp hx
        rw [← e]
        exact key x (ho x hx) hx
  · intro t
    have t := treeIn_all.mpr t
    have key : ∀ v, Reach (js.map (rowAt rows)) root v → ∀ x, ps[x]? = some v → OutP (parOf (rowAt rows) ps js) x := fun v h => by
      induction h with
      | root => exact fun x hx => absurd rfl ((mps root).mp (List.mem_of_getElem? hx)).2.2
      | @step r hr _ ih =>
        intro x hx
        obtain ⟨j, hj, rfl⟩ := List.mem_map.mp hr
        obtain ⟨hx', e⟩ := List.getElem?_eq_some_iff.mp hx
        obtain ⟨j2, hj2, m⟩ := at_ x hx'
        have : j2 = j := goal_inj r0 r1 t (List.mem_of_getElem? hj2) hj (by rw [into_goal m, e])
        subst this
        have ok' := (rk x j2 hj2).2
        by_cases z : (rowAt rows j2).b = root
        · refine .none ?_
          unfold parOf
          rw [hj2]
          show posOf ps (rowAt rows j2).b = none
          cases hq : posOf ps (rowAt rows j2).b with
          | none => rfl
          | some c => exact absurd z ((mps _).mp (List.mem_of_getElem? ((posOf_iff nd).mp hq))).2.2
        · obtain ⟨y, hy⟩ := List.getElem?_of_mem ((mps _).mpr ⟨ok'.b0, ok'.b1, z⟩)
          refine .step (y := y) ?_ (ih y hy)
          unfold parOf
          rw [hj2]
          exact (posOf_iff nd).mpr hy
    intro x hx
    obtain ⟨v0, v1, _⟩ := (mps ps[x]).mp (List.getElem_mem hx)
    exact key _ (t.2.2 _ v0 v1) x (List.getElem?_eq_getElem hx)
/-- so many trees -/
def Cnt (n root : Int) (ks : List Int) (rw : Int → Row) (k : Nat) : Prop := ∃ L : List (List Int), L.Nodup ∧ (∀ js, js ∈ L ↔ js.Pairwise (· ≤ ·) ∧ TreeIn n root ks rw js) ∧ L.length = k
theorem Cnt.uniq {ks : List Int} {rw : Int → Row} {k k' : Nat} (h : Cnt n root ks rw k) (h' : Cnt n root ks rw k') : k = k' := by
  obtain ⟨L, n1, m1, rfl⟩ := h
  obtain ⟨L', n2, m2, rfl⟩ := h'
  exact ((List.perm_ext_iff_of_nodup n1 n2).mpr fun js => (m1 js).trans (m2 js).symm).length_eq
theorem TreesAre.cnt {L : List (List Int)} (A : TreesAre n root rows L) : Cnt n root (idx rows.length) (rowAt rows) L.length :=
  ⟨L, A.nd, fun js => ⟨fun h => ⟨(A.told js h).1, treeIn_all.mpr (A.told js h).2⟩, fun h => A.all js h.1 (treeIn_all.mp h.2)⟩, rfl⟩
theorem up_perm_eq {a b : List Int} (ha : a.Pairwise (· ≤ ·)) (hb : b.Pairwise (· ≤ ·)) (h : a.Perm b) : a = b := h.eq_of_pairwise (fun a b _ _ h1 h2 => by omega) ha hb
open Classical in
theorem cnt_outs (ok : ChartOk n root rows) : Cnt n root (idx rows.length) (rowAt rows) (outs (rowAt rows) (others root n.toNat) (into rows)).length := by
  have nd := others_nodup root n.toNat
  have T : ∀ js, js ∈ outs (rowAt rows) (others root n.toNat) (into rows) ↔ js ∈ pks ((others root n.toNat).map (into rows)) ∧ IsTree n root rows js := fun js => by
    unfold outs
    rw [List.mem_filter, decide_eq_true_eq]
    exact ⟨fun ⟨a, b⟩ => ⟨a, (out_tree ok a).mp b⟩, fun ⟨a, b⟩ => ⟨a, (out_tree ok a).mpr b⟩⟩
  let srt : List Int → List Int := fun js => (sort_tree js).choose
  have srt1 : ∀ js, (srt js).Perm js := fun js => (sort_tree js).choose_spec.1
  have srt2 : ∀ js, (srt js).Pairwise (· ≤ ·) := fun js => (sort_tree js).choose_spec.2
  obtain ⟨m0, m1, r0, r1, _, hrows⟩ := id ok
  have hol := others_len (root := root) (n := n.toNat) r0 (by omega)
  have goals : ∀ js, js ∈ pks ((others root n.toNat).map (into rows)) → js.map (fun j => (rowAt rows j).g) = others root n.toNat := fun js h => by
    obtain ⟨h1, h2⟩ := mem_pks.mp h
    rw [List.length_map] at h1
    refine List.ext_getElem (by rw [List.length_map, h1]) fun i a b => ?_
    rw [List.getElem_map]
    rw [List.length_map] at a
    exact into_goal (h2 i (into rows (others root n.toNat)[i]) _ (by rw [List.getElem?_map, List.getElem?_eq_getElem b]; rfl) (List.getElem?_eq_getElem a))
  have into_nd : ∀ p, (into rows p).Nodup := fun p => by
    rw [into_flt]
    exact flt_nodup _ _
  refine ⟨(outs (rowAt rows) (others root n.toNat) (into rows)).map srt, ?_, fun js => ?_, by rw [List.length_map]⟩
  · have h0 : (outs (rowAt rows) (others root n.toNat) (into rows)).Nodup := (pks_nodup fun l hl => by
      obtain ⟨p, _, rfl⟩ := List.mem_map.mp hl
      exact into_nd p).sublist List.filter_sublist
    have h1 : ∀ a ∈ outs (rowAt rows) (others root n.toNat) (into rows), ∀ b ∈ outs (rowAt rows) (others root n.toNat) (into rows), srt a = srt b → a = b := fun a ha b hb e => by
      have hp : a.Perm b := (srt1 a).symm.trans (e ▸ srt1 b)
      have ga := goals a ((T a).mp ha).1
      have gb := goals b ((T b).mp hb).1
      exact perm_keys hp (ga.trans gb.symm) (by rw [ga]; exact nd)
    generalize outs (rowAt rows) (others root n.toNat) (into rows) = L at h0 h1
    clear T
    induction L with
    | nil => exact List.nodup_nil
    | cons a L ih =>
      rw [List.map_cons, List.nodup_cons]
      rw [List.nodup_cons] at h0
      refine ⟨fun z => ?_, ih h0.2 fun a ha b hb => h1 a (List.mem_cons_of_mem _ ha) b (List.mem_cons_of_mem _ hb)⟩
      obtain ⟨b, hb, e⟩ := List.mem_map.mp z
      exact h0.1 (h1 a List.mem_cons_self b (List.mem_cons_of_mem _ hb) e.symm ▸ hb)
  · constructor
    · intro h
      obtain ⟨is, hi, rfl⟩ := List.mem_map.mp h
      exact ⟨srt2 is, treeIn_all.mpr (isTree_perm (srt1 is).symm ((T is).mp hi).2)⟩
    · rintro ⟨up, t⟩
      have get : ∀ v ∈ others root n.toNat, inTo (rowAt rows) js v ∈ js ∧ (rowAt rows (inTo (rowAt rows) js v)).g = v := fun v hv => by
        obtain ⟨a, b, c⟩ := mem_others.mp hv
        exact into_some r0 r1 t a (by omega) c
      have hin : ∀ v ∈ others root n.toNat, inTo (rowAt rows) js v ∈ into rows v := fun v hv => by
        obtain ⟨a, b⟩ := get v hv
        obtain ⟨j0, j1⟩ := mem_idx.mp (t.2.1 _ a)
        refine mem_into.mpr ⟨j0, rowAt rows (inTo (rowAt rows) js v), ?_, b⟩
        rw [rowAt_get j0 j1]
        exact List.getElem?_eq_getElem (by omega)
      have hp : ((others root n.toNat).map (inTo (rowAt rows) js)).Perm js := by
        have ndm : ((others root n.toNat).map (inTo (rowAt rows) js)).Nodup := by
          unfold List.Nodup at nd ⊢
          rw [List.pairwise_map]
          refine nd.imp_of_mem fun {a b} ha hb h e => h ?_
          rw [← (get a ha).2, ← (get b hb).2, e]
        have ndj := nodupK r0 r1 t
        refine (perm_of_sub ndm (fun j hj => ?_) ?_).symm
        · obtain ⟨v, hv, rfl⟩ := List.mem_map.mp hj
          exact (get v hv).1
        · rw [List.length_map]
          have := t.1
          omega
      have hpk : (others root n.toNat).map (inTo (rowAt rows) js) ∈ pks ((others root n.toNat).map (into rows)) := mem_pks.mpr ⟨by rw [List.length_map, List.length_map], fun r l j a b => by
        rw [List.getElem?_map] at a b
        obtain ⟨v, hv, rfl⟩ := Option.map_eq_some_iff.mp a
        rw [hv] at b
        cases b
        exact hin v (List.mem_of_getElem? hv)⟩
      refine List.mem_map.mpr ⟨_, (T _).mpr ⟨hpk, isTree_perm hp.symm (treeIn_all.mp t)⟩, ?_⟩
      exact up_perm_eq (srt2 _) up ((srt1 _).trans hp)
end
end Rc
/-! part RcDt6 -/
/-! The table of a map, and its parts. -/
namespace Rc
open PySem PySem.Spec PyProof.Rows L2
def lapE (v u : Int) (r : Row) : Int := (if u = r.g then 1 else 0) - (if u = r.b then 1 else 0)
def lapV (rows : List Row) (v u : Int) : Int := ((rows.filter fun r => decide (r.g = v)).map (lapE v u)).sum
theorem lapV_snoc (rows : List Row) (r : Row) (v u : Int) : lapV (rows ++ [r]) v u = lapV rows v u + if r.g = v then lapE v u r else 0 := by
  unfold lapV
  rw [List.filter_append, List.map_append, List.sum_append]
  by_cases h : r.g = v
  · rw [if_pos h]
    simp [h]
  · rw [if_neg h]
    simp [h]
theorem lapE_le (v u : Int) (r : Row) : (lapE v u r).natAbs ≤ 1 := by
  unfold lapE
  split <;> split <;> decide
theorem lapV_le (rows : List Row) (v u : Int) : (lapV rows v u).natAbs ≤ rows.length := by
  unfold lapV
  have : ∀ l : List Row, ((l.map (lapE v u)).sum).natAbs ≤ l.length := fun l => by
    induction l with
    | nil => exact Nat.le_refl 0
    | cons r l ih =>
      rw [List.map_cons, List.sum_cons, List.length_cons]
      have := lapE_le v u r
      omega
  exact Nat.le_trans (this _) (List.length_filter_le _ _)
def lapA (rows : List Row) (ps : List Int) (r c : Nat) : Int := match ps[r]?, ps[c]? with
  | some p, some q => lapV rows p q
  | _, _ => 0
theorem lapA_le {rows : List Row} (h : rows.length ≤ 60) (ps : List Int) (r c : Nat) : (lapA rows ps r c).natAbs ≤ 60 := by
  unfold lapA
  split
  · exact Nat.le_trans (lapV_le _ _ _) h
  · decide
theorem into_rows (rows : List Row) (v : Int) : (into rows v).map (rowAt rows) = rows.filter fun r => decide (r.g = v) := by
  have key : ∀ (n : Nat), n ≤ rows.length → (((List.range n).filter fun j => decide ((rows[j]?).map Row.g = some v)).map fun (j : Nat) => (j : Int)).map (rowAt rows) = (rows.take n).filter fun r => decide (r.g = v) := fun n => by
    induction n with
    | zero => intro _; rfl
    | succ n ih =>
      intro hn
      obtain ⟨r, hr⟩ : ∃ r, rows[n]? = some r := ⟨_, List.getElem?_eq_getElem (by omega)⟩
      have hra : rowAt rows (n : Int) = r := by
        unfold rowAt
        rw [List.getD_eq_getElem?_getD, show ((n : Int)).toNat = n by omega, hr]
        rfl
      rw [List.range_succ, List.filter_append, List.map_append, List.map_append, ih (by omega), take_succ hr, List.filter_append]
      congr 1
      by_cases h : r.g = v
      · simp [hr, h, hra]
      · simp [hr, h]
  have := key rows.length (Nat.le_refl _)
  rw [List.take_length] at this
  exact this
theorem lsm_cast {α : Type} (f : α → Int) (g : α → Rat) (h : ∀ a, g a = ((f a : Int) : Rat)) : ∀ l : List α, lsm l g = (((l.map f).sum : Int) : Rat)
  | [] => by rw [ls_nil]; show (0 : Rat) = ((0 : Int) : Rat); grind
  | a :: l => by
    rw [ls_cons, lsm_cast f g h l, h, List.map_cons, List.sum_cons]
    grind
theorem lap_eq {rows : List Row} {ps : List Int} {r c : Nat} (hr : r < ps.length) (hc : c < ps.length) : lapR (rowAt rows) ps (into rows) r c = toR (lapA rows ps) r c := by
  unfold lapR toR lapA
  rw [List.getElem?_eq_getElem hr, List.getElem?_eq_getElem hc]
  dsimp only
  rw [lsm_cast (fun j => lapE ps[r] ps[c] (rowAt rows j)) _ (fun j => ?_)]
  · have : lapV rows ps[r] ps[c] = ((into rows ps[r]).map fun j => lapE ps[r] ps[c] (rowAt rows j)).sum := by
      unfold lapV
      rw [← into_rows, List.map_map]
      rfl
    rw [this]
  · unfold entR lapE
    rw [List.getElem?_eq_getElem hc]
    have e : ∀ x : Int, (some ps[c] = some x) = (ps[c] = x) := fun x => by rw [Option.some.injEq]
    simp only [e]
    split <;> split <;> grind
theorem outs_idet {rows : List Row} {ps : List Int} (nd : ps.Nodup) : idet ps.length (lapA rows ps) = (((outs (rowAt rows) ps (into rows)).length : Nat) : Int) := by
  have h1 := lap_det (rw := rowAt rows) (into := into rows) nd fun p j h => into_goal h
  rw [det_congr fun r c hr hc => lap_eq hr hc, det_cast] at h1
  refine Rat.intCast_inj.mp ?_
  rw [h1]
  rfl
/-- a leading part is the table of the leading places -/
theorem ibrd_lap {rows : List Row} {ps : List Int} (nd : ps.Nodup) {k : Nat} (hk : k < ps.length) : ibrd k 0 0 (lapA rows ps) = (((outs (rowAt rows) (ps.take (k + 1)) (into rows)).length : Nat) : Int) := by
  have nd2 : (ps.take (k + 1)).Nodup := nd.sublist (List.take_sublist _ _)
  have hl : (ps.take (k + 1)).length = k + 1 := by rw [List.length_take]; omega
  rw [← outs_idet nd2, hl]
  refine idet_congr fun r c hr hc => ?_
  have f : ∀ x, x < k + 1 → (if x < k then x else k + 0) = x := fun x hx => by split <;> omega
  show lapA rows ps (if r < k then r else k + 0) (if c < k then c else k + 0) = _
  rw [f r hr, f c hc]
  unfold lapA
  rw [List.getElem?_take, List.getElem?_take, if_pos hr, if_pos hc]
/-- what the program reckons is how many trees there are -/
theorem told_count {n root : Int} {rows : List Row} (ok : ChartOk n root rows) {z : Int} (h : z = ipiv (others root n.toNat).length (lapA rows (others root n.toNat)) ∨ (z = 0 ∧ ∃ k, k < (others root n.toNat).length ∧ ibrd k 0 0 (lapA rows (others root n.toNat)) = 0)) :
    ∃ k : Nat, z = (k : Int) ∧ Cnt n root (idx rows.length) (rowAt rows) k := by
  have nd := others_nodup root n.toNat
  refine ⟨_, ?_, cnt_outs ok⟩
  rcases h with h | ⟨rfl, k, hk, h⟩
  · rw [h, ← idet_piv, outs_idet nd]
  · rw [ibrd_lap nd hk] at h
    cases e : outs (rowAt rows) (others root n.toNat) (into rows) with
    | nil => rfl
    | cons js l =>
      have := outs_take nd (k + 1) (js := js) (rw := rowAt rows) (into := into rows) (by rw [e]; exact List.mem_cons_self)
      have h0 : outs (rowAt rows) ((others root n.toNat).take (k + 1)) (into rows) = [] := List.eq_nil_of_length_eq_zero (by omega)
      rw [h0] at this
      cases this
end Rc
/-! part RcCh1 -/
/-! road_into, steps_to. -/
namespace Rc
open PySem PySem.Spec PyProof.Rows L2
/-- a tree's road into each place, in a dict -/
def IntoAt (H : Hp) (d : Addr) (rw : Int → Row) (js : List Int) : Prop := H d = some (.dK (intD (js.map fun j => (rw j).g) fun v => .int (inTo rw js v)))
def spRoadInto (K : PySem.W.Frag) (C : Addr) : Sp := fun vs H Q _ => ∃ (p : Addr) (n root : Int) (rows : List Row) (v : V) (js : List Int), vs = [.ref p, v] ∧ MapAt K C H p n root rows ∧ ChartOk n root rows ∧ Dp K H v (intsD js) ∧ TreeIn n root (idx rows.length) (rowAt rows) js ∧
  ∀ d H', Same H H' → H d = none → IntoAt H' d (rowAt rows) js → Q (.ref d) H'
def spSteps (K : PySem.W.Frag) (C : Addr) : Sp := fun vs H Q _ => ∃ (p : Addr) (n root : Int) (rows : List Row) (d : Addr) (js : List Int) (v : Int), vs = [.ref p, .ref d, .int v] ∧ MapAt K C H p n root rows ∧ ChartOk n root rows ∧ IntoAt H d (rowAt rows) js ∧ TreeIn n root (idx rows.length) (rowAt rows) js ∧ 0 ≤ v ∧ v < n ∧
  ∀ H', Same H H' → Q (.int (depthsOf root (rowAt rows) js v : Nat)) H'
section
variable {P : Program} {w : World} {K : PySem.W.Frag} {mg : Str → Option Value} {base : Heap}
end
end Rc
/-! part RcHm2 -/
/-! table_of_roads, how_many. -/
namespace Rc
open PySem PySem.Spec PyProof.Rows L2
theorem tabL_lap (rows : List Row) (ps : List Int) : tabL 0 ps.length (lapA rows ps) = ps.map fun v => ps.map fun u => lapV rows v u := by
  refine List.ext_getElem? fun i => ?_
  by_cases h : i < ps.length
  · rw [tabL_get h, List.getElem?_map, List.getElem?_eq_getElem h]
    show some _ = some _
    congr 1
    refine List.ext_getElem? fun j => ?_
    by_cases h2 : j < ps.length
    · rw [List.getElem?_map, List.getElem?_map, List.getElem?_range h2, List.getElem?_eq_getElem h2]
      show some (ibrd 0 i j _) = some _
      rw [ibrd_zero]
      unfold lapA
      rw [List.getElem?_eq_getElem h, List.getElem?_eq_getElem h2]
    · rw [List.getElem?_eq_none (by rw [List.length_map, List.length_range]; omega), List.getElem?_eq_none (by rw [List.length_map]; omega)]
  · rw [List.getElem?_eq_none (by rw [tabL_len]; omega), List.getElem?_eq_none (by rw [List.length_map]; omega)]
def spTable (K : PySem.W.Frag) (C : Addr) : Sp := fun vs H Q _ => ∃ (p : Addr) (n root : Int) (rows : List Row), vs = [.ref p] ∧ MapAt K C H p n root rows ∧ ChartOk n root rows ∧
  ∀ v H', Same H H' → Dp K H' v (listsD (tabL 0 (others root n.toNat).length (lapA rows (others root n.toNat)))) → Q v H'
def spHowMany (K : PySem.W.Frag) (C : Addr) : Sp := fun vs H Q _ => ∃ (p : Addr) (n root : Int) (rows : List Row), vs = [.ref p] ∧ MapAt K C H p n root rows ∧ ChartOk n root rows ∧
  ∀ (k : Nat) H', Same H H' → Cnt n root (idx rows.length) (rowAt rows) k → Q (.int (k : Nat)) H'
theorem intD_congr {ps : List Int} {f g : Int → V} (h : ∀ u ∈ ps, f u = g u) : intD ps f = intD ps g := by
  unfold intD
  exact List.map_congr_left fun u hu => by rw [h u hu]
theorem lap_both {M : Int → Int → Int} {r : Row} (ne : r.b ≠ r.g) (v u : Int) : (if v = r.g ∧ u = r.b then M r.g r.b - 1 else if v = r.g ∧ u = r.g then M r.g r.g + 1 else M v u) = M v u + if r.g = v then lapE v u r else 0 := by
  unfold lapE
  by_cases hv : v = r.g
  · subst hv
    rw [if_pos rfl]
    by_cases h1 : u = r.b
    · subst h1
      rw [if_pos ⟨rfl, rfl⟩, if_neg ne, if_pos rfl]
      omega
    · rw [if_neg fun z => h1 z.2, if_neg h1]
      by_cases h2 : u = r.g
      · subst h2
        rw [if_pos ⟨rfl, rfl⟩, if_pos rfl]
        omega
      · rw [if_neg fun z => h2 z.2, if_neg h2]
        omega
  · rw [if_neg fun z => hv z.1, if_neg fun z => hv z.1, if_neg fun z => hv z.symm, Int.add_zero]
theorem lap_one {M : Int → Int → Int} {r : Row} {v u : Int} (ne : u ≠ r.b) : (if v = r.g ∧ u = r.g then M r.g r.g + 1 else M v u) = M v u + if r.g = v then lapE v u r else 0 := by
  unfold lapE
  rw [if_neg ne]
  by_cases hv : v = r.g
  · subst hv
    rw [if_pos rfl]
    by_cases h2 : u = r.g
    · subst h2
      rw [if_pos ⟨rfl, rfl⟩, if_pos rfl]
      omega
    · rw [if_neg fun z => h2 z.2, if_neg h2]
      omega
  · rw [if_neg fun z => hv z.1, if_neg fun z => hv z.symm, Int.add_zero]
/-- the table while the roads are gone through -/
structure TabAt (ps : List Int) (H0 Ha H' : Hp) (T : Addr) (ad : Int → Addr) (M : Int → Int → Int) : Prop where
  t : H' T = some (.dK (intD ps fun v => .ref (ad v)))
  row : ∀ v ∈ ps, H' (ad v) = some (.dK (intD ps fun u => .int (M v u)))
  old : ∀ b o, Ha b = some o → (∀ v ∈ ps, b ≠ ad v) → H' b = some o
theorem TabAt.put {ps : List Int} {H0 Ha H' : Hp} {T : Addr} {ad : Int → Addr} {M : Int → Int → Int} (S : TabAt ps H0 Ha H' T ad M) (nT : ∀ v ∈ ps, ad v ≠ T) (inj : ∀ v ∈ ps, ∀ w ∈ ps, ad v = ad w → v = w) {g u : Int} (hg : g ∈ ps) (hu : u ∈ ps) (x : Int) :
    TabAt ps H0 Ha (upd H' (ad g) (.dK (putK (intD ps fun u => .int (M g u)) (.inl u) (.int x)))) T ad (fun v w => if v = g ∧ w = u then x else M v w) := by
  refine ⟨?_, fun v hv => ?_, fun b o hb hn => ?_⟩
  · rw [upd_ne (Ne.symm (nT g hg))]
    exact S.t
  · by_cases e : v = g
    · rw [e, upd_same, putK_intD hu]
      congr 2
      unfold intD
      refine List.map_congr_left fun w _ => ?_
      dsimp only
      by_cases z : w = u
      · rw [if_pos z, if_pos ⟨rfl, z⟩]
      · rw [if_neg z, if_neg fun q => z q.2]
    · rw [upd_ne fun z => e (inj v hv g hg z), S.row v hv]
      congr 2
      unfold intD
      refine List.map_congr_left fun w _ => ?_
      dsimp only
      rw [if_neg fun q : v = g ∧ w = u => e q.1]
  · rw [upd_ne (hn g hg)]
    exact S.old b o hb hn
section
variable {P : Program} {w : World} {K : PySem.W.Frag} {mg : Str → Option Value} {base : Heap}
theorem ok_table {f C : Addr} {fd : FuncData} {k : Nat} (F : Fun K "table_of_roads" "table_of_roads" s_table_of_roads f fd) (T : TxtM K mg C) (hRo : HasM P w K mg base C "roads" ["self"] k (spRoads K C)) (hSi : HasM P w K mg base C "size" ["self"] k (spSize K C)) (hBe : HasM P w K mg base C "begin" ["self"] k (spBegin K C)) :
    FnOk P w K mg base CX0 (k + 1) f fd ["chart"] (spTable K C) := by
  obtain ⟨fR, fdR, mR, bR, GR⟩ := hRo
  obtain ⟨fS, fdS, mS, bS, GS⟩ := hSi
  obtain ⟨fB, fdB, mB, bB, GB⟩ := hBe
  refine F.ok sc_table_of_roads (fun vs H Q E h => ?_) (fun cdv A outer s H vs Q E hr h => ?_)
  · obtain ⟨p, n, root, rows, rfl, _⟩ := h
    rfl
  · obtain ⟨p, n, root, rows, rfl, hM, ok, q⟩ := h
    have hu : (A.deeper (envOfC "table_of_roads" (defScope s_table_of_roads) s.heap.objs.size f cdv)).units + 1 < cLine := by
      have := hr.un
      omega
    refine ⟨_, (pss_cons (ps_set (i := 1) sc_table_of_roads.nd rfl (Or.inr rfl) (pe_meth0 (pv 0) T.cl mB GB hr bB .nil pass0))
  (pss_cons (ps_set (i := 2) sc_table_of_roads.nd rfl (Or.inr rfl) (pe_lc (own := [("place", 7)]) (g := gName 7) (tt := tTest (tOp rNe (tVar 7) (tVar 1))) rfl sc_table_of_roads.nd (pi_range1 (by rfl) T.range (pa_cons (pe_meth0 (pv 0) T.cl mS GS hr bS .nil pass0) pa_nil)) (blkOk_by (N := N_table_of_roads) (sc := defScope s_table_of_roads) (by decide +kernel)) (fun _ _ _ _ _ => (pg_name (i := 7) sc_table_of_roads.nd rfl (Or.inl rfl))) (fun _ _ _ _ _ => (pts_one (pt_cmpR op_ne (pv 7) (pv 1) (nomark _)))) (fun _ _ _ _ _ => (pv 7))))
  (pss_cons (ps_setDc (i := 3) (own := [("place", 7)]) (g := gName 7) (tt := tYes) (tk := tVar 7) (tv := tDc (iList K (tVar 2)) (gName 9) tYes (tVar 9) (tC (.int 0)) [9]) rfl sc_table_of_roads.nd rfl rfl (swD_true rfl rfl rfl (by decide +kernel)) (pi_list (pv 2)) (blkOk_by (N := N_table_of_roads) (sc := defScope s_table_of_roads) (by decide +kernel)) (fun _ _ _ _ _ => (pg_name (i := 7) sc_table_of_roads.nd rfl (Or.inl rfl))) (fun _ _ _ _ _ => pts_nil) (fun _ _ _ _ _ => (pv 7))
     (fun _ _ _ _ _ => (pe_dc (own := [("other", 9)]) (g := gName 9) (tt := tYes) (tk := tVar 9) (tv := tC (.int 0)) rfl sc_table_of_roads.nd (pi_list (pv 2)) (blkOk_by (by rfl)) (fun _ _ _ _ _ => (pg_name (i := 9) sc_table_of_roads.nd rfl (Or.inl rfl))) (fun _ _ _ _ _ => pts_nil) (fun _ _ _ _ _ => (pv 9)) (fun _ _ _ _ _ => pe_int))))
  (pss_cons (ps_for PassesOwn.never rfl (pi_list (pe_meth0 (pv 0) T.cl mR GR hr bR .nil pass0)) (pg_tup (by rfl) (pgs_cons (pg_name (i := 4) sc_table_of_roads.nd rfl (Or.inl rfl)) (pgs_cons (pg_name (i := 5) sc_table_of_roads.nd rfl (Or.inl rfl)) (pgs_cons (pg_name (i := 6) sc_table_of_roads.nd rfl (Or.inl rfl)) pgs_nil))))
   (pss_one (ps_if (pt_cmpR op_ne (pv 5) (pv 1) (nomark _))
   (pss_cons (ps_daug hu (pe_dget hu (pv 3) (pv 5) (fun _ _ => rfl)) (pv 5) pe_int in_add (fun _ _ _ => rfl))
  (pss_one (ps_if (pt_cmpR op_ne (pv 4) (pv 1) (nomark _))
   (pss_one (ps_daug hu (pe_dget hu (pv 3) (pv 5) (fun _ _ => rfl)) (pv 4) pe_int in_sub (fun _ _ _ => rfl)))
   pss_nil)))
   pss_nil)))
  (pss_one (ps_lock (ps_ret (pe_lc (own := [("row", 8)]) (g := gName 8) (tt := tYes) rfl sc_table_of_roads.nd (pi_values (pv 3)) (blkOk_by (N := N_table_of_roads) (sc := defScope s_table_of_roads) (by decide +kernel)) (fun _ _ _ _ _ => (pg_name (i := 8) sc_table_of_roads.nd rfl (Or.inl rfl))) (fun _ _ _ _ _ => pts_nil) (fun _ _ _ _ _ => (pe_listVals rfl (by rfl) T.list (pv 8))))))))))), ?_⟩
    obtain ⟨dx, l0, hp0, _⟩ := id hM
    obtain ⟨m0, m1, r0, r1, hl60, hrows⟩ := id ok
    refine ⟨_, rfl, p, dx, _, rfl, hp0, lk_begin, p, n, root, rows, rfl, hM, ?_⟩
    refine ⟨_, rfl, p, dx, _, rfl, hp0, lk_size, p, n, root, rows, rfl, hM, n, rfl, by omega, by omega, fun D hD => lc_range (lo := 0) (n := n.toNat) (fun i G => Same H G ∧ G D = some (.lst ((others root i).map V.int))) ⟨same_new hD, upd_same⟩ ?_ ?_⟩
    · rintro i G hi ⟨eG, hG⟩
      have ei : (0 : Int) + (i : Int) = (i : Int) := by omega
      rw [ei]
      refine ⟨rfl, _, rfl, _, rfl, rfl, _, rfl, ?_⟩
      show if (!decide (V.int (i : Int) = V.int root)) = true then _ else _
      rw [ne_int]
      refine ite2 (fun c => ?_) (fun c => ?_)
      · have ne : ¬ (i : Int) = root := by simpa using c
        refine ⟨_, rfl, _, hG, ?_, same_mut eG hD, ?_⟩
        · rw [List.length_map]
          have : (others root i).length ≤ i := by
            unfold others
            exact Nat.le_trans (List.length_filter_le _ _) (by rw [List.length_map, List.length_range]; exact Nat.le_refl _)
          exact small_lt (by omega)
        · rw [upd_same, others_succ, if_neg ne, List.map_append]
          rfl
      · have e : (i : Int) = root := by simpa using c
        refine ⟨eG, ?_⟩
        rw [others_succ, if_pos e]
        exact hG
    rintro H1 ⟨e1, hD1⟩
    generalize hps : others root n.toNat = ps at hD1 q
    have mps : ∀ v, v ∈ ps ↔ 0 ≤ v ∧ v < n ∧ v ≠ root := fun v => by
      rw [← hps, mem_others]
      omega
    have nd : ps.Nodup := by
      rw [← hps]
      exact others_nodup _ _
    have hpl : ps.length ≤ 20 := by
      have := others_len (root := root) (n := n.toNat) r0 (by omega)
      rw [hps] at this
      omega
    have hDn : H D = none := hD
    refine ⟨_, rfl, D, rfl, ⟨_, .of hD1⟩, fun T hT => dc_it (L2.walk_list (K := K) (a := D) (xs := ps.map V.int)) (fun i G => Same H1 G ∧ ∃ ad : Int → Addr, G T = some (.dK (intD (ps.take i) fun v => .ref (ad v))) ∧ (∀ v ∈ ps.take i, G (ad v) = some (.dK (intD ps fun _ => .int 0)) ∧ H1 (ad v) = none ∧ ad v ≠ T) ∧ ∀ v ∈ ps.take i, ∀ w ∈ ps.take i, ad v = ad w → v = w)
      ⟨same_new hT, fun _ => 0, upd_same, fun v hv => absurd hv (by simp), fun v hv => absurd hv (by simp)⟩ (fun i G _ z => .of (z.1 _ _ hD1)) ?_ ?_⟩
    · rintro i x _ G hi ⟨eG, ad, hGT, hrow, hinj⟩ ⟨rfl, hx⟩
      rw [List.getElem?_map] at hx
      obtain ⟨v, hv, rfl⟩ := Option.map_eq_some_iff.mp hx
      have hil : i < ps.length := (List.getElem?_eq_some_iff.mp hv).1
      have hnew : v ∉ ps.take i := fun z => not_taken nd hv (fun _ => true) (by simpa using z)
      refine ⟨rfl, ?_⟩
      refine ⟨_, rfl, _, rfl, D, rfl, ⟨_, .of (eG _ _ hD1)⟩, fun T2 hT2 => dc_it (L2.walk_list (K := K) (a := D) (xs := ps.map V.int)) (fun j G2 => Same G G2 ∧ G2 T2 = some (.dK (intD (ps.take j) fun _ => .int 0))) ⟨same_new hT2, upd_same⟩ (fun j G2 _ z => .of (z.1 _ _ (eG _ _ hD1))) ?_ ?_⟩
      · rintro j y _ G3 hj ⟨e2, h2⟩ ⟨rfl, hy⟩
        rw [List.getElem?_map] at hy
        obtain ⟨u, hu', rfl⟩ := Option.map_eq_some_iff.mp hy
        refine ⟨rfl, _, rfl, _, .inl u, rfl, h2, ?_, same_mut e2 hT2, ?_⟩
        · rw [intD_len, List.length_take]
          exact small_lt (by omega)
        · rw [upd_same, putK_intD_new (fun z => not_taken nd hu' (fun _ => true) (by simpa using z)), take_succ hu']
          congr 2
          unfold intD
          refine List.map_congr_left fun w _ => ?_
          dsimp only
          split <;> rfl
      · rintro G2 ⟨e2, h2⟩
        rw [List.length_map, List.take_length] at h2
        have hT0 : H1 T2 = none := eG.free hT2
        have nTT : T2 ≠ T := fun z => by
          rw [z, hGT] at hT2
          cases hT2
        have adn : ∀ w ∈ ps.take i, ad w ≠ T2 := fun w hw z => by
          have := (hrow w hw).1
          rw [z, hT2] at this
          cases this
        refine ⟨_, .inl v, rfl, e2 _ _ hGT, ?_, same_mut (eG.trans e2) hT, fun w => if w = v then T2 else ad w, ?_, fun w hw => ?_, fun w hw w' hw' e => ?_⟩
        · rw [intD_len, List.length_take]
          exact small_lt (by omega)
        · rw [upd_same, putK_intD_new hnew, take_succ hv]
          congr 2
          unfold intD
          refine List.map_congr_left fun w _ => ?_
          dsimp only
          split <;> rfl
        · rw [take_succ hv] at hw
          rcases List.mem_append.mp hw with hw | hw
          · have ne : ¬ w = v := fun z => hnew (z ▸ hw)
            obtain ⟨h3, h4, h5⟩ := hrow w hw
            simp only [if_neg ne]
            exact ⟨by rw [upd_ne h5]; exact e2 _ _ h3, h4, h5⟩
          · rw [List.mem_singleton.mp hw]
            simp only [if_true]
            exact ⟨by rw [upd_ne nTT]; exact h2, hT0, nTT⟩
        · rw [take_succ hv] at hw hw'
          dsimp only at e
          rcases List.mem_append.mp hw with hw | hw <;> rcases List.mem_append.mp hw' with hw' | hw'
          · rw [if_neg fun z : w = v => hnew (z ▸ hw), if_neg fun z : w' = v => hnew (z ▸ hw')] at e
            exact hinj w hw w' hw' e
          · rw [if_neg fun z : w = v => hnew (z ▸ hw), if_pos (List.mem_singleton.mp hw')] at e
            exact absurd e (adn w hw)
          · rw [if_pos (List.mem_singleton.mp hw), if_neg fun z : w' = v => hnew (z ▸ hw')] at e
            exact absurd e.symm (adn w' hw')
          · rw [List.mem_singleton.mp hw, List.mem_singleton.mp hw']
    rintro Ha0 ⟨ea, ad, hT1, hrow, hinj⟩
    rw [List.length_map, List.take_length] at hT1 hrow hinj
    have hM1 := (hM.same e1).same ea
    have e01 := e1.trans ea
    obtain ⟨dx1, l1, hp1, _⟩ := id hM1
    refine ⟨_, rfl, p, dx1, _, rfl, hp1, lk_roads, p, n, root, rows, rfl, hM1, fun l xs hl hXA => ?_⟩
    have sl := same_new (o := HO.lst xs) hl
    have hl1 : (upd Ha0 l (.lst xs)) l = some (.lst xs) := upd_same
    have hT2 := sl _ _ hT1
    have hrow2 : ∀ v ∈ ps, (upd Ha0 l (.lst xs)) (ad v) = some (.dK (intD ps fun _ => .int 0)) ∧ H (ad v) = none ∧ ad v ≠ T := fun v hv => ⟨sl _ _ (hrow v hv).1, e1.free (hrow v hv).2.1, (hrow v hv).2.2⟩
    have hHT : H T = none := e1.free hT
    have eHa := e01.trans sl
    have hXA2 := dpAll_same sl _ _ hXA
    clear hrow hT1 hp1 hM1 hXA
    generalize upd Ha0 l (.lst xs) = Ha at sl hl1 hT2 hrow2 eHa hXA2
    have hrowg : ∀ {i : Nat} {r : Row}, rows[i]? = some r → ∃ t, xs[i]? = some (.ref t) ∧ SqT K Ha t [.int r.b, .int r.g, .int r.c] := fun {i r} h => rows_at hXA2 h
    have nT : ∀ v ∈ ps, ad v ≠ T := fun v hv => (hrow2 v hv).2.2
    have nl : ∀ v ∈ ps, l ≠ ad v := fun v hv z => by
      have := (hrow2 v hv).1
      rw [← z, hl1] at this
      cases this
    refine ⟨l, rfl, ⟨_, .of hl1⟩, for_list (K := K) (a := l) (xs := xs) (fun i σ H' => TabAt ps H Ha H' T ad (lapV (rows.take i)) ∧ ∃ v4 v5 v6 : Option V, σ = [some (.ref p), some (.int root), some (.ref D), some (.ref T), v4, v5, v6, none, none, none])
      ⟨⟨hT2, fun v hv => (hrow2 v hv).1, fun b o h _ => h⟩, _, _, _, rfl⟩ (fun i σ H' _ ⟨S, _⟩ => .of (S.old _ _ hl1 nl)) ?_ ?_⟩
    · rintro i x σ H' hi ⟨S, v4, v5, v6, rfl⟩
      obtain ⟨r, hr'⟩ : ∃ r, rows[i]? = some r := ⟨_, List.getElem?_eq_getElem (by
        have := (List.getElem?_eq_some_iff.mp hi).1
        rw [dpAll_len hXA2, List.length_map] at this
        exact this)⟩
      obtain ⟨t, ht, hTt⟩ := hrowg hr'
      rw [hi] at ht
      cases ht
      have hTt' : SqT K H' t [.int r.b, .int r.g, .int r.c] := by
        have nt : ∀ o, Ha t = some o → (∀ kvs, o ≠ .dK kvs) → H' t = some o := fun o ho hk => S.old _ _ ho fun v hv z => by
          have := (hrow2 v hv).1
          rw [← z, ho] at this
          exact hk _ (Option.some.inj this)
        rcases hTt with (h | ⟨o, h⟩) | h
        · exact .inl (.inl (nt _ h fun _ => nofun))
        · exact .inl (.inr ⟨o, nt _ h fun _ => nofun⟩)
        · exact .inr h
      have rok := hrows r (List.mem_of_getElem? hr')
      have hM0 : ∀ v u, lapV (rows.take (i + 1)) v u = lapV (rows.take i) v u + if r.g = v then lapE v u r else 0 := fun v u => by
        rw [take_succ hr', lapV_snoc]
      refine ⟨t, _, rfl, hTt', rfl, _, _, rfl, _, _, rfl, _, _, rfl, rfl, ?_⟩
      refine ⟨_, rfl, _, rfl, rfl, _, rfl, ite2 (fun c => ?_) (fun c => ?_)⟩
      · have ng : ¬ r.g = root := fun z => by
          rw [z] at c
          simp at c
        have hg : r.g ∈ ps := (mps _).mpr ⟨rok.g0, rok.g1, ng⟩
        have gT : ∀ {G : Hp} {M : Int → Int → Int}, TabAt ps H Ha G T ad M → DGet G T (.int r.g) (some (.ref (ad r.g))) := fun {G M} S => .inl ⟨_, .inl r.g, .inl S.t, rfl, (valV_intD (f := fun v => V.ref (ad v)) hg).symm⟩
        have gR : ∀ {G : Hp} {M : Int → Int → Int} (u : Int), u ∈ ps → TabAt ps H Ha G T ad M → DGet G (ad r.g) (.int u) (some (.int (M r.g u))) := fun {G M} u hu S => .inl ⟨_, .inl u, .inl (S.row _ hg), rfl, (valV_intD (f := fun u => V.int (M r.g u)) hu).symm⟩
        have few : ∀ (f : Int → V), (intD ps f).length < sizeLine := fun f => by
          rw [intD_len]
          exact small_lt (by omega)
        have S1 := S.put nT hinj hg hg (lapV (rows.take i) r.g r.g + 1)
        refine ⟨_, rfl, _, rfl, T, _, rfl, gT S, _, rfl, ad r.g, _, rfl, gR r.g hg S, _, _, rfl, rfl, _, .inl ⟨_, .inl r.g, S.row _ hg, rfl, few _, rfl⟩, ?_⟩
        generalize upd H' (ad r.g) (.dK (putK (intD ps fun u => .int (lapV (rows.take i) r.g u)) (.inl r.g) (.int (lapV (rows.take i) r.g r.g + 1)))) = G1 at S1
        refine ⟨_, rfl, _, rfl, rfl, _, rfl, ite2 (fun c2 => ?_) (fun c2 => ?_)⟩
        · have nb : ¬ r.b = root := fun z => by
            rw [z] at c2
            simp at c2
          have hb : r.b ∈ ps := (mps _).mpr ⟨rok.b0, rok.b1, nb⟩
          have S2 := S1.put nT hinj hg hb (lapV (rows.take i) r.g r.b - 1)
          have e0 : (if r.g = r.g ∧ r.b = r.g then lapV (rows.take i) r.g r.g + 1 else lapV (rows.take i) r.g r.b) = lapV (rows.take i) r.g r.b := if_neg fun z => rok.ne z.2
          have g1 := gR r.b hb S1
          rw [e0] at g1
          refine ⟨_, rfl, _, rfl, T, _, rfl, gT S1, _, rfl, ad r.g, _, rfl, g1, _, _, rfl, rfl, _, .inl ⟨_, .inl r.b, S1.row _ hg, rfl, few _, rfl⟩, ?_⟩
          refine ⟨⟨S2.t, fun v hv => ?_, S2.old⟩, _, _, _, rfl⟩
          rw [S2.row v hv, intD_congr fun u _ => ?_]
          rw [hM0, ← lap_both rok.ne v u]
        · have eb : r.b = root := by simpa using c2
          refine ⟨⟨S1.t, fun v hv => ?_, S1.old⟩, _, _, _, rfl⟩
          rw [S1.row v hv, intD_congr fun u hu => ?_]
          rw [hM0, ← lap_one fun z => ((mps u).mp hu).2.2 (by rw [z, eb])]
      · have eg : r.g = root := by simpa using c
        refine ⟨⟨S.t, fun v hv => ?_, S.old⟩, _, _, _, rfl⟩
        rw [S.row v hv, intD_congr fun u _ => ?_]
        rw [hM0, if_neg fun z => ((mps v).mp hv).2.2 (by rw [← z, eg]), Int.add_zero]
    · rintro σ H' ⟨S, v4, v5, v6, rfl⟩
      rw [show xs.length = rows.length by rw [dpAll_len hXA2, List.length_map], List.take_length] at S
      have eS : Same H H' := fun b o hb => S.old _ _ (eHa _ _ hb) fun v hv z => by
        rw [z, (hrow2 v hv).2.1] at hb
        cases hb
      refine ⟨T, _, S.t, trivial, fun od => ⟨_, rfl, T, od, _, rfl, upd_same, fun D3 hD3 => ?_⟩⟩
      have nDT : D3 ≠ T := fun z => by
        rw [z, upd_same] at hD3
        cases hD3
      have hD30 : H' D3 = none := by
        rw [upd_ne nDT] at hD3
        exact hD3
      have eF : Same H (upd H' T (.frz od (.dK (intD ps fun v => .ref (ad v))))) := same_mut eS hHT
      have hFT : (upd H' T (.frz od (.dK (intD ps fun v => .ref (ad v))))) T = some (.frz od (.dK (intD ps fun v => .ref (ad v)))) := upd_same
      have hFr : ∀ v ∈ ps, (upd H' T (.frz od (.dK (intD ps fun v => .ref (ad v))))) (ad v) = some (.dK (intD ps fun u => .int (lapV rows v u))) := fun v hv => by
        rw [upd_ne (nT v hv)]
        exact S.row v hv
      generalize upd H' T (.frz od (.dK (intD ps fun v => .ref (ad v)))) = F0 at eF hFT hFr hD3
      have hH3 : H D3 = none := eF.free hD3
      refine L2.lc_it L2.walk_values (fun i G => ∃ acc B, NewTo K H G D3 ((ps.map fun v => ps.map fun u => lapV rows v u).map intsD) i acc B ∧ B T = none ∧ G T = some (.frz od (.dK (intD ps fun v => .ref (ad v)))) ∧ ∀ v ∈ ps, G (ad v) = some (.dK (intD ps fun u => .int (lapV rows v u))))
        ⟨[], H, ⟨same_mut eF hH3, upd_same, rfl, same_refl, same_mut eF hH3, hH3, .nil⟩, hHT, by rw [upd_ne (Ne.symm nDT)]; exact hFT, fun v hv => by
          rw [upd_ne fun z => by
            have := hFr v hv
            rw [z, hD3] at this
            cases this]
          exact hFr v hv⟩ (fun i G _ ⟨_, _, _, _, z, _⟩ => z) ?_ ?_
      · rintro i x _ G hi ⟨acc, B, N, hBT, hGT, hGr⟩ ⟨rfl, key, hkv⟩
        obtain ⟨v, hv, _, rfl⟩ := intD_get hkv
        have hvm := List.mem_of_getElem? hv
        refine ⟨rfl, ?_⟩
        refine ⟨_, rfl, ad v, _, rfl, hGr v hvm, fun p2 hp2 => ?_⟩
        have ekv : (intD ps fun u => V.int (lapV rows v u)).map (·.2) = (ps.map fun u => lapV rows v u).map V.int := by
          unfold intD
          rw [List.map_map, List.map_map]
          rfl
        rw [ekv]
        have npT : T ≠ p2 := ne_of_none hGT hp2
        obtain ⟨h1, h2, h3⟩ := N.push (d := intsD (ps.map fun u => lapV rows v u)) (o := .lst ((ps.map fun u => lapV rows v u).map V.int)) (by rw [List.getElem?_map, List.getElem?_map, hv]; rfl) hp2 (by rw [List.length_map, List.length_map]; omega) fun G' _ hg => .lst (.of hg) (dpAll_ints _)
        refine ⟨acc, h1, h2, _, _, h3, ?_, ?_, fun v' hv' => ?_⟩
        · rw [upd_ne npT]
          exact hBT
        · rw [upd_ne (Ne.symm nDT), upd_ne npT]
          exact hGT
        · have a1 := hGr v' hv'
          rw [upd_ne (fun z => by
            rw [z, N.lst] at a1
            cases a1), upd_ne (ne_of_none a1 hp2)]
          exact a1
      · rintro G ⟨acc, B, N, hBT, hGT, hGr⟩
        refine ⟨hGT, q (.ref D3) _ (same_mut N.old hHT) ?_⟩
        rw [tabL_lap]
        have e := N.all
        rw [List.take_of_length_le (by rw [List.length_map, List.length_map, intD_len]; exact Nat.le_refl _)] at e
        exact .lst (.of (by rw [upd_ne nDT]; exact N.lst)) (dpAll_same (same_mut N.sub hBT) _ _ e)
theorem ok_how_many {f C : Addr} {fd : FuncData} {k : Nat} (F : Fun K "how_many" "how_many" s_how_many f fd) (hT : Has P w K mg base "table_of_roads" ["chart"] k (spTable K C)) (hD : Has P w K mg base "determinant" ["rows"] k (spDet K)) : FnOk P w K mg base CX0 (k + 1) f fd ["chart"] (spHowMany K C) := by
  obtain ⟨fT, fdT, gT, kT, bT, GT⟩ := hT
  obtain ⟨fD, fdD, gD, kD, bD, GD⟩ := hD
  refine F.ok sc_how_many (fun vs H Q E h => ?_) (fun cdv A outer s H vs Q E hr h => ?_)
  · obtain ⟨p, n, root, rows, rfl, _⟩ := h
    rfl
  · obtain ⟨p, n, root, rows, rfl, hM, ok, q⟩ := h
    refine ⟨_, (pss_one (ps_ret (pe_call GD hr (by rfl) gD kD bD .nil pass0 (pa_cons (pe_call GT hr (by rfl) gT kT bT .nil pass0 (pa_cons (pv 0) pa_nil)) pa_nil)))), ?_⟩
    obtain ⟨m0, m1, r0, r1, hl60, hrows⟩ := id ok
    have hol := others_len (root := root) (n := n.toNat) r0 (by omega)
    refine ⟨_, rfl, p, n, root, rows, rfl, hM, ok, fun v H1 e1 hv => ?_⟩
    refine ⟨v, _, lapA rows (others root n.toNat), rfl, by omega, lapA_le hl60 _, hv, fun k hk => ?_, fun z H2 e2 hz => ?_⟩
    · rw [ibrd_lap (others_nodup root n.toNat) hk]
      omega
    · obtain ⟨k, rfl, c⟩ := told_count ok hz
      exact q k H2 (e1.trans e2) c
end
end Rc
/-! part RcHt5 -/
/-! how_many while an exception is handled. -/
namespace Rc
open PySem PySem.Spec PyProof.Rows L2 L2H HotX
/-- the method m of the class keeps the promise while an exception is handled -/
def HasMG (P : Program) (w : World) (K : PySem.W.Frag) (mg : Str → Option Value) (base : Heap) (C : Addr) (m : Str) (ps : List Str) (k : Nat) (sp : Sp) : Prop :=
  ∃ (f : Addr) (fd : FuncData), Meth K C m f ∧ Binds K fd ps [] ∧ FnG P w K mg base k f fd ps (fun _ => True) (fun _ => sp)
theorem fnH_of {P : Program} {w : World} {K : PySem.W.Frag} {mg : Str → Option Value} {base : Heap} {k : Nat} {f : Addr} {fd : FuncData} {ps : List Str} {sp : Sp} (F : FnG P w K mg base k f fd ps (fun _ => True) (fun _ => sp)) : FnH P w K mg base CX0 k f fd ps sp :=
  ⟨fun vs H Q E h => F.len 0 vs H Q E h, fun A out s H args us vs Q E p hr hot hpin e0 hb r h => F.run A out s H args us vs Q E p hr hot hpin trivial e0 hb r h⟩
section
variable {X : Cx}
theorem pe_meth0G {k : Nat} {C f : Addr} {fd : FuncData} {ps : List Str} {sp : Sp} {o : Expr} {m : Str} {apos pos : Pos} {ta : TE} {pl : Sem Bool} {p : Addr × Obj} (he : PE X o ta) (c : Cls X.K C) (hm : Meth X.K C m f) (F : FnG X.prog X.w X.K X.mg X.base k f fd ps (fun _ => True) (fun _ => sp)) (hr : RoomH k X.A) (hot : Hot1 X.A p) (hp : p ∈ X.pn) (hb : Binds X.K fd ps [])
    (ht : eval (.Call (.Attribute o m apos) [] [] pos) X.env = (do
      let ov ← eval o X.env
      standAt apos.atName
      let (f, first) ← holding [ov] (getMethod ov m pl)
      callWith pos f first (backTo pos (starEach [] X.env)) (backToKw pos (keywordEach [] X.env))) := by rfl) :
    PE X (.Call (.Attribute o m apos) [] [] pos) (tMeth C m sp [] E0 ta tNil) := by
  have Z := pe_meth0H (E := fun _ => E0) (pl := pl) he c hm (fnH_of F) hr ⟨p, hot, hp⟩ hb (fun σ _ _ _ _ _ _ h => h.elim) ht
  exact ⟨fun pins s σ H Q I h => Z.run pins s σ H Q I h⟩
end
section
variable {P : Program} {w : World} {K : PySem.W.Frag} {mg : Str → Option Value} {base : Heap}
theorem ok_sizeG {f C : Addr} {fd : FuncData} {k : Nat} (F : Fun K "size" "Map.size" s_Map_size f fd) (T : TxtM K mg C) : FnG P w K mg base (k + 1) f fd ["self"] (fun _ => True) (fun _ => (spSize K C)) := by
  refine Fun.okG F sc_Map_size (fun _ vs H Q E h => ?_) (fun cdv A outer s H vs Q E p0 hot0 _ hr h => ?_)
  · obtain ⟨p, n, r, rows, rfl, _⟩ := h
    rfl
  · obtain ⟨p, n, r, rows, rfl, ⟨dx, l, hp, hD⟩, q⟩ := h
    have hC : HotC (cxH CX0 P w K mg base N_Map_size "Map.size" (defScope s_Map_size) f cdv A outer s H E p0) := ⟨p0, hot0, List.mem_singleton.mpr rfl⟩
    exact ⟨_, pss_one (ps_ret (pe_fld (pv 0) rfl)), _, rfl, p, C, dx, _, _, rfl, hp, T.cl, T.nM, look_many _ _ _, q⟩
theorem ok_beginG {f C : Addr} {fd : FuncData} {k : Nat} (F : Fun K "begin" "Map.begin" s_Map_begin f fd) (T : TxtM K mg C) : FnG P w K mg base (k + 1) f fd ["self"] (fun _ => True) (fun _ => (spBegin K C)) := by
  refine Fun.okG F sc_Map_begin (fun _ vs H Q E h => ?_) (fun cdv A outer s H vs Q E p0 hot0 _ hr h => ?_)
  · obtain ⟨p, n, r, rows, rfl, _⟩ := h
    rfl
  · obtain ⟨p, n, r, rows, rfl, ⟨dx, l, hp, hD⟩, q⟩ := h
    have hC : HotC (cxH CX0 P w K mg base N_Map_begin "Map.begin" (defScope s_Map_begin) f cdv A outer s H E p0) := ⟨p0, hot0, List.mem_singleton.mpr rfl⟩
    exact ⟨_, pss_one (ps_ret (pe_fld (pv 0) rfl)), _, rfl, p, C, dx, _, _, rfl, hp, T.cl, T.nR, look_root _ _ _, q⟩
theorem ok_roadsG {f C : Addr} {fd : FuncData} {k : Nat} (F : Fun K "roads" "Map.roads" s_Map_roads f fd) (T : TxtM K mg C) : FnG P w K mg base (k + 1) f fd ["self"] (fun _ => True) (fun _ => (spRoads K C)) := by
  refine Fun.okG F sc_Map_roads (fun _ vs H Q E h => ?_) (fun cdv A outer s H vs Q E p0 hot0 _ hr h => ?_)
  · obtain ⟨p, n, r, rows, rfl, _⟩ := h
    rfl
  · obtain ⟨p, n, r, rows, rfl, ⟨dx, l, hp, hD⟩, q⟩ := h
    have hC : HotC (cxH CX0 P w K mg base N_Map_roads "Map.roads" (defScope s_Map_roads) f cdv A outer s H E p0) := ⟨p0, hot0, List.mem_singleton.mpr rfl⟩
    obtain ⟨a, xs, e, hS, hA⟩ := dp_list_inv hD
    cases e
    exact ⟨_, pss_one (ps_ret (pe_callTy call_list_of (by rfl) T.list (by decide +kernel) (pa_cons (pe_fld (pv 0) rfl) pa_nil))), _, rfl, p, C, dx, _, _, rfl, hp, T.cl, T.nL, look_roads _ _ _, l, xs, rfl, .inl hS, fun l2 hl => q l2 xs hl hA⟩
theorem ok_detG {f : Addr} {fd : FuncData} {k : Nat} (F : Fun K "determinant" "determinant" s_determinant f fd) (T : TxtL mg) : FnG P w K mg base (k + 1) f fd ["rows"] (fun _ => True) (fun _ => (spDet K)) := by
  refine Fun.okG F sc_determinant (fun _ vs H Q E h => ?_) (fun cdv A0 outer s H vs Q E p0 hot0 _ hr h => ?_)
  · obtain ⟨v, m, A, rfl, _⟩ := h
    rfl
  · obtain ⟨v, m, A, rfl, hm, hB, hV, hpos, q⟩ := h
    have hC : HotC (cxH CX0 P w K mg base N_determinant "determinant" (defScope s_determinant) f cdv A0 outer s H E p0) := ⟨p0, hot0, List.mem_singleton.mpr rfl⟩
    refine ⟨_, (pss_cons (ps_set (i := 1) sc_determinant.nd rfl (Or.inr rfl) pe_int)
  (pss_cons (ps_while PassesOwn.leaving (pt_truth (pv 0) (by intro _; rfl))
   (pss_cons (ps_set (i := 2) sc_determinant.nd rfl (Or.inr rfl) (pe_ix ix_list (pv 0) pe_int (fun _ _ => rfl)))
  (pss_cons (ps_set (i := 3) sc_determinant.nd rfl (Or.inr rfl) (pe_ix ix_list (pv 2) pe_int (fun _ _ => rfl)))
  (pss_cons (ps_if (pt_cmpR op_eq (pv 3) pe_int (nomark _))
   (pss_one (ps_ret pe_int))
   pss_nil)
  (pss_cons (ps_setLcG (i := 0) (own := [("row", 4)]) (g := gName 4) (tt := tYes) hC sc_determinant.nd rfl rfl (sw_true rfl rfl rfl (by decide +kernel)) (pi_listH (pe_slice sl_list (pv 0) (po_some pe_int) po_none)) (blkOk_by (N := N_determinant) (sc := defScope s_determinant) (by decide +kernel)) (fun _ _ _ _ _ => (pg_name (i := 4) sc_determinant.nd rfl (Or.inr rfl))) (fun _ _ _ _ _ => pts_nil)
    (fun _ _ _ _ _ => (pe_lcG (own := [("at", 5)]) (g := gName 5) (tt := tYes) hC sc_determinant.nd (pi_range2H (by rfl) T.range (pa_cons pe_int (pa_cons (pe_callB (r := rLenK K) call_len_seq (by rfl) T.len PySem.boot_len (pa_cons (pv 4) pa_nil)) pa_nil))) (blkOk_by (by rfl)) (fun _ _ _ _ _ => (pg_name (i := 5) sc_determinant.nd rfl (Or.inl rfl))) (fun _ _ _ _ _ => pts_nil)
      (fun _ _ _ _ _ => (pe_op op_fdivW (pe_op op_sub (pe_op op_mulW (pv 3) (pe_ix (r := rIxL K) ix_list (pv 4) (pv 5) (fun _ _ => rfl))) (pe_op op_mulW (pe_ix (r := rIxL K) ix_list (pv 4) pe_int (fun _ _ => rfl)) (pe_ix (r := rIxL K) ix_list (pv 2) (pv 5) (fun _ _ => rfl)))) (pv 1))))))
  (pss_one (ps_set (i := 1) sc_determinant.nd rfl (Or.inr rfl) (pv 3))))))))
  (pss_one (ps_ret (pv 1))))), ?_⟩
    obtain ⟨a0, xs0, rfl, hS0, hA0⟩ := dp_list_inv hV
    obtain ⟨Inv, hInv⟩ : ∃ Inv : Nat → L2.St → Hp → Prop, ∀ k σ H', Inv k σ H' ↔ ∃ (a : Addr) (v2 v3 : Option V), k ≤ m ∧ Same H H' ∧ σ = [some (.ref a), some (.int (ipiv k A)), v2, v3, none, none] ∧ Dp K H' (.ref a) (listsD (tabL k (m - k) A)) ∧ ∀ t, t < k → 0 < ibrd t 0 0 A := ⟨_, fun _ _ _ => Iff.rfl⟩
    refine ⟨fun m' σ H' => ∃ k, m' = m - k ∧ Inv k σ H', ⟨_, 0, rfl, (hInv _ _ _).mpr ⟨a0, none, none, Nat.zero_le _, same_refl, rfl, hV, fun t ht => nomatch ht⟩⟩, ?_⟩
    rintro m' σ H1 ⟨k, rfl, hI⟩
    obtain ⟨a, v2, v3, hkm, e1, rfl, hD, hgt⟩ := (hInv _ _ _).mp hI
    obtain ⟨_, xs, ea, hS, hA⟩ := dp_list_inv hD
    cases ea
    have hxl : xs.length = m - k := by rw [dpAll_len hA, List.length_map, tabL_len]
    have hp1 : 0 < ipiv k A := by
      cases k with
      | zero => exact Int.one_pos
      | succ k => exact hgt k (by omega)
    refine ⟨_, rfl, !xs.isEmpty, .inl ⟨xs, hS, rfl⟩, ite2 (fun c => ?_) (fun c => ?_)⟩
    · have hlt : k < m := by
        cases xs with
        | nil => cases c
        | cons x xs => rw [List.length_cons] at hxl; omega
      have n0 : 0 < m - k := by omega
      obtain ⟨x0, hx0⟩ : ∃ x0, xs[0]? = some x0 := ⟨_, List.getElem?_eq_getElem (by omega)⟩
      obtain ⟨r0, f0, hr0, rfl, hF0⟩ := lists_get hA hx0
      rw [tabL_get n0] at hr0
      cases hr0
      have hc60 : ∀ i j, (ibrd k i j A).natAbs < 2 ^ 210 := fun i j => ibrd_lt hB (by omega)
      refine ⟨fun σ' H' => ∃ k', m - k' < m - k ∧ Inv k' σ' H', fun σ' H' ⟨k', z, p⟩ => ⟨_, z, k', rfl, p⟩, ?_⟩
      refine ⟨_, rfl, a, xs, _, _, rfl, rfl, hS, atI_nat (j := 0) hx0, ?_⟩
      refine ⟨_, rfl, f0, _, _, _, rfl, rfl, hF0, atI_nat (j := 0) (row_get n0), ?_⟩
      refine ⟨_, rfl, rfl, _, rfl, ite2 (fun c1 => ?_) (fun c1 => ?_)⟩
      · have z0 : ibrd k 0 0 A = 0 := V.int.inj (of_decide_eq_true c1)
        exact q 0 H1 e1 (.inr ⟨rfl, k, hlt, z0⟩)
      · have z0 : ibrd k 0 0 A ≠ 0 := fun z => c1 (decide_eq_true (by rw [z]))
        have z1 : 0 < ibrd k 0 0 A := by have := hpos k hlt; omega
        have hall : ∀ t, t ≤ k → ibrd t 0 0 A ≠ 0 := fun t ht => by
          rcases Nat.lt_or_eq_of_le ht with l | rfl
          · have := hgt t l; omega
          · exact z0
        refine ⟨_, rfl, _, rfl, a, xs, rfl, hS, fun p hp => ?_⟩
        have s2 := same_new (o := HO.lst (cutV xs (some 1) none)) hp
        have hp2 : (upd H1 p (.lst (cutV xs (some 1) none))) p = some (.lst (xs.drop 1)) := by
          rw [upd_same]
          show some (HO.lst (cutV xs (some ((1 : Nat) : Int)) none)) = _
          rw [cut_behind xs 1 (by omega)]
        have hA2 := dpAll_same s2 _ _ hA
        have hF2 : SqL K _ f0 _ := s2.seq hF0
        have e2 := e1.trans s2
        generalize upd H1 p (.lst (cutV xs (some 1) none)) = H2 at s2 hp2 hA2 hF2 e2
        refine ⟨p, rfl, ⟨_, .of hp2⟩, fun D hD => lc_list (K := K) (a := p) (xs := xs.drop 1) (fun i H' => ∃ acc B, NewTo K H2 H' D ((tabL (k + 1) (m - (k + 1)) A).map intsD) i acc B) ⟨_, _, NewTo.start hD⟩ (fun i H' _ ⟨_, _, S⟩ => .of (S.old _ _ hp2)) ?_ ?_⟩
        · rintro i x H3 hi ⟨acc, B, S⟩
          rw [List.getElem?_drop] at hi
          have hil : 1 + i < m - k := by
            have := (List.getElem?_eq_some_iff.mp hi).1
            omega
          obtain ⟨r1, f1, hr1, rfl, hF1⟩ := lists_get hA2 hi
          rw [tabL_get hil] at hr1
          cases hr1
          have hF1' := S.old.seq hF1
          have hF0' := S.old.seq hF2
          refine ⟨rfl, ?_⟩
          refine ⟨_, rfl, f1, _, rfl, .inl hF1', 1, ((((List.range (m - k)).map fun j => ibrd k (1 + i) j A).map V.int).length : Int), rfl, ⟨by decide, by decide, by rw [row_len]; omega, by rw [row_len]; omega⟩, fun D2 hD2 => ?_⟩
          rw [row_len]
          refine lc_range (lo := 1) (n := _) (fun j G => Same H3 G ∧ G D2 = some (.lst (((List.range j).map fun j => ibrd (k + 1) i j A).map V.int))) ⟨same_new hD2, upd_same⟩ ?_ ?_
          · rintro j G hj ⟨eG, hG⟩
            have hj2 : j + 1 < m - k := by omega
            have ej : (1 : Int) + (j : Int) = ((j + 1 : Nat) : Int) := by omega
            rw [ej]
            refine ⟨rfl, ?_⟩
            refine ⟨_, rfl, _, rfl, _, rfl, f1, _, _, _, rfl, rfl, eG.seq hF1', atI_nat (j := j + 1) (row_get hj2), _, _, rfl, rfl, wide_mul (hc60 _ _) (hc60 _ _) (by decide) (by decide) (by decide), ?_⟩
            refine ⟨_, rfl, f1, _, _, _, rfl, rfl, eG.seq hF1', atI_nat (j := 0) (row_get n0), _, rfl, _, rfl, f0, _, _, _, rfl, rfl, eG.seq hF0', atI_nat (j := j + 1) (row_get hj2), _, _, rfl, rfl, wide_mul (hc60 _ _) (hc60 _ _) (by decide) (by decide) (by decide), ?_⟩
            refine ⟨_, _, rfl, rfl, _, rfl, _, _, rfl, rfl, wide_div hp1 (ipiv_lt hB (by omega)) (by decide) (by decide), ?_⟩
            have est := ibrd_step (i := i) (j := j) hall hp1
            rw [Nat.add_comm i 1] at est
            dsimp only
            rw [est]
            refine ⟨_, hG, ?_, same_mut eG hD2, ?_⟩
            · rw [List.length_map, List.length_map, List.length_range]
              exact small_lt (by omega)
            · rw [upd_same, List.range_succ, List.map_append, List.map_append]
              rfl
          · rintro G ⟨eG, hG⟩
            have ek : (((m - k : Nat) : Int) - 1).toNat = m - (k + 1) := by omega
            rw [ek] at hG
            have hil2 : i < m - (k + 1) := by omega
            obtain ⟨h1, h2, h3⟩ := S.pushS (d := intsD ((List.range (m - (k + 1))).map fun j => ibrd (k + 1) i j A)) (by rw [List.getElem?_map, tabL_get hil2]; rfl) hD2 eG hG (by rw [List.length_map, tabL_len]; omega) fun G' eb hg => .lst (.of hg) (dpAll_ints _)
            exact ⟨acc, h1, h2, _, _, h3⟩
        · rintro H3 ⟨acc, B, S⟩
          have hDD := S.done (by rw [List.length_drop, List.length_map, tabL_len]; omega)
          refine ⟨_, rfl, k + 1, by omega, (hInv _ _ _).mpr ⟨D, _, _, by omega, e2.trans S.old, rfl, hDD, fun t ht => ?_⟩⟩
          rcases Nat.lt_or_eq_of_le (Nat.le_of_lt_succ ht) with l | rfl
          · exact hgt t l
          · exact z1
    · have hk : k = m := by
        cases xs with
        | nil => simp at hxl; omega
        | cons x xs => exact absurd rfl c
      subst hk
      exact ⟨_, rfl, q _ H1 e1 (.inl rfl)⟩
theorem ok_tableG {f C : Addr} {fd : FuncData} {k : Nat} (F : Fun K "table_of_roads" "table_of_roads" s_table_of_roads f fd) (T : TxtM K mg C) (hRo : HasMG P w K mg base C "roads" ["self"] k (spRoads K C)) (hSi : HasMG P w K mg base C "size" ["self"] k (spSize K C)) (hBe : HasMG P w K mg base C "begin" ["self"] k (spBegin K C)) :
    FnG P w K mg base (k + 1) f fd ["chart"] (fun _ => True) (fun _ => (spTable K C)) := by
  obtain ⟨fR, fdR, mR, bR, GR⟩ := hRo
  obtain ⟨fS, fdS, mS, bS, GS⟩ := hSi
  obtain ⟨fB, fdB, mB, bB, GB⟩ := hBe
  refine Fun.okG F sc_table_of_roads (fun _ vs H Q E h => ?_) (fun cdv A outer s H vs Q E p0 hot0 _ hr h => ?_)
  · obtain ⟨p, n, root, rows, rfl, _⟩ := h
    rfl
  · obtain ⟨p, n, root, rows, rfl, hM, ok, q⟩ := h
    have hC : HotC (cxH CX0 P w K mg base N_table_of_roads "table_of_roads" (defScope s_table_of_roads) f cdv A outer s H E p0) := ⟨p0, hot0, List.mem_singleton.mpr rfl⟩
    have hu : (A.deeper (envOfC "table_of_roads" (defScope s_table_of_roads) s.heap.objs.size f cdv)).units + 1 < cLine := by
      have := hr.un
      omega
    refine ⟨_, (pss_cons (ps_set (i := 1) sc_table_of_roads.nd rfl (Or.inr rfl) (pe_meth0G (pv 0) T.cl mB GB hr hot0 (List.mem_singleton.mpr rfl) bB))
  (pss_cons (ps_set (i := 2) sc_table_of_roads.nd rfl (Or.inr rfl) (pe_lcG (own := [("place", 7)]) (g := gName 7) (tt := tTest (tOp rNe (tVar 7) (tVar 1))) hC sc_table_of_roads.nd (pi_range1H (by rfl) T.range (pa_cons (pe_meth0G (pv 0) T.cl mS GS hr hot0 (List.mem_singleton.mpr rfl) bS) pa_nil)) (blkOk_by (N := N_table_of_roads) (sc := defScope s_table_of_roads) (by decide +kernel)) (fun _ _ _ _ _ => (pg_name (i := 7) sc_table_of_roads.nd rfl (Or.inl rfl))) (fun _ _ _ _ _ => (pts_one (pt_cmpR op_ne (pv 7) (pv 1) (nomark _)))) (fun _ _ _ _ _ => (pv 7))))
  (pss_cons (ps_setDcG (i := 3) (own := [("place", 7)]) (g := gName 7) (tt := tYes) (tk := tVar 7) (tv := tDc (iList K (tVar 2)) (gName 9) tYes (tVar 9) (tC (.int 0)) [9]) hC sc_table_of_roads.nd rfl rfl (swD_true rfl rfl rfl (by decide +kernel)) (pi_listH (pv 2)) (blkOk_by (N := N_table_of_roads) (sc := defScope s_table_of_roads) (by decide +kernel)) (fun _ _ _ _ _ => (pg_name (i := 7) sc_table_of_roads.nd rfl (Or.inl rfl))) (fun _ _ _ _ _ => pts_nil) (fun _ _ _ _ _ => (pv 7))
     (fun _ _ _ _ _ => (pe_dcG (own := [("other", 9)]) (g := gName 9) (tt := tYes) (tk := tVar 9) (tv := tC (.int 0)) hC sc_table_of_roads.nd (pi_listH (pv 2)) (blkOk_by (by rfl)) (fun _ _ _ _ _ => (pg_name (i := 9) sc_table_of_roads.nd rfl (Or.inl rfl))) (fun _ _ _ _ _ => pts_nil) (fun _ _ _ _ _ => (pv 9)) (fun _ _ _ _ _ => pe_int))))
  (pss_cons (ps_forH PassesOwn.leaving hC (pi_listH (pe_meth0G (pv 0) T.cl mR GR hr hot0 (List.mem_singleton.mpr rfl) bR)) (pg_tupH hC (pgs_cons (pg_name (i := 4) sc_table_of_roads.nd rfl (Or.inl rfl)) (pgs_cons (pg_name (i := 5) sc_table_of_roads.nd rfl (Or.inl rfl)) (pgs_cons (pg_name (i := 6) sc_table_of_roads.nd rfl (Or.inl rfl)) pgs_nil))))
   (pss_one (ps_if (pt_cmpR op_ne (pv 5) (pv 1) (nomark _))
   (pss_cons (ps_daug hu (pe_dget hu (pv 3) (pv 5) (fun _ _ => rfl)) (pv 5) pe_int in_add (fun _ _ _ => rfl))
  (pss_one (ps_if (pt_cmpR op_ne (pv 4) (pv 1) (nomark _))
   (pss_one (ps_daug hu (pe_dget hu (pv 3) (pv 5) (fun _ _ => rfl)) (pv 4) pe_int in_sub (fun _ _ _ => rfl)))
   pss_nil)))
   pss_nil)))
  (pss_one (ps_lock (ps_ret (pe_lcG (own := [("row", 8)]) (g := gName 8) (tt := tYes) hC sc_table_of_roads.nd (pi_valuesH (pv 3)) (blkOk_by (N := N_table_of_roads) (sc := defScope s_table_of_roads) (by decide +kernel)) (fun _ _ _ _ _ => (pg_name (i := 8) sc_table_of_roads.nd rfl (Or.inl rfl))) (fun _ _ _ _ _ => pts_nil) (fun _ _ _ _ _ => (pe_listValsH hC (by rfl) T.list (pv 8))))))))))), ?_⟩
    obtain ⟨dx, l0, hp0, _⟩ := id hM
    obtain ⟨m0, m1, r0, r1, hl60, hrows⟩ := id ok
    refine ⟨_, rfl, p, dx, _, rfl, hp0, lk_begin, p, n, root, rows, rfl, hM, ?_⟩
    refine ⟨_, rfl, p, dx, _, rfl, hp0, lk_size, p, n, root, rows, rfl, hM, n, rfl, by omega, by omega, fun D hD => lc_range (lo := 0) (n := n.toNat) (fun i G => Same H G ∧ G D = some (.lst ((others root i).map V.int))) ⟨same_new hD, upd_same⟩ ?_ ?_⟩
    · rintro i G hi ⟨eG, hG⟩
      have ei : (0 : Int) + (i : Int) = (i : Int) := by omega
      rw [ei]
      refine ⟨rfl, _, rfl, _, rfl, rfl, _, rfl, ?_⟩
      show if (!decide (V.int (i : Int) = V.int root)) = true then _ else _
      rw [ne_int]
      refine ite2 (fun c => ?_) (fun c => ?_)
      · have ne : ¬ (i : Int) = root := by simpa using c
        refine ⟨_, rfl, _, hG, ?_, same_mut eG hD, ?_⟩
        · rw [List.length_map]
          have : (others root i).length ≤ i := by
            unfold others
            exact Nat.le_trans (List.length_filter_le _ _) (by rw [List.length_map, List.length_range]; exact Nat.le_refl _)
          exact small_lt (by omega)
        · rw [upd_same, others_succ, if_neg ne, List.map_append]
          rfl
      · have e : (i : Int) = root := by simpa using c
        refine ⟨eG, ?_⟩
        rw [others_succ, if_pos e]
        exact hG
    rintro H1 ⟨e1, hD1⟩
    generalize hps : others root n.toNat = ps at hD1 q
    have mps : ∀ v, v ∈ ps ↔ 0 ≤ v ∧ v < n ∧ v ≠ root := fun v => by
      rw [← hps, mem_others]
      omega
    have nd : ps.Nodup := by
      rw [← hps]
      exact others_nodup _ _
    have hpl : ps.length ≤ 20 := by
      have := others_len (root := root) (n := n.toNat) r0 (by omega)
      rw [hps] at this
      omega
    have hDn : H D = none := hD
    refine ⟨_, rfl, D, rfl, ⟨_, .of hD1⟩, fun T hT => dc_it (L2.walk_list (K := K) (a := D) (xs := ps.map V.int)) (fun i G => Same H1 G ∧ ∃ ad : Int → Addr, G T = some (.dK (intD (ps.take i) fun v => .ref (ad v))) ∧ (∀ v ∈ ps.take i, G (ad v) = some (.dK (intD ps fun _ => .int 0)) ∧ H1 (ad v) = none ∧ ad v ≠ T) ∧ ∀ v ∈ ps.take i, ∀ w ∈ ps.take i, ad v = ad w → v = w)
      ⟨same_new hT, fun _ => 0, upd_same, fun v hv => absurd hv (by simp), fun v hv => absurd hv (by simp)⟩ (fun i G _ z => .of (z.1 _ _ hD1)) ?_ ?_⟩
    · rintro i x _ G hi ⟨eG, ad, hGT, hrow, hinj⟩ ⟨rfl, hx⟩
      rw [List.getElem?_map] at hx
      obtain ⟨v, hv, rfl⟩ := Option.map_eq_some_iff.mp hx
      have hil : i < ps.length := (List.getElem?_eq_some_iff.mp hv).1
      have hnew : v ∉ ps.take i := fun z => not_taken nd hv (fun _ => true) (by simpa using z)
      refine ⟨rfl, ?_⟩
      refine ⟨_, rfl, _, rfl, D, rfl, ⟨_, .of (eG _ _ hD1)⟩, fun T2 hT2 => dc_it (L2.walk_list (K := K) (a := D) (xs := ps.map V.int)) (fun j G2 => Same G G2 ∧ G2 T2 = some (.dK (intD (ps.take j) fun _ => .int 0))) ⟨same_new hT2, upd_same⟩ (fun j G2 _ z => .of (z.1 _ _ (eG _ _ hD1))) ?_ ?_⟩
      · rintro j y _ G3 hj ⟨e2, h2⟩ ⟨rfl, hy⟩
        rw [List.getElem?_map] at hy
        obtain ⟨u, hu', rfl⟩ := Option.map_eq_some_iff.mp hy
        refine ⟨rfl, _, rfl, _, .inl u, rfl, h2, ?_, same_mut e2 hT2, ?_⟩
        · rw [intD_len, List.length_take]
          exact small_lt (by omega)
        · rw [upd_same, putK_intD_new (fun z => not_taken nd hu' (fun _ => true) (by simpa using z)), take_succ hu']
          congr 2
          unfold intD
          refine List.map_congr_left fun w _ => ?_
          dsimp only
          split <;> rfl
      · rintro G2 ⟨e2, h2⟩
        rw [List.length_map, List.take_length] at h2
        have hT0 : H1 T2 = none := eG.free hT2
        have nTT : T2 ≠ T := fun z => by
          rw [z, hGT] at hT2
          cases hT2
        have adn : ∀ w ∈ ps.take i, ad w ≠ T2 := fun w hw z => by
          have := (hrow w hw).1
          rw [z, hT2] at this
          cases this
        refine ⟨_, .inl v, rfl, e2 _ _ hGT, ?_, same_mut (eG.trans e2) hT, fun w => if w = v then T2 else ad w, ?_, fun w hw => ?_, fun w hw w' hw' e => ?_⟩
        · rw [intD_len, List.length_take]
          exact small_lt (by omega)
        · rw [upd_same, putK_intD_new hnew, take_succ hv]
          congr 2
          unfold intD
          refine List.map_congr_left fun w _ => ?_
          dsimp only
          split <;> rfl
        · rw [take_succ hv] at hw
          rcases List.mem_append.mp hw with hw | hw
          · have ne : ¬ w = v := fun z => hnew (z ▸ hw)
            obtain ⟨h3, h4, h5⟩ := hrow w hw
            simp only [if_neg ne]
            exact ⟨by rw [upd_ne h5]; exact e2 _ _ h3, h4, h5⟩
          · rw [List.mem_singleton.mp hw]
            simp only [if_true]
            exact ⟨by rw [upd_ne nTT]; exact h2, hT0, nTT⟩
        · rw [take_succ hv] at hw hw'
          dsimp only at e
          rcases List.mem_append.mp hw with hw | hw <;> rcases List.mem_append.mp hw' with hw' | hw'
          · rw [if_neg fun z : w = v => hnew (z ▸ hw), if_neg fun z : w' = v => hnew (z ▸ hw')] at e
            exact hinj w hw w' hw' e
          · rw [if_neg fun z : w = v => hnew (z ▸ hw), if_pos (List.mem_singleton.mp hw')] at e
            exact absurd e (adn w hw)
          · rw [if_pos (List.mem_singleton.mp hw), if_neg fun z : w' = v => hnew (z ▸ hw')] at e
            exact absurd e.symm (adn w' hw')
          · rw [List.mem_singleton.mp hw, List.mem_singleton.mp hw']
    rintro Ha0 ⟨ea, ad, hT1, hrow, hinj⟩
    rw [List.length_map, List.take_length] at hT1 hrow hinj
    have hM1 := (hM.same e1).same ea
    have e01 := e1.trans ea
    obtain ⟨dx1, l1, hp1, _⟩ := id hM1
    refine ⟨_, rfl, p, dx1, _, rfl, hp1, lk_roads, p, n, root, rows, rfl, hM1, fun l xs hl hXA => ?_⟩
    have sl := same_new (o := HO.lst xs) hl
    have hl1 : (upd Ha0 l (.lst xs)) l = some (.lst xs) := upd_same
    have hT2 := sl _ _ hT1
    have hrow2 : ∀ v ∈ ps, (upd Ha0 l (.lst xs)) (ad v) = some (.dK (intD ps fun _ => .int 0)) ∧ H (ad v) = none ∧ ad v ≠ T := fun v hv => ⟨sl _ _ (hrow v hv).1, e1.free (hrow v hv).2.1, (hrow v hv).2.2⟩
    have hHT : H T = none := e1.free hT
    have eHa := e01.trans sl
    have hXA2 := dpAll_same sl _ _ hXA
    clear hrow hT1 hp1 hM1 hXA
    generalize upd Ha0 l (.lst xs) = Ha at sl hl1 hT2 hrow2 eHa hXA2
    have hrowg : ∀ {i : Nat} {r : Row}, rows[i]? = some r → ∃ t, xs[i]? = some (.ref t) ∧ SqT K Ha t [.int r.b, .int r.g, .int r.c] := fun {i r} h => rows_at hXA2 h
    have nT : ∀ v ∈ ps, ad v ≠ T := fun v hv => (hrow2 v hv).2.2
    have nl : ∀ v ∈ ps, l ≠ ad v := fun v hv z => by
      have := (hrow2 v hv).1
      rw [← z, hl1] at this
      cases this
    refine ⟨l, rfl, ⟨_, .of hl1⟩, for_list (K := K) (a := l) (xs := xs) (fun i σ H' => TabAt ps H Ha H' T ad (lapV (rows.take i)) ∧ ∃ v4 v5 v6 : Option V, σ = [some (.ref p), some (.int root), some (.ref D), some (.ref T), v4, v5, v6, none, none, none])
      ⟨⟨hT2, fun v hv => (hrow2 v hv).1, fun b o h _ => h⟩, _, _, _, rfl⟩ (fun i σ H' _ ⟨S, _⟩ => .of (S.old _ _ hl1 nl)) ?_ ?_⟩
    · rintro i x σ H' hi ⟨S, v4, v5, v6, rfl⟩
      obtain ⟨r, hr'⟩ : ∃ r, rows[i]? = some r := ⟨_, List.getElem?_eq_getElem (by
        have := (List.getElem?_eq_some_iff.mp hi).1
        rw [dpAll_len hXA2, List.length_map] at this
        exact this)⟩
      obtain ⟨t, ht, hTt⟩ := hrowg hr'
      rw [hi] at ht
      cases ht
      have hTt' : SqT K H' t [.int r.b, .int r.g, .int r.c] := by
        have nt : ∀ o, Ha t = some o → (∀ kvs, o ≠ .dK kvs) → H' t = some o := fun o ho hk => S.old _ _ ho fun v hv z => by
          have := (hrow2 v hv).1
          rw [← z, ho] at this
          exact hk _ (Option.some.inj this)
        rcases hTt with (h | ⟨o, h⟩) | h
        · exact .inl (.inl (nt _ h fun _ => nofun))
        · exact .inl (.inr ⟨o, nt _ h fun _ => nofun⟩)
        · exact .inr h
      have rok := hrows r (List.mem_of_getElem? hr')
      have hM0 : ∀ v u, lapV (rows.take (i + 1)) v u = lapV (rows.take i) v u + if r.g = v then lapE v u r else 0 := fun v u => by
        rw [take_succ hr', lapV_snoc]
      refine ⟨t, _, rfl, hTt', rfl, _, _, rfl, _, _, rfl, _, _, rfl, rfl, ?_⟩
      refine ⟨_, rfl, _, rfl, rfl, _, rfl, ite2 (fun c => ?_) (fun c => ?_)⟩
      · have ng : ¬ r.g = root := fun z => by
          rw [z] at c
          simp at c
        have hg : r.g ∈ ps := (mps _).mpr ⟨rok.g0, rok.g1, ng⟩
        have gT : ∀ {G : Hp} {M : Int → Int → Int}, TabAt ps H Ha G T ad M → DGet G T (.int r.g) (some (.ref (ad r.g))) := fun {G M} S => .inl ⟨_, .inl r.g, .inl S.t, rfl, (valV_intD (f := fun v => V.ref (ad v)) hg).symm⟩
        have gR : ∀ {G : Hp} {M : Int → Int → Int} (u : Int), u ∈ ps → TabAt ps H Ha G T ad M → DGet G (ad r.g) (.int u) (some (.int (M r.g u))) := fun {G M} u hu S => .inl ⟨_, .inl u, .inl (S.row _ hg), rfl, (valV_intD (f := fun u => V.int (M r.g u)) hu).symm⟩
        have few : ∀ (f : Int → V), (intD ps f).length < sizeLine := fun f => by
          rw [intD_len]
          exact small_lt (by omega)
        have S1 := S.put nT hinj hg hg (lapV (rows.take i) r.g r.g + 1)
        refine ⟨_, rfl, _, rfl, T, _, rfl, gT S, _, rfl, ad r.g, _, rfl, gR r.g hg S, _, _, rfl, rfl, _, .inl ⟨_, .inl r.g, S.row _ hg, rfl, few _, rfl⟩, ?_⟩
        generalize upd H' (ad r.g) (.dK (putK (intD ps fun u => .int (lapV (rows.take i) r.g u)) (.inl r.g) (.int (lapV (rows.take i) r.g r.g + 1)))) = G1 at S1
        refine ⟨_, rfl, _, rfl, rfl, _, rfl, ite2 (fun c2 => ?_) (fun c2 => ?_)⟩
        · have nb : ¬ r.b = root := fun z => by
            rw [z] at c2
            simp at c2
          have hb : r.b ∈ ps := (mps _).mpr ⟨rok.b0, rok.b1, nb⟩
          have S2 := S1.put nT hinj hg hb (lapV (rows.take i) r.g r.b - 1)
          have e0 : (if r.g = r.g ∧ r.b = r.g then lapV (rows.take i) r.g r.g + 1 else lapV (rows.take i) r.g r.b) = lapV (rows.take i) r.g r.b := if_neg fun z => rok.ne z.2
          have g1 := gR r.b hb S1
          rw [e0] at g1
          refine ⟨_, rfl, _, rfl, T, _, rfl, gT S1, _, rfl, ad r.g, _, rfl, g1, _, _, rfl, rfl, _, .inl ⟨_, .inl r.b, S1.row _ hg, rfl, few _, rfl⟩, ?_⟩
          refine ⟨⟨S2.t, fun v hv => ?_, S2.old⟩, _, _, _, rfl⟩
          rw [S2.row v hv, intD_congr fun u _ => ?_]
          rw [hM0, ← lap_both rok.ne v u]
        · have eb : r.b = root := by simpa using c2
          refine ⟨⟨S1.t, fun v hv => ?_, S1.old⟩, _, _, _, rfl⟩
          rw [S1.row v hv, intD_congr fun u hu => ?_]
          rw [hM0, ← lap_one fun z => ((mps u).mp hu).2.2 (by rw [z, eb])]
      · have eg : r.g = root := by simpa using c
        refine ⟨⟨S.t, fun v hv => ?_, S.old⟩, _, _, _, rfl⟩
        rw [S.row v hv, intD_congr fun u _ => ?_]
        rw [hM0, if_neg fun z => ((mps v).mp hv).2.2 (by rw [← z, eg]), Int.add_zero]
    · rintro σ H' ⟨S, v4, v5, v6, rfl⟩
      rw [show xs.length = rows.length by rw [dpAll_len hXA2, List.length_map], List.take_length] at S
      have eS : Same H H' := fun b o hb => S.old _ _ (eHa _ _ hb) fun v hv z => by
        rw [z, (hrow2 v hv).2.1] at hb
        cases hb
      refine ⟨T, _, S.t, trivial, fun od => ⟨_, rfl, T, od, _, rfl, upd_same, fun D3 hD3 => ?_⟩⟩
      have nDT : D3 ≠ T := fun z => by
        rw [z, upd_same] at hD3
        cases hD3
      have hD30 : H' D3 = none := by
        rw [upd_ne nDT] at hD3
        exact hD3
      have eF : Same H (upd H' T (.frz od (.dK (intD ps fun v => .ref (ad v))))) := same_mut eS hHT
      have hFT : (upd H' T (.frz od (.dK (intD ps fun v => .ref (ad v))))) T = some (.frz od (.dK (intD ps fun v => .ref (ad v)))) := upd_same
      have hFr : ∀ v ∈ ps, (upd H' T (.frz od (.dK (intD ps fun v => .ref (ad v))))) (ad v) = some (.dK (intD ps fun u => .int (lapV rows v u))) := fun v hv => by
        rw [upd_ne (nT v hv)]
        exact S.row v hv
      generalize upd H' T (.frz od (.dK (intD ps fun v => .ref (ad v)))) = F0 at eF hFT hFr hD3
      have hH3 : H D3 = none := eF.free hD3
      refine L2.lc_it L2.walk_values (fun i G => ∃ acc B, NewTo K H G D3 ((ps.map fun v => ps.map fun u => lapV rows v u).map intsD) i acc B ∧ B T = none ∧ G T = some (.frz od (.dK (intD ps fun v => .ref (ad v)))) ∧ ∀ v ∈ ps, G (ad v) = some (.dK (intD ps fun u => .int (lapV rows v u))))
        ⟨[], H, ⟨same_mut eF hH3, upd_same, rfl, same_refl, same_mut eF hH3, hH3, .nil⟩, hHT, by rw [upd_ne (Ne.symm nDT)]; exact hFT, fun v hv => by
          rw [upd_ne fun z => by
            have := hFr v hv
            rw [z, hD3] at this
            cases this]
          exact hFr v hv⟩ (fun i G _ ⟨_, _, _, _, z, _⟩ => z) ?_ ?_
      · rintro i x _ G hi ⟨acc, B, N, hBT, hGT, hGr⟩ ⟨rfl, key, hkv⟩
        obtain ⟨v, hv, _, rfl⟩ := intD_get hkv
        have hvm := List.mem_of_getElem? hv
        refine ⟨rfl, ?_⟩
        refine ⟨_, rfl, ad v, _, rfl, hGr v hvm, fun p2 hp2 => ?_⟩
        have ekv : (intD ps fun u => V.int (lapV rows v u)).map (·.2) = (ps.map fun u => lapV rows v u).map V.int := by
          unfold intD
          rw [List.map_map, List.map_map]
          rfl
        rw [ekv]
        have npT : T ≠ p2 := ne_of_none hGT hp2
        obtain ⟨h1, h2, h3⟩ := N.push (d := intsD (ps.map fun u => lapV rows v u)) (o := .lst ((ps.map fun u => lapV rows v u).map V.int)) (by rw [List.getElem?_map, List.getElem?_map, hv]; rfl) hp2 (by rw [List.length_map, List.length_map]; omega) fun G' _ hg => .lst (.of hg) (dpAll_ints _)
        refine ⟨acc, h1, h2, _, _, h3, ?_, ?_, fun v' hv' => ?_⟩
        · rw [upd_ne npT]
          exact hBT
        · rw [upd_ne (Ne.symm nDT), upd_ne npT]
          exact hGT
        · have a1 := hGr v' hv'
          rw [upd_ne (fun z => by
            rw [z, N.lst] at a1
            cases a1), upd_ne (ne_of_none a1 hp2)]
          exact a1
      · rintro G ⟨acc, B, N, hBT, hGT, hGr⟩
        refine ⟨hGT, q (.ref D3) _ (same_mut N.old hHT) ?_⟩
        rw [tabL_lap]
        have e := N.all
        rw [List.take_of_length_le (by rw [List.length_map, List.length_map, intD_len]; exact Nat.le_refl _)] at e
        exact .lst (.of (by rw [upd_ne nDT]; exact N.lst)) (dpAll_same (same_mut N.sub hBT) _ _ e)
theorem ok_how_manyG {f C : Addr} {fd : FuncData} {k : Nat} (F : Fun K "how_many" "how_many" s_how_many f fd) (hT : HasG P w K mg base "table_of_roads" ["chart"] k (fun _ => True) (fun _ => (spTable K C))) (hD : HasG P w K mg base "determinant" ["rows"] k (fun _ => True) (fun _ => (spDet K))) : FnG P w K mg base (k + 1) f fd ["chart"] (fun _ => True) (fun _ => (spHowMany K C)) := by
  obtain ⟨fT, fdT, gT, kT, bT, GT⟩ := hT
  obtain ⟨fD, fdD, gD, kD, bD, GD⟩ := hD
  refine Fun.okG F sc_how_many (fun _ vs H Q E h => ?_) (fun cdv A outer s H vs Q E p0 hot0 _ hr h => ?_)
  · obtain ⟨p, n, root, rows, rfl, _⟩ := h
    rfl
  · obtain ⟨p, n, root, rows, rfl, hM, ok, q⟩ := h
    have hC : HotC (cxH CX0 P w K mg base N_how_many "how_many" (defScope s_how_many) f cdv A outer s H E p0) := ⟨p0, hot0, List.mem_singleton.mpr rfl⟩
    refine ⟨_, (pss_one (ps_ret (pe_callG (p := p0) (E := E0) GD hr hot0 (List.mem_singleton.mpr rfl) trivial (by rfl) gD kD bD (pa_cons (pe_callG (p := p0) (E := E0) GT hr hot0 (List.mem_singleton.mpr rfl) trivial (by rfl) gT kT bT (pa_cons (pv 0) pa_nil)) pa_nil)))), ?_⟩
    obtain ⟨m0, m1, r0, r1, hl60, hrows⟩ := id ok
    have hol := others_len (root := root) (n := n.toNat) r0 (by omega)
    refine ⟨_, rfl, p, n, root, rows, rfl, hM, ok, fun v H1 e1 hv => ?_⟩
    refine ⟨v, _, lapA rows (others root n.toNat), rfl, by omega, lapA_le hl60 _, hv, fun k hk => ?_, fun z H2 e2 hz => ?_⟩
    · rw [ibrd_lap (others_nodup root n.toNat) hk]
      omega
    · obtain ⟨k, rfl, c⟩ := told_count ok hz
      exact q k H2 (e1.trans e2) c
end
end Rc
/-! part RcZ3 -/
/-! The first so many trees: how many, the first, the second. -/
namespace Rc
open PySem PySem.Spec PyProof.Rows L2
section
variable {n root : Int} {ks : List Int} {rw : Int → Row} {m : Nat} {L : List (List Int)} {ns : List Int}
theorem best_cnt {k : Nat} (B : BestIs n root ks rw m L) (C : Cnt n root ks rw k) : L.length = min m k := by
  obtain ⟨E, nd, hE, rfl⟩ := C
  have h1 : L.length ≤ E.length := (best_nodup B).length_le_of_subset fun js hj => (hE js).mpr ⟨(B.tree js hj).2, (B.tree js hj).1⟩
  have h2 := B.len
  by_cases c : L.length = m
  · omega
  · have h3 : E.length ≤ L.length := nd.length_le_of_subset fun js hj => by
      obtain ⟨u, t⟩ := (hE js).mp hj
      exact (B.rest js t u).resolve_right fun z => c z.1
    omega
theorem best_head {prs : List Pr} (B : BestIs n root ks rw m L) (hm : 1 ≤ m) (C : CheapK n root ks rw ns prs) : ∃ r, L = ns :: r := by
  have hin : ns ∈ L := by
    rcases B.rest ns C.tree C.up with h | ⟨h1, h2⟩
    · exact h
    · cases L with
      | nil => rw [List.length_nil] at h1; omega
      | cons a r =>
        have hb := h2 a List.mem_cons_self
        obtain ⟨ta, ua⟩ := B.tree a List.mem_cons_self
        rcases (C.first a ua ta).2 with e | e
        · rw [e]; exact List.mem_cons_self
        · exact (bef_asym hb e).elim
  cases L with
  | nil => cases hin
  | cons a r =>
    rcases List.mem_cons.mp hin with e | hr
    · exact ⟨r, by rw [e]⟩
    · have hb := (List.pairwise_cons.mp B.ord).1 ns hr
      obtain ⟨ta, ua⟩ := B.tree a List.mem_cons_self
      rcases (C.first a ua ta).2 with e | e
      · exact ⟨r, by rw [e]⟩
      · exact (bef_asym hb e).elim
theorem ord_of_bef (h : L.Pairwise (Bef rw)) : Ord (L.map (treeK rw)) := by
  unfold Ord
  rw [List.pairwise_map]
  refine h.imp fun {a b} hb => ?_
  cases e : PySem.W.dataLt (treeK rw b) (treeK rw a) with
  | false => rfl
  | true => exact (bef_asym hb e).elim
theorem sorted_best {es : List PyData} (h : L.Pairwise (Bef rw)) (hl : ∀ a ∈ L, ∀ b ∈ L, a.length = b.length) (p : es.Perm (L.map (treeK rw))) (o : Ord es) : es = L.map (treeK rw) := by
  refine List.Perm.eq_of_pairwise (le := fun a b => PySem.W.dataLt b a = false) (fun a b ha hb h1 h2 => ?_) o (ord_of_bef h) p
  obtain ⟨x, hx, rfl⟩ := List.mem_map.mp (p.mem_iff.mp ha)
  obtain ⟨y, hy, rfl⟩ := List.mem_map.mp hb
  by_cases e : x = y
  · rw [e]
  · rcases bef_tri (rw := rw) (hl x hx y hy) e with z | z
    · rw [show PySem.W.dataLt (treeK rw x) (treeK rw y) = true from z] at h2
      cases h2
    · rw [show PySem.W.dataLt (treeK rw y) (treeK rw x) = true from z] at h1
      cases h1
/-- the second tree is dearer by the least margin of the first one's roads -/
theorem best_second {b : List Int} {r : List (List Int)} (r0 : 0 ≤ root) (r1 : root < n) (B : BestIs n root ks rw m (ns :: b :: r)) {far : Int → Option Int} (M : ∀ j ∈ ns, MarginIs n root ks rw j ns (far j)) : (∃ j ∈ ns, ∃ f, far j = some f ∧ costOfK rw b = costOfK rw ns + f) ∧ ∀ j ∈ ns, ∀ f, far j = some f → costOfK rw b ≤ costOfK rw ns + f := by
  obtain ⟨tn, un⟩ := B.tree ns List.mem_cons_self
  obtain ⟨tb, ub⟩ := B.tree b (List.mem_cons_of_mem _ List.mem_cons_self)
  have hnb : Bef rw ns b := (List.pairwise_cons.mp B.ord).1 b List.mem_cons_self
  have ne : ns ≠ b := fun e => bef_irr (rw := rw) (a := b) (e ▸ hnb)
  have low : ∀ j ∈ ns, ∀ f, far j = some f → costOfK rw b ≤ costOfK rw ns + f := fun j hj f hf => by
    have Mj := M j hj
    rw [hf] at Mj
    obtain ⟨⟨js, t, hne, e⟩, _⟩ := Mj
    obtain ⟨is, hp, hu⟩ := sort_tree js
    have ti := permK hp.symm t
    have hji : j ∉ is := fun z => hne ⟨fun _ => hj, fun _ => hp.mem_iff.mp z⟩
    have ei : costOfK rw is = costOfK rw js := by
      unfold costOfK
      exact perm_sum (hp.map _)
    rw [← e, ← ei]
    have key : b = is ∨ Bef rw b is := by
      rcases B.rest is ti hu with h | ⟨_, h⟩
      · rcases List.mem_cons.mp h with z | h
        · exact absurd (z ▸ hj) hji
        · rcases List.mem_cons.mp h with z | h
          · exact .inl z.symm
          · exact .inr ((List.pairwise_cons.mp (List.pairwise_cons.mp B.ord).2).1 is h)
      · exact .inr (h b (List.mem_cons_of_mem _ List.mem_cons_self))
    rcases key with z | z
    · rw [z]; exact Int.le_refl _
    · rcases bef_iff.mp z with y | ⟨y, _⟩
      · omega
      · omega
  refine ⟨?_, low⟩
  obtain ⟨j, hj, hjb⟩ : ∃ j ∈ ns, j ∉ b := by
    refine Classical.byContradiction fun z => ne ?_
    have sub : ∀ j ∈ ns, j ∈ b := fun j hj => Classical.byContradiction fun y => z ⟨j, hj, y⟩
    exact up_perm_eq un ub (perm_of_sub (nodupK r0 r1 tn) sub (by
      have := tn.1
      have := tb.1
      omega)).symm
  have Mj := M j hj
  cases hf : far j with
  | none =>
    rw [hf] at Mj
    exact absurd ((Mj b tb).mpr hj) hjb
  | some f =>
    rw [hf] at Mj
    have h1 := Mj.2 b tb fun z => hjb (z.mpr hj)
    have h2 := low j hj f hf
    exact ⟨j, hj, f, hf, by omega⟩
end
end Rc
/-! part RcJ3 -/
/-! The law's own def: dice, where there are no tables. -/
namespace Rc
open PySem PySem.Spec PyProof.Rows L2
structure LD (K : PySem.W.Frag) (d : Addr) (H : Hp) : Prop where
  dice : Dice K H (sans (at1 d) H) d
namespace LD
variable {K : PySem.W.Frag} {d : Addr} {H H' Hb' : Hp}
theorem dd (L : LD K d H) : ∃ a i x c, H d = some (.lst (dl a i x c)) := by
  obtain ⟨_, _, a, _, i, x, c, h, _⟩ := L.dice
  exact ⟨a, i, x, c, h⟩
theorem off (L : LD K d H) : ∀ b, at1 d b → ∃ o, H b = some o ∧ (∀ xs, o ≠ .tup xs) ∧ ∀ u o', o ≠ .frz u o' := fun b z => by
  obtain ⟨a, i, x, c, h⟩ := L.dd
  have z' : b = d := z
  rw [z']
  exact ⟨_, h, fun xs y => (by cases y), fun u o' y => by cases y⟩
theorem fresh (L : LD K d H) {p : Addr} (h : H p = none) : ¬ at1 d p := fun z => by
  obtain ⟨o, e, _⟩ := L.off p z
  rw [h] at e
  cases e
theorem same (L : LD K d H) (e0 : Same H H') : LD K d H' ∧ Same (sans (at1 d) H) (sans (at1 d) H') := by
  have e : Same (sans (at1 d) H) (sans (at1 d) H') := part_same fun b o n h => e0 b o h
  obtain ⟨_, _, a, ns, i, x, c, hd, ok, hs⟩ := L.dice
  exact ⟨⟨⟨sans_same, sans_at rfl, a, ns, i, x, c, e0 _ _ hd, ok, e.seq hs⟩⟩, e⟩
theorem step (L : LD K d H) (S : Sub (at1 d) H (sans (at1 d) H) H' Hb') (D : Dice K H' Hb' d) : LD K d H' ∧ Same (sans (at1 d) H) (sans (at1 d) H') ∧ Same Hb' (sans (at1 d) H') := by
  have e1 : Same (sans (at1 d) H) (sans (at1 d) H') := part_same fun b o n h => S.old b o n h
  have e2 : Same Hb' (sans (at1 d) H') := fun b o h => by
    rw [sans_no fun z => ?_]
    · exact D.sub _ _ h
    · have z' : b = d := z
      rw [z', D.dn] at h
      cases h
  obtain ⟨_, _, a, ns, i, x, c, hd, ok, hs⟩ := D
  exact ⟨⟨⟨sans_same, sans_at rfl, a, ns, i, x, c, hd, ok, e2.seq hs⟩⟩, e1, e2⟩
theorem start {H1 : Hp} (D1 : Dice K H1 H d) : LD K d H1 ∧ Same H (sans (at1 d) H1) := by
  have e2 : Same H (sans (at1 d) H1) := fun b o h => by
    rw [sans_no fun z => ?_]
    · exact D1.sub _ _ h
    · have z' : b = d := z
      rw [z', D1.dn] at h
      cases h
  obtain ⟨_, _, a, ns, i, x, c, hd, ok, hs⟩ := D1
  exact ⟨⟨⟨sans_same, sans_at rfl, a, ns, i, x, c, hd, ok, e2.seq hs⟩⟩, e2⟩
end LD
end Rc
/-! part RcU3 -/
/-! The law's own def: a map whose places are all led to. -/
namespace Rc
open PySem PySem.Spec PyProof.Rows L2
/-- places left, places in order, rows: each a list of its own, apart from the dice -/
structure Rt (K : PySem.W.Frag) (H Hb H' Hb' : Hp) (d lL lO lR : Addr) (lf od : List Int) (rows : List Row) : Prop where
  sub : Sub (at1 d) H Hb H' Hb'
  dice : Dice K H' Hb' d
  nL : H lL = none
  nO : H lO = none
  nR : H lR = none
  aL : Hb' lL = none
  aO : Hb' lO = none
  aR : Hb' lR = none
  dL : lL ≠ d
  dO : lO ≠ d
  dR : lR ≠ d
  LO : lL ≠ lO
  LR : lL ≠ lR
  OR : lO ≠ lR
  hL : H' lL = some (.lst (lf.map V.int))
  hO : H' lO = some (.lst (od.map V.int))
  hR : ∃ vs, H' lR = some (.lst vs) ∧ DpAll K Hb' vs (rows.map Row.dat)
namespace Rt
variable {K : PySem.W.Frag} {H Hb H' Hb' H2 : Hp} {d lL lO lR t : Addr} {lf od lf' od' : List Int} {rows : List Row}
theorem call (R : Rt K H Hb H' Hb' d lL lO lR lf od rows) (S : Sub (at1 d) H' Hb' H2 Hb') (D : Dice K H2 Hb' d) : Rt K H Hb H2 Hb' d lL lO lR lf od rows := by
  obtain ⟨vs, hv, ha⟩ := R.hR
  exact ⟨R.sub.dlast R.dice S, D, R.nL, R.nO, R.nR, R.aL, R.aO, R.aR, R.dL, R.dO, R.dR, R.LO, R.LR, R.OR, S.old _ _ R.dL R.hL, S.old _ _ R.dO R.hO, vs, S.old _ _ R.dR hv, ha⟩
theorem setL (R : Rt K H Hb H' Hb' d lL lO lR lf od rows) : Rt K H Hb (upd H' lL (.lst (lf'.map V.int))) Hb' d lL lO lR lf' od rows := by
  obtain ⟨vs, hv, ha⟩ := R.hR
  exact ⟨R.sub.put (.inl R.nL) R.aL, R.dice.put_up R.aL (Ne.symm R.dL), R.nL, R.nO, R.nR, R.aL, R.aO, R.aR, R.dL, R.dO, R.dR, R.LO, R.LR, R.OR, upd_same, by rw [upd_ne (Ne.symm R.LO)]; exact R.hO, vs, by rw [upd_ne (Ne.symm R.LR)]; exact hv, ha⟩
theorem setO (R : Rt K H Hb H' Hb' d lL lO lR lf od rows) : Rt K H Hb (upd H' lO (.lst (od'.map V.int))) Hb' d lL lO lR lf od' rows := by
  obtain ⟨vs, hv, ha⟩ := R.hR
  exact ⟨R.sub.put (.inl R.nO) R.aO, R.dice.put_up R.aO (Ne.symm R.dO), R.nL, R.nO, R.nR, R.aL, R.aO, R.aR, R.dL, R.dO, R.dR, R.LO, R.LR, R.OR, by rw [upd_ne R.LO]; exact R.hL, upd_same, vs, by rw [upd_ne (Ne.symm R.OR)]; exact hv, ha⟩
theorem ne_d (R : Rt K H Hb H' Hb' d lL lO lR lf od rows) (h : H' t = none) : t ≠ d := fun e => R.dice.live (e ▸ h)
/-- a new object that belongs to the part -/
theorem add {o : HO} (R : Rt K H Hb H' Hb' d lL lO lR lf od rows) (h : H' t = none) : Rt K H Hb (upd H' t o) (upd Hb' t o) d lL lO lR lf od rows := by
  obtain ⟨vs, hv, ha⟩ := R.hR
  have n1 : lL ≠ t := ne_of_none R.hL h
  have n2 : lO ≠ t := ne_of_none R.hO h
  have n3 : lR ≠ t := ne_of_none hv h
  exact ⟨R.sub.add h (R.ne_d h), R.dice.sub_up h, R.nL, R.nO, R.nR, by rw [upd_ne n1]; exact R.aL, by rw [upd_ne n2]; exact R.aO, by rw [upd_ne n3]; exact R.aR, R.dL, R.dO, R.dR, R.LO, R.LR, R.OR, by rw [upd_ne n1]; exact R.hL, by rw [upd_ne n2]; exact R.hO, vs, by rw [upd_ne n3]; exact hv,
    dpAll_same (same_new (R.sub.sub.free h)) _ _ ha⟩
/-- a row is set in -/
theorem ins {r : Row} {vs : List V} {i : Nat} (R : Rt K H Hb H' Hb' d lL lO lR lf od rows) (ht : Hb' t = some (.tup [.int r.b, .int r.g, .int r.c])) (hv : H' lR = some (.lst vs)) :
    Rt K H Hb (upd H' lR (.lst (vs.take i ++ [.ref t] ++ vs.drop i))) Hb' d lL lO lR lf od (rows.take i ++ [r] ++ rows.drop i) := by
  obtain ⟨vs', hv', ha⟩ := R.hR
  rw [hv] at hv'
  cases hv'
  refine ⟨R.sub.put (.inl R.nR) R.aR, R.dice.put_up R.aR (Ne.symm R.dR), R.nL, R.nO, R.nR, R.aL, R.aO, R.aR, R.dL, R.dO, R.dR, R.LO, R.LR, R.OR, by rw [upd_ne R.LR]; exact R.hL, by rw [upd_ne R.OR]; exact R.hO, _, upd_same, ?_⟩
  have hs : ∀ (j : Nat) (xs : List V) (rs : List Row), DpAll K Hb' xs (rs.map Row.dat) → DpAll K Hb' (xs.take j) ((rs.take j).map Row.dat) ∧ DpAll K Hb' (xs.drop j) ((rs.drop j).map Row.dat) := by
    intro j
    induction j with
    | zero => exact fun xs rs h => ⟨by simp; exact .nil, by simpa using h⟩
    | succ j ih =>
      intro xs rs h
      cases rs with
      | nil =>
        cases h
        exact ⟨.nil, .nil⟩
      | cons r rs =>
        cases h with
        | cons h1 h2 =>
          obtain ⟨a, b⟩ := ih _ rs h2
          exact ⟨.cons h1 a, b⟩
  obtain ⟨a, b⟩ := hs i vs rows ha
  rw [List.map_append, List.map_append]
  exact dpAll_app (dpAll_app a (.cons (.tup (.of ht) (.cons (.int _) (.cons (.int _) (.cons (.int _) .nil)))) .nil)) b
end Rt
theorem nth_perm {α : Type} {l : List α} {i : Nat} (h : i < l.length) : (l[i] :: l.eraseIdx i).Perm l := by
  rw [List.eraseIdx_eq_take_drop_succ]
  have e : l.take i ++ l[i] :: l.drop (i + 1) = l := by
    rw [← List.drop_eq_getElem_cons h, List.take_append_drop]
  exact (List.perm_middle.symm).trans (by rw [e])
theorem map_erase {α β : Type} {f : α → β} (l : List α) (i : Nat) : (l.map f).eraseIdx i = (l.eraseIdx i).map f := by
  rw [List.eraseIdx_eq_take_drop_succ, List.eraseIdx_eq_take_drop_succ, List.map_append, List.map_take, List.map_drop]
theorem idx_get {n i : Nat} (h : i < n) : (idx n)[i]? = some (i : Int) := by
  unfold idx
  rw [List.getElem?_map, List.getElem?_range h]
  rfl
theorem idx_len (n : Nat) : (idx n).length = n := by
  unfold idx
  rw [List.length_map, List.length_range]
theorem rg_idx (n : Int) : rgV 0 n = (idx n.toNat).map V.int := by
  unfold rgV idx
  rw [List.map_map, Int.sub_zero]
  refine List.map_congr_left fun i _ => ?_
  show V.int (0 + (i : Int)) = V.int (i : Int)
  rw [Int.zero_add]
/-- what holds of the places while the map grows -/
structure Grow (many root : Int) (lf od : List Int) (rows : List Row) : Prop where
  all : (od ++ lf).Perm (idx many.toNat)
  ne : od ≠ []
  reach : ∀ v ∈ od, Reach rows root v
  ok : ∀ r ∈ rows, Row.Ok many r
  len : rows.length + 1 = od.length
theorem Grow.mem {many root v : Int} {lf od : List Int} {rows : List Row} (G : Grow many root lf od rows) (h : v ∈ od ∨ v ∈ lf) : 0 ≤ v ∧ v < many := by
  have := mem_idx.mp (G.all.mem_iff.mp (List.mem_append.mpr h))
  omega
theorem Grow.lens {many root : Int} {lf od : List Int} {rows : List Row} (m0 : 0 ≤ many) (G : Grow many root lf od rows) : (od.length : Int) + lf.length = many := by
  have := G.all.length_eq
  rw [List.length_append, idx_len] at this
  omega
theorem ins_mem {α : Type} {l : List α} {x y : α} {i : Nat} : y ∈ l.take i ++ [x] ++ l.drop i ↔ y = x ∨ y ∈ l := by
  have e : l.take i ++ [x] ++ l.drop i = l.take i ++ x :: l.drop i := by simp
  rw [e, List.perm_middle.mem_iff, List.take_append_drop, List.mem_cons]
theorem ins_len {α : Type} {l : List α} {x : α} {i : Nat} : (l.take i ++ [x] ++ l.drop i).length = l.length + 1 := by
  have e : l.take i ++ [x] ++ l.drop i = l.take i ++ x :: l.drop i := by simp
  rw [e, List.perm_middle.length_eq, List.take_append_drop, List.length_cons]
theorem Grow.step {many root c : Int} {lf od : List Int} {rows : List Row} {i j k : Nat} {b g : Int} (G : Grow many root lf od rows) (hg : lf[i]? = some g) (hb : od[j]? = some b) (c0 : 0 ≤ c) (c1 : c ≤ 1000000000) :
    Grow many root (lf.eraseIdx i) (od ++ [g]) (rows.take k ++ [⟨b, g, c⟩] ++ rows.drop k) := by
  have hil := (List.getElem?_eq_some_iff.mp hg).1
  have eg : lf[i] = g := (List.getElem?_eq_some_iff.mp hg).2
  have hbm := List.mem_of_getElem? hb
  have hgm := List.mem_of_getElem? hg
  have nd : (od ++ lf).Nodup := G.all.nodup_iff.mpr (idx_nodup _)
  have hne : b ≠ g := fun e => by
    have := (List.nodup_append.mp nd).2.2 b hbm g hgm
    exact this e
  have P := nth_perm hil
  rw [eg] at P
  refine ⟨?_, by simp, fun v hv => ?_, fun r hr => ?_, ?_⟩
  · refine List.Perm.trans ?_ G.all
    rw [List.append_assoc]
    exact List.Perm.append_left _ P
  · rcases List.mem_append.mp hv with z | z
    · exact reach_sub (fun r hr => ins_mem.mpr (.inr hr)) (G.reach v z)
    · rw [List.mem_singleton.mp z]
      exact .step (r := ⟨b, g, c⟩) (ins_mem.mpr (.inl rfl)) (reach_sub (fun r hr => ins_mem.mpr (.inr hr)) (G.reach b hbm))
  · rcases ins_mem.mp hr with rfl | z
    · have h1 := G.mem (.inl hbm)
      have h2 := G.mem (.inr hgm)
      exact ⟨h1.1, h1.2, h2.1, h2.2, hne, c0, c1⟩
    · exact G.ok r z
  · rw [ins_len, List.length_append, G.len]
    rfl
def spRootedN (K : PySem.W.Frag) : Sp := fun vs H Q _ => ∃ (Hb : Hp) (d : Addr) (p r : Int), vs = [.ref d, .int p, .int r] ∧ Dice K H Hb d ∧ 1 ≤ p ∧ p ≤ 19 ∧ 0 ≤ r ∧ r ≤ 40 ∧
  ∀ H' Hb' v many root rows, Sub (at1 d) H Hb H' Hb' → Dice K H' Hb' d → Dp K Hb' v (chartDat many root rows) → ChartOk many root rows → (∀ v, 0 ≤ v → v < many → Reach rows root v) → many ≤ p → (rows.length : Int) < p + r → Q v H'
def spRooted (K : PySem.W.Frag) : Sp := fun vs H Q _ => ∃ (Hb : Hp) (d : Addr) (p r : Int), vs = [.ref d, .int p, .int r] ∧ Dice K H Hb d ∧ 1 ≤ p ∧ p ≤ 19 ∧ 0 ≤ r ∧ r ≤ 40 ∧
  ∀ H' Hb' v many root rows, Sub (at1 d) H Hb H' Hb' → Dice K H' Hb' d → Dp K Hb' v (chartDat many root rows) → ChartOk many root rows → (∀ v, 0 ≤ v → v < many → Reach rows root v) → Q v H'
theorem spRooted_of {K : PySem.W.Frag} (vs : List V) (H : Hp) (Q : VK) (E : XK) (h : spRooted K vs H Q E) : spRootedN K vs H Q E := by
  obtain ⟨Hb, d, p, r, e, D, p0, p1, r0, r1, q⟩ := h
  exact ⟨Hb, d, p, r, e, D, p0, p1, r0, r1, fun H' Hb' v many root rows S D2 hd ok re _ _ => q H' Hb' v many root rows S D2 hd ok re⟩
section
variable {P : Program} {w : World} {K : PySem.W.Frag} {mg : Str → Option Value} {base : Heap}
end
end Rc
/-! part RcZ4 -/
/-! The trees of another map: places called otherwise, roads picked. -/
namespace Rc
open PySem PySem.Spec PyProof.Rows L2
section
variable {n root root' : Int} {ks ks' : List Int} {rw rw' : Int → Row}
/-- trees there and back -/
theorem cnt_map {σ τ : Int → Int} {k : Nat} (hσ : ∀ js, TreeIn n root ks rw js → TreeIn n root' ks' rw' (js.map σ)) (hτ : ∀ js, TreeIn n root' ks' rw' js → TreeIn n root ks rw (js.map τ)) (h1 : ∀ j ∈ ks, τ (σ j) = j) (h2 : ∀ j ∈ ks', σ (τ j) = j) (C : Cnt n root ks rw k) : Cnt n root' ks' rw' k := by
  obtain ⟨L, nd, hL, rfl⟩ := C
  let srt : List Int → List Int := fun js => (sort_tree js).choose
  have s1 : ∀ js, (srt js).Perm js := fun js => (sort_tree js).choose_spec.1
  have s2 : ∀ js, (srt js).Pairwise (· ≤ ·) := fun js => (sort_tree js).choose_spec.2
  have mm : ∀ (f g : Int → Int) (l : List Int), (∀ j ∈ l, g (f j) = j) → (l.map f).map g = l := fun f g l h => by
    rw [List.map_map]
    conv => rhs; rw [← List.map_id l]
    exact List.map_congr_left fun j hj => h j hj
  refine ⟨L.map fun js => srt (js.map σ), ?_, fun js => ?_, List.length_map _⟩
  · unfold List.Nodup at nd ⊢
    rw [List.pairwise_map]
    refine nd.imp_of_mem fun {a b} ha hb ne e => ne ?_
    obtain ⟨ua, ta⟩ := (hL a).mp ha
    obtain ⟨ub, tb⟩ := (hL b).mp hb
    have p : (a.map σ).Perm (b.map σ) := (s1 _).symm.trans (e ▸ s1 _)
    have p2 := p.map τ
    rw [mm σ τ a fun j hj => h1 j (ta.2.1 j hj), mm σ τ b fun j hj => h1 j (tb.2.1 j hj)] at p2
    exact up_perm_eq ua ub p2
  · constructor
    · intro h
      obtain ⟨is, hi, rfl⟩ := List.mem_map.mp h
      exact ⟨s2 _, permK (s1 _).symm (hσ is ((hL is).mp hi).2)⟩
    · rintro ⟨u, t⟩
      have t2 := hτ js t
      have hm := (hL (srt (js.map τ))).mpr ⟨s2 _, permK (s1 _).symm t2⟩
      refine List.mem_map.mpr ⟨_, hm, up_perm_eq (s2 _) u ((s1 _).trans ?_)⟩
      have p := (s1 (js.map τ)).map σ
      rw [mm τ σ js fun j hj => h2 j (t.2.1 j hj)] at p
      exact p
/-- places called otherwise, roads numbered otherwise -/
theorem tree_rename {π ρ σ : Int → Int} {js : List Int} (hk : ∀ j ∈ ks, σ j ∈ ks') (hrow : ∀ j ∈ ks, (rw' (σ j)).b = π (rw j).b ∧ (rw' (σ j)).g = π (rw j).g) (hρ : ∀ v, 0 ≤ v → v < n → 0 ≤ ρ v ∧ ρ v < n ∧ π (ρ v) = v) (t : TreeIn n root ks rw js) : TreeIn n (π root) ks' rw' (js.map σ) := by
  refine ⟨by rw [List.length_map]; exact t.1, fun j hj => ?_, fun v v0 v1 => ?_⟩
  · obtain ⟨i, hi, rfl⟩ := List.mem_map.mp hj
    exact hk i (t.2.1 i hi)
  · have key : ∀ u, Reach (js.map rw) root u → Reach ((js.map σ).map rw') (π root) (π u) := fun u h => by
      induction h with
      | root => exact .root
      | @step r hr _ ih =>
        obtain ⟨j, hj, rfl⟩ := List.mem_map.mp hr
        obtain ⟨e1, e2⟩ := hrow j (t.2.1 j hj)
        rw [← e2]
        refine .step (List.mem_map_of_mem (f := rw') (List.mem_map_of_mem (f := σ) hj)) ?_
        rw [e1]
        exact ih
    obtain ⟨a, b, c⟩ := hρ v v0 v1
    rw [← c]
    exact key _ (t.2.2 _ a b)
theorem cost_rename {σ : Int → Int} {js : List Int} (hrow : ∀ j ∈ js, (rw' (σ j)).c = (rw j).c) : costOfK rw' (js.map σ) = costOfK rw js := by
  unfold costOfK
  rw [List.map_map]
  congr 1
  exact List.map_congr_left fun j hj => hrow j hj
/-- roads picked from a map -/
def pkAt (ks : List Int) (i : Int) : Int := ks.getD i.toNat 0
noncomputable def pkOf (ks : List Int) (j : Int) : Int := open Classical in if h : ∃ i : Nat, ks[i]? = some j then (h.choose : Int) else 0
theorem pkAt_get {i : Int} (h : i ∈ idx ks.length) : ks[i.toNat]? = some (pkAt ks i) := by
  obtain ⟨i0, i1⟩ := mem_idx.mp h
  have hl : i.toNat < ks.length := by omega
  unfold pkAt
  rw [List.getD_eq_getElem?_getD, List.getElem?_eq_getElem hl]
  rfl
theorem pkAt_mem {i : Int} (h : i ∈ idx ks.length) : pkAt ks i ∈ ks := List.mem_of_getElem? (pkAt_get h)
theorem pkOf_spec {j : Int} (h : j ∈ ks) : pkOf ks j ∈ idx ks.length ∧ pkAt ks (pkOf ks j) = j := by
  have hx : ∃ i : Nat, ks[i]? = some j := List.getElem?_of_mem h
  have hs := hx.choose_spec
  have e : pkOf ks j = (hx.choose : Int) := by
    unfold pkOf
    rw [dif_pos hx]
  rw [e]
  have hl := (List.getElem?_eq_some_iff.mp hs).1
  refine ⟨mem_idx.mpr ⟨by omega, by omega⟩, ?_⟩
  unfold pkAt
  rw [List.getD_eq_getElem?_getD, show ((hx.choose : Nat) : Int).toNat = hx.choose by omega, hs]
  rfl
theorem pkOf_at (nd : ks.Nodup) {i : Int} (h : i ∈ idx ks.length) : pkOf ks (pkAt ks i) = i := by
  obtain ⟨a, b⟩ := pkOf_spec (pkAt_mem h)
  have h1 := pkAt_get h
  have h2 := pkAt_get a
  rw [b] at h2
  have := nodup_at nd h1 h2
  obtain ⟨i0, _⟩ := mem_idx.mp h
  obtain ⟨a0, _⟩ := mem_idx.mp a
  omega
theorem pkRow {i : Int} (h : i ∈ idx ks.length) : rowAt (ks.map rw) i = rw (pkAt ks i) := by
  unfold rowAt
  rw [List.getD_eq_getElem?_getD, List.getElem?_map, pkAt_get h]
  rfl
theorem pick_tree {js : List Int} (t : TreeIn n root (idx ks.length) (rowAt (ks.map rw)) js) : TreeIn n root ks rw (js.map (pkAt ks)) :=
  tree_rename (π := id) (ρ := id) (fun j hj => pkAt_mem hj) (fun j hj => by rw [pkRow hj]; exact ⟨rfl, rfl⟩) (fun v v0 v1 => ⟨v0, v1, rfl⟩) t
theorem tree_pick {js : List Int} (t : TreeIn n root ks rw js) : TreeIn n root (idx ks.length) (rowAt (ks.map rw)) (js.map (pkOf ks)) :=
  tree_rename (π := id) (ρ := id) (fun j hj => (pkOf_spec hj).1) (fun j hj => by rw [pkRow (pkOf_spec hj).1, (pkOf_spec hj).2]; exact ⟨rfl, rfl⟩) (fun v v0 v1 => ⟨v0, v1, rfl⟩) t
theorem cnt_pick {k : Nat} (nd : ks.Nodup) (C : Cnt n root (idx ks.length) (rowAt (ks.map rw)) k) : Cnt n root ks rw k :=
  cnt_map (σ := pkAt ks) (τ := pkOf ks) (fun js t => pick_tree t) (fun js t => tree_pick t) (fun j hj => pkOf_at nd hj) (fun j hj => (pkOf_spec hj).2) C
/-- with and without a road -/
theorem cnt_split {j : Int} {k k1 k2 : Nat} (r0 : 0 ≤ root) (r1 : root < n) (g0 : 0 ≤ (rw j).g) (g1 : (rw j).g < n) (gr : (rw j).g ≠ root) (hj : j ∈ ks) (C : Cnt n root ks rw k) (C1 : Cnt n root (ks.filter fun k => !decide (k = j)) rw k1) (C2 : Cnt n root (ks.filter fun k => !decide ((rw k).g = (rw j).g) || decide (k = j)) rw k2) : k = k1 + k2 := by
  obtain ⟨L, nd, hL, rfl⟩ := C
  have h1 : Cnt n root (ks.filter fun k => !decide (k = j)) rw (L.filter fun js => decide (j ∉ js)).length := ⟨_, nd.sublist List.filter_sublist, fun js => by
    rw [List.mem_filter, hL, without_iff, decide_eq_true_eq]
    exact ⟨fun ⟨⟨a, b⟩, c⟩ => ⟨a, b, c⟩, fun ⟨a, b, c⟩ => ⟨⟨a, b⟩, c⟩⟩, rfl⟩
  have h2 : Cnt n root (ks.filter fun k => !decide ((rw k).g = (rw j).g) || decide (k = j)) rw (L.filter fun js => !decide (j ∉ js)).length := ⟨_, nd.sublist List.filter_sublist, fun js => by
    rw [List.mem_filter, hL, alone_iff r0 r1 g0 g1 gr]
    simp only [Bool.not_eq_true', decide_eq_false_iff_not, Classical.not_not]
    exact ⟨fun ⟨⟨a, b⟩, c⟩ => ⟨a, b, c⟩, fun ⟨a, b, c⟩ => ⟨⟨a, b⟩, c⟩⟩, rfl⟩
  rw [C1.uniq h1, C2.uniq h2]
  have key : ∀ l : List (List Int), l.length = (l.filter fun js => decide (j ∉ js)).length + (l.filter fun js => !decide (j ∉ js)).length := fun l => by
    induction l with
    | nil => rfl
    | cons a l ih =>
      rw [List.filter_cons, List.filter_cons, List.length_cons, ih]
      by_cases c : j ∉ a
      · rw [if_pos (decide_eq_true c), if_neg (by simpa using c), List.length_cons]
        omega
      · rw [if_neg (by simpa using c), if_pos (by simpa using c), List.length_cons]
        omega
  exact key L
/-- a road into the root is in no tree -/
theorem cnt_root {j : Int} {k k1 : Nat} (r0 : 0 ≤ root) (r1 : root < n) (gr : (rw j).g = root) (C : Cnt n root ks rw k) (C1 : Cnt n root (ks.filter fun k => !decide (k = j)) rw k1) : k = k1 := by
  obtain ⟨L, nd, hL, rfl⟩ := C
  refine Cnt.uniq (n := n) (root := root) (ks := ks.filter fun k => !decide (k = j)) (rw := rw) ⟨L, nd, fun js => ?_, rfl⟩ C1
  rw [hL, without_iff]
  exact ⟨fun ⟨a, b⟩ => ⟨a, b, fun z => root_noneK r0 r1 b z gr⟩, fun ⟨a, b, _⟩ => ⟨a, b⟩⟩
end
end Rc
/-! part RcZ7 -/
/-! Two maps with the same trees, at the same costs. -/
namespace Rc
open PySem PySem.Spec PyProof.Rows L2
structure TEq (n root root' : Int) (ks : List Int) (rw rw' : Int → Row) : Prop where
  tree : ∀ js, TreeIn n root ks rw js ↔ TreeIn n root' ks rw' js
  cost : ∀ j ∈ ks, (rw' j).c = (rw j).c
namespace TEq
variable {n root root' : Int} {ks : List Int} {rw rw' : Int → Row}
theorem symm (E : TEq n root root' ks rw rw') : TEq n root' root ks rw' rw := ⟨fun js => (E.tree js).symm, fun j hj => (E.cost j hj).symm⟩
theorem costs (E : TEq n root root' ks rw rw') {js : List Int} (t : TreeIn n root ks rw js) : costOfK rw' js = costOfK rw js := by
  unfold costOfK
  rw [List.map_congr_left fun j hj => E.cost j (t.2.1 j hj)]
theorem least (E : TEq n root root' ks rw rw') {ns : List Int} (L : LeastT n root ks rw ns) : LeastT n root' ks rw' ns := ⟨(E.tree ns).mp L.tree, fun js t => by
  have t' := (E.tree js).mpr t
  rw [E.costs L.tree, E.costs t']
  exact L.le js t'⟩
theorem leastIs (E : TEq n root root' ks rw rw') {o : Option Int} (h : LeastIs n root ks rw o) : LeastIs n root' ks rw' o := by
  cases o with
  | none => exact fun js t => h js ((E.tree js).mpr t)
  | some c =>
    obtain ⟨ns, L, e⟩ := h
    exact ⟨ns, E.least L, by rw [E.costs L.tree]; exact e⟩
theorem bef (E : TEq n root root' ks rw rw') {a b : List Int} (ta : TreeIn n root ks rw a) (tb : TreeIn n root ks rw b) : Bef rw' a b ↔ Bef rw a b := bef_same (by rw [E.costs ta, E.costs tb]) (by rw [E.costs ta, E.costs tb])
theorem best (E : TEq n root root' ks rw rw') {m : Nat} {L : List (List Int)} (B : BestIs n root ks rw m L) : BestIs n root' ks rw' m L := by
  refine ⟨fun js h => ⟨(E.tree js).mp (B.tree js h).1, (B.tree js h).2⟩, ?_, fun js t u => ?_, B.len⟩
  · exact B.ord.imp_of_mem fun {a b} ha hb h => (E.bef (B.tree a ha).1 (B.tree b hb).1).mpr h
  · have t' := (E.tree js).mpr t
    rcases B.rest js t' u with h | ⟨h1, h2⟩
    · exact .inl h
    · exact .inr ⟨h1, fun x hx => (E.bef (B.tree x hx).1 t').mpr (h2 x hx)⟩
theorem cnt (E : TEq n root root' ks rw rw') {k : Nat} (C : Cnt n root ks rw k) : Cnt n root' ks rw' k := by
  obtain ⟨L, nd, h, e⟩ := C
  exact ⟨L, nd, fun js => by rw [h, E.tree], e⟩
theorem margin (E : TEq n root root' ks rw rw') {j : Int} {ns : List Int} {far : Option Int} (tn : TreeIn n root ks rw ns) (M : MarginIs n root ks rw j ns far) : MarginIs n root' ks rw' j ns far := by
  cases far with
  | none => exact fun js t => M js ((E.tree js).mpr t)
  | some f =>
    obtain ⟨⟨js, t, h, e⟩, h2⟩ := M
    refine ⟨⟨js, (E.tree js).mp t, h, by rw [E.costs t, E.costs tn]; exact e⟩, fun is ti hi => ?_⟩
    have ti' := (E.tree is).mpr ti
    rw [E.costs ti', E.costs tn]
    exact h2 is ti' hi
theorem cheap (E : TEq n root root' ks rw rw') {ns ns' : List Int} {ps ps' : List Pr} (C : CheapK n root ks rw ns ps) (C' : CheapK n root' ks rw' ns' ps') : ns = ns' := by
  have := best_uniq (E.best (cheap_best1 C)) (cheap_best1 C')
  exact (List.cons.inj this).1
end TEq
theorem margin_uniqZ {n root : Int} {ks : List Int} {rw : Int → Row} {j : Int} {ns : List Int} {f g : Option Int} (a : MarginIs n root ks rw j ns f) (b : MarginIs n root ks rw j ns g) : f = g := by
  cases f with
  | none =>
    cases g with
    | none => rfl
    | some y =>
      obtain ⟨⟨js, t, h, _⟩, _⟩ := b
      exact absurd (a js t) h
  | some x =>
    obtain ⟨⟨js, t, h, e⟩, h2⟩ := a
    cases g with
    | none => exact absurd (b js t) h
    | some y =>
      obtain ⟨⟨is, ti, hi, ei⟩, h4⟩ := b
      have := h2 is ti hi
      have := h4 js t h
      rw [show x = y by omega]
end Rc
/-! part RcZ8 -/
/-! The kinds of roads; places called otherwise. -/
namespace Rc
open PySem PySem.Spec PyProof.Rows L2
section
variable {n root root' : Int} {ks : List Int} {rw rw' : Int → Row} {j : Int}
theorem leastWith_uniq {a b : Option Int} (h : LeastWith n root ks rw j a) (g : LeastWith n root ks rw j b) : a = b := by
  cases a with
  | none =>
    cases b with
    | none => rfl
    | some y =>
      obtain ⟨⟨js, t, hj, _⟩, _⟩ := g
      exact absurd hj (h js t)
  | some x =>
    obtain ⟨⟨js, t, hj, e⟩, h2⟩ := h
    cases b with
    | none => exact absurd hj (g js t)
    | some y =>
      obtain ⟨⟨is, ti, hi, ei⟩, h4⟩ := g
      have := h2 is ti hi
      have := h4 js t hj
      rw [show x = y by omega]
theorem leastOut_uniq {a b : Option Int} (h : LeastOut n root ks rw j a) (g : LeastOut n root ks rw j b) : a = b := by
  cases a with
  | none =>
    cases b with
    | none => rfl
    | some y =>
      obtain ⟨⟨js, t, hj, _⟩, _⟩ := g
      exact absurd (h js t) hj
  | some x =>
    obtain ⟨⟨js, t, hj, e⟩, h2⟩ := h
    cases b with
    | none => exact absurd (g js t) hj
    | some y =>
      obtain ⟨⟨is, ti, hi, ei⟩, h4⟩ := g
      have := h2 is ti hi
      have := h4 js t hj
      rw [show x = y by omega]
theorem TEq.leastWith (E : TEq n root root' ks rw rw') {o : Option Int} (h : LeastWith n root ks rw j o) : LeastWith n root' ks rw' j o := by
  cases o with
  | none => exact fun js t => h js ((E.tree js).mpr t)
  | some c =>
    obtain ⟨⟨js, t, hj, e⟩, h2⟩ := h
    refine ⟨⟨js, (E.tree js).mp t, hj, by rw [E.costs t]; exact e⟩, fun is ti hi => ?_⟩
    have ti' := (E.tree is).mpr ti
    rw [E.costs ti']
    exact h2 is ti' hi
theorem TEq.leastOut (E : TEq n root root' ks rw rw') {o : Option Int} (h : LeastOut n root ks rw j o) : LeastOut n root' ks rw' j o := by
  cases o with
  | none => exact fun js t => h js ((E.tree js).mpr t)
  | some c =>
    obtain ⟨⟨js, t, hj, e⟩, h2⟩ := h
    refine ⟨⟨js, (E.tree js).mp t, hj, by rw [E.costs t]; exact e⟩, fun is ti hi => ?_⟩
    have ti' := (E.tree is).mpr ti
    rw [E.costs ti']
    exact h2 is ti' hi
end
theorem kind_uniq {n root : Int} {rows : List Row} {j : Int} {c c' : Nat} (h : Kind n root rows j c) (g : Kind n root rows j c') : c = c' := by
  obtain ⟨a, b, ha, hb, l, ⟨ns, L, e⟩, hc⟩ := h
  obtain ⟨a', b', ha', hb', l', ⟨ns', L', e'⟩, hc'⟩ := g
  have h1 := leastWith_uniq ha ha'
  have h2 := leastOut_uniq hb hb'
  have h3 : l = l' := by
    have := L.le ns' L'.tree
    have := L'.le ns L.tree
    omega
  rw [hc, hc', h1, h2, h3]
theorem kind_move {n root root' : Int} {rows rows' : List Row} {j : Int} {c : Nat} (hl : rows'.length = rows.length) (E : TEq n root root' (idx rows.length) (rowAt rows) (rowAt rows')) (h : Kind n root rows j c) : Kind n root' rows' j c := by
  obtain ⟨a, b, ha, hb, l, ⟨ns, L, e⟩, hc⟩ := h
  unfold Kind
  rw [hl]
  exact ⟨a, b, E.leastWith ha, E.leastOut hb, l, ⟨ns, E.least L, by rw [E.costs L.tree]; exact e⟩, hc⟩
/-! ### places called otherwise -/
structure Ren (n : Int) (names : List Int) : Prop where
  len : (names.length : Int) = n
  nd : names.Nodup
  mem : ∀ v ∈ names, 0 ≤ v ∧ v < n
def nameOf (names : List Int) (v : Int) : Int := names.getD v.toNat 0
noncomputable def placeOf (names : List Int) (u : Int) : Int := pkOf names u
def renR (names : List Int) (r : Row) : Row := ⟨nameOf names r.b, nameOf names r.g, r.c⟩
section
variable {n : Int} {names : List Int}
theorem idx_nodupZ4 (n : Nat) : (idx n).Nodup := by
  unfold idx List.Nodup
  rw [List.pairwise_map]
  exact (List.nodup_range (n := n)).imp fun h e => h (by omega)
theorem Ren.get (R : Ren n names) {v : Int} (v0 : 0 ≤ v) (v1 : v < n) : names[v.toNat]? = some (nameOf names v) := by
  have := R.len
  exact pkAt_get (ks := names) (mem_idx.mpr ⟨v0, by omega⟩)
theorem Ren.rng (R : Ren n names) {v : Int} (v0 : 0 ≤ v) (v1 : v < n) : 0 ≤ nameOf names v ∧ nameOf names v < n := R.mem _ (List.mem_of_getElem? (R.get v0 v1))
theorem Ren.all (R : Ren n names) {u : Int} (u0 : 0 ≤ u) (u1 : u < n) : u ∈ names := by
  have hl := R.len
  have h : (idx names.length).Perm names := by
    refine (perm_of_sub R.nd (fun v hv => ?_) ?_)
    · obtain ⟨a, b⟩ := R.mem v hv
      exact mem_idx.mpr ⟨a, by omega⟩
    · unfold idx
      rw [List.length_map, List.length_range]
  exact h.mem_iff.mp (mem_idx.mpr ⟨u0, by omega⟩)
theorem Ren.back (R : Ren n names) {u : Int} (u0 : 0 ≤ u) (u1 : u < n) : 0 ≤ placeOf names u ∧ placeOf names u < n ∧ nameOf names (placeOf names u) = u := by
  have hl := R.len
  obtain ⟨h1, h2⟩ := pkOf_spec (R.all u0 u1)
  obtain ⟨a, b⟩ := mem_idx.mp h1
  exact ⟨a, by unfold placeOf; omega, h2⟩
theorem Ren.there (R : Ren n names) {v : Int} (v0 : 0 ≤ v) (v1 : v < n) : placeOf names (nameOf names v) = v := by
  have hl := R.len
  exact pkOf_at R.nd (mem_idx.mpr ⟨v0, by omega⟩)
theorem Ren.inj (R : Ren n names) {u v : Int} (u0 : 0 ≤ u) (u1 : u < n) (v0 : 0 ≤ v) (v1 : v < n) (e : nameOf names u = nameOf names v) : u = v := by
  rw [← R.there u0 u1, ← R.there v0 v1, e]
theorem ren_chart {root : Int} {rows : List Row} (R : Ren n names) (ok : ChartOk n root rows) : ChartOk n (nameOf names root) (rows.map (renR names)) := by
  obtain ⟨m0, m1, r0, r1, hl, hrows⟩ := ok
  obtain ⟨a, b⟩ := R.rng r0 r1
  refine ⟨m0, m1, a, b, by rw [List.length_map]; exact hl, fun r hr => ?_⟩
  obtain ⟨r', hr', rfl⟩ := List.mem_map.mp hr
  obtain ⟨h1, h2, h3, h4, h5, h6, h7⟩ := hrows r' hr'
  exact ⟨(R.rng h1 h2).1, (R.rng h1 h2).2, (R.rng h3 h4).1, (R.rng h3 h4).2, fun z => h5 (R.inj h1 h2 h3 h4 z), h6, h7⟩
theorem ren_reach {root : Int} {rows : List Row} (R : Ren n names) (h : ∀ v, 0 ≤ v → v < n → Reach rows root v) : ∀ v, 0 ≤ v → v < n → Reach (rows.map (renR names)) (nameOf names root) v := fun v v0 v1 => by
  have key : ∀ u, Reach rows root u → Reach (rows.map (renR names)) (nameOf names root) (nameOf names u) := fun u x => by
    induction x with
    | root => exact .root
    | @step r hr _ ih => exact .step (r := renR names r) (List.mem_map_of_mem hr) ih
  obtain ⟨a, b, c⟩ := R.back v0 v1
  rw [← c]
  exact key _ (h _ a b)
theorem ren_teq {root : Int} {rows : List Row} (R : Ren n names) (ok : ∀ r ∈ rows, Row.Ok n r) (r0 : 0 ≤ root) (r1 : root < n) : TEq n root (nameOf names root) (idx rows.length) (rowAt rows) (rowAt (rows.map (renR names))) := by
  have hm : ∀ j ∈ idx rows.length, rowAt rows j ∈ rows := fun j hj => by
    obtain ⟨j0, j1⟩ := mem_idx.mp hj
    rw [rowAt_get j0 j1]
    exact List.getElem_mem _
  refine ⟨fun js => ⟨fun t => ?_, fun t => ?_⟩, fun j hj => by rw [rowAt_map hj]; rfl⟩
  · have := tree_rename (π := nameOf names) (ρ := placeOf names) (σ := id) (ks' := idx rows.length) (rw' := rowAt (rows.map (renR names))) (fun j hj => hj) (fun j hj => by
      simp only [id]
      rw [rowAt_map hj]
      exact ⟨rfl, rfl⟩) (fun v v0 v1 => R.back v0 v1) t
    rw [List.map_id] at this
    exact this
  · have := tree_rename (π := placeOf names) (ρ := nameOf names) (σ := id) (ks' := idx rows.length) (rw' := rowAt rows) (fun j hj => hj) (fun j hj => by
      simp only [id]
      rw [rowAt_map hj]
      have rk := ok _ (hm j hj)
      exact ⟨(R.there rk.b0 rk.b1).symm, (R.there rk.g0 rk.g1).symm⟩) (fun v v0 v1 => ⟨(R.rng v0 v1).1, (R.rng v0 v1).2, R.there v0 v1⟩) t
    rw [List.map_id, R.there r0 r1] at this
    exact this
end
end Rc
/-! part RcOr -/
/-! _law_order: numbers in a drawn order. -/
namespace Rc
open PySem PySem.Spec PyProof.Rows L2
def spOrder (K : PySem.W.Frag) : Sp := fun vs H Q _ => ∃ (Hb : Hp) (d : Addr) (n : Int), vs = [.ref d, .int n] ∧ Dice K H Hb d ∧ 0 ≤ n ∧ n ≤ 60 ∧
  ∀ H' Hb' l names, Sub (at1 d) H Hb H' Hb' → Dice K H' Hb' d → Hb' l = some (.lst (names.map V.int)) → Ren n names → Q (.ref l) H'
section
variable {P : Program} {w : World} {K : PySem.W.Frag} {mg : Str → Option Value} {base : Heap}
end
end Rc
/-! part RcMg -/
/-! _law_margins: the margins of some roads. -/
namespace Rc
open PySem PySem.Spec PyProof.Rows L2
def optDM : Option Int → PyData
  | none => .none
  | some x => .int x
def margD (b : Bool) (o : Option Int) : PyData := .tuple [.str (if b = true then "in" else "out"), optDM o]
theorem dp_marg {K : PySem.W.Frag} {H : Hp} {t : Addr} {b : Bool} {o : Option Int} (h : H t = some (.tup [inOut b, optV o])) : Dp K H (.ref t) (margD b o) := by
  refine .tup (.of h) (.cons ?_ (.cons ?_ .nil))
  · unfold inOut
    cases b
    · exact .str _
    · exact .str _
  · cases o
    · exact .non
    · exact .int _
theorem NewTo.pushM {K : PySem.W.Frag} {M : Addr → Prop} {H2 H3 G : Hp} {D p : Addr} {ds : List PyData} {j : Nat} {acc : List V} {B : Hp} {d : PyData} {o : HO} (S : NewTo K H2 H3 D ds j acc B) (hr : ds[j]? = some d) (old : ∀ b o, ¬ M b → H3 b = some o → G b = some o) (hM : ∀ b, M b → B b = none) (nD : ¬ M D)
    (hp : H3 p = none) (hG : G p = some o) (few : ds.length ≤ 1000) (hd : ∀ G, Same B G → G p = some o → Dp K G (.ref p) d) :
    G D = some (.lst acc) ∧ acc.length < sizeLine ∧ NewTo K H2 (upd G D (.lst (acc ++ [.ref p]))) D ds (j + 1) (acc ++ [.ref p]) (upd B p o) := by
  have nDp : D ≠ p := ne_of_none S.lst hp
  have hBp : B p = none := S.sub.free hp
  have hjl : j < ds.length := (List.getElem?_eq_some_iff.mp hr).1
  have through : Same B G := fun b o' hb => old b o' (fun z => by rw [hM b z] at hb; cases hb) (S.sub _ _ hb)
  have sBG : Same (upd B p o) G := fun b o' hb => by
    by_cases z : b = p
    · rw [z, upd_same] at hb
      cases hb
      rw [z]
      exact hG
    · rw [upd_ne z] at hb
      exact through _ _ hb
  refine ⟨old _ _ nD S.lst, by rw [S.len]; exact small_lt (by omega), ?_, upd_same, by rw [List.length_append, S.len]; rfl, S.base.trans (same_new hBp), ?_, ?_, ?_⟩
  · exact same_mut (S.base.trans through) (S.base.free S.no)
  · exact same_mut sBG (by rw [upd_ne nDp]; exact S.no)
  · rw [upd_ne nDp]
    exact S.no
  · rw [take_succ hr]
    exact dpAll_app (dpAll_same (same_new hBp) _ _ S.all) (.cons (hd _ (same_new hBp) upd_same) .nil)
def spMargins (K : PySem.W.Frag) (C TL TR : Addr) : Sp := fun vs H Q _ => ∃ (p : Addr) (n root : Int) (rows : List Row) (v : V) (js : List Int), vs = [.ref p, v] ∧ MapAt K C H p n root rows ∧ ChartOk n root rows ∧ (∀ v, 0 ≤ v → v < n → Reach rows root v) ∧ Dp K H v (intsD js) ∧ (∀ j ∈ js, j ∈ idx rows.length) ∧ js.length ≤ 1000 ∧ LamX.TabS H TL lamQ ∧ GxR.TabG H TR ∧ TL ≠ TR ∧
  ∀ l H' (ns : List Int) (far : Int → Option Int), Tb TL TR H H' → H l = none → Dp K H' (.ref l) (.list (js.map fun j => margD (decide (j ∈ ns)) (far j))) → (js ≠ [] → ∃ prs, Cheap n root rows ns prs) → (∀ j ∈ js, MarginIs n root (idx rows.length) (rowAt rows) j ns (far j)) → Q (.ref l) H'
section
variable {P : Program} {w : World} {K : PySem.W.Frag} {mg : Str → Option Value} {base : Heap}
end
end Rc
/-! part RcJ06 -/
/-! The law's own def: order on great maps. -/
namespace Rc
open PySem PySem.Spec PyProof.Rows L2 L2H HotX
theorem next_go {D : Ends} {σ : L2.St} {H : Hp} (h : D.nx σ H) : tNext D σ H := h
/-- the tables of cheapest and of is_tree -/
structure TabsI (TL TR TI : Addr) (H : Hp) : Prop where
  tl : LamX.TabS H TL lamQ
  tr : GxR.TabG H TR
  ti : GxR.TabG H TI
namespace TabsI
variable {TL TR TI : Addr} {H H' : Hp}
theorem mids (L : TabsI TL TR TI H) : ∀ b, m3 TL TR TI b → GxR.TabG H b := fun b hb => by
  rcases hb with z | z | z
  · rw [z]; exact tabG_of L.tl
  · rw [z]; exact L.tr
  · rw [z]; exact L.ti
theorem code_no (L : TabsI TL TR TI H) {c : Addr} {q : Str} (h : H c = some (LamX.CodeO c q)) : ¬ m3 TL TR TI c := fun z => by
  obtain ⟨ps, e, _⟩ := L.mids c z
  rw [h] at e
  exact LamX.codeO_ne _ (Option.some.inj e)
theorem same (L : TabsI TL TR TI H) (e : Same H H') : TabsI TL TR TI H' := ⟨L.tl.ext e, by obtain ⟨ps, h, t⟩ := L.tr; exact ⟨ps, e _ _ h, t⟩, by obtain ⟨ps, h, t⟩ := L.ti; exact ⟨ps, e _ _ h, t⟩⟩
theorem tb (L : TabsI TL TR TI H) (n1 : TI ≠ TL) (n2 : TI ≠ TR) (T : Tb TL TR H H') : TabsI TL TR TI H' := ⟨T.tl, T.tr, by obtain ⟨ps, h, t⟩ := L.ti; exact ⟨ps, T.old _ _ n1 n2 h, t⟩⟩
theorem tabd (L : TabsI TL TR TI H) (n1 : TI ≠ TL) (n2 : TI ≠ TR) (T : Tabd (at1 TI) H H') : TabsI TL TR TI H' := by
  refine ⟨tabS_keep2 L.tl (fun o h => T.old _ _ (fun z => n1 (Eq.symm z)) h) fun c q h => T.old _ _ (fun z => L.code_no h (.inr (.inr z))) h, ?_, T.tab TI rfl⟩
  obtain ⟨ps, h, t⟩ := L.tr
  exact ⟨ps, T.old _ _ (fun z => n2 (Eq.symm z)) h, t⟩
theorem fresh (L : TabsI TL TR TI H) {p : Addr} (h : H p = none) : ¬ m3 TL TR TI p := fun z => by
  obtain ⟨ps, e, _⟩ := L.mids p z
  rw [h] at e
  cases e
theorem lst (L : TabsI TL TR TI H) {p : Addr} {xs : List V} (h : H p = some (.lst xs)) : ¬ m3 TL TR TI p := fun z => by
  obtain ⟨ps, e, _⟩ := L.mids p z
  rw [h] at e
  cases e
theorem put (L : TabsI TL TR TI H) {p : Addr} {xs : List V} {o : HO} (h : H p = some (.lst xs)) : TabsI TL TR TI (upd H p o) := by
  have ne : ∀ {b : Addr}, m3 TL TR TI b → b ≠ p := fun hb z => L.lst h (z ▸ hb)
  refine ⟨St5.tab_put L.tl h, ?_, ?_⟩
  · obtain ⟨ps, e, t⟩ := L.tr
    exact ⟨ps, by rw [upd_ne (ne (.inr (.inl rfl)))]; exact e, t⟩
  · obtain ⟨ps, e, t⟩ := L.ti
    exact ⟨ps, by rw [upd_ne (ne (.inr (.inr rfl)))]; exact e, t⟩
end TabsI
/-- the tables, and the list of the keys -/
def mY (TL TR TI p : Addr) : Addr → Prop := fun b => m3 TL TR TI b ∨ b = p
theorem core_tb {TL TR TI p : Addr} {H H' : Hp} (T : Tb TL TR H H') : Same (sans (mY TL TR TI p) H) (sans (mY TL TR TI p) H') := part_same fun b o n h => T.old b o (fun z => n (.inl (.inl z))) (fun z => n (.inl (.inr (.inl z)))) h
theorem core_ti {TL TR TI p : Addr} {H H' : Hp} (T : Tabd (at1 TI) H H') : Same (sans (mY TL TR TI p) H) (sans (mY TL TR TI p) H') := part_same fun b o n h => T.old b o (fun z => n (.inl (.inr (.inr z)))) h
theorem core_same {M : Addr → Prop} {H H' : Hp} (e : Same H H') : Same (sans M H) (sans M H') := part_same fun b o _ h => e b o h
theorem alike_treeK (rw : Int → Row) (a b : List Int) : PySem.W.alike (treeK rw a) (treeK rw b) = true := by
  unfold treeK
  have h := alike_intsD a b
  simp [PySem.W.alike, PySem.W.alikeAll, h]
theorem num_treeK (rw : Int → Row) (a : List Int) : Num 2 (treeK rw a) := fun d hd => by
  have : d = .int (costOfK rw a) ∨ d = intsD a := by simpa [treeK] using hd
  rcases this with rfl | rfl
  · trivial
  · exact num_ints a
theorem treeK_inj {rw : Int → Row} {a b : List Int} (h : treeK rw a = treeK rw b) : a = b := by
  unfold treeK at h
  injection h with h
  have h2 := (List.cons.inj (List.cons.inj h).2).1
  unfold intsD at h2
  injection h2 with h2
  exact (List.map_inj_right fun _ _ e => PyData.int.inj e).mp h2
theorem pget {K : PySem.W.Frag} {G : Hp} {us : List V} {L : List (List Int)} {rw : Int → Row} {i : Nat} {y : V} (h : DpAll K G us (L.map (pairD rw))) (hi : us[i]? = some y) : ∃ js tt lj, L[i]? = some js ∧ y = .ref tt ∧ SqT K G tt [.ref lj, .int (costOfK rw js)] ∧ SqL K G lj (js.map V.int) := by
  obtain ⟨dd, hdd, hy⟩ := dpAll_get' h hi
  rw [List.getElem?_map] at hdd
  obtain ⟨js, hjs, rfl⟩ := Option.map_eq_some_iff.mp hdd
  obtain ⟨tt, lj, rfl, hTT, hl⟩ := pair_inv hy
  obtain ⟨_, zs, ez, hz, hza⟩ := dp_list_inv hl
  cases ez
  rw [dpAll_ints_inv hza] at hz
  exact ⟨js, tt, lj, hjs, rfl, hTT, hz⟩
theorem cnt_zero {n root : Int} {ks : List Int} {rw : Int → Row} {k : Nat} (C : Cnt n root ks rw k) (no : ∀ js, ¬ TreeIn n root ks rw js) : k = 0 := by
  obtain ⟨E, nd, hE, rfl⟩ := C
  cases E with
  | nil => rfl
  | cons a r => exact absurd ((hE a).mp List.mem_cons_self).2 (no a)
def spLaw (K : PySem.W.Frag) (TL TR TI : Addr) : Sp := fun vs H Q _ => ∃ (a : Addr) (ns : List Int), vs = [.ref a] ∧ SqL K H a (ns.map V.int) ∧ LamX.TabS H TL lamQ ∧ GxR.TabG H TR ∧ GxR.TabG H TI ∧ ∀ H', Q (.bl true) H'
section
variable {P : Program} {w : World} {K : PySem.W.Frag} {mg : Str → Option Value} {base : Heap}
theorem ok_law {f C B R TL TR TI : Addr} {fd : FuncData} {k : Nat} (F : Fun K "law" "law" s_law f fd) (T : TxtM K mg C) (TF : TxtF K mg B) (so : mg "sorted" = none) (mi : mg "min" = none) (n12 : TL ≠ TR) (n31 : TI ≠ TL) (n32 : TI ≠ TR)
    (hDi : Has P w K mg base "_law_dice" ["_law_script"] (k + 1) (spDice K)) (hN : Has P w K mg base "_law_next" ["_law_dice_here", "_law_many"] (k + 1) (spNext K)) (hWi : Has P w K mg base "_law_wide" ["_law_d"] (k + 1) (spWide K)) (hWh : Has P w K mg base "_law_whole" ["_law_found"] (k + 1) spWholeP)
    (hH : Has P w K mg base "how_many" ["chart"] (k + 1) (spHowMany K C)) (hHh : HasG P w K mg base "how_many" ["chart"] (k + 1) (fun _ => True) (fun _ => spHowMany K C)) (hBs : HasN P w K mg base "best" ["chart", "many"] (k + 1) (spBest K C B TL TR)) (hCh : HasN P w K mg base "cheapest" ["chart"] (k + 1) (spCheap K C B TL TR))
    (hMa : HasN P w K mg base "margin" ["chart", "road"] (k + 1) (spMargin K C B R TL TR)) (hIt : Has P w K mg base "is_tree" ["chart", "roads"] (k + 1) (spIsTree K C TI)) (hCo : Has P w K mg base "cost_of" ["chart", "roads"] (k + 1) (spCostOf K C)) (hC : HasC P w K mg base C ["self", "many", "root", "roads"] k (spInit K C)) :
    FnOk P w K mg base CX0 (k + 2) f fd ["_law_script"] (spLaw K TL TR TI) := by
  obtain ⟨fDi, fdDi, gDi, kDi, bDi, GDi⟩ := hDi
  obtain ⟨fN, fdN, gN, kN, bN, GN⟩ := hN
  obtain ⟨fWi, fdWi, gWi, kWi, bWi, GWi⟩ := hWi
  obtain ⟨fWh, fdWh, gWh, kWh, bWh, GWh⟩ := hWh
  obtain ⟨fH, fdH, gH, kH, bH, GH⟩ := hH
  obtain ⟨fHh, fdHh, gHh, kHh, bHh, GHh⟩ := hHh
  obtain ⟨fBs, fdBs, gBs, kBs, bBs, GBs0⟩ := hBs
  obtain ⟨fCh, fdCh, gCh, kCh, bCh, GCh0⟩ := hCh
  obtain ⟨fMa, fdMa, gMa, kMa, bMa, GMa0⟩ := hMa
  obtain ⟨fIt, fdIt, gIt, kIt, bIt, GIt⟩ := hIt
  obtain ⟨fCo, fdCo, gCo, kCo, bCo, GCo⟩ := hCo
  obtain ⟨fC, fdC, mC, bC, GC⟩ := hC
  have GCh := fn_cx GCh0
  have GMa := fn_cx GMa0
  refine F.ok sc_law (fun vs H Q E h => ?_) (fun cdv A outer s H vs Q E hr h => ?_)
  · obtain ⟨a, ns, rfl, _⟩ := h
    rfl
  · obtain ⟨a, ns, rfl, hSc, htl, htr, hti, q⟩ := h
    refine ⟨_, (pss_cons (ps_set (i := 1) sc_law.nd rfl (Or.inl rfl) (pe_call GDi hr (by rfl) gDi kDi bDi .nil pass0 (pa_cons (pv 0) pa_nil)))
  (pss_cons (ps_asg (pe_call GWi hr (by rfl) gWi kWi bWi .nil pass0 (pa_cons (pv 1) pa_nil)) (pg_tup (by rfl) (pgs_cons (pg_name (i := 2) sc_law.nd rfl (Or.inl rfl)) (pgs_cons (pg_name (i := 3) sc_law.nd rfl (Or.inl rfl)) (pgs_cons (pg_name (i := 4) sc_law.nd rfl (Or.inl rfl)) pgs_nil)))))
  (pss_cons (ps_set (i := 5) sc_law.nd rfl (Or.inr rfl) (pe_make mC GC hr (by rfl) T.mgC bC .nil pass0 (pa_cons (pv 2) (pa_cons (pv 3) (pa_cons (pv 4) pa_nil)))))
  (pss_cons (ps_set (i := 6) sc_law.nd rfl (Or.inl rfl) (pe_op op_add pe_int (pe_call GN hr (by rfl) gN kN bN .nil pass0 (pa_cons (pv 1) (pa_cons pe_int pa_nil)))))
  (pss_cons (ps_try_onlyX rfl rfl ⟨by rfl, by decide, .inl TF.mgB⟩ (fun _ => PassesOwnAt.never) takes0J
     (fun W pn xe tk _ hp => pss_one (ps_set (i := 7) sc_law.nd rfl (Or.inl rfl) (pe_callS GBs0 hr (by rfl) gBs kBs bBs (fun σ => L2N.passAt tk σ) (pa_cons (pv 5) (pa_cons (pv 6) pa_nil)))))
     (fun a oe cls d pn hz hf _ hc => pss_one (ps_ret (pe_cmpR op_eq (pe_callH (E := fun _ => E0) (fnH_of GHh) ⟨hr.dp, hr.un⟩ hc (by rfl) gHh kHh bHh (fun σ _ _ _ _ _ _ h => h.elim) (pa_cons (pv 5) pa_nil)) pe_int (nomark _)))))
  (pss_cons (ps_if (PW.pt (pw_or (pt_not (pt_val (pe_callB call_isi (by rfl) T.isi (by decide +kernel) (pa_cons (pv 7) (pa_cons (pe_bltn (v := .ty "list") (by rfl) T.list (by decide +kernel) rfl) pa_nil))))) (pw_or1 (pt_cmpR op_ne (pe_callB call_len_seq (by rfl) T.len PySem.boot_len (pa_cons (pv 7) pa_nil)) (pe_callB (call_min2 rfl) (by rfl) mi (by decide +kernel) (pa_cons (pv 6) (pa_cons (pe_call GH hr (by rfl) gH kH bH .nil pass0 (pa_cons (pv 5) pa_nil)) pa_nil))) (nomark _)))))
   (pss_one (ps_ret pe_bl))
   pss_nil)
  (pss_cons (ps_set (i := 8) sc_law.nd rfl (Or.inr rfl) (pe_lst pa_nil))
  (pss_cons (ps_for PassesOwn.never rfl (pi_list (pv 7)) (pg_name (i := 9) sc_law.nd rfl (Or.inl rfl))
   (pss_cons (ps_if (PW.pt (pw_or (pt_not (pt_val (pe_callB call_isi (by rfl) T.isi (by decide +kernel) (pa_cons (pv 9) (pa_cons (pe_bltn (v := .ty "tuple") (by rfl) T.tuple (by decide +kernel) rfl) pa_nil))))) (pw_or (pt_cmpR op_ne (pe_callB call_len_seq (by rfl) T.len PySem.boot_len (pa_cons (pv 9) pa_nil)) pe_int (nomark _)) (pw_or1 (pt_not (pt_val (pe_call GWh hr (by rfl) gWh kWh bWh .nil pass0 (pa_cons (pe_ix (r := rIxT K) ix_tup (pv 9) pe_int (fun _ _ => rfl)) pa_nil))))))))
   (pss_one (ps_ret pe_bl))
   pss_nil)
  (pss_cons (ps_if (PW.pt (pw_or (pt_not (pt_val (pe_call GIt hr (by rfl) gIt kIt bIt .nil pass0 (pa_cons (pv 5) (pa_cons (pe_ix (r := rIxT K) ix_tup (pv 9) pe_int (fun _ _ => rfl)) pa_nil))))) (pw_or (pt_cmpR (op_neD hr.units) (pe_ix (r := rIxT K) ix_tup (pv 9) pe_int (fun _ _ => rfl)) (pe_callB (r := rSortedI K) cr_sortedI (by rfl) so (by decide +kernel) (pa_cons (pe_ix (r := rIxT K) ix_tup (pv 9) pe_int (fun _ _ => rfl)) pa_nil)) (nomark _)) (pw_or1 (pt_cmpR op_ne (pe_ix (r := rIxT K) ix_tup (pv 9) pe_int (fun _ _ => rfl)) (pe_call GCo hr (by rfl) gCo kCo bCo .nil pass0 (pa_cons (pv 5) (pa_cons (pe_ix (r := rIxT K) ix_tup (pv 9) pe_int (fun _ _ => rfl)) pa_nil))) (nomark _))))))
   (pss_one (ps_ret pe_bl))
   pss_nil)
  (pss_one (ps_expr (pe_bm PySem.F.plainAttrs_list PySem.F.slot_list_append PySem.F.type_list_append mt_append (pv 8) (pa_cons (pe_tup (pa_cons (pe_ix (r := rIxT K) ix_tup (pv 9) pe_int (fun _ _ => rfl)) (pa_cons (pe_ix (r := rIxT K) ix_tup (pv 9) pe_int (fun _ _ => rfl)) pa_nil))) pa_nil)))))))
  (pss_cons (ps_if (PW.pt (pw_or (pt_cmpR (op_neD hr.units) (pv 8) (pe_callB (cr_sortD hr.units) (by rfl) so (by decide +kernel) (pa_cons (pv 8) pa_nil)) (nomark _)) (pw_or1 (pt_cmpR (op_neD hr.units) (pe_lc (own := [("_law_k", 12)]) (g := gName 12) (tt := tTest (tOp (rEqD K) (tOp (rIxL K) (tVar 8) (tVar 12)) (tOp (rIxL K) (tVar 8) (tOp (rI0 fun i j => .int (i - j)) (tVar 12) (tC (.int 1)))))) rfl sc_law.nd (pi_range2 (by rfl) T.range (pa_cons pe_int (pa_cons (pe_callB call_len_seq (by rfl) T.len PySem.boot_len (pa_cons (pv 8) pa_nil)) pa_nil))) (blkOk_by (N := N_law) (sc := defScope s_law) (by decide +kernel)) (fun _ _ _ _ _ => (pg_name (i := 12) sc_law.nd rfl (Or.inl rfl))) (fun _ _ _ _ _ => (pts_one (pt_cmpR (op_eqD hr.units) (pe_ix (r := rIxL K) ix_list (pv 8) (pv 12) (fun _ _ => rfl)) (pe_ix (r := rIxL K) ix_list (pv 8) (pe_op op_sub (pv 12) pe_int) (fun _ _ => rfl)) (nomark _)))) (fun _ _ _ _ _ => (pv 12))) (pe_lst pa_nil) (nomark _)))))
   (pss_one (ps_ret pe_bl))
   pss_nil)
  (pss_cons (ps_if (pt_cmpR (op_neD hr.units) (pe_ix (r := rIxL K) ix_list (pv 7) pe_int (fun _ _ => rfl)) (pe_slice (r := rSlT K) sl_tup (pe_call (CX := L2.CX P w) (E := E0) GCh hr (by rfl) gCh kCh bCh .nil (L2.passes_call takes0J (E := E0) fun _ _ _ _ h => h) (pa_cons (pv 5) pa_nil)) po_none (po_some pe_int)) (nomark _))
   (pss_one (ps_ret pe_bl))
   pss_nil)
  (pss_cons (ps_if (pt_cmpR op_lt (pe_callB call_len_seq (by rfl) T.len PySem.boot_len (pa_cons (pv 7) pa_nil)) pe_int (nomark _))
   (pss_one (ps_ret pe_bl))
   pss_nil)
  (pss_cons (ps_setLc (i := 10) (own := [("_law_road", 11)]) (g := gName 11) (tt := tYes) rfl sc_law.nd rfl rfl (sw_true rfl rfl rfl (by decide +kernel)) (pi_list (pe_ix (r := rIxT K) ix_tup (pe_ix (r := rIxL K) ix_list (pv 7) pe_int (fun _ _ => rfl)) pe_int (fun _ _ => rfl))) (blkOk_by (N := N_law) (sc := defScope s_law) (by decide +kernel)) (fun _ _ _ _ _ => (pg_name (i := 11) sc_law.nd rfl (Or.inl rfl))) (fun _ _ _ _ _ => pts_nil) (fun _ _ _ _ _ => (pe_ix (r := rIxT K) ix_tup (pe_call (CX := L2.CX P w) (E := E0) GMa hr (by rfl) gMa kMa bMa .nil (L2.passes_call takes0J (E := E0) fun _ _ _ _ h => h) (pa_cons (pv 5) (pa_cons (pv 11) pa_nil))) pe_int (fun _ _ => rfl))))
  (pss_one (ps_ret (pe_cmpR op_eq (pe_ix (r := rIxT K) ix_tup (pe_ix (r := rIxL K) ix_list (pv 7) pe_int (fun _ _ => rfl)) pe_int (fun _ _ => rfl)) (pe_op op_add (pe_ix (r := rIxT K) ix_tup (pe_ix (r := rIxL K) ix_list (pv 7) pe_int (fun _ _ => rfl)) pe_int (fun _ _ => rfl)) (pe_callB (cr_min rfl) (by rfl) mi (by decide +kernel) (pa_cons (pe_lc (own := [("_law_far", 13)]) (g := gName 13) (tt := tTest (tOp (fun x y H Q => y = V.non ∧ Q (V.bl !decide (x = V.non)) H) (tVar 13) (tC V.non))) rfl sc_law.nd (pi_list (pv 10)) (blkOk_by (N := N_law) (sc := defScope s_law) (by decide +kernel)) (fun _ _ _ _ _ => (pg_name (i := 13) sc_law.nd rfl (Or.inl rfl))) (fun _ _ _ _ _ => (pts_one (pt_cmpR op_notN (pv 13) pe_non (nomark _)))) (fun _ _ _ _ _ => (pv 13))) pa_nil))) (nomark _)))))))))))))))), ?_⟩
    refine ⟨_, rfl, a, ns, rfl, hSc, fun H1 d D1 => ?_⟩
    have L1 : LI K d TL TR TI H1 := li_start htl htr hti D1
    refine ⟨_, rfl, _, d, rfl, L1.dice, fun H2 Hb2 v n root rows S2 D2 hD2 ok => ?_⟩
    obtain ⟨L2', e12, eb2⟩ := L1.step S2 D2
    have hCh2 := dp_same eb2 _ _ hD2
    obtain ⟨m0, m1, r0, r1, hl60, hrows⟩ := id ok
    obtain ⟨t, lr, rfl, hT2, hR2⟩ := chart_inv hCh2
    refine ⟨t, _, rfl, sqT_same sans_same hT2, rfl, _, _, rfl, _, _, rfl, _, _, rfl, rfl, ?_⟩
    dsimp only
    refine at_ (σ' := [some (.ref a), some (.ref d), some (.int n), some (.int root), some (.ref lr), none, none, none, none, none, none, none, none, none]) rfl ?_
    refine ⟨_, rfl, _, rfl, _, rfl, fun x dx hx hdx ne => mk_mapS L2'.off (dp_same sans_same _ _ hR2) ok hx hdx ne fun H3 e23' hM3 => gname_go ?_⟩
    obtain ⟨L3, e23⟩ := L2'.same e23'
    dsimp only
    refine at_ (σ' := [some (.ref a), some (.ref d), some (.int n), some (.int root), some (.ref lr), some (.ref x), none, none, none, none, none, none, none, none]) rfl ?_
    refine ⟨_, rfl, _, d, 6, rfl, L3.dice, by decide, by decide, fun H4 j S4 D4 j0 j1 => ⟨_, _, rfl, rfl, ?_⟩⟩
    obtain ⟨L4, e34, _⟩ := L3.step S4 D4
    have hM4 : MapAt K C (sans (m3 TL TR TI) H4) x n root rows := (hM3.same e34).same fun b o h => by
      by_cases z : m4 d TL TR TI b
      · rw [sans_at z] at h
        cases h
      · rw [sans_no z] at h
        rw [sans_no fun y => z (.inr y)]
        exact h
    have TT : TabsI TL TR TI H4 := ⟨L4.tl, L4.tr, L4.tm⟩
    obtain ⟨m, hm⟩ : ∃ m : Nat, (1 : Int) + j = ((m + 1 : Nat) : Int) := ⟨j.toNat, by omega⟩
    have hm6 : m + 1 ≤ 6 := by omega
    clear L1 L2' L3 L4 e12 e23 e34 eb2 D1 D2 D4 S2 S4 hD2 hCh2 hT2 hR2 hM3 e23'
    refine gname_go ?_
    dsimp only
    refine at_ (σ' := [some (.ref a), some (.ref d), some (.int n), some (.int root), some (.ref lr), some (.ref x), some (.int ((m + 1 : Nat) : Int)), none, none, none, none, none, none, none]) (by rw [hm]; rfl) ?_
    have hMw := hM4.same sans_same
    have noT : ∀ {ns : List Int}, (∀ v, v ∈ ns ↔ 0 ≤ v ∧ v < n ∧ ¬ Reach rows root v) → ns ≠ [] → ∀ js, ¬ TreeIn n root (idx rows.length) (rowAt rows) js := fun {ns} hns hne js => by
      obtain ⟨v0, hv0⟩ := List.exists_mem_of_ne_nil _ hne
      obtain ⟨w0, w1, w2⟩ := (hns v0).mp hv0
      exact no_treeK w0 w1 (by rw [idx_rows]; exact w2)
    refine ⟨_, rfl, _, rfl, x, n, root, rows, m + 1, rfl, hMw, ok, TT.tl, TT.tr, n12, (fun L _ _ h => small_lt (by omega)), fun d2 l2 H5 ns5 tb5 hd2 hxd hl2 hns hup hne => ⟨true, TF.ex, fun _ a2 ha2 => ?_, fun z => Bool.noConfusion z⟩, fun lf H5 fs L ns5 prs5 tb5 hlf h5f hf5 B5 C5 => ?_⟩
    · refine ⟨_, rfl, x, n, root, rows, rfl, map_tb TT.tl TT.tr tb5 hMw, ok, fun cnt H6 s6 hcnt => ⟨rfl, ?_⟩⟩
      obtain rfl := cnt_zero hcnt (noT hns hne)
      exact Eq.mpr (congrArg (fun b => Q (.bl b) H6) (decide_eq_true rfl)) (q _)
    refine gname_go ?_
    dsimp only
    refine at_ (σ' := [some (.ref a), some (.ref d), some (.int n), some (.int root), some (.ref lr), some (.ref x), some (.int ((m + 1 : Nat) : Int)), some (.ref lf), none, none, none, none, none, none]) rfl ?_
    have T5 := TT.tb n31 n32 tb5
    have hM5 : MapAt K C (sans (m3 TL TR TI) H5) x n root rows := hM4.same (part_same fun b o n h => tb5.old b o (fun z => n (.inl z)) (fun z => n (.inr (.inl z))) h)
    have hfl : fs.length = L.length := by rw [dpAll_len hf5, List.length_map]
    refine ⟨_, rfl, _, _, _, _, true, rfl, .ty _, tyL (.of h5f), kit_ty (by decide +kernel), _, rfl, ite2 (fun z => Bool.noConfusion z) (fun _ => ?_)⟩
    refine ⟨_, rfl, lf, fs, rfl, .inl (.of h5f), _, rfl, _, rfl, x, n, root, rows, rfl, hM5.same sans_same, ok, fun cnt H6 s6 hcnt => ⟨_, _, rfl, rfl, _, rfl, ite2 (fun z => ?_) (fun _ => ?_)⟩⟩
    · have e : (fs.length : Int) = if (cnt : Int) < ((m + 1 : Nat) : Int) then (cnt : Int) else ((m + 1 : Nat) : Int) := by
        rw [hfl, best_cnt B5 hcnt]
        split <;> omega
      rw [e] at z
      simp at z
    refine next_go ?_
    have T6 := T5.same s6
    have hM6 := hM5.same (core_same (M := m3 TL TR TI) s6)
    have hE6 : Dp K (sans (m3 TL TR TI) H6) (.ref lf) (.list (L.map (pairD (rowAt rows)))) := dp_sans T6.mids _ _ (.lst (.of (s6 _ _ h5f)) (dpAll_same s6 _ _ hf5))
    refine ⟨Nat.zero_le _, fun p hp => gname_go ?_⟩
    dsimp only
    refine at_ (σ' := [some (.ref a), some (.ref d), some (.int n), some (.int root), some (.ref lr), some (.ref x), some (.int ((m + 1 : Nat) : Int)), some (.ref lf), some (.ref p), none, none, none, none, none]) rfl ?_
    obtain ⟨M, hMd⟩ : ∃ M : Addr → Prop, M = mY TL TR TI p := ⟨_, rfl⟩
    have s7 := same_new (o := HO.lst []) hp
    have h7p : (upd H6 p (.lst [])) p = some (.lst []) := upd_same
    generalize upd H6 p (.lst []) = H7 at s7 h7p ⊢
    have T7 := T6.same s7
    have c67 : Same (sans (m3 TL TR TI) H6) (sans M H7) := fun b o h => by
      by_cases z : m3 TL TR TI b
      · rw [sans_at z] at h
        cases h
      · rw [sans_no z] at h
        have nb : ¬ M b := fun y => by
          rw [hMd] at y
          rcases y with y | y
          · exact z y
          · rw [y, hp] at h
            cases h
        rw [sans_no nb]
        exact s7 _ _ h
    have hM7 := hM6.same c67
    obtain ⟨_, fs8, e8, hS8, hB8⟩ := dp_list_inv (dp_same c67 _ _ hE6)
    cases e8
    have hf8 : fs8.length = L.length := by rw [dpAll_len hB8, List.length_map]
    have hL6 : L.length ≤ 6 := by have := B5.len; omega
    have refl : ∀ {d : PyData}, SeqAt.shaped d = true → PyData.eqv d d = true := fun h => SeqAt.eqv_refl _ (SeqAt.canLay_of_shaped h)
    have shI : ∀ js : List Int, SeqAt.shaped (intsD js) = true := fun js => num_shaped (n := 1) (fun d hd => by
      obtain ⟨i, _, rfl⟩ := List.mem_map.mp hd
      trivial) (by decide)
    clear hM6 hM5 hf5 h5f hE6 T5 T6 TT hMw hM4
    refine ⟨_, rfl, lf, rfl, ⟨_, sans_same.seq hS8⟩, for_list (K := K) (a := lf) (xs := fs8) (fun i σ G => ∃ (v9 : Option V) (acc : List V), σ = [some (.ref a), some (.ref d), some (.int n), some (.int root), some (.ref lr), some (.ref x), some (.int ((m + 1 : Nat) : Int)), some (.ref lf), some (.ref p), v9, none, none, none, none] ∧ TabsI TL TR TI G ∧ Same (sans M H7) (sans M G) ∧ G p = some (.lst acc) ∧ acc.length = i ∧ DpAll K (sans M G) acc ((L.take i).map (treeK (rowAt rows))))
      ⟨none, [], rfl, T7, same_refl, h7p, rfl, .nil⟩ (fun i σ G _ z => by
        obtain ⟨_, _, _, _, e, _⟩ := z
        exact sans_same.seq (e.seq hS8)) ?_ ?_⟩
    · rintro i y σ G hi ⟨v9, acc, rfl, T, e, hGp, hal, hacc⟩
      obtain ⟨js, tt, lj, hjs, rfl, hTT, hlj⟩ := pget (dpAll_same e _ _ hB8) hi
      obtain ⟨tj, uj⟩ := B5.tree js (List.mem_of_getElem? hjs)
      have hjl : js.length ≤ 19 := by have := tj.1; omega
      have hTw := sqT_same sans_same hTT
      refine gname_go ?_
      dsimp only
      refine at_ (σ' := [some (.ref a), some (.ref d), some (.int n), some (.int root), some (.ref lr), some (.ref x), some (.int ((m + 1 : Nat) : Int)), some (.ref lf), some (.ref p), some (.ref tt), none, none, none, none]) rfl ?_
      refine ⟨_, rfl, _, _, _, _, true, rfl, .ty _, tyT hTw, kit_ty (by decide +kernel), _, rfl, ite2 (fun z => Bool.noConfusion z) (fun _ => ?_)⟩
      refine ⟨_, rfl, tt, _, rfl, .inr hTw, rfl, _, rfl, ite2 (fun z => absurd z (by simp)) (fun _ => ?_)⟩
      refine ⟨_, rfl, tt, _, 1, _, rfl, rfl, hTw, atI_nat (j := 1) rfl, _, rfl, _, rfl, ite2 (fun z => Bool.noConfusion z) (fun _ => ?_)⟩
      refine next_go ?_
      have hlG : Dp K (sans M G) (.ref lj) (.list (js.map .int)) := .lst hlj (dpAll_ints _)
      refine ⟨_, rfl, _, rfl, tt, _, 0, _, rfl, rfl, hTw, atI_nat (j := 0) rfl, x, n, root, rows, _, js, rfl, (hM7.same e).same sans_same, ok, dp_same sans_same _ _ hlG, by omega, T.ti, fun G2 b tb hb => ?_⟩
      have T2 := T.tabd n31 n32 tb
      have g2 : Same (sans M G) (sans M G2) := by rw [hMd]; exact core_ti tb
      have hb : b = true := hb.mpr (treeIn_all.mp tj)
      subst hb
      have hG2p : G2 p = some (.lst acc) := tb.old p _ (fun z => T.lst hGp (.inr (.inr z))) hGp
      have hlj2 := g2.seq hlj
      have hTT2 := sqT_same g2 hTT
      have hTw2 := sqT_same sans_same hTT2
      refine ⟨_, rfl, ite2 (fun z => Bool.noConfusion z) (fun _ => ?_)⟩
      -- the tree is sorted
      refine ⟨_, rfl, tt, _, 0, _, rfl, rfl, hTw2, atI_nat (j := 0) rfl, _, rfl, tt, _, 0, _, rfl, rfl, hTw2, atI_nat (j := 0) rfl, lj, js, rfl, sans_same.seq hlj2, fun js' pS hperm hup hpS => ?_⟩
      obtain rfl : js' = js := up_perm_eq hup uj hperm
      have s3 := same_new (o := HO.lst (js'.map V.int)) hpS
      have hp3 : (upd G2 pS (.lst (js'.map V.int))) pS = some (.lst (js'.map V.int)) := upd_same
      generalize upd G2 pS (.lst (js'.map V.int)) = G3 at s3 hp3 ⊢
      have T3 := T2.same s3
      have g3 := core_same (M := M) s3
      have hlj3 := g3.seq hlj2
      have hl3 : Dp K (sans M G3) (.ref lj) (.list (js'.map .int)) := .lst hlj3 (dpAll_ints _)
      refine ⟨intsD js', intsD js', dp_same sans_same _ _ hl3, .lst (.of hp3) (dpAll_ints _), shI _, shI _, _, rfl, ?_⟩
      rw [refl (shI js')]
      refine ite2 (fun z => Bool.noConfusion z) (fun _ => ?_)
      -- what it costs
      have hTT3 := sqT_same g3 hTT2
      have hTw3 := sqT_same sans_same hTT3
      have g03 := (e.trans g2).trans g3
      refine ⟨_, rfl, tt, _, 1, _, rfl, rfl, hTw3, atI_nat (j := 1) rfl, _, rfl, _, rfl, tt, _, 0, _, rfl, rfl, hTw3, atI_nat (j := 0) rfl, x, n, root, rows, _, js', rfl, (hM7.same g03).same sans_same, dp_same sans_same _ _ hl3, (fun i hi => by
        have := tj.2.1 i hi
        exact mem_idx.mp this), by omega, fun G4 e34 => ?_⟩
      have T4 := T3.same e34
      have g4 := core_same (M := M) e34
      have hTT4 := sqT_same g4 hTT3
      have hTw4 := sqT_same sans_same hTT4
      have hlj4 := g4.seq hlj3
      have hG4p := e34 _ _ (s3 _ _ hG2p)
      refine ⟨rfl, _, rfl, ite2 (fun z => ?_) (fun _ => ?_)⟩
      · rw [cost_rowAt] at z
        simp at z
      refine next_go ?_
      refine ⟨_, rfl, .inl ⟨rfl, _, .of hG4p⟩, _, rfl, tt, _, 1, _, rfl, rfl, hTw4, atI_nat (j := 1) rfl, _, rfl, tt, _, 0, _, rfl, rfl, hTw4, atI_nat (j := 0) rfl, (by show 2 ≤ sizeLine; decide), fun t8 ht8 => ?_⟩
      have s8 := same_new (o := HO.tup [V.int (costOfK (rowAt rows) js'), .ref lj]) ht8
      have h8t : (upd G4 t8 (.tup [V.int (costOfK (rowAt rows) js'), .ref lj])) t8 = some (.tup [V.int (costOfK (rowAt rows) js'), .ref lj]) := upd_same
      have T8 := T4.same s8
      have n8 : ¬ M t8 := fun z => by
        rw [hMd] at z
        rcases z with z | z
        · exact T4.fresh ht8 z
        · rw [z, hG4p] at ht8
          cases ht8
      generalize upd G4 t8 (.tup [V.int (costOfK (rowAt rows) js'), .ref lj]) = G5 at s8 h8t T8 ⊢
      have g5 := core_same (M := M) s8
      have hG5p := s8 _ _ hG4p
      refine ⟨_, _, _, rfl, rfl, hG5p, small_lt (by have := (List.getElem?_eq_some_iff.mp hi).1; omega), ?_⟩
      have g6 : Same (sans M G5) (sans M (upd G5 p (.lst (acc ++ [V.ref t8])))) := part_same fun b o nb hb => by
        rw [upd_ne fun z => nb (by rw [hMd]; exact .inr z)]
        exact hb
      refine ⟨_, _, rfl, T8.put hG5p, (g03.trans g4).trans (g5.trans g6), upd_same, by rw [List.length_append, hal]; rfl, ?_⟩
      rw [take_succ hjs, List.map_append]
      refine dpAll_app (dpAll_same ((g2.trans g3).trans (g4.trans (g5.trans g6))) _ _ hacc) (.cons (.tup (.of (g6 _ _ (by rw [sans_no n8]; exact h8t))) (.cons (.int _) (.cons (.lst (g6.seq (g5.seq hlj4)) (dpAll_ints _)) .nil))) .nil)
    rintro σ H9 ⟨v9, acc, rfl, T9, g9, h9p, hal, hacc⟩
    rw [hf8, List.take_length] at hacc
    rw [hf8] at hal
    refine next_go ?_
    have hM9 := hM7.same g9
    obtain ⟨_, fs9, e9, hS9, hB9⟩ := dp_list_inv (dp_same g9 _ _ (.lst hS8 hB8))
    cases e9
    have hf9 : fs9.length = L.length := by rw [dpAll_len hB9, List.length_map]
    clear hM7 hS8 hB8 hf8 g9 T7
    have len1 : ∀ a ∈ L, ∀ b ∈ L, a.length = b.length := fun a ha b hb => by
      have h1 := (B5.tree a ha).1.1
      have h2 := (B5.tree b hb).1.1
      omega
    have shK : SeqAt.shaped (.list (L.map (treeK (rowAt rows)))) = true := num_shaped (n := 3) (fun d hd => by
      obtain ⟨js, _, rfl⟩ := List.mem_map.mp hd
      exact num_treeK _ js) (by decide)
    -- the keys are sorted
    refine ⟨_, rfl, _, rfl, p, acc, L.map (treeK (rowAt rows)), rfl, .of h9p, dpAll_same sans_same _ _ hacc, PySem.W.AllAlike.of fun a b => alike_treeK _ a b, .inl fun dd hd => ?_, fun dd hd => ?_, fun ps ys es hps hperm hord hD => ?_⟩
    · obtain ⟨js, _, rfl⟩ := List.mem_map.mp hd
      exact ⟨_, _, rfl⟩
    · obtain ⟨js, _, rfl⟩ := List.mem_map.mp hd
      exact Nat.le_trans (num_ok 2 _ (num_treeK (rowAt rows) js)).2 (by decide)
    obtain rfl := sorted_best B5.ord len1 hperm hord
    have s10 := same_new (o := HO.lst ys) hps
    have h10s : (upd H9 ps (.lst ys)) ps = some (.lst ys) := upd_same
    have hA10 := hD _ (dpAll_same s10 _ _ (dpAll_same sans_same _ _ hacc))
    generalize upd H9 ps (.lst ys) = H10 at s10 h10s hA10 ⊢
    have T10 := T9.same s10
    have h10p := s10 _ _ h9p
    have hK10 := dpAll_same s10 _ _ (dpAll_same sans_same _ _ hacc)
    refine ⟨_, _, .lst (.of h10p) hK10, .lst (.of h10s) hA10, shK, shK, _, rfl, ?_⟩
    rw [refl shK]
    refine ite2 (fun z => Bool.noConfusion z) (fun _ => ?_)
    -- no tree is told twice
    refine ⟨_, rfl, p, acc, rfl, .inl (.of h10p), 1, (acc.length : Int), rfl, ⟨by decide, by decide, by omega, by omega⟩, fun D hD2 => lc_range (lo := 1) (n := ((acc.length : Int) - 1).toNat) (fun i G => Same H10 G ∧ G D = some (.lst [])) ⟨same_new hD2, upd_same⟩ ?_ ?_⟩
    · rintro i G hi ⟨eG, hGD⟩
      have i1 : 1 + i < L.length := by omega
      obtain ⟨y1, hy1, d1⟩ := dpAll_get (i := 1 + i) hK10 (by rw [List.getElem?_map, List.getElem?_eq_getElem i1]; rfl)
      obtain ⟨y0, hy0, d0⟩ := dpAll_get (i := i) hK10 (by rw [List.getElem?_map, List.getElem?_eq_getElem (show i < L.length by omega)]; rfl)
      have sh1 : ∀ js : List Int, SeqAt.shaped (treeK (rowAt rows) js) = true := fun js => num_shaped (n := 2) (num_treeK _ js) (by decide)
      have ne : PyData.eqv (treeK (rowAt rows) L[1 + i]) (treeK (rowAt rows) (L[i]'(by omega))) = false := by
        cases c : PyData.eqv (treeK (rowAt rows) L[1 + i]) (treeK (rowAt rows) (L[i]'(by omega))) with
        | false => rfl
        | true =>
          have := treeK_inj ((num_eqv 2 _ _ (num_treeK _ _) (num_treeK _ _)).mp c)
          have := (List.getElem_inj (best_nodup B5)).mp this
          omega
      refine ⟨rfl, _, rfl, _, rfl, p, acc, _, y1, rfl, rfl, .of (eG _ _ h10p), by rw [show (1 : Int) + (i : Int) = ((1 + i : Nat) : Int) by omega]; exact atI_nat hy1, _, rfl, _, rfl, _, _, rfl, rfl, p, acc, _, y0, rfl, rfl, .of (eG _ _ h10p), by rw [show (1 : Int) + (i : Int) - 1 = ((i : Nat) : Int) by omega]; exact atI_nat hy0, _, _, dp_same eG _ _ d1, dp_same eG _ _ d0, sh1 _, sh1 _, _, rfl, ?_⟩
      rw [ne]
      exact ⟨eG, hGD⟩
    rintro H11 ⟨e11, h11D⟩
    have T11 := T10.same e11
    refine ⟨Nat.zero_le _, fun pe hpe => ?_⟩
    have s12 := same_new (o := HO.lst []) hpe
    have h12e : (upd H11 pe (.lst [])) pe = some (.lst []) := upd_same
    generalize upd H11 pe (.lst []) = H12 at s12 h12e ⊢
    have T12 := T11.same s12
    have sh0 : SeqAt.shaped (.list []) = true := num_shaped (n := 1) (fun d hd => nomatch hd) (by decide)
    refine ⟨.list [], .list [], .lst (.of (s12 _ _ h11D)) .nil, .lst (.of h12e) .nil, sh0, sh0, _, rfl, ?_⟩
    rw [refl sh0]
    refine ite2 (fun z => Bool.noConfusion z) (fun _ => ?_)
    refine next_go ?_
    -- the first is the cheapest
    have g92 := core_same (M := M) (s10.trans (e11.trans s12))
    have hM12 := hM9.same g92
    obtain ⟨_, fs12, e12, hS12, hB12⟩ := dp_list_inv (dp_same g92 _ _ (.lst hS9 hB9))
    cases e12
    have hf12 : fs12.length = L.length := by rw [dpAll_len hB12, List.length_map]
    clear hM9 hS9 hB9 hf9 hA10 hK10 h10s h10p h9p hacc T9 T10 T11 g92 h12e h11D
    obtain ⟨r, rfl⟩ := best_head B5 (by omega) (cheapK_of_cheap C5)
    obtain ⟨y0, hy0⟩ : ∃ y0, fs12[0]? = some y0 := ⟨fs12[0]'(by rw [hf12]; exact Nat.succ_pos _), List.getElem?_eq_getElem _⟩
    obtain ⟨js0, t0, l0, hjs0, rfl, hT0, hl0⟩ := pget hB12 hy0
    cases hjs0
    obtain ⟨y1, hy1, hdy⟩ := dpAll_get (i := 0) (d := pairD (rowAt rows) ns5) hB12 rfl
    rw [hy0] at hy1
    cases hy1
    have hMw := hM12.same sans_same
    have CK := cheapK_of_cheap C5
    have reach : ∀ {ns : List Int}, (∀ v, v ∈ ns ↔ 0 ≤ v ∧ v < n ∧ ¬ Reach rows root v) → ns ≠ [] → False := fun {ns} hns hne => noT hns hne ns5 CK.tree
    refine ⟨_, rfl, lf, fs12, 0, .ref t0, rfl, rfl, sans_same.seq hS12, atI_nat (j := 0) hy0, _, rfl, x, n, root, rows, rfl, hMw, ok, T12.tl, T12.tr, n12, fun d2 l2 H' ns2 tb hd2 hxd hl2 hns hup hne => (reach hns hne).elim, fun t7 H13 ns7 prs7 tb7 hD7 _ Cp7 => ?_⟩
    have T13 := T12.tb n31 n32 tb7
    have g13 : Same (sans M H12) (sans M H13) := by rw [hMd]; exact core_tb tb7
    obtain ⟨l71, l72, ys7, h7t, h71, _⟩ := hD7
    obtain rfl : ns7 = ns5 := TEq.cheap ⟨fun _ => Iff.rfl, fun _ _ => rfl⟩ (cheapK_of_cheap Cp7) CK
    refine ⟨_, rfl, t7, _, rfl, .of h7t, (show ¬ (HT.sIx 3 0 none = 0 ∧ HT.sIx 3 3 (some 2) = 3) from by decide), fun p7 hp7 => ?_⟩
    have s14 := same_new (o := HO.tup (cutV [V.ref l71, .int (costOf rows ns7), .ref l72] none (some 2))) hp7
    have hp7' : (upd H13 p7 (.tup (cutV [V.ref l71, .int (costOf rows ns7), .ref l72] none (some 2)))) p7 = some (.tup [V.ref l71, .int (costOf rows ns7)]) := upd_same
    generalize upd H13 p7 (.tup (cutV [V.ref l71, .int (costOf rows ns7), .ref l72] none (some 2))) = H14 at s14 hp7' ⊢
    have T14 := T13.same s14
    have g24 := g13.trans (core_same (M := M) s14)
    have hd14 : Dp K H14 (.ref p7) (pairD (rowAt rows) ns7) := by
      unfold pairD
      rw [cost_rowAt]
      exact .tup (.of hp7') (.cons (.lst (.of (s14 _ _ h71)) (dpAll_ints _)) (.cons (.int _) .nil))
    have shp : SeqAt.shaped (pairD (rowAt rows) ns7) = true := num_shaped (n := 2) (num_pairD _ ns7) (by decide)
    refine ⟨pairD (rowAt rows) ns7, pairD (rowAt rows) ns7, dp_same sans_same _ _ (dp_same g24 _ _ hdy), hd14, shp, shp, _, rfl, ?_⟩
    rw [refl shp]
    refine ite2 (fun z => Bool.noConfusion z) (fun _ => ?_)
    refine next_go ?_
    have hM14 := hM12.same g24
    have hS14 := g24.seq hS12
    have hB14 := dpAll_same g24 _ _ hB12
    have hT14 := sqT_same g24 hT0
    have hl14 := g24.seq hl0
    clear hM12 hS12 hB12 hT0 hl0 hMw T12 T13 g13 g24 hd14 hp7' hdy
    refine ⟨_, rfl, lf, fs12, rfl, .inl (sans_same.seq hS14), _, _, rfl, rfl, _, rfl, ite2 (fun z => ?_) (fun z => ?_)⟩
    · exact q _
    refine next_go ?_
    have hr1 : r ≠ [] := fun e => by
      rw [e] at hf12
      rw [hf12] at z
      simp at z
    refine next_go ?_
    have hMw := hM14.same sans_same
    have hSw := sans_same.seq hS14
    have hTw := sqT_same sans_same hT14
    have hlw := sans_same.seq hl14
    have T0 : Tb TL TR H14 H14 := Tb.start T14.tl T14.tr same_refl
    have lstK : ∀ {G : Hp} {b : Addr} {xs : List V}, Tb TL TR H14 G → SqL K H14 b xs → SqL K G b xs := fun {G b xs} T h => by
      rcases h with (h | ⟨o, h⟩) | h
      · exact .inl (.inl (tb_lst T14.tl T14.tr T h))
      · refine .inl (.inr ⟨o, T.old _ _ (fun z => ?_) (fun z => ?_) h⟩)
        · obtain ⟨ps, e, _⟩ := T14.tl
          rw [← z, h] at e
          cases e
        · obtain ⟨ps, e, _⟩ := T14.tr
          rw [← z, h] at e
          cases e
      · exact .inr h
    refine ⟨_, rfl, lf, fs12, 0, .ref t0, rfl, rfl, hSw, atI_nat (j := 0) hy0, t0, _, 0, _, rfl, rfl, hTw, atI_nat (j := 0) rfl, l0, rfl, ⟨_, hlw⟩, fun D hD3 => lc_list (K := K) (a := l0) (xs := ns7.map V.int) (fun i G => ∃ far : Int → Option Int, Tb TL TR H14 G ∧ G D = some (.lst ((ns7.take i).map fun j => optV (far j))) ∧ ∀ j ∈ ns7.take i, MarginIs n root (idx rows.length) (rowAt rows) j ns7 (far j)) ⟨fun _ => none, T0.same (same_new hD3), upd_same, fun j hj => absurd hj (by simp)⟩ (fun i G _ z => by
      obtain ⟨_, T, _⟩ := z
      exact lstK T hlw) ?_ ?_⟩
    · rintro i y G hi ⟨far, T, hGD, hMg⟩
      rw [List.getElem?_map] at hi
      obtain ⟨j, hj, rfl⟩ := Option.map_eq_some_iff.mp hi
      obtain ⟨j0', j1'⟩ := mem_idx.mp (CK.tree.2.1 j (List.mem_of_getElem? hj))
      have hMG := map_tb T14.tl T14.tr T hMw
      have hlen : ns7.length ≤ 1000 := by have := CK.tree.1; omega
      refine ⟨rfl, ?_⟩
      refine ⟨_, rfl, _, rfl, x, n, root, rows, j, rfl, hMG, ok, by omega, T.tl, T.tr, n12, fun z => absurd ⟨j0', j1'⟩ z, fun _ _ d2 l2 H' ns2 tb hd2 hxd hl2 hns hup hne => (reach hns hne).elim, fun _ _ t9 G2 ns9 prs9 far2 tb ht htG Cp9 M2 => ?_⟩
      obtain rfl : ns9 = ns7 := TEq.cheap ⟨fun _ => Iff.rfl, fun _ _ => rfl⟩ (cheapK_of_cheap Cp9) CK
      have T2 := T.trans tb
      have hGD2 := tb_lst T.tl T.tr tb hGD
      refine ⟨t9, _, 1, _, rfl, rfl, .of htG, atI_nat (j := 1) rfl, _, hGD2, small_lt (by rw [List.length_map, List.length_take]; have := Nat.min_le_right i ns9.length; omega), fun x => if x = j then far2 else far x, T2.off hD3 hGD2, ?_, fun x hx => ?_⟩
      · rw [upd_same, take_succ hj, List.map_append]
        congr 3
        · refine List.map_congr_left fun x hx => ?_
          dsimp only
          by_cases e : x = j
          · rw [if_pos e, margin_uniqZ (hMg x hx) (by rw [e]; exact M2)]
          · rw [if_neg e]
        · show [optV far2] = [optV (if j = j then far2 else far j)]
          rw [if_pos rfl]
      · rw [take_succ hj] at hx
        dsimp only
        by_cases e : x = j
        · rw [if_pos e, e]
          exact M2
        · rw [if_neg e]
          rcases List.mem_append.mp hx with h | h
          · exact hMg x h
          · exact absurd (List.mem_singleton.mp h) e
    rintro H15 ⟨far, T15, h15D, hMg⟩
    rw [List.length_map, List.take_length] at h15D hMg
    refine gname_go ?_
    dsimp only
    refine at_ (σ' := [some (.ref a), some (.ref d), some (.int n), some (.int root), some (.ref lr), some (.ref x), some (.int ((m + 1 : Nat) : Int)), some (.ref lf), some (.ref p), v9, some (.ref D), none, none, none]) rfl ?_
    obtain ⟨b, r', rfl⟩ : ∃ b r', r = b :: r' := by
      cases r with
      | nil => exact absurd rfl hr1
      | cons b r' => exact ⟨b, r', rfl⟩
    obtain ⟨⟨jm, hjm, f0, hf0, hcm⟩, low⟩ := best_second r0 r1 B5 hMg
    have hB14w := dpAll_same sans_same _ _ hB14
    obtain ⟨y1, hy1, hd1⟩ := dpAll_get (i := 1) (d := pairD (rowAt rows) b) hB14 rfl
    obtain ⟨t1, l1, rfl, hT1, _⟩ := pair_inv hd1
    have hS15 := lstK T15 hSw
    have tupK : ∀ {b : Addr} {xs : List V}, SqT K H14 b xs → SqT K H15 b xs := fun {b xs} h => sqT_same T15.sans (sqT_sans (mids T14.tl T14.tr) h)
    have hTt := tupK hTw
    have hTt1 := tupK (sqT_same sans_same hT1)
    refine ⟨_, rfl, lf, fs12, 1, .ref t1, rfl, rfl, hS15, atI_nat (j := 1) hy1, t1, _, 1, _, rfl, rfl, hTt1, atI_nat (j := 1) rfl, _, rfl, lf, fs12, 0, .ref t0, rfl, rfl, hS15, atI_nat (j := 0) hy0, t0, _, 1, _, rfl, rfl, hTt, atI_nat (j := 1) rfl, _, rfl, D, rfl, ⟨_, .of h15D⟩, fun D2 hD4 => lc_list (K := K) (a := D) (xs := ns7.map fun j => optV (far j)) (fun i G => Same H15 G ∧ G D2 = some (.lst (((ns7.take i).filterMap far).map V.int))) ⟨same_new hD4, upd_same⟩ (fun i G _ z => .of (z.1 _ _ h15D)) ?_ ?_⟩
    · rintro i y G hi ⟨eG, hGD⟩
      rw [List.getElem?_map] at hi
      obtain ⟨j, hj, rfl⟩ := Option.map_eq_some_iff.mp hi
      have hlen : ns7.length ≤ 1000 := by have := CK.tree.1; omega
      have hfl2 : ((ns7.take i).filterMap far).length ≤ 1000 := Nat.le_trans (List.length_filterMap_le _ _) (by rw [List.length_take]; have := Nat.min_le_right i ns7.length; omega)
      refine ⟨rfl, _, rfl, rfl, _, rfl, ?_⟩
      rw [take_succ hj, List.filterMap_append]
      cases hf : far j with
      | none =>
        have e1 : List.filterMap far [j] = [] := by simp [hf]
        rw [e1, List.append_nil]
        exact ⟨eG, hGD⟩
      | some f =>
        have e1 : List.filterMap far [j] = [f] := by simp [hf]
        rw [e1, List.map_append]
        exact ⟨_, rfl, _, hGD, small_lt (by rw [List.length_map]; omega), same_mut eG hD4, upd_same⟩
    rintro H16 ⟨e16, h16D⟩
    rw [List.length_map, List.take_length] at h16D
    have hin : f0 ∈ ns7.filterMap far := List.mem_filterMap.mpr ⟨jm, hjm, hf0⟩
    refine ⟨D2, ns7.filterMap far, rfl, .of h16D, List.length_pos_of_mem hin, fun v hv hlow => ?_⟩
    obtain ⟨jv, hjv, hfv⟩ := List.mem_filterMap.mp hv
    have k1 := hlow f0 hin
    have k2 := low jv hjv v hfv
    have ev : v = f0 := by omega
    subst ev
    refine ⟨_, _, rfl, rfl, rfl, ?_⟩
    rw [hcm]
    exact Eq.mpr (congrArg (fun b => Q (.bl b) H16) (decide_eq_true rfl)) (q _)
end
end Rc
/-! part RcH -/
namespace Rc
open PySem PySem.Spec PyProof.Rows L2 L2H
abbrev FunN (K : PySem.W.Frag) (x q : Str) (st : Stmt) (f : Addr) (fd : FuncData) : Prop := FunD K x q (defArgs st) (defBody st) (defScope st) [] [] f fd
theorem funD_fun {K : PySem.W.Frag} {x q : Str} {st : Stmt} {f : Addr} {fd : FuncData} (F : FunN K x q st f fd) : Fun K x q st f fd := by
  obtain ⟨oc, od, dV, kV, doc, pm, an, cdv, ct, osl, e, lk, hcd, hD, _⟩ := F.ex
  rcases hD with ⟨_, rfl⟩ | ⟨z, _⟩
  · exact ⟨⟨oc, od, kV, doc, pm, an, cdv, ct, osl, e, lk, hcd⟩, F.kp⟩
  · exact absurd rfl z
theorem funD_funT {K : PySem.W.Frag} {x q : Str} {st : Stmt} {p : Str × Option Str} {fd : FuncData} (F : FunN K x q st (He.fAd K p) fd) : FunT K x q st (He.fAd K p) fd (He.codeOf K p) := by
  obtain ⟨oc, od, dV, kV, doc, pm, an, cdv, ct, osl, rfl, lk, hcd, hD, _⟩ := F.ex
  rcases hD with ⟨_, rfl⟩ | ⟨z, _⟩
  · obtain ⟨c, rfl⟩ := He.codeIn_ref hcd
    have e := He.codeOf_eq (p := p) (c := c) lk rfl
    rw [e]
    exact ⟨⟨oc, od, kV, doc, pm, an, ct, osl, rfl, lk, hcd⟩, F.kp⟩
  · exact absurd rfl z
theorem facts {P : Program} {w : World} {K : PySem.W.Frag} {h : Heap} {mg : Str → Option Value} {f : Addr} (X : K.In h) (G : h.Ns mainGlobals mg) (hfa : mg ("law" : Str) = some (.ref f)) (c : SaysZ h K) :
    ∃ fd : FuncData, (∀ (s : Shared) (v : Value), BindsTo s fd ⟨[v], []⟩ [("_law_script", v)]) ∧ ∀ base : Heap, K.In base → base.Ns mainGlobals mg → LamX.TabB base mg (He.cT K ("pay", none)).1 (He.cT K ("pay", none)).2 → LamX.TabB base mg (He.cT K ("tree_paid", none)).1 (He.cT K ("tree_paid", none)).2 → LamX.TabB base mg (He.cT K ("is_tree", none)).1 (He.cT K ("is_tree", none)).2 → FnOk P w K mg base CX0 11 f fd ["_law_script"] (spLaw K (He.cT K ("pay", none)).2 (He.cT K ("tree_paid", none)).2 (He.cT K ("is_tree", none)).2) := by
  have d := c.d
  obtain ⟨fd0, F0⟩ := d.def_ 0 (d := defD "__init__" "NoTree.__init__" (some "NoTree") s_NoTree___init__) rfl
  obtain ⟨fd1, F1⟩ := d.def_ 1 (d := defD "__init__" "Map.__init__" (some "Map") s_Map___init__) rfl
  obtain ⟨fd2, F2⟩ := d.def_ 2 (d := defD "size" "Map.size" (some "Map") s_Map_size) rfl
  obtain ⟨fd3, F3⟩ := d.def_ 3 (d := defD "begin" "Map.begin" (some "Map") s_Map_begin) rfl
  obtain ⟨fd4, F4⟩ := d.def_ 4 (d := defD "roads" "Map.roads" (some "Map") s_Map_roads) rfl
  obtain ⟨fd5, F5⟩ := d.def_ 5 (d := defD "roads_by_number" "roads_by_number" none s_roads_by_number) rfl
  obtain ⟨fd6, F6⟩ := d.def_ 6 (d := defD "check_map" "check_map" none s_check_map) rfl
  obtain ⟨fd7, F7⟩ := d.def_ 7 (d := defD "check_cost" "check_cost" none s_check_cost) rfl
  obtain ⟨fd8, F8⟩ := d.def_ 8 (d := defD "left_out" "left_out" none s_left_out) rfl
  obtain ⟨fd9, F9⟩ := d.def_ 9 (d := defD "is_tree" "is_tree" none s_is_tree) rfl
  obtain ⟨fd10, F10⟩ := d.def_ 10 (d := defD "cost_of" "cost_of" none s_cost_of) rfl
  obtain ⟨fd11, F11⟩ := d.def_ 11 (d := defD "cheapest" "cheapest" none s_cheapest) rfl
  obtain ⟨fd12, F12⟩ := d.def_ 12 (d := defD "cheapest_among" "cheapest_among" none s_cheapest_among) rfl
  obtain ⟨fd13, F13⟩ := d.def_ 13 (d := defD "pay_roads" "pay_roads" none s_pay_roads) rfl
  obtain ⟨fd14, F14⟩ := d.def_ 14 (d := defD "roads_into" "roads_into" none s_roads_into) rfl
  obtain ⟨fd15, F15⟩ := d.def_ 15 (d := defD "rank" "rank" none s_rank) rfl
  obtain ⟨fd16, F16⟩ := d.def_ 16 (d := defD "path_with" "path_with" none s_path_with) rfl
  obtain ⟨fd17, F17⟩ := d.def_ 17 (d := defD "pay" "pay" none s_pay) rfl
  obtain ⟨fd18, F18⟩ := d.def_ 18 (d := defD "tree_paid" "tree_paid" none s_tree_paid) rfl
  obtain ⟨fd19, F19⟩ := d.def_ 19 (d := defD "without" "without" none s_without) rfl
  obtain ⟨fd20, F20⟩ := d.def_ 20 (d := defD "with_no_other" "with_no_other" none s_with_no_other) rfl
  obtain ⟨fd21, F21⟩ := d.def_ 21 (d := defD "first_among" "first_among" none s_first_among) rfl
  obtain ⟨fd22, F22⟩ := d.def_ 22 (d := defD "least_among" "least_among" none s_least_among) rfl
  obtain ⟨fd23, F23⟩ := d.def_ 23 (d := defD "least_with" "least_with" none s_least_with) rfl
  obtain ⟨fd24, F24⟩ := d.def_ 24 (d := defD "least_without" "least_without" none s_least_without) rfl
  obtain ⟨fd25, F25⟩ := d.def_ 25 (d := defD "best" "best" none s_best) rfl
  obtain ⟨fd26, F26⟩ := d.def_ 26 (d := defD "parts_beside" "parts_beside" none s_parts_beside) rfl
  obtain ⟨fd27, F27⟩ := d.def_ 27 (d := defD "margin" "margin" none s_margin) rfl
  obtain ⟨fd28, F28⟩ := d.def_ 28 (d := defD "how_much_more" "how_much_more" none s_how_much_more) rfl
  obtain ⟨fd29, F29⟩ := d.def_ 29 (d := defD "how_many" "how_many" none s_how_many) rfl
  obtain ⟨fd30, F30⟩ := d.def_ 30 (d := defD "table_of_roads" "table_of_roads" none s_table_of_roads) rfl
  obtain ⟨fd31, F31⟩ := d.def_ 31 (d := defD "determinant" "determinant" none s_determinant) rfl
  obtain ⟨fd32, F32⟩ := d.def_ 32 (d := defD "_law_dice" "_law_dice" none s_dice) rfl
  obtain ⟨fd33, F33⟩ := d.def_ 33 (d := defD "_law_next" "_law_next" none s_next) rfl
  obtain ⟨fd34, F34⟩ := d.def_ 34 (d := defD "_law_whole" "_law_whole" none s_whole) rfl
  obtain ⟨fd35, F35⟩ := d.def_ 35 (d := defD "_law_cost" "_law_cost" none s_cost) rfl
  obtain ⟨fd36, F36⟩ := d.def_ 36 (d := defD "_law_map" "_law_map" none s_map) rfl
  obtain ⟨fd37, F37⟩ := d.def_ 37 (d := defD "_law_wide" "_law_wide" none s_wide) rfl
  obtain ⟨fd38, F38⟩ := d.def_ 38 (d := defD "law" "law" none s_law) rfl
  have e := hfa.symm.trans (He.glo_ok X G (d.fact 33 (f := .glo "law") rfl))
  cases e
  have TM : TxtM K mg (He.ga K "Map") :=
    { len := (He.free_ok X G (d.fact 39 (f := .free "len") rfl)), int := (He.free_ok X G (d.fact 40 (f := .free "int") rfl)), range := (He.free_ok X G (d.fact 41 (f := .free "range") rfl)), isi := (He.free_ok X G (d.fact 42 (f := .free "isinstance") rfl)), str := (He.free_ok X G (d.fact 43 (f := .free "str") rfl)), tuple := (He.free_ok X G (d.fact 44 (f := .free "tuple") rfl)), list := (He.free_ok X G (d.fact 45 (f := .free "list") rfl)), bool := (He.free_ok X G (d.fact 46 (f := .free "bool") rfl)), enum := (He.free_ok X G (d.fact 47 (f := .free "enumerate") rfl)), cl := He.cls_ok (d.fact 59 (f := .cls "Map") rfl), nM := He.noat_ok (d.fact 60 (f := .noat "Map" "_many") rfl), nR := He.noat_ok (d.fact 61 (f := .noat "Map" "_root") rfl), nL := He.noat_ok (d.fact 62 (f := .noat "Map" "_roads") rfl), mgC := (He.glo_ok X G (d.fact 35 (f := .glo "Map") rfl)), gP := He.int_ok X G (d.fact 56 (f := .int "MOST_PLACES" 20) rfl), gR := He.int_ok X G (d.fact 57 (f := .int "MOST_ROADS" 60) rfl), gC := He.int_ok X G (d.fact 58 (f := .int "MOST_COST" 1000000000) rfl) }
  have ex := c.more
  unfold exL at ex
  simp only [Bool.and_eq_true, decide_eq_true_eq] at ex
  obtain ⟨x_ox, x_ini, x_hpop, x_hpush, x_a0, x_a1, x_a2⟩ := ex
  have TO : TxtO K mg (He.ga K "NoTree") (He.ga K "RootError") := ⟨oexB_ok x_ox, He.noat_ok (d.fact 67 (f := .noat "NoTree" "left") rfl), (He.glo_ok X G (d.fact 36 (f := .glo "NoTree") rfl)), iniB_ok x_ini, (He.glo_ok X G (d.fact 38 (f := .glo "RootError") rfl)), TM.list⟩
  have exm := He.exm_ok (d.fact 69 (f := .exm "NoTree" "NoTree" true) rfl)
  have mE := He.meth_ok (d.fact 68 (f := .meth "NoTree" "__init__") rfl)
  have mZ := He.meth_ok (d.fact 63 (f := .meth "Map" "size") rfl)
  have TF : TxtF K mg (He.ga K "NoTree") := ⟨(He.glo_ok X G (d.fact 36 (f := .glo "NoTree") rfl)), exm⟩
  have TR0 : TxtR K mg (He.ga K "NoRoad") := by
    obtain ⟨y1, y2, y3, y4⟩ := He.exc_ok (d.fact 70 (f := .exc "NoRoad") rfl)
    exact ⟨y1, y2, y3, y4, (He.glo_ok X G (d.fact 37 (f := .glo "NoRoad") rfl))⟩
  have b := FunD.bindsA (ps := ["_law_script"]) F38 fun _ _ _ _ _ _ us hl => match us, hl with | [_], _ => rfl
  refine ⟨fd38, fun s v => b s [v] rfl, fun base _ _ B0 B1 B2 => ?_⟩
  have b0 : Binds K fd0 ["self", "left"] [] := F0.bindsN fun _ _ _ _ _ _ us hl => match us, hl with | [_, _], _ => rfl
  have b1 : Binds K fd1 ["self", "many", "root", "roads"] [] := F1.bindsN fun _ _ _ _ _ _ us hl => match us, hl with | [_, _, _, _], _ => rfl
  have b2 : Binds K fd2 ["self"] [] := F2.bindsN fun _ _ _ _ _ _ us hl => match us, hl with | [_], _ => rfl
  have b3 : Binds K fd3 ["self"] [] := F3.bindsN fun _ _ _ _ _ _ us hl => match us, hl with | [_], _ => rfl
  have b4 : Binds K fd4 ["self"] [] := F4.bindsN fun _ _ _ _ _ _ us hl => match us, hl with | [_], _ => rfl
  have b5 : Binds K fd5 ["chart"] [] := F5.bindsN fun _ _ _ _ _ _ us hl => match us, hl with | [_], _ => rfl
  have b6 : Binds K fd6 ["many", "root", "roads"] [] := F6.bindsN fun _ _ _ _ _ _ us hl => match us, hl with | [_, _, _], _ => rfl
  have b7 : Binds K fd7 ["road", "cost"] [] := F7.bindsN fun _ _ _ _ _ _ us hl => match us, hl with | [_, _], _ => rfl
  have b8 : Binds K fd8 ["many", "root", "roads"] [] := F8.bindsN fun _ _ _ _ _ _ us hl => match us, hl with | [_, _, _], _ => rfl
  have b9 : Binds K fd9 ["chart", "roads"] [] := F9.bindsN fun _ _ _ _ _ _ us hl => match us, hl with | [_, _], _ => rfl
  have b10 : Binds K fd10 ["chart", "roads"] [] := F10.bindsN fun _ _ _ _ _ _ us hl => match us, hl with | [_, _], _ => rfl
  have b11 : Binds K fd11 ["chart"] [] := F11.bindsN fun _ _ _ _ _ _ us hl => match us, hl with | [_], _ => rfl
  have b12 : Binds K fd12 ["many", "root", "roads"] [] := F12.bindsN fun _ _ _ _ _ _ us hl => match us, hl with | [_, _, _], _ => rfl
  have b13 : Binds K fd13 ["many", "root", "roads"] [] := F13.bindsN fun _ _ _ _ _ _ us hl => match us, hl with | [_, _, _], _ => rfl
  have b14 : Binds K fd14 ["many", "roads"] [] := F14.bindsN fun _ _ _ _ _ _ us hl => match us, hl with | [_, _], _ => rfl
  have b15 : Binds K fd15 ["road"] [] := F15.bindsN fun _ _ _ _ _ _ us hl => match us, hl with | [_], _ => rfl
  have b16 : Binds K fd16 ["path", "place"] [] := F16.bindsN fun _ _ _ _ _ _ us hl => match us, hl with | [_, _], _ => rfl
  have b17 : Binds K fd17 ["entering", "rest"] [] := F17.bindsN fun _ _ _ _ _ _ us hl => match us, hl with | [_, _], _ => rfl
  have b18 : Binds K fd18 ["payments", "roads"] [] := F18.bindsN fun _ _ _ _ _ _ us hl => match us, hl with | [_, _], _ => rfl
  have b19 : Binds K fd19 ["roads", "road"] [] := F19.bindsN fun _ _ _ _ _ _ us hl => match us, hl with | [_, _], _ => rfl
  have b20 : Binds K fd20 ["roads", "road"] [] := F20.bindsN fun _ _ _ _ _ _ us hl => match us, hl with | [_, _], _ => rfl
  have b21 : Binds K fd21 ["many", "root", "roads"] [] := F21.bindsN fun _ _ _ _ _ _ us hl => match us, hl with | [_, _, _], _ => rfl
  have b22 : Binds K fd22 ["many", "root", "roads"] [] := F22.bindsN fun _ _ _ _ _ _ us hl => match us, hl with | [_, _, _], _ => rfl
  have b23 : Binds K fd23 ["chart", "road"] [] := F23.bindsN fun _ _ _ _ _ _ us hl => match us, hl with | [_, _], _ => rfl
  have b24 : Binds K fd24 ["chart", "road"] [] := F24.bindsN fun _ _ _ _ _ _ us hl => match us, hl with | [_, _], _ => rfl
  have b25 : Binds K fd25 ["chart", "many"] [] := F25.bindsN fun _ _ _ _ _ _ us hl => match us, hl with | [_, _], _ => rfl
  have b26 : Binds K fd26 ["tree", "roads"] [] := F26.bindsN fun _ _ _ _ _ _ us hl => match us, hl with | [_, _], _ => rfl
  have b27 : Binds K fd27 ["chart", "road"] [] := F27.bindsN fun _ _ _ _ _ _ us hl => match us, hl with | [_, _], _ => rfl
  have b28 : Binds K fd28 ["least", "cost"] [] := F28.bindsN fun _ _ _ _ _ _ us hl => match us, hl with | [_, _], _ => rfl
  have b29 : Binds K fd29 ["chart"] [] := F29.bindsN fun _ _ _ _ _ _ us hl => match us, hl with | [_], _ => rfl
  have b30 : Binds K fd30 ["chart"] [] := F30.bindsN fun _ _ _ _ _ _ us hl => match us, hl with | [_], _ => rfl
  have b31 : Binds K fd31 ["rows"] [] := F31.bindsN fun _ _ _ _ _ _ us hl => match us, hl with | [_], _ => rfl
  have b32 : Binds K fd32 ["_law_script"] [] := F32.bindsN fun _ _ _ _ _ _ us hl => match us, hl with | [_], _ => rfl
  have b33 : Binds K fd33 ["_law_dice_here", "_law_many"] [] := F33.bindsN fun _ _ _ _ _ _ us hl => match us, hl with | [_, _], _ => rfl
  have b34 : Binds K fd34 ["_law_found"] [] := F34.bindsN fun _ _ _ _ _ _ us hl => match us, hl with | [_], _ => rfl
  have b35 : Binds K fd35 ["_law_d"] [] := F35.bindsN fun _ _ _ _ _ _ us hl => match us, hl with | [_], _ => rfl
  have b36 : Binds K fd36 ["_law_d", "_law_places", "_law_roads"] [] := F36.bindsN fun _ _ _ _ _ _ us hl => match us, hl with | [_, _, _], _ => rfl
  have b37 : Binds K fd37 ["_law_d"] [] := F37.bindsN fun _ _ _ _ _ _ us hl => match us, hl with | [_], _ => rfl
  have hDice : ∀ k, Has P w K mg base "_law_dice" ["_law_script"] (k + 1) (spDice K) := fun k => ⟨_, fd32, (He.glo_ok X G (d.fact 27 (f := .glo "_law_dice") rfl)), F32.kp, b32, ok_dice (k := k) (funD_fun F32) TM.toTxt0⟩
  have hNext : ∀ k, Has P w K mg base "_law_next" ["_law_dice_here", "_law_many"] (k + 1) (spNext K) := fun k => ⟨_, fd33, (He.glo_ok X G (d.fact 28 (f := .glo "_law_next") rfl)), F33.kp, b33, ok_next (k := k) (funD_fun F33) TM.toTxt0⟩
  have hCC : Has P w K mg base "check_cost" ["road", "cost"] 3 spCheckCost := ⟨_, fd7, (He.glo_ok X G (d.fact 2 (f := .glo "check_cost") rfl)), F7.kp, b7, ok_check_cost (k := 2) (funD_fun F7) TM⟩
  have hCheck : Has P w K mg base "check_map" ["many", "root", "roads"] 4 (spCheck K) := ⟨_, fd6, (He.glo_ok X G (d.fact 1 (f := .glo "check_map") rfl)), F6.kp, b6, ok_check (k := 3) (funD_fun F6) TM hCC⟩
  have hLeft : Has P w K mg base "left_out" ["many", "root", "roads"] 4 (spLeft K) := ⟨_, fd8, (He.glo_ok X G (d.fact 3 (f := .glo "left_out") rfl)), F8.kp, b8, ok_left (k := 3) (funD_fun F8) TM.toTxt0⟩
  have hInit : HasC P w K mg base (He.ga K "Map") ["self", "many", "root", "roads"] 5 (spInit K (He.ga K "Map")) := ⟨_, fd1, He.mkr_ok (d.fact 66 (f := .mkr "Map") rfl), b1, ok_init (k := 4) (funD_fun F1) TM hCheck⟩
  have hSize : ∀ k, HasM P w K mg base (He.ga K "Map") "size" ["self"] (k + 1) (spSize K (He.ga K "Map")) := fun k => ⟨_, fd2, He.meth_ok (d.fact 63 (f := .meth "Map" "size") rfl), b2, ok_size (k := k) (funD_fun F2) TM⟩
  have hBegin : ∀ k, HasM P w K mg base (He.ga K "Map") "begin" ["self"] (k + 1) (spBegin K (He.ga K "Map")) := fun k => ⟨_, fd3, He.meth_ok (d.fact 64 (f := .meth "Map" "begin") rfl), b3, ok_begin (k := k) (funD_fun F3) TM⟩
  have hRoads : ∀ k, HasM P w K mg base (He.ga K "Map") "roads" ["self"] (k + 1) (spRoads K (He.ga K "Map")) := fun k => ⟨_, fd4, He.meth_ok (d.fact 65 (f := .meth "Map" "roads") rfl), b4, ok_roads (k := k) (funD_fun F4) TM⟩
  have hO : HasO P w K mg base (He.ga K "NoTree") 3 := ⟨_, fd0, mE.at_, beq_iff_eq.mp mE.fn, b0, ok_notree (k := 2) (funD_fun F0) TO⟩
  have hInto : Has P w K mg base "roads_into" ["many", "roads"] 3 (spInto K) := ⟨_, fd14, (He.glo_ok X G (d.fact 9 (f := .glo "roads_into") rfl)), F14.kp, b14, ok_into (k := 2) (funD_fun F14) TM.range⟩
  have hRank : Has P w K mg base "rank" ["road"] 3 spRank := ⟨_, fd15, (He.glo_ok X G (d.fact 10 (f := .glo "rank") rfl)), F15.kp, b15, ok_rank (k := 2) (funD_fun F15) TM.gR⟩
  have hWith : Has P w K mg base "path_with" ["path", "place"] 3 (spWith K) := ⟨_, fd16, (He.glo_ok X G (d.fact 11 (f := .glo "path_with") rfl)), F16.kp, b16, ok_with (k := 2) (funD_fun F16) TM.tuple TM.enum (He.free_ok X G (d.fact 49 (f := .free "sorted") rfl))⟩
  have hPay : Has P w K mg base "pay" ["entering", "rest"] 3 (spPay K (He.cT K ("pay", none)).2) := ⟨_, fd17, (He.glo_ok X G (d.fact 12 (f := .glo "pay") rfl)), F17.kp, b17, ok_pay (k := 0) (funD_funT (p := ("pay", none)) F17) (He.free_ok X G (d.fact 52 (f := .free "min") rfl)) B0⟩
  have hRun : Has P w K mg base "pay_roads" ["many", "root", "roads"] 4 (spRun K (He.cT K ("pay", none)).2) := ⟨_, fd13, (He.glo_ok X G (d.fact 8 (f := .glo "pay_roads") rfl)), F13.kp, b13, ok_run (k := 3) (funD_fun F13) TM.range hInto hRank hWith hPay⟩
  have hTree : Has P w K mg base "tree_paid" ["payments", "roads"] 4 (spTree K (He.cT K ("tree_paid", none)).2) := ⟨_, fd18, (He.glo_ok X G (d.fact 13 (f := .glo "tree_paid") rfl)), F18.kp, b18, ok_tree (k := 3) (funD_funT (p := ("tree_paid", none)) F18) (He.free_ok X G (d.fact 54 (f := .free "reversed") rfl)) (He.free_ok X G (d.fact 50 (f := .free "any") rfl)) (He.free_ok X G (d.fact 49 (f := .free "sorted") rfl)) ⟨B1.code, B1.bm, B1.gP⟩⟩
  have hAmong : HasN P w K mg base "cheapest_among" ["many", "root", "roads"] 5 (spAmong K (He.ga K "NoTree") (He.cT K ("pay", none)).2 (He.cT K ("tree_paid", none)).2) := ⟨_, fd12, (He.glo_ok X G (d.fact 7 (f := .glo "cheapest_among") rfl)), F12.kp, b12, ok_among (k := 3) (funD_fun F12) TM.list (He.free_ok X G (d.fact 48 (f := .free "sum") rfl)) (He.free_ok X G (d.fact 49 (f := .free "sorted") rfl)) TO hO hLeft hRun hTree⟩
  have hBy : Has P w K mg base "roads_by_number" ["chart"] 5 (spByNum K (He.ga K "Map")) := ⟨_, fd5, (He.glo_ok X G (d.fact 0 (f := .glo "roads_by_number") rfl)), F5.kp, b5, ok_by_number (k := 4) (funD_fun F5) TM (He.free_ok X G (d.fact 53 (f := .free "dict") rfl)) (hRoads 3)⟩
  have hCheapest : HasN P w K mg base "cheapest" ["chart"] 6 (spCheapest K (He.ga K "Map") (He.ga K "NoTree") (He.cT K ("pay", none)).2 (He.cT K ("tree_paid", none)).2) := ⟨_, fd11, (He.glo_ok X G (d.fact 6 (f := .glo "cheapest") rfl)), F11.kp, b11, ok_cheapest (k := 5) (funD_fun F11) TM hBy (hSize 4) (hBegin 4) hAmong⟩
  have hCheap := HasN.imp (sp' := spCheap K (He.ga K "Map") (He.ga K "NoTree") (He.cT K ("pay", none)).2 (He.cT K ("tree_paid", none)).2) hCheapest spCheap_of
  have hTable : Has P w K mg base "table_of_roads" ["chart"] 2 (spTable K (He.ga K "Map")) := ⟨_, fd30, (He.glo_ok X G (d.fact 25 (f := .glo "table_of_roads") rfl)), F30.kp, b30, ok_table (k := 1) (funD_fun F30) TM (hRoads 0) (hSize 0) (hBegin 0)⟩
  have hDet : Has P w K mg base "determinant" ["rows"] 2 (spDet K) := ⟨_, fd31, (He.glo_ok X G (d.fact 26 (f := .glo "determinant") rfl)), F31.kp, b31, ok_det (k := 1) (funD_fun F31) TM.toTxtL⟩
  have hHowMany : Has P w K mg base "how_many" ["chart"] 3 (spHowMany K (He.ga K "Map")) := ⟨_, fd29, (He.glo_ok X G (d.fact 24 (f := .glo "how_many") rfl)), F29.kp, b29, ok_how_many (k := 2) (funD_fun F29) hTable hDet⟩
  have hAmongK := HasN.imp (sp' := spAmongK K (He.ga K "NoTree") (He.cT K ("pay", none)).2 (He.cT K ("tree_paid", none)).2) hAmong spAmongK_of
  have hFirst : Has P w K mg base "first_among" ["many", "root", "roads"] 6 (spFirst K (He.cT K ("pay", none)).2 (He.cT K ("tree_paid", none)).2) := ⟨_, fd21, (He.glo_ok X G (d.fact 16 (f := .glo "first_among") rfl)), F21.kp, b21, ok_first (k := 5) (funD_fun F21) TF hAmongK⟩
  have hWithout : Has P w K mg base "without" ["roads", "road"] 5 (spWithout K) := ⟨_, fd19, (He.glo_ok X G (d.fact 14 (f := .glo "without") rfl)), F19.kp, b19, ok_without (k := 4) (funD_fun F19)⟩
  have hWithNo : Has P w K mg base "with_no_other" ["roads", "road"] 5 (spWithNo K) := ⟨_, fd20, (He.glo_ok X G (d.fact 15 (f := .glo "with_no_other") rfl)), F20.kp, b20, ok_with_no (k := 4) (funD_fun F20)⟩
  have hLeast : Has P w K mg base "least_among" ["many", "root", "roads"] 7 (spLeast K (He.cT K ("pay", none)).2 (He.cT K ("tree_paid", none)).2) := ⟨_, fd22, (He.glo_ok X G (d.fact 17 (f := .glo "least_among") rfl)), F22.kp, b22, ok_least (k := 6) (funD_fun F22) hFirst⟩
  have hLWith : Has P w K mg base "least_with" ["chart", "road"] 8 (spLeastOf K (He.ga K "Map") (He.cT K ("pay", none)).2 (He.cT K ("tree_paid", none)).2 LeastWith) := ⟨_, fd23, (He.glo_ok X G (d.fact 18 (f := .glo "least_with") rfl)), F23.kp, b23, ok_least_with (k := 7) (funD_fun F23) TM (hBy.up (by decide)) (hWithNo.up (by decide)) hLeast (hSize 6) (hBegin 6)⟩
  have hLOut : Has P w K mg base "least_without" ["chart", "road"] 8 (spLeastOf K (He.ga K "Map") (He.cT K ("pay", none)).2 (He.cT K ("tree_paid", none)).2 LeastOut) := ⟨_, fd24, (He.glo_ok X G (d.fact 19 (f := .glo "least_without") rfl)), F24.kp, b24, ok_least_without (k := 7) (funD_fun F24) TM (hBy.up (by decide)) (hWithout.up (by decide)) hLeast (hSize 6) (hBegin 6)⟩
  have hMore : Has P w K mg base "how_much_more" ["least", "cost"] 8 spMore := ⟨_, fd28, (He.glo_ok X G (d.fact 23 (f := .glo "how_much_more") rfl)), F28.kp, b28, ok_more (k := 7) (funD_fun F28)⟩
  have hMargin : HasN P w K mg base "margin" ["chart", "road"] 9 (spMargin K (He.ga K "Map") (He.ga K "NoTree") (He.ga K "NoRoad") (He.cT K ("pay", none)).2 (He.cT K ("tree_paid", none)).2) := ⟨_, fd27, (He.glo_ok X G (d.fact 22 (f := .glo "margin") rfl)), F27.kp, b27, ok_margin (k := 8) (funD_fun F27) TM TR0 (hRoads 7) (hCheap.up (by decide)) hLOut hLWith hMore⟩
  have TH : TxtH mg := ⟨PySem.W.mg_of X G x_hpop, PySem.W.mg_of X G x_hpush⟩
  have hParts : Has P w K mg base "parts_beside" ["tree", "roads"] 6 (spParts K) := ⟨_, fd26, (He.glo_ok X G (d.fact 21 (f := .glo "parts_beside") rfl)), F26.kp, b26, ok_parts (k := 5) (funD_fun F26) hWithout hWithNo⟩
  have hBest : HasN P w K mg base "best" ["chart", "many"] 8 (spBest K (He.ga K "Map") (He.ga K "NoTree") (He.cT K ("pay", none)).2 (He.cT K ("tree_paid", none)).2) := ⟨_, fd25, (He.glo_ok X G (d.fact 20 (f := .glo "best") rfl)), F25.kp, b25, ok_best (k := 7) (funD_fun F25) TM TH (hCheap.up (by decide)) (hBy.up (by decide)) (hParts.up (by decide)) (hFirst.up (by decide)) (hSize 6) (hBegin 6)⟩
  have hCost : Has P w K mg base "_law_cost" ["_law_d"] 5 (spCost K) := ⟨_, fd35, (He.glo_ok X G (d.fact 30 (f := .glo "_law_cost") rfl)), F35.kp, b35, ok_cost (k := 4) (funD_fun F35) TM.toTxt0 (hNext 3)⟩
  have hMap : Has P w K mg base "_law_map" ["_law_d", "_law_places", "_law_roads"] 6 (spMap K) := ⟨_, fd36, (He.glo_ok X G (d.fact 31 (f := .glo "_law_map") rfl)), F36.kp, b36, ok_map (k := 5) (funD_fun F36) TM.toTxt0 (hNext 4) hCost⟩
  have hWide : Has P w K mg base "_law_wide" ["_law_d"] 7 (spWide K) := ⟨_, fd37, (He.glo_ok X G (d.fact 32 (f := .glo "_law_wide") rfl)), F37.kp, b37, ok_wide (k := 6) (funD_fun F37) (hNext 5) hMap⟩
  have hWhole : Has P w K mg base "_law_whole" ["_law_found"] 5 spWholeP := ⟨_, fd34, (He.glo_ok X G (d.fact 29 (f := .glo "_law_whole") rfl)), F34.kp, b34, ok_whole (k := 4) (funD_fun F34) TM.toTxtL⟩
  have hIsTree : Has P w K mg base "is_tree" ["chart", "roads"] 5 (spIsTree K (He.ga K "Map") (He.cT K ("is_tree", none)).2) := ⟨_, fd9, (He.glo_ok X G (d.fact 4 (f := .glo "is_tree") rfl)), F9.kp, b9, ok_is_tree (k := 4) (funD_funT (p := ("is_tree", none)) F9) TM (He.free_ok X G (d.fact 51 (f := .free "all") rfl)) ⟨B2.code, B2.bm, B2.gP⟩ (hRoads 3) (hSize 3) (hBegin 3) hLeft⟩
  have hCostOf : Has P w K mg base "cost_of" ["chart", "roads"] 5 (spCostOf K (He.ga K "Map")) := ⟨_, fd10, (He.glo_ok X G (d.fact 5 (f := .glo "cost_of") rfl)), F10.kp, b10, ok_cost_of (k := 4) (funD_fun F10) TM (He.free_ok X G (d.fact 48 (f := .free "sum") rfl)) (hRoads 3)⟩
  have hSizeG : HasMG P w K mg base (He.ga K "Map") "size" ["self"] 8 (spSize K (He.ga K "Map")) := ⟨_, fd2, He.meth_ok (d.fact 63 (f := .meth "Map" "size") rfl), b2, ok_sizeG (k := 7) (funD_fun F2) TM⟩
  have hBeginG : HasMG P w K mg base (He.ga K "Map") "begin" ["self"] 8 (spBegin K (He.ga K "Map")) := ⟨_, fd3, He.meth_ok (d.fact 64 (f := .meth "Map" "begin") rfl), b3, ok_beginG (k := 7) (funD_fun F3) TM⟩
  have hRoadsG : HasMG P w K mg base (He.ga K "Map") "roads" ["self"] 8 (spRoads K (He.ga K "Map")) := ⟨_, fd4, He.meth_ok (d.fact 65 (f := .meth "Map" "roads") rfl), b4, ok_roadsG (k := 7) (funD_fun F4) TM⟩
  have hTableG : HasG P w K mg base "table_of_roads" ["chart"] 9 (fun _ => True) (fun _ => (spTable K (He.ga K "Map"))) := ⟨_, fd30, (He.glo_ok X G (d.fact 25 (f := .glo "table_of_roads") rfl)), F30.kp, b30, ok_tableG (k := 8) (funD_fun F30) TM hRoadsG hSizeG hBeginG⟩
  have hDetG : HasG P w K mg base "determinant" ["rows"] 9 (fun _ => True) (fun _ => (spDet K)) := ⟨_, fd31, (He.glo_ok X G (d.fact 26 (f := .glo "determinant") rfl)), F31.kp, b31, ok_detG (k := 8) (funD_fun F31) TM.toTxtL⟩
  have hHowManyG : HasG P w K mg base "how_many" ["chart"] 10 (fun _ => True) (fun _ => (spHowMany K (He.ga K "Map"))) := ⟨_, fd29, (He.glo_ok X G (d.fact 24 (f := .glo "how_many") rfl)), F29.kp, b29, ok_how_manyG (k := 9) (funD_fun F29) hTableG hDetG⟩
  exact ok_law (k := 9) (funD_fun F38) TM TF (He.free_ok X G (d.fact 49 (f := .free "sorted") rfl)) (He.free_ok X G (d.fact 52 (f := .free "min") rfl)) x_a0 (Ne.symm x_a1) (Ne.symm x_a2) (hDice 9) (hNext 9) (hWide.up (by decide)) (hWhole.up (by decide)) (hHowMany.up (by decide)) hHowManyG (hBest.up (by decide)) (hCheap.up (by decide)) (hMargin.up (by decide)) (hIsTree.up (by decide)) (hCostOf.up (by decide)) (hInit.up (by decide))
end Rc
open PySem PySem.W PySem.Calls PyProof.Rows
theorem PySem.Challenge.cw_rootcheap_k06_whole_order_on_great_maps_holds : PySem.Challenge.rw_rootcheap_k06_whole_order_on_great_maps.Holds := by
  w_on; o_law
  refine HandSHeadRun.head_imp (r := OpenLaw.row PySem.Challenge.rw_rootcheap_k06_whole_order_on_great_maps) (q := view (OpenLaw.row PySem.Challenge.rw_rootcheap_k06_whole_order_on_great_maps).prog [0, 49]) (H := Rc.hk) (ob := Rc.ob) (M := 6000) (loose := Rc.names) (d := HandSHeadRun.topDef (OpenLaw.row PySem.Challenge.rw_rootcheap_k06_whole_order_on_great_maps).prog 49) (kwd := []) Rc.ob_eq
    Rc.run (by kernel_rfl) (by kernel_rfl) (by kernel_rfl) (by rfl) (by first | assumption | decide +kernel) (by decide +kernel) ⟨rfl, rfl, rfl, rfl, rfl, by decide +kernel⟩ ?hw ?hc
  case hw => w_witness2
  case hc =>
    refine LamX.walk_ofTsE (l := PySem.Challenge.rw_rootcheap_k06_whole_order_on_great_maps) (n := 63) (k := 11) (x := "_law_script") (CX := fun _ => L2.CX0) rfl (by decide) (by kernel_rfl) ⟨rfl, by decide, by decide⟩ ?F (fun _ _ _ _ _ z => z)
    intro w mg fa h Y G hmg0
    obtain ⟨K, KX, c⟩ := Y
    have hmg : mg ("law" : PySem.Str) = some (.ref fa) := by
      have e : (HandSHeadRun.topDef (OpenLaw.row PySem.Challenge.rw_rootcheap_k06_whole_order_on_great_maps).prog 49).name = ("law" : PySem.Str) := by kernel_rfl
      rw [← e]
      exact hmg0
    obtain ⟨fd, hb, hF⟩ := Rc.facts (P := (PySem.Challenge.rw_rootcheap_k06_whole_order_on_great_maps).prog) (w := w) KX G hmg c
    have m0 : (("pay", none) : He.Defn) ∈ Rc.tfL := List.mem_cons_self
    have m1 : (("tree_paid", none) : He.Defn) ∈ Rc.tfL := List.mem_cons_of_mem _ List.mem_cons_self
    have m2 : (("is_tree", none) : He.Defn) ∈ Rc.tfL := List.mem_cons_of_mem _ (List.mem_cons_of_mem _ List.mem_cons_self)
    have hmem : ∀ p ∈ Rc.tfL.map (He.cT K), ∃ x ∈ Rc.tfL, He.cT K x = p := fun p hp => List.mem_map.mp hp
    refine ⟨K, KX, fd, Rc.tfL.map (He.cT K), Rc.spLaw K (He.cT K ("pay", none)).2 (He.cT K ("tree_paid", none)).2 (He.cT K ("is_tree", none)).2, ?_, ?_, ?_, hb, ?_, ?_⟩
    · intro p hp
      obtain ⟨x, hx, rfl⟩ := hmem p hp
      exact (c.tabs x hx).2.2
    · intro p hp
      obtain ⟨x, hx, rfl⟩ := hmem p hp
      exact (c.tabs x hx).2.1
    · intro p hp
      obtain ⟨x, hx, rfl⟩ := hmem p hp
      exact PySem.W.codeHd_of_K KX (c.tabs x hx).1
    · intro H a ns hl _ hT hS
      have t0 := hT _ (List.mem_map_of_mem (f := He.cT K) m0)
      have t1 := hT _ (List.mem_map_of_mem (f := He.cT K) m1)
      have t2 := hT _ (List.mem_map_of_mem (f := He.cT K) m2)
      exact ⟨a, ns, rfl, hS, ⟨#[], t0, trivial, fun pos cv z => by cases z⟩, ⟨#[], t1, trivial⟩, ⟨#[], t2, trivial⟩, fun _ => rfl⟩
    · intro base hK hG hTB
      exact hF base hK hG (hTB _ (List.mem_map_of_mem (f := He.cT K) m0)) (hTB _ (List.mem_map_of_mem (f := He.cT K) m1)) (hTB _ (List.mem_map_of_mem (f := He.cT K) m2))
