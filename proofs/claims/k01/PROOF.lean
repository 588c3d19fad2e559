import PyProof.Rows.All
import Wide.All
import OpenK.AllK
import Wide.FinOn
import HandS.ForMost
import HandS.IsInst
import HandS.Wide
import HandS.SortInts
import HandS.Deep
import HandS.Hot
import HandS.HotCalls
import HandS.Comp
import HandS.ExcIs
import HandS.ExcCtx
import KE.KExcIs
import HandS.ExcInit
import HandS.ExcField
import HandS.ExcOwn
import HandS.RaiseMore
import HandS.AnyAll
import HandS.Ends
import HandS.EndTab
import HandS.HeadWalk
import HandS.HeadEnd
import HandS.Head0
import HandS.Head1
import HandS.Head2
import HandS.Head3
import HandS.HeadHook1
import HandS.HeadHook2
import HandS.HeadHook3
import HandS.HeadHook4
import HandS.FStr
import PyProof.FitsInt
import PyProof.StrLaws
import HandS.TryOnly
import PySem.Challenge.RW_rootcheap_k01_maps_refused
set_option Elab.async false
set_option linter.all false
set_option maxRecDepth 100000
set_option maxHeartbeats 0
/-! part RcB0 -/
/-! General facts: parts of heaps that stay, data that is read in a part. -/
namespace Rc
open PySem L2
/-- from H with its part Hb to H' with its part Hb': nothing of H but what m names is changed, the part grows by new objects alone -/
structure Sub (m : Addr → Prop) (H Hb H' Hb' : Hp) : Prop where
  old : ∀ b o, ¬ m b → H b = some o → H' b = some o
  ext : Same Hb Hb'
  sub : Same Hb' H'
  new : ∀ b, Hb b = none → H b ≠ none → Hb' b = none
def no : Addr → Prop := fun _ => False
def at1 (d : Addr) : Addr → Prop := fun b => b = d
theorem hp_ne {H : Hp} {b : Addr} {o : HO} (h : H b = some o) : H b ≠ none := fun e => by rw [h] at e; cases e
theorem hp_some {H : Hp} {b : Addr} (h : H b ≠ none) : ∃ o, H b = some o := by
  cases e : H b with
  | none => exact absurd e h
  | some o => exact ⟨o, rfl⟩
theorem same_refl {H : Hp} : Same H H := fun _ _ e => e
theorem same_new {H : Hp} {p : Addr} {o : HO} (h : H p = none) : Same H (upd H p o) := fun b x e => by
  rw [upd_ne (ne_of_none e h)]
  exact e
theorem same_mut {Hb H : Hp} {p : Addr} {o : HO} (s : Same Hb H) (h : Hb p = none) : Same Hb (upd H p o) := fun b x e => by
  rw [upd_ne (ne_of_none e h)]
  exact s b x e
theorem same_both {Hb H : Hp} {p : Addr} {o : HO} (s : Same Hb H) (hn : H p = none) : Same (upd Hb p o) (upd H p o) := fun b x e => by
  by_cases hb : b = p
  · subst hb
    rw [upd_same] at e ⊢
    exact e
  · rw [upd_ne hb] at e ⊢
    exact s b x e
theorem same_pub {Hb H : Hp} {p : Addr} {o : HO} (s : Same Hb H) (h : H p = some o) : Same (upd Hb p o) H := fun b x e => by
  by_cases hb : b = p
  · subst hb
    rw [upd_same] at e
    rw [h]
    exact e
  · rw [upd_ne hb] at e
    exact s b x e
namespace Sub
variable {m : Addr → Prop} {H Hb H' Hb' H2 Hb2 : Hp} {p : Addr} {o : HO}
theorem refl (s : Same Hb H) : Sub m H Hb H Hb := ⟨fun _ _ _ e => e, same_refl, s, fun _ e _ => e⟩
theorem trans (a : Sub m H Hb H' Hb') (b : Sub m H' Hb' H2 Hb2) (hm : ∀ x, m x → H x ≠ none → H' x ≠ none) : Sub m H Hb H2 Hb2 where
  old := fun x u n e => b.old x u n (a.old x u n e)
  ext := a.ext.trans b.ext
  sub := b.sub
  new := fun x e n => b.new x (a.new x e n) (by
    by_cases hx : m x
    · exact hm x hx n
    · obtain ⟨u, hu⟩ := hp_some n
      exact hp_ne (a.old x u hx hu))
theorem trans0 (a : Sub no H Hb H' Hb') (b : Sub no H' Hb' H2 Hb2) : Sub no H Hb H2 Hb2 := a.trans b fun _ h => h.elim
/-- a new object, of the part -/
theorem add (s : Sub m H Hb H' Hb') (hn : H' p = none) (hm : ¬ m p) : Sub m H Hb (upd H' p o) (upd Hb' p o) where
  old := fun x u n e => by
    have q := s.old x u n e
    rw [upd_ne (ne_of_none q hn)]
    exact q
  ext := s.ext.trans (same_new (s.sub.free hn))
  sub := same_both s.sub hn
  new := fun x e n => by
    have hx : x ≠ p := fun z => by
      subst z
      obtain ⟨u, hu⟩ := hp_some n
      have q := s.old x u hm hu
      rw [hn] at q
      cases q
    rw [upd_ne hx]
    exact s.new x e n
/-- a new object, or a change of one that is not of the part -/
theorem put (s : Sub m H Hb H' Hb') (hp : H p = none ∨ m p) (hb : Hb' p = none) : Sub m H Hb (upd H' p o) Hb' where
  old := fun x u n e => by
    have hx : x ≠ p := fun z => by
      subst z
      rcases hp with q | q
      · rw [q] at e; cases e
      · exact n q
    rw [upd_ne hx]
    exact s.old x u n e
  ext := s.ext
  sub := same_mut s.sub hb
  new := s.new
/-- what was made apart comes to the part -/
theorem pub (s : Sub m H Hb H' Hb') (h0 : H p = none) (hb : Hb' p = none) (h : H' p = some o) : Sub m H Hb H' (upd Hb' p o) where
  old := s.old
  ext := s.ext.trans (same_new hb)
  sub := same_pub s.sub h
  new := fun x e n => by
    have hx : x ≠ p := fun z => by subst z; exact n h0
    rw [upd_ne hx]
    exact s.new x e n
theorem free0 (s : Sub no H Hb H' Hb') (h : H' p = none) : H p = none := by
  cases e : H p with
  | none => rfl
  | some u =>
    have q := s.old p u (fun z => z) e
    rw [h] at q
    cases q
theorem old0 (s : Sub no H Hb H' Hb') : Same H H' := fun b o e => s.old b o (fun z => z) e
theorem wide (s : Sub no H Hb H' Hb') : Sub m H Hb H' Hb' := ⟨fun b o _ e => s.old b o (fun z => z) e, s.ext, s.sub, s.new⟩
end Sub
/-! ### data -/
theorem sqT_same {K : PySem.W.Frag} {H H' : Hp} {a : Addr} {xs : List V} (e : Same H H') (h : SqT K H a xs) : SqT K H' a xs := by
  unfold SqT at h ⊢
  rcases h with (h | ⟨o, h⟩) | h
  · exact .inl (.inl (e _ _ h))
  · exact .inl (.inr ⟨o, e _ _ h⟩)
  · exact .inr h
mutual
theorem dp_same {K : PySem.W.Frag} {H H' : Hp} (e : Same H H') : ∀ (d : PyData) (v : V), Dp K H v d → Dp K H' v d
  | .none, _, h => by cases h; exact .non
  | .bool b, _, h => by cases h; exact .bl b
  | .int i, _, h => by cases h; exact .int i
  | .str x, _, h => by cases h; exact .str x
  | .list ds, _, h => by
    cases h with
    | lst hs ha => exact .lst (e.seq hs) (dpAll_same e ds _ ha)
  | .tuple ds, _, h => by
    cases h with
    | tup hs ha => exact .tup (sqT_same e hs) (dpAll_same e ds _ ha)
  | .dict _, _, h => by cases h
theorem dpAll_same {K : PySem.W.Frag} {H H' : Hp} (e : Same H H') : ∀ (ds : List PyData) (vs : List V), DpAll K H vs ds → DpAll K H' vs ds
  | [], _, h => by cases h; exact .nil
  | d :: ds, _, h => by
    cases h with
    | cons h1 h2 => exact .cons (dp_same e d _ h1) (dpAll_same e ds _ h2)
end
theorem dpAll_len {K : PySem.W.Frag} {H : Hp} : ∀ {vs : List V} {ds : List PyData}, DpAll K H vs ds → vs.length = ds.length
  | _, _, .nil => rfl
  | _, _, .cons _ h => by rw [List.length_cons, List.length_cons, dpAll_len h]
theorem dpAll_get {K : PySem.W.Frag} {H : Hp} : ∀ {vs : List V} {ds : List PyData} {i : Nat} {d : PyData}, DpAll K H vs ds → ds[i]? = some d → ∃ v, vs[i]? = some v ∧ Dp K H v d
  | _, _, i, d, .nil, e => by simp at e
  | _, _, 0, d, .cons h1 _, e => by
    have e' : _ = d := Option.some.inj e
    subst e'
    exact ⟨_, rfl, h1⟩
  | _, _, i + 1, d, .cons _ h2, e => dpAll_get (i := i) h2 e
theorem dpAll_get' {K : PySem.W.Frag} {H : Hp} : ∀ {vs : List V} {ds : List PyData} {i : Nat} {v : V}, DpAll K H vs ds → vs[i]? = some v → ∃ d, ds[i]? = some d ∧ Dp K H v d
  | _, _, i, d, .nil, e => by simp at e
  | _, _, 0, d, .cons h1 _, e => by
    have e' : _ = d := Option.some.inj e
    subst e'
    exact ⟨_, rfl, h1⟩
  | _, _, i + 1, d, .cons _ h2, e => dpAll_get' (i := i) h2 e
theorem dpAll_app {K : PySem.W.Frag} {H : Hp} : ∀ {vs ws : List V} {ds es : List PyData}, DpAll K H vs ds → DpAll K H ws es → DpAll K H (vs ++ ws) (ds ++ es)
  | _, _, _, _, .nil, h => h
  | _, _, _, _, .cons h1 h2, h => .cons h1 (dpAll_app h2 h)
theorem dpAll_one {K : PySem.W.Frag} {H : Hp} {v : V} {d : PyData} (h : Dp K H v d) : DpAll K H [v] [d] := .cons h .nil
theorem dpAll_ints {K : PySem.W.Frag} {H : Hp} : ∀ ns : List Int, DpAll K H (ns.map V.int) (ns.map PyData.int)
  | [] => .nil
  | n :: ns => .cons (.int n) (dpAll_ints ns)
theorem dpAll_ints_inv {K : PySem.W.Frag} {H : Hp} : ∀ {ns : List Int} {vs : List V}, DpAll K H vs (ns.map PyData.int) → vs = ns.map V.int
  | [], _, h => by cases h; rfl
  | n :: ns, _, h => by
    cases h with
    | cons h1 h2 =>
      cases h1
      rw [dpAll_ints_inv h2]
      rfl
theorem dp_list_inv {K : PySem.W.Frag} {H : Hp} {v : V} {ds : List PyData} (h : Dp K H v (.list ds)) : ∃ a xs, v = .ref a ∧ SqL K H a xs ∧ DpAll K H xs ds := by
  cases h with
  | lst hs ha => exact ⟨_, _, rfl, hs, ha⟩
theorem dp_tup_inv {K : PySem.W.Frag} {H : Hp} {v : V} {ds : List PyData} (h : Dp K H v (.tuple ds)) : ∃ a xs, v = .ref a ∧ SqT K H a xs ∧ DpAll K H xs ds := by
  cases h with
  | tup hs ha => exact ⟨_, _, rfl, hs, ha⟩
theorem dp_int_inv {K : PySem.W.Frag} {H : Hp} {v : V} {i : Int} (h : Dp K H v (.int i)) : v = .int i := by
  cases h
  rfl
theorem small_line {n : Nat} (h : n ≤ 16777216) : n ≤ sizeLine := by rw [PySem.sizeLine_eq]; exact h
theorem small_lt {n : Nat} (h : n < 16777216) : n < sizeLine := by rw [PySem.sizeLine_eq]; exact h
/-- [a, b, c][i] of a tuple's values -/
theorem int_eq_decide {a b : Int} : decide (V.int a = V.int b) = decide (a = b) := by
  by_cases h : a = b
  · subst h; simp
  · have : V.int a ≠ V.int b := fun e => h (V.int.inj e)
    rw [decide_eq_false h, decide_eq_false this]
end Rc
/-! part RcP -/
namespace Rc
open PySem PySem.Spec PyProof.Rows L2
def topS (i : Nat) : Stmt := PySem.Challenge.pw_rootcheap_k01_maps_refused.main.body.getD i (.Pass ⟨0, 0, 0, 0⟩)
abbrev s_BadMap___init__ : Stmt := inClass (topS 2) 0
abbrev N_BadMap___init__ : List Str := ["self", "at", "why"]
theorem sc_BadMap___init__ : FnScope N_BadMap___init__ ["self", "at", "why"] (defScope s_BadMap___init__) := ⟨rfl, rfl, rfl, by decide +kernel, rfl, by decide +kernel, by decide +kernel⟩
abbrev s_NoTree___init__ : Stmt := inClass (topS 3) 0
abbrev N_NoTree___init__ : List Str := ["self", "left"]
theorem sc_NoTree___init__ : FnScope N_NoTree___init__ ["self", "left"] (defScope s_NoTree___init__) := ⟨rfl, rfl, rfl, by decide +kernel, rfl, by decide +kernel, by decide +kernel⟩
abbrev s_BadText___init__ : Stmt := inClass (topS 5) 0
abbrev N_BadText___init__ : List Str := ["self", "row"]
theorem sc_BadText___init__ : FnScope N_BadText___init__ ["self", "row"] (defScope s_BadText___init__) := ⟨rfl, rfl, rfl, by decide +kernel, rfl, by decide +kernel, by decide +kernel⟩
abbrev s_Map___init__ : Stmt := inClass (topS 10) 0
abbrev N_Map___init__ : List Str := ["self", "many", "root", "roads"]
theorem sc_Map___init__ : FnScope N_Map___init__ ["self", "many", "root", "roads"] (defScope s_Map___init__) := ⟨rfl, rfl, rfl, by decide +kernel, rfl, by decide +kernel, by decide +kernel⟩
abbrev s_Map_size : Stmt := inClass (topS 10) 1
abbrev N_Map_size : List Str := ["self"]
theorem sc_Map_size : FnScope N_Map_size ["self"] (defScope s_Map_size) := ⟨rfl, rfl, rfl, by decide +kernel, rfl, by decide +kernel, by decide +kernel⟩
abbrev s_Map_begin : Stmt := inClass (topS 10) 2
abbrev N_Map_begin : List Str := ["self"]
theorem sc_Map_begin : FnScope N_Map_begin ["self"] (defScope s_Map_begin) := ⟨rfl, rfl, rfl, by decide +kernel, rfl, by decide +kernel, by decide +kernel⟩
abbrev s_Map_roads : Stmt := inClass (topS 10) 3
abbrev N_Map_roads : List Str := ["self"]
theorem sc_Map_roads : FnScope N_Map_roads ["self"] (defScope s_Map_roads) := ⟨rfl, rfl, rfl, by decide +kernel, rfl, by decide +kernel, by decide +kernel⟩
abbrev s_check_map : Stmt := topS 11
abbrev N_check_map : List Str := ["many", "root", "roads", "at", "begin", "goal", "cost"]
theorem sc_check_map : FnScope N_check_map ["many", "root", "roads"] (defScope s_check_map) := ⟨rfl, rfl, rfl, by decide +kernel, rfl, by decide +kernel, by decide +kernel⟩
abbrev s_check_cost : Stmt := topS 12
abbrev N_check_cost : List Str := ["road", "cost"]
theorem sc_check_cost : FnScope N_check_cost ["road", "cost"] (defScope s_check_cost) := ⟨rfl, rfl, rfl, by decide +kernel, rfl, by decide +kernel, by decide +kernel⟩
abbrev s_dice : Stmt := topS 14
abbrev N_dice : List Str := ["_law_script", "_law_mixed", "_law_cell"]
theorem sc_dice : FnScope N_dice ["_law_script"] (defScope s_dice) := ⟨rfl, rfl, rfl, by decide +kernel, rfl, by decide +kernel, by decide +kernel⟩
abbrev s_next : Stmt := topS 15
abbrev N_next : List Str := ["_law_dice_here", "_law_many", "_law_found", "_law_cell"]
theorem sc_next : FnScope N_next ["_law_dice_here", "_law_many"] (defScope s_next) := ⟨rfl, rfl, rfl, by decide +kernel, rfl, by decide +kernel, by decide +kernel⟩
abbrev s_whole : Stmt := topS 16
abbrev N_whole : List Str := ["_law_found"]
theorem sc_whole : FnScope N_whole ["_law_found"] (defScope s_whole) := ⟨rfl, rfl, rfl, by decide +kernel, rfl, by decide +kernel, by decide +kernel⟩
abbrev s_like : Stmt := topS 17
abbrev N_like : List Str := ["_law_found", "_law_due", "_law_k"]
theorem sc_like : FnScope N_like ["_law_found", "_law_due"] (defScope s_like) := ⟨rfl, rfl, rfl, by decide +kernel, rfl, by decide +kernel, by decide +kernel⟩
abbrev s_cost : Stmt := topS 18
abbrev N_cost : List Str := ["_law_d", "_law_way"]
theorem sc_cost : FnScope N_cost ["_law_d"] (defScope s_cost) := ⟨rfl, rfl, rfl, by decide +kernel, rfl, by decide +kernel, by decide +kernel⟩
abbrev s_map : Stmt := topS 19
abbrev N_map : List Str := ["_law_d", "_law_places", "_law_roads", "_law_many", "_law_root", "_law_rows", "_law_k", "_law_begin", "_law_goal"]
theorem sc_map : FnScope N_map ["_law_d", "_law_places", "_law_roads"] (defScope s_map) := ⟨rfl, rfl, rfl, by decide +kernel, rfl, by decide +kernel, by decide +kernel⟩
abbrev s_wide : Stmt := topS 20
abbrev N_wide : List Str := ["_law_d"]
theorem sc_wide : FnScope N_wide ["_law_d"] (defScope s_wide) := ⟨rfl, rfl, rfl, by decide +kernel, rfl, by decide +kernel, by decide +kernel⟩
abbrev s_is : Stmt := topS 21
abbrev N_is : List Str := ["_law_e", "_law_word", "_law_kinds", "_law_words", "_law_one"]
theorem sc_is : FnScope N_is ["_law_e", "_law_word"] (defScope s_is) := ⟨rfl, rfl, rfl, by decide +kernel, rfl, by decide +kernel, by decide +kernel⟩
abbrev s_wrong : Stmt := topS 22
abbrev N_wrong : List Str := ["_law_d", "_law_chart", "_law_many", "_law_root", "_law_rows", "_law_kind", "_law_bads", "_law_words"]
theorem sc_wrong : FnScope N_wrong ["_law_d", "_law_chart"] (defScope s_wrong) := ⟨rfl, rfl, rfl, by decide +kernel, rfl, by decide +kernel, by decide +kernel⟩
abbrev s_refused : Stmt := topS 23
abbrev N_refused : List Str := ["_law_chart", "_law_at", "_law_why", "_law_e"]
theorem sc_refused : FnScope N_refused ["_law_chart", "_law_at", "_law_why"] (defScope s_refused) := ⟨rfl, rfl, rfl, by decide +kernel, rfl, by decide +kernel, by decide +kernel⟩
abbrev s_law : Stmt := topS 24
abbrev N_law : List Str := ["_law_script", "_law_d", "_law_many", "_law_root", "_law_rows", "_law_bad", "_law_at", "_law_why", "_law_handed", "_law_chart", "_law_turn", "_law_found"]
theorem sc_law : FnScope N_law ["_law_script"] (defScope s_law) := ⟨rfl, rfl, rfl, by decide +kernel, rfl, by decide +kernel, by decide +kernel⟩
end Rc
/-! part RcX1 -/
/-! A list comprehension over a list while an exception is handled. -/
namespace Rc
open PySem PySem.Spec PyProof.Rows L2 L2H HotX
section
variable {prog : Program} {w : World} {A : Around} {E : Value → Shared → Prop} {s : Shared}
/-- the end of a list's walk, an exception being handled -/
theorem list_end_hot {it l x1 : Addr} {i : Nat} {items : Array Value} {Q : Option Value → Shared → Prop} (hot : HotAt A x1 s.heap) (hit : s.heap.IsListIter it l i) (hl : s.heap.IsList l items) (hx : items[i]? = none)
    (nx : x1 ≠ it) (hQ : ∀ h', (∀ b o, b ≠ it → s.heap.get? b = some o → h'.get? b = some o) → Q none { s with heap := h' }) : wpAny (model prog w) A (pyNext (.ref it)) Q E s := by
  obtain ⟨oi, hoi, hci, hdi⟩ := id hit
  obtain ⟨ol, hol, _, nl, hdl⟩ := hl
  obtain ⟨hh, o1, vs1, h1, d1, c1⟩ := hot
  unfold pyNext
  refine wpAny_bind (wpAny_attempt (wpAny_callSpecial?_slot (name := Str.ofString "__next__") hit.typeIs slot_listiter_next (wpAny_call_entry slot_listiter_next hit.typeIs entry_listiter_next ?_ (args_listiter_next _))))
  show wpAny _ _ (field (.ref it) 0 >>= _) _ _ s
  refine wpAny_bind (wpAny_field hoi hdi (x := .ref l) rfl ?_)
  show wpAny _ _ (if (Value.ref l == Value.none) = true then _ else _) _ _ s
  rw [if_neg (show ¬ ((Value.ref l == Value.none) = true) from Bool.false_ne_true)]
  show wpAny _ _ (field (.ref it) 1 >>= _) _ _ s
  refine wpAny_bind (wpAny_field hoi hdi (x := .int i 0) rfl ?_)
  show wpAny _ _ (seqItems? (.ref l) >>= _) _ _ s
  refine wpAny_bind (wpAny_seqItems hol hdl ?_)
  simp only [Int.toNat_natCast, hx]
  refine wpAny_bind (wpAny_rule (wpAny_bind (wpAny_setField hoi hdi (by simp) ?_)))
  refine wpAny_bind ?_
  simp only [newExc, newTuple]
  refine wpAny_bind (wpAny_newObj_type ?_ (by size_fits))
  refine wpAny_bind (m := firstArgMember _ _) (wpAny_of_eq (a := Value.none) (by first | rfl | (simp only [firstArgMember]; rfl)) ?_)
  refine wpAny_newObj_type ?_ (by size_fits)
  have hk : ∀ {f : Obj → Obj} {b : Addr} {o : Obj}, b ≠ it → s.heap.get? b = some o → (s.heap.update it f).get? b = some o := fun nb e => (Heap.get?_update_other _ _ (Ne.symm nb)).trans e
  refine raiseNew_hot ⟨hh, o1, vs1, Heap.get?_push_of_some _ (Heap.get?_push_of_some _ (hk nx h1)), d1, c1⟩ (Nat.ne_of_lt (Heap.lt_size (Heap.get?_push_of_some _ (hk nx h1)))) (Heap.get?_push_size _ rfl) rfl (by first | (simp; done) | (simp; omega)) ?_
  refine wpAny_bind (wpAny_isInstance (T := "StopIteration") (b := true) ⟨_, Heap.get?_update_self _ (Heap.get?_push_size _ rfl) rfl, rfl⟩ isSubtype_stop ?_)
  refine wpAny_pure (hQ _ fun b o nb e => ?_)
  rw [Heap.get?_update_other _ _ (Nat.ne_of_gt (Heap.lt_size (Heap.get?_push_of_some _ (hk nb e))))]
  exact Heap.get?_push_of_some _ (Heap.get?_push_of_some _ (hk nb e))
end
end Rc
/-! part RcX2 -/
namespace Rc
open PySem PySem.Spec PyProof.Rows L2 L2H HotX
/-- [elt for x in l], l a list: Pv by the turn -/
def tLcH (K : PySem.W.Frag) (tl : TE) (g : TG) (te : TE) (vs : List Nat) : TE := fun σ H Q => tl σ H fun x H1 => ∃ (a : Addr) (xs : List V), x = .ref a ∧ SqL K H1 a xs ∧ ∀ D, H1 D = none → ∃ Pv : Nat → Hp → Prop, Pv 0 (upd H1 D (.lst [])) ∧
  (∀ i H', i ≤ xs.length → Pv i H' → SqL K H' a xs) ∧ (∀ i x H', xs[i]? = some x → Pv i H' → g x (wipe σ vs) H' fun σ2 H2 => wipe σ2 vs = wipe σ vs ∧ te σ2 H2 fun y H3 => ∃ acc, H3 D = some (.lst acc) ∧ acc.length < sizeLine ∧ Pv (i + 1) (upd H3 D (.lst (acc ++ [y])))) ∧
  ∀ H', Pv xs.length H' → Q (.ref D) H'
section
variable {X : Cx}
theorem pe_lcH {elt tg l : Expr} {scope : Scope} {own : List (Str × Nat)} {pos : Pos} {tl : TE} {g : TG} {te : TE} (hot : HotC X) (hN : X.N.Nodup) (hl : PE X l tl) (ok : BlkOk X.N X.env.scope scope own)
    (hg : ∀ (s : Shared) (H : Hp) (C : Addr) (cl : List (Str × Addr)) (fp : List Addr), PG (X.blk s H scope (compEnvC scope cl C X.env) fp) tg g)
    (he : ∀ (s : Shared) (H : Hp) (C : Addr) (cl : List (Str × Addr)) (fp : List Addr), PE (X.blk s H scope (compEnvC scope cl C X.env) fp) elt te) (hs : ∀ x, foldedSetIterable l X.env x = pure x := by intro _; rfl) :
    PE X (.ListComp elt [⟨tg, l, [], 0⟩] scope pos) (tLcH X.K tl g te (own.map (·.2))) := by
  refine ⟨fun pins s σ H Q I h => ?_⟩
  rw [eval_ListComp]
  have fr : ∀ y ∈ scope.names, y.2 = .free → ∃ c, X.env.cells.lookup y.1 = some c := fun y hy e => (ok.free y hy e).elim (fun k => I.ok.has _ (.inl k)) fun k => I.ok.has _ (.inr k)
  refine wpAny_comprehension_free (use := none) rfl hs (closure_ok fr) ok.kind (fun y hy e => by rw [ok.uniq y hy, e]) (thn (hl.run pins s σ H _ I h) fun v s1 ⟨x, H1, I1, r1, a, xs, ex, hq, hD⟩ => ?_)
  subst ex
  cases r1
  obtain ⟨its, rv, pl, hz⟩ := I1.list hq
  refine wpAny_pyIter_list pl.isList (wpAny_newObj_type (newEnv_comp ?_) (by show 0 ≤ sizeLine; decide))
  -- the iterator, the new list
  have I2 : Inv X pins σ H1 { s1 with heap := s1.heap.push { cls := .type "list_iterator", data := .fields #[.ref a, .int 0 0] } } := I1.kept (t' := s1.toks) fun b o e => Heap.get?_push_of_some _ e
  have itn : H1 s1.heap.objs.size = none := I1.hok.fresh (Nat.le_refl _)
  have Fi := I1.fpOk (Nat.le_refl _) itn
  generalize hit : s1.heap.objs.size = it at I2 itn Fi ⊢
  have st2 : (s1.heap.push { cls := .type "list_iterator", data := .fields #[.ref a, .int 0 0] }).IsListIter it a 0 := ⟨_, by rw [← hit]; exact Heap.get?_push_size _ rfl, rfl, rfl⟩
  have lt2 : it < (s1.heap.push { cls := .type "list_iterator", data := .fields #[.ref a, .int 0 0] }).objs.size := by rw [Heap.size_push, ← hit]; exact Nat.lt_succ_self _
  generalize hs2 : ({ s1 with heap := s1.heap.push { cls := .type "list_iterator", data := .fields #[.ref a, .int 0 0] } } : Shared) = s2 at I2 ⊢
  have h2 : s2.heap = s1.heap.push { cls := .type "list_iterator", data := .fields #[.ref a, .int 0 0] } := by rw [← hs2]
  rw [← h2] at st2 lt2
  generalize hDe : s2.heap.objs.size = D
  have hDn : H1 D = none := I2.hok.fresh (Nat.le_of_eq hDe)
  obtain ⟨Pv, p0, pl', ps, pd⟩ := hD D hDn
  generalize hs3 : ({ s2 with heap := s2.heap.push { cls := .type "list", data := .seq ([] : List Value).toArray } } : Shared) = s3
  have h3 : s3.heap = s2.heap.push { cls := .type "list", data := .seq ([] : List Value).toArray } := by rw [← hs3]
  have I3 : Inv X pins σ (upd H1 D (.lst [])) s3 := by
    rw [← hs3]
    refine I2.laid (t' := s2.toks) (fun b o e => Heap.get?_push_of_some _ e) (Nat.le_of_eq hDe) ⟨Nat.zero_le _, [], 0, .nil, ?_⟩
    rw [← hDe]
    exact Heap.get?_push_size _ rfl
  have nDi : it ≠ D := by rw [← hDe]; exact Nat.ne_of_lt lt2
  have st3 : s3.heap.IsListIter it a 0 := st2.at fun o e => by rw [h3]; exact Heap.get?_push_of_some _ e
  have f3 : ∀ b ∈ [it], FpOk X pins (upd H1 D (.lst [])) b ∧ b < s3.heap.objs.size := fun b hb => by
    rw [List.mem_singleton.mp hb]
    exact ⟨⟨by rw [upd_ne nDi]; exact itn, Fi.2⟩, by rw [h3, Heap.size_push]; exact Nat.lt_succ_of_lt lt2⟩
  have I4 := block_start I3 ok hN f3
  have pg := hg s3 (upd H1 D (.lst [])) s3.heap.objs.size (cellsFrom (s3.heap.objs.size + 1) scope.names (cloFrom X.env.cells scope.names [])) [it]
  have pe := he s3 (upd H1 D (.lst [])) s3.heap.objs.size (cellsFrom (s3.heap.objs.size + 1) scope.names (cloFrom X.env.cells scope.names [])) [it]
  -- the handled exception stays
  obtain ⟨q0, ⟨hh, v1, e1, c1⟩, hpn⟩ := hot
  obtain ⟨g1, g2, g3, g4, g5⟩ := I3.pin q0 (List.mem_append_left _ hpn)
  have qi : q0.1 ≠ it := fun z => (Nat.lt_irrefl _) (Nat.lt_of_lt_of_le (Heap.lt_size (I1.pin q0 (List.mem_append_left _ hpn)).1) (by rw [z, hit]; exact Nat.le_refl _))
  have qs : q0.1 ∉ frs X.stack := fun hm => (List.mem_cons.mp (I3.stkSub q0.1 hm)).elim g3 g4
  show codeAny _ _ (.compStart (.ListComp elt [⟨tg, l, [], 0⟩] scope pos) 0 (.ref it) (.ref D) (compEnvC scope (cellsFrom (s3.heap.objs.size + 1) scope.names (cloFrom X.env.cells scope.names [])) s3.heap.objs.size X.env)) _ { s3 with heap := pushCells (s3.heap.push { cls := .type "dict", data := .dict #[] }) scope.names }
  generalize hce : compEnvC scope (cellsFrom (s3.heap.objs.size + 1) scope.names (cloFrom X.env.cells scope.names [])) s3.heap.objs.size X.env = ce at I4 pg pe ⊢
  have cL : ce.locals = s3.heap.objs.size := by subst hce; rfl
  have hi3 : (upd H1 D (.lst [])) it = none := (f3 it (List.mem_singleton.mpr rfl)).1.1
  generalize hH3 : upd H1 D (.lst []) = H3 at I3 I4 pg pe p0 f3 g2 hi3
  generalize hs4 : ({ s3 with heap := pushCells (s3.heap.push { cls := .type "dict", data := .dict #[] }) scope.names } : Shared) = s4 at I4 ⊢
  have st4 : s4.heap.IsListIter it a 0 := st3.at fun o e => by rw [← hs4]; exact pushCells_keeps _ _ _ _ (Heap.get?_push_of_some _ e)
  have still : ∀ {σ' : L2.St} {H' : Hp} {s' : Shared}, Inv (X.blk s3 H3 scope ce [it]) [] σ' H' s' → HotAt X.A q0.1 s'.heap := fun {σ' H' s'} I' =>
    ⟨hh, q0.2, v1, I'.base.keep q0.1 q0.2 g1 g2 qs (fun z => qi (List.mem_singleton.mp z)), e1, c1⟩
  have stat : ∀ {σ' : L2.St} {H' : Hp} {s' : Shared}, Inv (X.blk s3 H3 scope ce [it]) [] σ' H' s' → H' it = none → FpOk (X.blk s3 H3 scope ce [it]) [] H' it := fun {σ' H' s'} I' hn =>
    have m : it ∈ [it] := List.mem_singleton.mpr rfl
    ⟨hn, (I'.ok.exf it m).1, I'.ok.exfs it m, .inl m, fun x c e => (I'.ok.exf it m).2 x c e, fun p hp => absurd (show p ∈ ([] : List (Addr × Obj)) ++ [] from hp) (by simp)⟩
  have loop : ∀ R : Result → Shared → Prop, (∀ s' H', Inv X pins σ H' s' → Q (.ref D) H' → (∃ m, s'.heap.Ns s3.heap.objs.size m) → FpOk X pins H' s3.heap.objs.size → R (.ok .next) s') →
      codeAny (model X.prog X.w) X.A (.compLoop (.ListComp elt [⟨tg, l, [], 0⟩] scope pos) 0 (.ref it) (.ref D) ce) R s4 := by
    intro R hR
    refine compLoop_any (fun n s' => ∃ i H', Inv (X.blk s3 H3 scope ce [it]) [] (wipe σ (own.map (·.2))) H' s' ∧ s'.heap.IsListIter it a i ∧ H' it = none ∧ i ≤ xs.length ∧ n = xs.length - i ∧ Pv i H') ?_ xs.length ⟨0, H3, I4, st4, hi3, Nat.zero_le _, rfl, p0⟩
    rintro n s5 ⟨i, H5, I5, st5, n5, hle, rfl, p5⟩
    obtain ⟨its5, rv5, pl5, hz5⟩ := I5.list (pl' i H5 hle p5)
    have hl5 := rv5.length
    obtain ⟨f0, f1, f2, f3', f4, f5⟩ := stat I5 n5
    by_cases lt : i < xs.length
    · have hx := List.getElem?_eq_getElem lt
      obtain ⟨u, hu, ru⟩ := rv5.get hx
      refine thnF (Q := fun r s6 => r = some u ∧ Inv (X.blk s3 H3 scope ce [it]) [] (wipe σ (own.map (·.2))) H5 s6 ∧ s6.heap.IsListIter it a (i + 1))
        (wpAny_pyNext_list_item st5 pl5.isList (x := u) (by simpa using hu) fun h' st' sb => ⟨rfl, I5.turned (t' := s5.toks) (fun b o hb e => (sb.2 b hb).trans e) f0 f1 f3' f4 f5, st'⟩) fun r s6 ⟨er, I6, st6⟩ => ?_
      subst er
      obtain ⟨oi, eoi, ci, di⟩ := id st6
      refine go_of eoi ci di (by decide) ?_
      have I6' := I6.pinned (fp := [it]) (fun b hb => by rw [List.mem_singleton.mp hb]; exact stat I6 n5) (fun b hb => ⟨oi, by rw [List.mem_singleton.mp hb]; exact eoi, fun v z => by rw [di] at z; cases z⟩)
      refine thnF (pg.run _ s6 _ H5 _ u _ I6' ru (ps i _ H5 hx p5)) fun _ s8 ⟨σ8, H8, I8, hw8, q8⟩ => ?_
      refine thnF ((pts_nil (X := X.blk s3 H3 scope ce [it])).run _ s8 σ8 H8 (fun b H9 => b = true ∧ H9 = H8) I8 ⟨rfl, rfl⟩) fun b s9 ⟨H9, I9, eb, e9⟩ => ?_
      subst eb e9
      rw [if_pos rfl]
      refine thnF (pe.run _ s9 σ8 H9 _ I9 q8) fun z s10 ⟨yv, H10, I10, r10, acc, hD10, hz10, nx⟩ => ?_
      refine app_ok (X := X.blk s3 H3 scope ce [it]) I10 hD10 hz10 r10 fun s11 I11 => ?_
      have pin' := I11.pin (it, oi) (List.mem_append_right _ (List.mem_append_right _ (mem_pinsAt (List.mem_singleton.mpr rfl) eoi)))
      have hlw : (wipe σ (own.map (·.2))).length = σ8.length := by rw [← hw8, wipe_length]
      exact ⟨xs.length - (i + 1), by omega, i + 1, _, (I11.unpinned (pins := [])).weak hlw (fun j v e => by rw [← hw8] at e; exact (wipe_some e).1), ⟨oi, pin'.1, ci, di⟩, pin'.2.1, lt, rfl, nx⟩
    · have hend : i = xs.length := by omega
      refine list_end_hot (still I5) st5 pl5.isList (by simp; omega) qi fun h' kb => ?_
      have I6 := I5.turned (t' := s5.toks) (fun b o hb e => kb b o hb e) f0 f1 f3' f4 f5
      have I7 : Inv X pins σ H5 { s5 with heap := h' } := I3.call' (ch := [it]) I6.os I6.base I6.hok I6.bare fun b hb => ⟨(f3 b hb).1.2.2.2.1, (f3 b hb).1.2.1, (f3 b hb).1.2.2.2.2.1, (f3 b hb).1.2.2.2.2.2⟩
      have nC : H5 s3.heap.objs.size = none := by
        have z : H5 ce.locals = none := I6.free
        rw [cL] at z
        exact z
      obtain ⟨m, hn, _⟩ := I6.loc
      rw [hend] at p5
      refine hR _ H5 I7 (pd H5 p5) ⟨m, ?_⟩ (I3.fpOk (Nat.le_refl _) nC)
      have hn2 : ({ s5 with heap := h' } : Shared).heap.Ns ce.locals m := hn
      rw [cL] at hn2
      exact hn2
  have fin : ∀ s' H', Inv X pins σ H' s' → Q (.ref D) H' → (∃ m, s'.heap.Ns s3.heap.objs.size m) → FpOk X pins H' s3.heap.objs.size → compPost (model X.prog X.w) X.A X.xe none (EP X pins σ Q) (.ref D) s3.heap.objs.size (.ok .next) s' := by
    rintro s' H' I' q ⟨m, hn⟩ ⟨k0, k1, k2, k3, k4, k5⟩
    exact ⟨m, hn, fun h'' sb => ⟨.ref D, H', I'.turned (t' := s'.toks) (fun b o hb e => (sb.2 b hb).trans e) k0 k1 k3 k4 k5, rfl, q⟩⟩
  exact codeAny_compStart_list (loop _ fin) (wpAny_pyIter_listiter st4 (loop _ fin))
end
end Rc
/-! part RcX3 -/
/-! Defs that are called while an exception is handled of which something is known. -/
namespace Rc
open PySem PySem.Spec PyProof.Rows L2 L2H HotX
/-- what a def promises there: G is known of the exception's object, sp may name it -/
structure FnG (P : Program) (w : World) (K : PySem.W.Frag) (mg : Str → Option Value) (base : Heap) (k : Nat) (f : Addr) (fd : FuncData) (ps : List Str) (G : Addr × Obj → Prop) (sp : Addr → Sp) : Prop where
  len : ∀ a vs H Q E, sp a vs H Q E → vs.length = ps.length
  run : ∀ (A : Around) (out : List Env) (s : Shared) (H : Hp) (args : Args) (us : List Value) (vs : List V) (Q : VK) (E : XK) (p : Addr × Obj), RoomH k A → Hot1 A p → PinOk out H s p → G p → Env0 P w K mg base A out s H → BindsTo s fd args (ps.zip us) → Vals vs us →
    sp p.1 vs H Q E → codeAny (model P w) A (.call (.ref f) args) (CR CX0 out P w H s Q E) s
theorem Fun.okG {P : Program} {w : World} {K : PySem.W.Frag} {mg : Str → Option Value} {base : Heap} {x qual : Str} {st : Stmt} {f : Addr} {fd : FuncData} {N ps : List Str} {k : Nat} {G : Addr × Obj → Prop} {sp : Addr → Sp} (F : Fun K x qual st f fd)
    (S : FnScope N ps (defScope st)) (len : ∀ a vs H Q E, sp a vs H Q E → vs.length = ps.length)
    (body : ∀ (cdv : Value) (A : Around) (out : List Env) (s : Shared) (H : Hp) (vs : List V) (Q : VK) (E : XK) (p : Addr × Obj), Hot1 A p → G p → RoomH k (A.deeper (envOfC qual (defScope st) s.heap.objs.size f cdv)) → sp p.1 vs H Q E →
      ∃ t, PSs (cxH CX0 P w K mg base N qual (defScope st) f cdv A out s H E p) (defBody st) t ∧ t { nx := fun _ H' => Q .non H', rt := Q } (L2.start N vs) H) : FnG P w K mg base (k + 1) f fd ps G sp := by
  obtain ⟨oc, od, kV, doc, pm, an, cdv, ct, osl, rfl, lk, hcd⟩ := F.ex
  refine ⟨len, fun A out s H args us vs Q E p hr hot hpin hG e0 hb r hsp => ?_⟩
  have hl := len _ _ _ _ _ hsp
  have kx : K.In s.heap := e0.mod.kin.keeps fun b o e => (e0.bs b o e).1
  have lim : s.heap.NoLimit := e0.mod.nolimit.keeps fun b o e => (e0.bs b o e).1
  have kinds : ∀ y ∈ ps.zip us, (defScope st).names.lookup y.1 = some .local ∨ ((defScope st).names.lookup y.1 = some .cell ∧ ((cellsFrom (s.heap.objs.size + 1) (defScope st).names []).lookup y.1).isSome = true) := fun ⟨n, v⟩ hy =>
    (S.par n (List.of_mem_zip hy).1).elim .inl fun q => .inr ⟨q, PySem.W.cellsFrom_some _ _ _ (.inl q)⟩
  refine codeAny_call_function hr.depth (kx _ _ lk) rfl S.co S.gen rfl (PySem.W.codeRec_of kx hcd) (hb _ _ _ _ (wpAny_newFunctionEnv_cells S.kind kinds fun env he s1 y => ?_))
  subst he
  refine ⟨lim.keeps y.toInCall.keep, codeAny_func ?_⟩
  obtain ⟨t, ht, hq⟩ := body cdv A out s H vs Q E p hot hG (hr.deeper _) hsp
  have I := inv_startH (CX := CX0) (cd := cdv) (qual := qual) (E := E) S hpin e0 hl r y
  refine wpAny_mono (ht.run [] s1 (L2.start N vs) H _ I hq) (fun fl s' z => ?_) fun e s' z => z
  cases fl with
  | ret u =>
    obtain ⟨v, σ', H', J, rv, q⟩ := z
    exact ⟨v, H', J.os, J.bare, J.base, J.hok, rv, q⟩
  | next =>
    obtain ⟨σ', H', J, q⟩ := z
    exact ⟨.non, H', J.os, J.bare, J.base, J.hok, rfl, q⟩
  | brk =>
    obtain ⟨_, _, _, q⟩ := z
    exact q.elim
  | cont =>
    obtain ⟨_, _, _, q⟩ := z
    exact q.elim
section
variable {X : Cx} {k : Nat} {f : Addr} {fd : FuncData} {ps : List Str} {x : Str} {q pos : Pos} {e : Expr} {es : List Expr} {ta : TA}
/-- f(e, ..) in a suite, or in a def that is called there: p the handled exception -/
theorem pe_callG {G : Addr × Obj → Prop} {sp : Addr → Sp} {E : XK} {p : Addr × Obj} (F : FnG X.prog X.w X.K X.mg X.base k f fd ps G sp) (hr : RoomH k X.A) (hot : Hot1 X.A p) (hp : p ∈ X.pn) (hG : G p) (hg : Gl X x) (hm : X.mg x = some (.ref f))
    (hk : PySem.W.keepIn X.K (.ref f) = true) (hb : Binds X.K fd ps []) (ha : PA X (e :: es) ta) (hdb : (x == ("__debug__" : Str)) = false := by decide)
    (he : starEach (e :: es) X.env = (false, eval e X.env) :: starEach es X.env := by rfl) (hpl : (backTo pos (starEach es X.env)).any (·.1) = false := by rfl) : PE X (.Call (.Name x q) (e :: es) [] pos) (tCall (sp p.1) [] E ta) := by
  refine ⟨fun pins s σ H Q I h => wpAny_Call_Name_kw (ld_glob I hg hm ?_ hdb)⟩
  refine PySem.W.callWith_K (h₀ := X.base) I.ok.mod.kin hk (thn (ha.run pos pins s σ H _ I h) fun us s1 ⟨vs, H1, I1, r, z⟩ => ⟨I1.kIn, ?_⟩) he hpl
  have z1 : sp p.1 vs H1 Q E := by
    have z' : sp p.1 (vs ++ []) H1 Q E := z
    rw [List.append_nil] at z'
    exact z'
  have hl : us.length = ps.length := by rw [← r.length]; exact F.len _ _ _ _ _ z1
  have b := hb s1 us I1.kIn (by rw [List.append_nil]; exact hl)
  rw [List.append_nil] at b
  obtain ⟨p1, p2, p3, p4, p5⟩ := I1.pin p (List.mem_append_left _ hp)
  have hpin : PinOk X.stack H1 s1 p := ⟨p1, p2, fun m => (List.mem_cons.mp (I1.stkSub p.1 m)).elim p3 p4, p5⟩
  refine wpAny_call (codeAny_mono (F.run X.A X.stack s1 H1 ⟨us, []⟩ us vs Q E p hr hot hpin hG I1.env0 b r z1) fun r s' hq => ?_)
  cases r with
  | error e => exact False.elim hq
  | ok fl =>
    cases fl with
    | ret u => exact I1.after hq
    | next => exact hq.elim
    | brk => exact hq.elim
    | cont => exact hq.elim
end
/-! ### isinstance of an exception with fields -/
def rIsP (K : PySem.W.Frag) (D a dd : Addr) : List V → Hp → VK → Prop := fun xs H Q => ∃ (c : V) (cv : Value) (b : Bool) (fs : List (Str × V)), xs = [.ref a, c] ∧ (∀ u, RelV c u → u = cv) ∧ PySem.W.kitOne K (.ref D) cv = some b ∧ H dd = some (.xd fs) ∧ Q (.bl b) H
structure IsP (p : Addr × Obj) (D dd : Addr) : Prop where
  cls : p.2.cls = .ref D
  dict : p.2.dict = some dd
  data : ∃ vs, p.2.data = .fields vs
theorem call_isP {X : Cx} {D dd : Addr} {p : Addr × Obj} (C : ExcC X.K D) (hp : p ∈ X.pn) (T : IsP p D dd) : CallR X (.builtin "isinstance") (rIsP X.K D p.1 dd) := by
  intro pins s σ H xs us Q I r h
  obtain ⟨c, cv, b, fs, rfl, hcv, e, hd, q⟩ := h
  cases r with
  | cons rx rr =>
    cases rr with
    | cons rt rr =>
      cases rr
      cases rx
      have ec := hcv _ rt
      subst ec
      obtain ⟨hget, _⟩ := I.pin p (List.mem_append_left _ hp)
      obtain ⟨vs, hv⟩ := T.data
      have hx : ObjOk X.prog X.w H s.heap dd (.xd fs) := I.hok dd _ hd
      obtain ⟨mA, hns, _⟩ := hx
      obtain ⟨od, ho, _⟩ := lookIn_ns hns
      have J : PySem.W.InstAt s.heap p.1 p.2 D (some od) := ⟨hget, T.cls, by unfold PySem.W.notCls; rw [hv], by rw [T.dict]; exact ho⟩
      refine PySem.W.kia_one (PySem.W.kitx_exc (od := some od) ?_ C.hg C.hk C.hs C.ha C.hn C.ht C.hm) I.kIn J e (fun z => nomatch z) fun tk => ⟨.bl b, H, I.kept (t' := tk) fun _ _ z => z, rfl, q⟩
      obtain ⟨cd, hc, _⟩ := PySem.W.any_some C.hd
      rw [hc]
      rfl
end Rc
/-! part RcX4 -/
/-! Own exceptions: made by their own __init__, which calls that of a class of their own. -/
namespace Rc
open PySem PySem.Spec PyProof.Rows L2 L2H HotX
/-! ### facts -/
def oexB (K : PySem.W.Frag) (C : Addr) : Bool := (match K.lookup C with
  | some ⟨.type "type", _, .cls cd, sl⟩ => (match cd.mro, sl.toList with
    | .ref C' :: bm, [_, _, _, _, some (.builtin n), _] => decide (C' = C) && (decide (n = "ValueError.__new__") && (!cd.hasDel && (cd.hasDict && PySem.HandSPX.refsVE bm)))
    | _, _ => false)
  | _ => false) && (decide (PySem.W.findIn K (.ref C) "__setattr__" = some (some (.builtin "object.__setattr__"))) && (decide (PySem.W.subIn K (.ref C) (.type "BaseException") = some true) && (decide (PySem.W.typeIn K (.ref C) = some (.type "type")) && PySem.W.keepIn K (.ref C))))
theorem oexB_ok {K : PySem.W.Frag} {C : Addr} (h : oexB K C = true) : OexC K C := by
  obtain ⟨h1, h⟩ := Bool.and_eq_true_iff.mp h
  obtain ⟨h2, h⟩ := Bool.and_eq_true_iff.mp h
  obtain ⟨h3, h⟩ := Bool.and_eq_true_iff.mp h
  obtain ⟨h4, h5⟩ := Bool.and_eq_true_iff.mp h
  refine ⟨?_, of_decide_eq_true h2, of_decide_eq_true h3, of_decide_eq_true h4, h5⟩
  split at h1
  · rename_i dd cd sl ho
    split at h1
    · rename_i C' bm k0 k1 k2 k3 n k5 hm hs
      simp only [Bool.and_eq_true, decide_eq_true_eq, Bool.not_eq_true'] at h1
      obtain ⟨rfl, rfl, hdel, hdict, ht⟩ := h1
      obtain ⟨nm, bs, mro, ns, qn, hd, sn, sub, ab, col, del⟩ := cd
      dsimp only at hm hdel hdict
      subst hm hdel hdict
      have hsl : sl = #[k0, k1, k2, k3, some (.builtin "ValueError.__new__"), k5] := by
        obtain ⟨l⟩ := sl
        dsimp only at hs
        rw [hs]
      subst hsl
      exact ⟨nm, qn, ns, bs, bm, sn, sub, ab, col, dd, k0, k1, k2, k3, k5, ho, ht⟩
    · cases h1
  · cases h1
/-- R.__init__ of a class R of one's own that has none -/
structure IniC (K : PySem.W.Frag) (R : Addr) : Prop where
  ga : PySem.W.specialIn K (.ref R) "__getattribute__" = some (some (.builtin "type.__getattribute__"))
  rd : PySem.W.readsIn K R (.type "type") = true
  it : PySem.W.findCls K (.ref R) (.type "type") "__init__" = some (.val (.builtin "ValueError.__init__"))
def iniB (K : PySem.W.Frag) (R : Addr) : Bool := decide (PySem.W.specialIn K (.ref R) "__getattribute__" = some (some (.builtin "type.__getattribute__"))) && (PySem.W.readsIn K R (.type "type") && (match PySem.W.findCls K (.ref R) (.type "type") "__init__" with
  | some (.val (.builtin n)) => decide (n = "ValueError.__init__")
  | _ => false))
theorem iniB_ok {K : PySem.W.Frag} {R : Addr} (h : iniB K R = true) : IniC K R := by
  obtain ⟨h1, h⟩ := Bool.and_eq_true_iff.mp h
  obtain ⟨h2, h3⟩ := Bool.and_eq_true_iff.mp h
  refine ⟨of_decide_eq_true h1, h2, ?_⟩
  split at h3
  · rename_i n e
    rw [e, of_decide_eq_true h3]
  · cases h3
section
variable {X : Cx} {x : Str} {o e : Expr} {es : List Expr} {te : TE} {ta : TA} {p p1 p2 pos : Pos}
/-- R.__init__(self, ..) -/
theorem pe_rinit {R : Addr} {pl : Sem Bool} (C : IniC X.K R) (hg : Gl X x) (hm : X.mg x = some (.ref R)) (ha : PA X (e :: es) ta) (hdb : (x == ("__debug__" : Str)) = false := by decide)
    (hc : eval (.Call (.Attribute (.Name x p1) "__init__" p2) (e :: es) [] pos) X.env = (do
      let ov ← eval (.Name x p1) X.env
      standAt p2.atName
      let (f, first) ← holding [ov] (getMethod ov "__init__" pl)
      callWith pos f first (backTo pos (starEach (e :: es) X.env)) (backToKw pos (keywordEach [] X.env))) := by rfl)
    (he : starEach (e :: es) X.env = (false, eval e X.env) :: starEach es X.env := by rfl) (hpl : (backTo pos (starEach es X.env)).any (·.1) = false := by rfl) :
    PE X (.Call (.Attribute (.Name x p1) "__init__" p2) (e :: es) [] pos) (tVeI X.K ta) := by
  refine ⟨fun pins s σ H Q I h => PySem.W.methodCall_KW (ld_glob I hg hm ?_ hdb) hc⟩
  refine PySem.W.method_cls I.kIn C.ga (PySem.W.cls_value I.kIn C.rd C.it (by decide +kernel) ?_)
  show wpAny _ _ (callWith pos (Value.builtin "ValueError.__init__") [] (backTo pos (starEach (e :: es) X.env)) []) _ _ _
  refine PyProof.Rows.callWith_method1 (thn (ha.run pos pins _ σ H _ (I.tok _) h) fun us s1 ⟨vs, H1, I1, r1, z⟩ => ?_) he hpl
  obtain ⟨a, D, ws, ev, hl, T, ea, q⟩ := z
  subst ev
  cases r1 with
  | @cons _ u0 _ ur ra rw' =>
    obtain rfl : u0 = Value.ref a := ra
    exact oinit_ok T I1 ea (by rw [← Paired.length rw', sizeLine_eq]; omega) fun s' J => ⟨.non, H1, J, rfl, q⟩
end
end Rc
/-! part RcX5 -/
namespace Rc
open PySem PySem.Spec PyProof.Rows L2 L2H HotX
section
variable {X : Cx} {x : Str} {e : Expr} {es : List Expr} {ta : TA} {p pos : Pos} {C fI : Addr} {k : Nat} {fd : FuncData} {ps : List Str} {sp : Sp}
/-- C(e, ..), an exception with an __init__ of its own; its context is None -/
theorem mk_excN (T : OexC X.K C) (iC : PySem.W.findIn X.K (.ref C) "__init__" = some (some (.ref fI))) (tI : PySem.W.typeIn X.K (.ref fI) = some (.type "function")) (F1 : FnOk X.prog X.w X.K X.mg X.base CX0 k fI fd ps sp) (hr : Room (k + 1) X.A)
    (hb : Binds X.K fd ps []) (hg : Gl X x) (hm : X.mg x = some (.ref C)) (ha : PA X (e :: es) ta) (hdb : (x == ("__debug__" : Str)) = false := by decide)
    (he : starEach (e :: es) X.env = (false, eval e X.env) :: starEach es X.env := by rfl) (hpl : (backTo pos (starEach es X.env)).any (·.1) = false := by rfl) : L2N.PMk X (.Call (.Name x p) (e :: es) [] pos) (tMkO C sp [] ta) := by
  intro pins s σ H Q I h
  obtain ⟨nm, q, N, bs, bm, sn, sub, ab, col, dd, k0, k1, k2, k3, k5, hC, hbm⟩ := T.cls
  refine wpAny_Call_Name_kw (ld_glob I hg hm ?_ hdb)
  refine PySem.W.callWith_K (h₀ := X.base) I.ok.mod.kin T.kC (thn (ha.run pos pins s σ H _ I h) fun us s1 ⟨vs, H1, I1, r1, hz, z⟩ => ⟨I1.kIn, ?_⟩) he hpl
  show wpAny _ _ (call (.ref C) us) _ _ _
  obtain ⟨hp, g, dr, tk, os⟩ := s1
  generalize ha1 : hp.objs.size + 1 = a1
  have le1 : hp.objs.size ≤ a1 := by omega
  have q1 := z a1 (I1.hok.fresh le1)
  rw [List.append_nil] at q1
  have kk : ∀ b o, hp.get? b = some o → ((hp.push (PySem.W.kdv_tup us)).push (PySem.HandSPX.excO C hp.objs.size)).get? b = some o := fun b o y => Heap.get?_push_of_some _ (Heap.get?_push_of_some _ y)
  have at1 : ((hp.push (PySem.W.kdv_tup us)).push (PySem.HandSPX.excO C hp.objs.size)).get? a1 = some (PySem.HandSPX.excO C hp.objs.size) := by
    rw [← ha1]
    heap_get
  have I2 : Inv X pins σ (upd H1 a1 (exo a1 C none)) ⟨(hp.push (PySem.W.kdv_tup us)).push (PySem.HandSPX.excO C hp.objs.size), g, dr, tk, os⟩ := I1.laid (t' := tk) (a := a1) (o := exo a1 C none) (h' := (hp.push (PySem.W.kdv_tup us)).push (PySem.HandSPX.excO C hp.objs.size)) kk le1 (exo_ok at1)
  have r2 : Vals (V.ref a1 :: vs) (Value.ref a1 :: us) := .cons rfl r1
  have hl : (Value.ref a1 :: us).length = ps.length := by rw [← r2.length]; exact F1.len _ _ _ _ q1
  have b2 := hb _ (Value.ref a1 :: us) I2.kIn (by rw [List.append_nil]; exact hl)
  rw [List.append_nil] at b2
  have hus : us.length ≤ sizeLine := by
    have := Paired.length r1
    rw [sizeLine_eq]
    omega
  refine wpAny_call (PySem.HandSPX.call_own F.excBase_ValueError (fun Y => PySem.HandSPX.refsVE_contains Y bm hbm) (I1.kIn _ _ hC) (PySem.W.looks_findIn I1.kIn iC) (fun self => PySem.W.bind_fn I1.kIn self tI) hus ?_)
  rw [ha1]
  refine codeAny_mono (F1.run _ X.stack _ _ ⟨Value.ref a1 :: us, []⟩ (Value.ref a1 :: us) _ _ (fun _ _ _ => False) (hr.make C us []) (I2.env0.make C us []) b2 r2 q1) fun r s' hq => ?_
  cases r with
  | error er => exact False.elim hq
  | ok fl =>
    cases fl with
    | ret u =>
      obtain ⟨v, H2, os2, bare2, un2, hok2, rv, ev, d, fs, ea, ed, hd1, q2⟩ := hq
      subst ev
      obtain ⟨h2, g2, d2, t2, os'⟩ := s'
      obtain ⟨t0, Gh, J, kG, ge, hoe, na⟩ := mk_end0 (d2 := d2) (t2 := t2) I1 le1 kk un2 hok2 os2 bare2 ea ed hd1
      exact ⟨rv, a1, _, _, ⟨Gh, g2, d2, t2, os'⟩, _, .ref C, some d, rfl, J, kG, ge, hoe, ⟨rfl, rfl, fun vs hv => by cases hv; rfl⟩, rfl, rfl, na, rfl, bare2, raises_own T.exC T.tyC, q2⟩
    | next => exact False.elim hq
    | brk => exact False.elim hq
    | cont => exact False.elim hq
/-- C(e, ..), an instance; what is wanted of an exception may depend on the slots -/
def tMakeS (C : Addr) (sp : Sp) (E : L2.St → XK) (t : TA) : TE := fun σ H Q => t σ H fun vs H1 => ∀ x dx, H1 x = none → H1 dx = none → dx ≠ x →
  sp (.ref x :: vs) (upd (upd H1 dx (.own x)) x (.ins C dx [])) (fun v H2 => v = .non ∧ Q (.ref x) H2) (E σ)
theorem pe_makeS {CX : CXT} {E : L2.St → XK} (M : Mk X.K C fI) (F : FnOk X.prog X.w X.K X.mg X.base CX k fI fd ps sp) (hr : Room (k + 1) X.A) (hg : Gl X x) (hm : X.mg x = some (.ref C)) (hb : Binds X.K fd ps []) (hx : ∀ σ, PassesAt CX X σ (E σ)) (ha : PA X (e :: es) ta)
    (hdb : (x == ("__debug__" : Str)) = false := by decide) (he : starEach (e :: es) X.env = (false, eval e X.env) :: starEach es X.env := by rfl) (hpl : (backTo pos (starEach es X.env)).any (·.1) = false := by rfl) :
    PE X (.Call (.Name x p) (e :: es) [] pos) (tMakeS C sp E ta) := by
  refine ⟨fun pins s σ H Q I h => wpAny_Call_Name_kw (ld_glob I hg hm ?_ hdb)⟩
  refine PySem.W.callWith_K (h₀ := X.base) I.ok.mod.kin M.kp (thn (ha.run pos pins s σ H _ I h) fun us s1 ⟨vs, H1, I1, r, z⟩ => ⟨I1.kIn, ?_⟩) he hpl
  show wpAny _ _ (call (.ref C) us) _ _ _
  have lt1 : s1.heap.objs.size ≠ s1.heap.objs.size + 1 := Nat.ne_of_lt (Nat.lt_succ_self _)
  have q1 := z (s1.heap.objs.size + 1) s1.heap.objs.size (I1.hok.fresh (Nat.le_succ _)) (I1.hok.fresh (Nat.le_refl _)) lt1
  have I2 := Inv.made (C := C) I1
  have r2 : Vals (V.ref (s1.heap.objs.size + 1) :: vs) (Value.ref (s1.heap.objs.size + 1) :: us) := .cons rfl r
  have hl : (Value.ref (s1.heap.objs.size + 1) :: us).length = ps.length := by rw [← r2.length]; exact F.len _ _ _ _ q1
  have b2 := hb _ (Value.ref (s1.heap.objs.size + 1) :: us) I2.kIn (by rw [List.append_nil]; exact hl)
  rw [List.append_nil] at b2
  refine wpAny_call (make_map (f := fI) I1.kIn M.makes M.init (beq_iff_eq.mp M.fn) (codeAny_mono (F.run _ X.stack _ _ ⟨Value.ref (s1.heap.objs.size + 1) :: us, []⟩ (Value.ref (s1.heap.objs.size + 1) :: us) _ _ (E σ) (hr.make C us []) (I2.env0.make C us []) b2 r2 q1) fun r s' hq => ?_))
  cases r with
  | error er => exact hx σ pins _ _ er s' I2 hq
  | ok fl =>
    cases fl with
    | ret u =>
      obtain ⟨v, H', I3, rv, ev, q3⟩ := I2.after hq
      subst ev
      exact ⟨rv, V.ref (s1.heap.objs.size + 1), H', I3, rfl, q3⟩
    | next => exact hq.elim
    | brk => exact hq.elim
    | cont => exact hq.elim
end
end Rc
/-! part RcX6 -/
/-! Defs that let something out; what is told of an exception with a dict of its own or without one. -/
namespace Rc
open PySem PySem.Spec PyProof.Rows L2 L2H HotX
theorem Fun.okN {P : Program} {w : World} {K : PySem.W.Frag} {mg : Str → Option Value} {base : Heap} {x qual : Str} {st : Stmt} {f : Addr} {fd : FuncData} {N ps : List Str} {k : Nat} {sp : Sp} (F : Fun K x qual st f fd) (S : FnScope N ps (defScope st)) (len : ∀ vs H Q E, sp vs H Q E → vs.length = ps.length)
    (body : ∀ (cdv : Value) (A : Around) (out : List Env) (s : Shared) (H : Hp) (vs : List V) (Q : VK) (E : XK), Room k (A.deeper (envOfC qual (defScope st) s.heap.objs.size f cdv)) → sp vs H Q E →
      L2N.Takes (cxOf (L2N.CX P w) P w K mg base N qual (defScope st) f cdv A out s H E) (fun cls d _ H' => E cls d H') →
      ∃ t, PSs (cxOf (L2N.CX P w) P w K mg base N qual (defScope st) f cdv A out s H E) (defBody st) t ∧ t { nx := fun _ H' => Q .non H', rt := Q } (start N vs) H) : FnOk P w K mg base (L2N.CX P w) (k + 1) f fd ps sp := by
  obtain ⟨oc, od, kV, doc, pm, an, cdv, ct, osl, rfl, lk, hcd⟩ := F.ex
  exact fn_of lk hcd S len fun A out s H vs Q E hr hsp => body cdv A out s H vs Q E hr hsp (L2N.takes_of rfl rfl rfl rfl)
/-- the def x keeps the promise sp, and lets out what sp says -/
def HasN (P : Program) (w : World) (K : PySem.W.Frag) (mg : Str → Option Value) (base : Heap) (x : Str) (ps : List Str) (k : Nat) (sp : Sp) : Prop :=
  ∃ (f : Addr) (fd : FuncData), mg x = some (.ref f) ∧ PySem.W.keepIn K (.ref f) = true ∧ Binds K fd ps [] ∧ FnOk P w K mg base (L2N.CX P w) k f fd ps sp
def HasCN (P : Program) (w : World) (K : PySem.W.Frag) (mg : Str → Option Value) (base : Heap) (C : Addr) (ps : List Str) (k : Nat) (sp : Sp) : Prop :=
  ∃ (f : Addr) (fd : FuncData), Mk K C f ∧ Binds K fd ps [] ∧ FnOk P w K mg base (L2N.CX P w) k f fd ps sp
/-- .. while an exception is handled -/
def HasG (P : Program) (w : World) (K : PySem.W.Frag) (mg : Str → Option Value) (base : Heap) (x : Str) (ps : List Str) (k : Nat) (G : Addr × Obj → Prop) (sp : Addr → Sp) : Prop :=
  ∃ (f : Addr) (fd : FuncData), mg x = some (.ref f) ∧ PySem.W.keepIn K (.ref f) = true ∧ Binds K fd ps [] ∧ FnG P w K mg base k f fd ps G sp
theorem takes0N {X : Cx} : L2N.Takes X (fun _ _ _ _ => False) := fun _ _ x => by
  obtain ⟨_, _, _, _, _, _, _, _, _, _, _, _, _, _, _, _, z⟩ := x
  exact z.elim
theorem pss_ex {α : Type} {X : Cx} {ss : List Stmt} {p : α → Prop} {t : α → TS} (h : ∀ dd, p dd → PSs X ss (t dd)) : PSs X ss (fun D σ H => ∃ dd, p dd ∧ t dd D σ H) := ⟨fun pins s σ H D I ⟨dd, hp, q⟩ => (h dd hp).run pins s σ H D I q⟩
theorem pe_callP {X : Cx} {k : Nat} {f a : Addr} {oe : Obj} {fd : FuncData} {ps : List Str} {x : Str} {q pos : Pos} {e : Expr} {es : List Expr} {ta : TA} {G : Addr × Obj → Prop} {sp : Addr → Sp} {E : XK} (F : FnG X.prog X.w X.K X.mg X.base k f fd ps G sp) (hr : RoomH k X.A)
    (hot : Hot1 X.A (a, oe)) (hp : (a, oe) ∈ X.pn) (hG : G (a, oe)) (hg : Gl X x) (hm : X.mg x = some (.ref f)) (hk : PySem.W.keepIn X.K (.ref f) = true) (hb : Binds X.K fd ps []) (ha : PA X (e :: es) ta) (hdb : (x == ("__debug__" : Str)) = false := by decide)
    (he : starEach (e :: es) X.env = (false, eval e X.env) :: starEach es X.env := by rfl) (hpl : (backTo pos (starEach es X.env)).any (·.1) = false := by rfl) : PE X (.Call (.Name x q) (e :: es) [] pos) (tCall (sp a) [] E ta) :=
  pe_callG (p := (a, oe)) F hr hot hp hG hg hm hk hb ha hdb he hpl
section
variable {X : Cx}
/-- C(e), an exception of a class of one's own without __init__ -/
theorem mk_own1N {C : Addr} {bmB : List Value} {B newId initId : String} {x : Str} {e : Expr} {ta : TE} {p pos : Pos} (F : ExcBaseFacts B newId initId bmB) (q : PySem.W.excIn X.K C bmB newId = true) (gC : X.mg x = some (.ref C)) (kC : PySem.W.keepIn X.K (.ref C) = true) (r : Raises X (.ref C)) (hg : Gl X x)
    (he : PE X e ta) (hs : starEach [e] X.env = (false, eval e X.env) :: starEach [] X.env := by rfl) (hdb : (x == ("__debug__" : Str)) = false := by decide) :
    L2N.PMk X (.Call (.Name x p) [e] [] pos) (fun σ H Q => ta σ H fun _ H1 => Q (.ref C) none H1) := by
  intro pins s σ H Q I h
  refine wpAny_Call_Name_kw (ld_glob I hg gC ?_ hdb)
  refine PySem.W.callWith_K (h₀ := X.base) I.ok.mod.kin kC ?_ hs (by rfl)
  rw [hs]
  show wpAny _ _ (spliced ((false, eval e X.env) :: backTo pos (starEach [] X.env))) _ _ s
  refine Calls.spliced_cons (thn (he.run pins s σ H _ I h) fun u s1 ⟨v, H1, I1, r1, q1⟩ => ?_)
  refine Calls.spliced_nil ⟨I1.kIn, ?_⟩
  show wpAny _ _ (call (.ref C) [u]) _ _ _
  obtain ⟨bm, N, nm, qn, bs, hdct, sn, sub, ab, col, dd, k0, k1, k2, k3, k5, mN, hC, hN, hni, T⟩ := exc_obj I1.kIn q
  refine wpAny_call_exc_subT F T hC hN hni (fun h' e hm => ?_) (by show 1 ≤ sizeLine; rw [sizeLine_eq]; omega)
  exact L2N.mk_of I1 hm r q1 (I1.hok.gone hm.new)
end
/-! ### isinstance -/
structure IsQ (p : Addr × Obj) (D : Addr) (od : Option Addr) : Prop where
  cls : p.2.cls = .ref D
  dict : p.2.dict = od
  data : ∃ vs, p.2.data = .fields vs
def rIsQ (K : PySem.W.Frag) (D a : Addr) (od : Option Addr) : List V → Hp → VK → Prop := fun xs H Q => ∃ (c : V) (cv : Value) (b : Bool), xs = [.ref a, c] ∧ (∀ u, RelV c u → u = cv) ∧ PySem.W.kitOne K (.ref D) cv = some b ∧ (∀ dd, od = some dd → ∃ fs, H dd = some (.xd fs)) ∧ Q (.bl b) H
theorem call_isQ {X : Cx} {D : Addr} {od : Option Addr} {p : Addr × Obj} (C : ExcC X.K D) (hp : p ∈ X.pn) (T : IsQ p D od) : CallR X (.builtin "isinstance") (rIsQ X.K D p.1 od) := by
  intro pins s σ H xs us Q I r h
  obtain ⟨c, cv, b, rfl, hcv, e, hd, q⟩ := h
  cases r with
  | cons rx rr =>
    cases rr with
    | cons rt rr =>
      cases rr
      cases rx
      have ec := hcv _ rt
      subst ec
      obtain ⟨hget, _⟩ := I.pin p (List.mem_append_left _ hp)
      obtain ⟨vs, hv⟩ := T.data
      have J : ∃ od', PySem.W.InstAt s.heap p.1 p.2 D od' := by
        cases od with
        | none => exact ⟨none, hget, T.cls, by unfold PySem.W.notCls; rw [hv], by rw [T.dict]; trivial⟩
        | some dd =>
          obtain ⟨fs, hd⟩ := hd dd rfl
          have hx : ObjOk X.prog X.w H s.heap dd (.xd fs) := I.hok dd _ hd
          obtain ⟨mA, hns, _⟩ := hx
          obtain ⟨od, ho, _⟩ := lookIn_ns hns
          exact ⟨some od, hget, T.cls, by unfold PySem.W.notCls; rw [hv], by rw [T.dict]; exact ho⟩
      obtain ⟨od', J⟩ := J
      refine PySem.W.kia_one (PySem.W.kitx_exc (od := od') ?_ C.hg C.hk C.hs C.ha C.hn C.ht C.hm) I.kIn J e (fun z => nomatch z) fun tk => ⟨.bl b, H, I.kept (t' := tk) fun _ _ z => z, rfl, q⟩
      obtain ⟨cd, hc, _⟩ := PySem.W.any_some C.hd
      rw [hc]
      rfl
end Rc
/-! part RcD1 -/
namespace Rc
open PySem PySem.Spec PyProof.Rows L2
/-! ### the dice -/
/-- the dice's list: the script at a, how many were taken, the mixed number, the digits left -/
def dl (a : Addr) (i x c : Int) : List V := [.ref a, .int i, .int x, .int c]
structure DOk (i x : Int) : Prop where
  i0 : 0 ≤ i
  x0 : 0 ≤ x
  x1 : x < 2147483647
/-- the dice stands at d, beside the part Hb, in which its script is -/
structure Dice (K : PySem.W.Frag) (H Hb : Hp) (d : Addr) : Prop where
  sub : Same Hb H
  dn : Hb d = none
  dd : ∃ (a : Addr) (ns : List Int) (i x c : Int), H d = some (.lst (dl a i x c)) ∧ DOk i x ∧ SqL K Hb a (ns.map V.int)
structure Txt0 (mg : Str → Option Value) : Prop where
  len : mg "len" = none
  int : mg "int" = none
  range : mg "range" = none
def spDice (K : PySem.W.Frag) : Sp := fun vs H Q _ => ∃ (a : Addr) (ns : List Int), vs = [.ref a] ∧ SqL K H a (ns.map V.int) ∧
  ∀ H' d, Dice K H' H d → Q (.ref d) H'
def spNext (K : PySem.W.Frag) : Sp := fun vs H Q _ => ∃ (Hb : Hp) (d : Addr) (n : Int), vs = [.ref d, .int n] ∧ Dice K H Hb d ∧ 0 < n ∧ n < 2 ^ 62 ∧
  ∀ H' r, Sub (at1 d) H Hb H' Hb → Dice K H' Hb d → 0 ≤ r → r < n → Q (.int r) H'
section
variable {P : Program} {w : World} {K : PySem.W.Frag} {mg : Str → Option Value} {base : Heap}
theorem nz : (2147483647 : Int) ≠ 0 := by decide
theorem mod_lt {x n : Int} (h : 0 < n) : 0 ≤ x.fmod n ∧ x.fmod n < n := by
  rw [Int.fmod_eq_emod_of_nonneg x (Int.le_of_lt h)]
  exact ⟨Int.emod_nonneg _ (by omega), Int.emod_lt_of_pos _ h⟩
theorem ok_dice {f : Addr} {fd : FuncData} {k : Nat} (F : Fun K "_law_dice" "_law_dice" s_dice f fd) (T : Txt0 mg) : FnOk P w K mg base CX0 (k + 1) f fd ["_law_script"] (spDice K) := by
  refine F.ok sc_dice (fun vs H Q E h => ?_) (fun cdv A outer s H vs Q E hr h => ?_)
  · obtain ⟨a, ns, rfl, _⟩ := h
    rfl
  · obtain ⟨a, ns, rfl, hS, q⟩ := h
    refine ⟨_, pss_cons (ps_set (i := 1) sc_dice.nd rfl (Or.inl rfl) pe_int)
      (pss_cons (ps_for PassesOwn.never rfl (pi_list (pv 0)) (pg_name (i := 2) sc_dice.nd rfl (Or.inl rfl))
        (pss_one (ps_set (i := 1) sc_dice.nd rfl (Or.inl rfl) (pe_op op_modN (pe_op op_add (pe_op op_add (pe_op op_mul (pv 1) pe_int) (pe_op op_mul (pe_op op_modN (pv 2) pe_int) pe_int)) pe_int) pe_int))))
      (pss_one (ps_ret (pe_lst (pa_cons (pv 0) (pa_cons pe_int (pa_cons (pe_op op_mul (pv 1) (pe_callTy call_int1 (by rfl) T.int (by decide +kernel) (pa_cons (pe_cmpR op_gt (pe_callB call_len_seq (by rfl) T.len PySem.boot_len (pa_cons (pv 0) pa_nil)) pe_int (nomark _)) pa_nil))) (pa_cons pe_int pa_nil)))))))), ?_⟩
    refine ⟨_, rfl, a, rfl, ⟨_, hS⟩, for_list (K := K) (a := a) (xs := ns.map V.int) (fun i σ H' => H' = H ∧ ∃ (x : Int) (v : Option V), σ = [some (.ref a), some (.int x), v] ∧ 0 ≤ x ∧ x < 2147483647)
      ⟨rfl, 0, none, rfl, by decide, by decide⟩ (fun i σ H' _ ⟨e, _⟩ => e ▸ hS) ?_ ?_⟩
    · rintro i y σ H' hi ⟨rfl, x, v, rfl, h0, h1⟩
      obtain ⟨u, rfl⟩ : ∃ u, y = V.int u := by
        rw [List.getElem?_map] at hi
        cases e : ns[i]? with
        | none => rw [e] at hi; cases hi
        | some u => rw [e] at hi; exact ⟨u, (Option.some.inj hi).symm⟩
      refine ⟨_, rfl, _, _, rfl, rfl, .inr ⟨by decide, by decide⟩, _, rfl, _, _, rfl, rfl, nz, _, _, rfl, rfl, .inr ⟨by decide, by decide⟩, _, _, rfl, rfl, _, _, rfl, rfl, _, _, rfl, rfl, nz, ?_⟩
      exact ⟨rfl, _, _, rfl, (mod_lt (by decide)).1, (mod_lt (by decide)).2⟩
    · rintro σ H' ⟨rfl, x, v, rfl, h0, h1⟩
      refine ⟨_, rfl, _, rfl, _, rfl, a, _, rfl, .inl hS, _, _, rfl, rfl, .inr ⟨_, rfl, _, _, rfl, rfl, .inl ⟨by omega, by omega⟩, ?_⟩⟩
      refine ⟨(by show 4 ≤ sizeLine; decide), fun d hd => ?_⟩
      refine q _ d ⟨same_new hd, hd, a, ns, 0, _, 0, upd_same, ⟨by omega, ?_, ?_⟩, hS⟩
      · split
        · omega
        · omega
      · split
        · omega
        · omega
theorem sqL_of {H : Hp} {a : Addr} {xs : List V} (h : H a = some (.lst xs)) : SqL K H a xs := SqL.of h
theorem wdiv {i j : Int} (h : 0 < j) (hb : j < 2 ^ 62) : CDivW i j := wide_div (b := 62) h (by omega) (by decide) (by decide)
theorem ok_next {f : Addr} {fd : FuncData} {k : Nat} (F : Fun K "_law_next" "_law_next" s_next f fd) (T : Txt0 mg) : FnOk P w K mg base CX0 (k + 1) f fd ["_law_dice_here", "_law_many"] (spNext K) := by
  refine F.ok sc_next (fun vs H Q E h => ?_) (fun cdv A outer s H vs Q E hr h => ?_)
  · obtain ⟨Hb, d, n, rfl, _⟩ := h
    rfl
  · obtain ⟨Hb, d, n, rfl, ⟨sub, dn, a, ns, i, x, c, hd, ok, hs⟩, n0, n1, q⟩ := h
    have hS : SqL K H a (ns.map V.int) := sub.seq hs
    refine ⟨_, (pss_cons (ps_if (pt_cmpR op_gt (pe_ix ix_list (pv 0) pe_int (fun _ _ => rfl)) pe_int (nomark _))
   (pss_cons (ps_set (i := 2) sc_next.nd rfl (Or.inl rfl) (pe_op op_modN (pe_ix ix_list (pv 0) pe_int (fun _ _ => rfl)) (pv 1)))
  (pss_cons (ps_asg (pe_op op_fdivW (pe_ix ix_list (pv 0) pe_int (fun _ _ => rfl)) (pv 1)) (pg_sub (pv 0) pe_int set_list))
  (pss_one (ps_ret (pv 2)))))
   pss_nil)
  (pss_cons (ps_asg (pe_op op_add (pe_ix ix_list (pv 0) pe_int (fun _ _ => rfl)) pe_int) (pg_sub (pv 0) pe_int set_list))
  (pss_cons (ps_if (pt_cmpR op_le (pe_ix ix_list (pv 0) pe_int (fun _ _ => rfl)) (pe_callB call_len_seq (by rfl) T.len PySem.boot_len (pa_cons (pe_ix ix_list (pv 0) pe_int (fun _ _ => rfl)) pa_nil)) (nomark _))
   (pss_cons (ps_set (i := 3) sc_next.nd rfl (Or.inl rfl) (pe_ix ix_list (pe_ix ix_list (pv 0) pe_int (fun _ _ => rfl)) (pe_op op_sub (pe_ix ix_list (pv 0) pe_int (fun _ _ => rfl)) pe_int) (fun _ _ => rfl)))
  (pss_cons (ps_asg (pe_ifExp (pt_cmpR op_ge (pv 3) (pe_op op_pow pe_int pe_int) (nomark _)) (pe_op op_fdivW (pv 3) (pv 1)) pe_int) (pg_sub (pv 0) pe_int set_list))
  (pss_one (ps_ret (pe_op op_modN (pv 3) (pv 1))))))
   pss_nil)
  (pss_cons (ps_asg (pe_op op_modN (pe_op op_mul (pe_ix ix_list (pv 0) pe_int (fun _ _ => rfl)) pe_int) pe_int) (pg_sub (pv 0) pe_int set_list))
  (pss_one (ps_ret (pe_op op_modN (pe_op op_fdivW (pe_ix ix_list (pv 0) pe_int (fun _ _ => rfl)) pe_int) (pv 1)))))))), ?_⟩
    have step : ∀ i' x' c', DOk i' x' → ∀ r : Int, 0 ≤ r → r < n → Q (.int r) (upd H d (.lst (dl a i' x' c'))) := fun i' x' c' ok' r r0 r1 =>
      q _ r (Sub.put (.refl sub) (.inr rfl) dn) ⟨same_mut sub dn, dn, a, ns, i', x', c', upd_same, ok', hs⟩ r0 r1
    refine ⟨_, rfl, _, _, _, _, rfl, rfl, .of hd, atI_nat (j := 3) rfl, _, _, rfl, rfl, _, rfl, ite2 (fun c1 => ?_) (fun c1 => ?_)⟩
    · refine ⟨_, rfl, _, _, _, _, rfl, rfl, .of hd, atI_nat (j := 3) rfl, _, rfl, _, _, rfl, rfl, by omega, ?_⟩
      refine ⟨_, rfl, _, _, _, _, rfl, rfl, .of hd, atI_nat (j := 3) rfl, _, rfl, _, _, rfl, rfl, wdiv n0 n1, _, rfl, d, _, 3, 3, rfl, rfl, hd, rfl, ?_⟩
      exact ⟨_, rfl, step i x _ ok _ (mod_lt n0).1 (mod_lt n0).2⟩
    · refine ⟨_, rfl, _, _, _, _, rfl, rfl, .of hd, atI_nat (j := 1) rfl, _, _, rfl, rfl, _, rfl, d, _, 1, 1, rfl, rfl, hd, rfl, ?_⟩
      obtain ⟨i0, x0, x1⟩ := ok
      refine ⟨_, rfl, _, _, _, _, rfl, rfl, .of upd_same, atI_nat (j := 1) rfl, _, rfl, _, _, _, _, rfl, rfl, .of upd_same, atI_nat (j := 0) rfl, _, _, rfl, .inl ((same_mut sub dn).seq hs), _, _, rfl, rfl, _, rfl, ite2 (fun c2 => ?_) (fun c2 => ?_)⟩
      · have c2' := of_decide_eq_true c2
        rw [List.length_map] at c2'
        obtain ⟨j, rfl⟩ : ∃ j : Nat, i = (j : Int) := ⟨i.toNat, by omega⟩
        have hj : j < ns.length := by omega
        have hc : atI (ns.map V.int) ((j : Int) + 1 - 1) = some (.int ns[j]) := by
          rw [show (j : Int) + 1 - 1 = (j : Int) by omega]
          exact atI_nat (by rw [List.getElem?_map, List.getElem?_eq_getElem hj]; rfl)
        refine ⟨_, rfl, _, _, _, _, rfl, rfl, .of upd_same, atI_nat (j := 0) rfl, _, rfl, _, _, _, _, rfl, rfl, .of upd_same, atI_nat (j := 1) rfl, _, _, rfl, rfl, _, _, _, _, rfl, rfl, (same_mut sub dn).seq hs, hc, ?_⟩
        refine ⟨_, rfl, _, _, rfl, rfl, ⟨by decide, by decide, by decide⟩, _, _, rfl, rfl, _, rfl, ite2 (fun c3 => ?_) (fun c3 => ?_)⟩
        · refine ⟨_, rfl, _, rfl, _, _, rfl, rfl, wdiv n0 n1, _, rfl, d, _, 3, 3, rfl, rfl, upd_same, rfl, ?_⟩
          refine ⟨_, rfl, _, rfl, _, _, rfl, rfl, by omega, ?_⟩
          rw [upd_upd]
          exact step _ x _ ⟨by omega, x0, x1⟩ _ (mod_lt n0).1 (mod_lt n0).2
        · refine ⟨_, rfl, d, _, 3, 3, rfl, rfl, upd_same, rfl, ?_⟩
          refine ⟨_, rfl, _, rfl, _, _, rfl, rfl, by omega, ?_⟩
          rw [upd_upd]
          exact step _ x _ ⟨by omega, x0, x1⟩ _ (mod_lt n0).1 (mod_lt n0).2
      · refine ⟨_, rfl, _, _, _, _, rfl, rfl, .of upd_same, atI_nat (j := 2) rfl, _, _, rfl, rfl, .inr ⟨by decide, by decide⟩, _, _, rfl, rfl, nz, _, rfl, d, _, 2, 2, rfl, rfl, upd_same, rfl, ?_⟩
        refine ⟨_, rfl, _, _, _, _, rfl, rfl, .of upd_same, atI_nat (j := 2) rfl, _, _, rfl, rfl, wdiv (by decide) (by decide), _, rfl, _, _, rfl, rfl, by omega, ?_⟩
        rw [upd_upd]
        exact step _ _ _ ⟨by omega, (mod_lt (by decide)).1, (mod_lt (by decide)).2⟩ _ (mod_lt n0).1 (mod_lt n0).2
end
end Rc
/-! part RcD2 -/
namespace Rc
open PySem PySem.Spec PyProof.Rows L2
/-- a road -/
structure Row where
  b : Int
  g : Int
  c : Int
def Row.dat (r : Row) : PyData := .tuple [.int r.b, .int r.g, .int r.c]
structure Row.Ok (many : Int) (r : Row) : Prop where
  b0 : 0 ≤ r.b
  b1 : r.b < many
  g0 : 0 ≤ r.g
  g1 : r.g < many
  ne : r.b ≠ r.g
  c0 : 0 ≤ r.c
  c1 : r.c ≤ 1000000000
def rowsDat (rows : List Row) : PyData := .list (rows.map Row.dat)
def chartDat (many root : Int) (rows : List Row) : PyData := .tuple [.int many, .int root, rowsDat rows]
structure ChartOk (many root : Int) (rows : List Row) : Prop where
  m0 : 1 ≤ many
  m1 : many ≤ 20
  r0 : 0 ≤ root
  r1 : root < many
  len : rows.length ≤ 60
  rows : ∀ r ∈ rows, Row.Ok many r
theorem Dice.step {K : PySem.W.Frag} {m : Addr → Prop} {H Hb H' Hb' : Hp} {d : Addr} (D : Dice K H Hb d) (s : Sub m H Hb H' Hb') (hm : ¬ m d) : Dice K H' Hb' d := by
  obtain ⟨sub, dn, a, ns, i, x, c, hd, ok, hs⟩ := D
  exact ⟨s.sub, s.new d dn (hp_ne hd), a, ns, i, x, c, s.old d _ hm hd, ok, s.ext.seq hs⟩
theorem Dice.live {K : PySem.W.Frag} {H Hb : Hp} {d : Addr} (D : Dice K H Hb d) : H d ≠ none := by
  obtain ⟨sub, dn, a, ns, i, x, c, hd, ok, hs⟩ := D
  exact hp_ne hd
/-- a new part of the same heap, without the dice -/
theorem Dice.with {K : PySem.W.Frag} {H Hb Hb' : Hp} {d : Addr} (D : Dice K H Hb d) (e : Same Hb Hb') (s : Same Hb' H) (n : Hb' d = none) : Dice K H Hb' d := by
  obtain ⟨sub, dn, a, ns, i, x, c, hd, ok, hs⟩ := D
  exact ⟨s, n, a, ns, i, x, c, hd, ok, e.seq hs⟩
theorem Sub.dtrans {K : PySem.W.Frag} {H Hb H' Hb' H2 Hb2 : Hp} {d : Addr} (a : Sub (at1 d) H Hb H' Hb') (b : Sub (at1 d) H' Hb' H2 Hb2) (D : Dice K H' Hb' d) : Sub (at1 d) H Hb H2 Hb2 :=
  a.trans b fun x (e : x = d) _ => e ▸ D.live
def spCost (K : PySem.W.Frag) : Sp := fun vs H Q _ => ∃ (Hb : Hp) (d : Addr), vs = [.ref d] ∧ Dice K H Hb d ∧
  ∀ H' r, Sub (at1 d) H Hb H' Hb → Dice K H' Hb d → 0 ≤ r → r ≤ 1000000000 → Q (.int r) H'
def spMap (K : PySem.W.Frag) : Sp := fun vs H Q _ => ∃ (Hb : Hp) (d : Addr) (p r : Int), vs = [.ref d, .int p, .int r] ∧ Dice K H Hb d ∧ 1 ≤ p ∧ p ≤ 20 ∧ 0 ≤ r ∧ r ≤ 60 ∧
  ∀ H' Hb' v many root rows, Sub (at1 d) H Hb H' Hb' → Dice K H' Hb' d → Dp K Hb' v (chartDat many root rows) → ChartOk many root rows → many ≤ p → (rows.length : Int) ≤ r → Q v H'
/-- the def x keeps the promise sp -/
def Has (P : Program) (w : World) (K : PySem.W.Frag) (mg : Str → Option Value) (base : Heap) (x : Str) (ps : List Str) (k : Nat) (sp : Sp) : Prop :=
  ∃ (f : Addr) (fd : FuncData), mg x = some (.ref f) ∧ PySem.W.keepIn K (.ref f) = true ∧ Binds K fd ps [] ∧ FnOk P w K mg base CX0 k f fd ps sp
section
variable {P : Program} {w : World} {K : PySem.W.Frag} {mg : Str → Option Value} {base : Heap}
theorem ok_cost {f : Addr} {fd : FuncData} {k : Nat} (F : Fun K "_law_cost" "_law_cost" s_cost f fd) (T : Txt0 mg) (hN : Has P w K mg base "_law_next" ["_law_dice_here", "_law_many"] k (spNext K)) :
    FnOk P w K mg base CX0 (k + 1) f fd ["_law_d"] (spCost K) := by
  obtain ⟨fN, fdN, gN, kN, bN, GN⟩ := hN
  refine F.ok sc_cost (fun vs H Q E h => ?_) (fun cdv A outer s H vs Q E hr h => ?_)
  · obtain ⟨Hb, d, rfl, _⟩ := h
    rfl
  · obtain ⟨Hb, d, rfl, D, q⟩ := h
    refine ⟨_, (pss_cons (ps_set (i := 1) sc_cost.nd rfl (Or.inl rfl) (pe_call GN hr (by rfl) gN kN bN .nil pass0 (pa_cons (pv 0) (pa_cons pe_int pa_nil))))
  (pss_cons (ps_if (pt_cmpR op_lt (pv 1) pe_int (nomark _))
   (pss_one (ps_ret (pe_call GN hr (by rfl) gN kN bN .nil pass0 (pa_cons (pv 0) (pa_cons (pe_op op_add pe_int (pe_op op_mul pe_int (pv 1))) pa_nil)))))
   pss_nil)
  (pss_one (ps_ret (pe_call GN hr (by rfl) gN kN bN .nil pass0 (pa_cons (pv 0) (pa_cons (pe_ix ix_list (pe_lst (pa_cons pe_int (pa_cons (pe_op op_add (pe_op op_pow pe_int pe_int) pe_int) pa_nil))) (pe_op op_sub (pv 1) pe_int) (fun _ _ => rfl)) pa_nil))))))), ?_⟩
    refine ⟨_, rfl, Hb, d, 6, rfl, D, by decide, by decide, fun H1 r S1 D1 r0 r1 => ?_⟩
    refine ⟨_, rfl, _, _, rfl, rfl, _, rfl, ite2 (fun c => ?_) (fun c => ?_)⟩
    · have c' := of_decide_eq_true c
      refine ⟨_, rfl, _, rfl, _, _, rfl, rfl, .inl ⟨by decide, by decide⟩, _, _, rfl, rfl, Hb, d, _, rfl, D1, by omega, by omega, fun H2 r2 S2 D2 h0 h1 => ?_⟩
      exact q H2 r2 (S1.dtrans S2 D1) D2 h0 (by omega)
    · have c' : ¬ r < 4 := fun z => c (decide_eq_true z)
      refine ⟨_, rfl, _, _, rfl, rfl, ⟨by decide, by decide, by decide⟩, _, _, rfl, rfl, (by show 2 ≤ sizeLine; decide), fun l hl => ?_⟩
      have S2 : Sub (at1 d) H1 Hb (upd H1 l (.lst [.int 200, .int (10 ^ 9 + 1)])) Hb := .put (.refl D1.sub) (.inl hl) (D1.sub.free hl)
      have nld : d ≠ l := fun e => D1.live (e ▸ hl)
      have D2 : Dice K (upd H1 l (.lst [.int 200, .int (10 ^ 9 + 1)])) Hb d := by
        obtain ⟨sub, dn, a, ns, i, x, c, hd, ok, hs⟩ := D1
        exact ⟨S2.sub, dn, a, ns, i, x, c, by rw [upd_ne nld]; exact hd, ok, hs⟩
      have h45 : r = 4 ∨ r = 5 := by omega
      have fin : ∀ z : Int, (z = 200 ∨ z = 10 ^ 9 + 1) → spNext K [.ref d, .int z] (upd H1 l (.lst [.int 200, .int (10 ^ 9 + 1)])) Q E := fun z hz =>
        ⟨Hb, d, z, rfl, D2, by omega, by omega, fun H2 r2 S3 D3 h0 h1 => q H2 r2 ((S1.dtrans S2 D1).dtrans S3 D2) D3 h0 (by omega)⟩
      rcases h45 with rfl | rfl
      · exact ⟨_, rfl, _, _, rfl, rfl, _, _, _, _, rfl, rfl, .of upd_same, atI_nat (j := 0) rfl, fin _ (.inl rfl)⟩
      · exact ⟨_, rfl, _, _, rfl, rfl, _, _, _, _, rfl, rfl, .of upd_same, atI_nat (j := 1) rfl, fin _ (.inr rfl)⟩
end
end Rc
/-! part RcD3 -/
namespace Rc
open PySem PySem.Spec PyProof.Rows L2
theorem Sub.dlast {K : PySem.W.Frag} {H Hb H' Hb' H2 Hb2 : Hp} {d : Addr} (a : Sub (at1 d) H Hb H' Hb') (D : Dice K H' Hb' d) (b : Sub (at1 d) H' Hb' H2 Hb2) : Sub (at1 d) H Hb H2 Hb2 := a.dtrans b D
/-- the rows that are being collected: at l, made apart -/
structure Rows (K : PySem.W.Frag) (H Hb H' Hb' : Hp) (d l : Addr) (many : Int) (n : Nat) : Prop where
  sub : Sub (at1 d) H Hb H' Hb'
  dice : Dice K H' Hb' d
  new : H l = none
  apart : Hb' l = none
  ld : l ≠ d
  has : ∃ (vs : List V) (rows : List Row), H' l = some (.lst vs) ∧ DpAll K Hb' vs (rows.map Row.dat) ∧ (∀ r ∈ rows, Row.Ok many r) ∧ rows.length ≤ n
/-- a call with the dice keeps what is made apart -/
theorem Rows.call {K : PySem.W.Frag} {H Hb H' Hb' H2 : Hp} {d l : Addr} {many : Int} {n : Nat} (R : Rows K H Hb H' Hb' d l many n) (S : Sub (at1 d) H' Hb' H2 Hb') (D : Dice K H2 Hb' d) : Rows K H Hb H2 Hb' d l many n := by
  obtain ⟨sub, dice, new, ap, ld, vs, rows, hl, hd, hk, hn⟩ := R
  exact ⟨sub.dlast dice S, D, new, ap, ld, vs, rows, S.old l _ ld hl, hd, hk, hn⟩
theorem Dice.sub_up {K : PySem.W.Frag} {H Hb : Hp} {d t : Addr} {o : HO} (D : Dice K H Hb d) (ht : H t = none) : Dice K (upd H t o) (upd Hb t o) d := by
  obtain ⟨sub, dn, a, ns, i, x, c, hd, ok, hs⟩ := D
  have ne : d ≠ t := ne_of_none hd ht
  exact ⟨same_both sub ht, by rw [upd_ne ne]; exact dn, a, ns, i, x, c, by rw [upd_ne ne]; exact hd, ok, (same_new (sub.free ht)).seq hs⟩
theorem Dice.put_up {K : PySem.W.Frag} {H Hb : Hp} {d t : Addr} {o : HO} (D : Dice K H Hb d) (ht : Hb t = none) (ne : d ≠ t) : Dice K (upd H t o) Hb d := by
  obtain ⟨sub, dn, a, ns, i, x, c, hd, ok, hs⟩ := D
  exact ⟨same_mut sub ht, dn, a, ns, i, x, c, by rw [upd_ne ne]; exact hd, ok, hs⟩
theorem Rows.push {K : PySem.W.Frag} {H Hb H' Hb' : Hp} {d l t : Addr} {many : Int} {n : Nat} {r : Row} {vs : List V} (R : Rows K H Hb H' Hb' d l many n) (ht : H' t = none) (ok : Row.Ok many r) (hvs : H' l = some (.lst vs)) :
    Rows K H Hb (upd (upd H' t (.tup [.int r.b, .int r.g, .int r.c])) l (.lst (vs ++ [.ref t]))) (upd Hb' t (.tup [.int r.b, .int r.g, .int r.c])) d l many (n + 1) := by
  obtain ⟨sub, dice, new, ap, ld, vs', rows, hl, hd, hk, hn⟩ := R
  rw [hvs] at hl
  cases hl
  have nlt : l ≠ t := ne_of_none hvs ht
  have ndt : t ≠ d := fun e => dice.live (e ▸ ht)
  have hbt : Hb' t = none := sub.sub.free ht
  have D2 : Dice K (upd H' t (.tup [.int r.b, .int r.g, .int r.c])) (upd Hb' t (.tup [.int r.b, .int r.g, .int r.c])) d := dice.sub_up ht
  have ap2 : (upd Hb' t (.tup [.int r.b, .int r.g, .int r.c])) l = none := by rw [upd_ne nlt]; exact ap
  refine ⟨(sub.add ht ndt).put (.inl new) ap2, D2.put_up ap2 (Ne.symm ld), new, ap2, ld, _, rows ++ [r], upd_same, ?_, ?_, ?_⟩
  · rw [List.map_append]
    exact dpAll_app (dpAll_same (same_new hbt) _ _ hd) (dpAll_one (.tup (SqT.of upd_same) (.cons (.int _) (.cons (.int _) (.cons (.int _) .nil)))))
  · intro x hx
    rcases List.mem_append.mp hx with z | z
    · exact hk x z
    · rw [List.mem_singleton.mp z]
      exact ok
  · rw [List.length_append, List.length_singleton]
    omega
theorem neq {b g : Int} (h : (!decide (V.int b = V.int g)) = true) : b ≠ g := fun e => by
  subst e
  simp at h
theorem Rows.up {K : PySem.W.Frag} {H Hb H' Hb' : Hp} {d l : Addr} {many : Int} {n : Nat} (R : Rows K H Hb H' Hb' d l many n) : Rows K H Hb H' Hb' d l many (n + 1) := by
  obtain ⟨sub, dice, new, ap, ld, vs', rows, hl, hd, hk, hn⟩ := R
  exact ⟨sub, dice, new, ap, ld, vs', rows, hl, hd, hk, by omega⟩
section
variable {P : Program} {w : World} {K : PySem.W.Frag} {mg : Str → Option Value} {base : Heap}
theorem ok_map {f : Addr} {fd : FuncData} {k : Nat} (F : Fun K "_law_map" "_law_map" s_map f fd) (T : Txt0 mg) (hN : Has P w K mg base "_law_next" ["_law_dice_here", "_law_many"] k (spNext K)) (hC : Has P w K mg base "_law_cost" ["_law_d"] k (spCost K)) :
    FnOk P w K mg base CX0 (k + 1) f fd ["_law_d", "_law_places", "_law_roads"] (spMap K) := by
  obtain ⟨fN, fdN, gN, kN, bN, GN⟩ := hN
  obtain ⟨fC, fdC, gC, kC, bC, GC⟩ := hC
  refine F.ok sc_map (fun vs H Q E h => ?_) (fun cdv A outer s H vs Q E hr h => ?_)
  · obtain ⟨Hb, d, p, r, rfl, _⟩ := h
    rfl
  · obtain ⟨Hb, d, p, r, rfl, D, p0, p1, r0, r1, q⟩ := h
    refine ⟨_, (pss_cons (ps_set (i := 3) sc_map.nd rfl (Or.inl rfl) (pe_op op_add pe_int (pe_call GN hr (by rfl) gN kN bN .nil pass0 (pa_cons (pv 0) (pa_cons (pv 1) pa_nil)))))
  (pss_cons (ps_set (i := 4) sc_map.nd rfl (Or.inl rfl) (pe_call GN hr (by rfl) gN kN bN .nil pass0 (pa_cons (pv 0) (pa_cons (pv 3) pa_nil))))
  (pss_cons (ps_set (i := 5) sc_map.nd rfl (Or.inl rfl) (pe_lst pa_nil))
  (pss_cons (ps_if (pt_cmpR op_gt (pv 3) pe_int (nomark _))
   (pss_one (ps_for PassesOwn.never rfl (pi_range1 (by rfl) T.range (pa_cons (pe_call GN hr (by rfl) gN kN bN .nil pass0 (pa_cons (pv 0) (pa_cons (pe_op op_add (pv 2) pe_int) pa_nil))) pa_nil)) (pg_name (i := 6) sc_map.nd rfl (Or.inl rfl))
   (pss_cons (ps_set (i := 7) sc_map.nd rfl (Or.inl rfl) (pe_call GN hr (by rfl) gN kN bN .nil pass0 (pa_cons (pv 0) (pa_cons (pv 3) pa_nil))))
  (pss_cons (ps_set (i := 8) sc_map.nd rfl (Or.inl rfl) (pe_op op_modN (pe_op op_add (pe_op op_add (pv 7) pe_int) (pe_call GN hr (by rfl) gN kN bN .nil pass0 (pa_cons (pv 0) (pa_cons (pe_op op_sub (pv 3) pe_int) pa_nil)))) (pv 3)))
  (pss_cons (ps_if (PW.pt (pw_and (pt_cmpR op_gt (pe_call GN hr (by rfl) gN kN bN .nil pass0 (pa_cons (pv 0) (pa_cons pe_int pa_nil))) pe_int (nomark _)) (pw_and1 (pt_cmpR op_lt (pv 6) (pv 3) (nomark _)))))
   (pss_cons (ps_set (i := 8) sc_map.nd rfl (Or.inl rfl) (pe_op op_modN (pe_op op_add (pe_op op_add (pv 4) pe_int) (pv 6)) (pv 3)))
  (pss_one (ps_set (i := 7) sc_map.nd rfl (Or.inl rfl) (pe_op op_modN (pe_op op_add (pv 4) (pe_call GN hr (by rfl) gN kN bN .nil pass0 (pa_cons (pv 0) (pa_cons (pe_op op_add (pv 6) pe_int) pa_nil)))) (pv 3)))))
   pss_nil)
  (pss_one (ps_if (pt_cmpR op_ne (pv 7) (pv 8) (nomark _))
   (pss_one (ps_expr (pe_bm PySem.F.plainAttrs_list PySem.F.slot_list_append PySem.F.type_list_append mt_append (pv 5) (pa_cons (pe_tup (pa_cons (pv 7) (pa_cons (pv 8) (pa_cons (pe_call GC hr (by rfl) gC kC bC .nil pass0 (pa_cons (pv 0) pa_nil)) pa_nil)))) pa_nil))))
   pss_nil)))))))
   pss_nil)
  (pss_one (ps_ret (pe_tup (pa_cons (pv 3) (pa_cons (pv 4) (pa_cons (pv 5) pa_nil)))))))))), ?_⟩
    refine ⟨_, rfl, _, rfl, Hb, d, p, rfl, D, by omega, by omega, fun H1 m S1 D1 m0 m1 => ⟨_, _, rfl, rfl, ?_⟩⟩
    refine ⟨_, rfl, _, rfl, Hb, d, _, rfl, D1, by omega, by omega, fun H2 root S2 D2 t0 t1 => ?_⟩
    have S12 := S1.dlast D1 S2
    refine ⟨Nat.zero_le _, fun l hl => ?_⟩
    have nld : l ≠ d := fun e => D2.live (e ▸ hl)
    have hbl : Hb l = none := D2.sub.free hl
    have new0 : H l = none := by
      cases e : H l with
      | none => rfl
      | some o =>
        have z := S12.old l o nld e
        rw [hl] at z
        cases z
    have R0 : Rows K H Hb (upd H2 l (.lst [])) Hb d l (1 + m) 0 := ⟨S12.put (.inl new0) hbl, D2.put_up hbl (Ne.symm nld), new0, hbl, nld, [], [], upd_same, .nil, (fun x hx => nomatch hx), Nat.le_refl _⟩
    -- the end: return (many, root, rows)
    have fin : ∀ (H4 Hb4 : Hp) {n : Nat}, Rows K H Hb H4 Hb4 d l (1 + m) n → n ≤ r.toNat → (0 : Nat) + 3 ≤ sizeLine ∧ ∀ t, H4 t = none → Q (.ref t) (upd H4 t (.tup [.int (1 + m), .int root, .ref l])) := by
      intro H4 Hb4 n R4 hn4
      refine ⟨(by decide), fun t ht => ?_⟩
      obtain ⟨sub, dice, new, ap, ld, vs, rows, hl4, hd4, hk4, hn⟩ := R4
      have ndt : t ≠ d := fun e => dice.live (e ▸ ht)
      have S5 := sub.pub new ap hl4
      have D5 : Dice K H4 (upd Hb4 l (.lst vs)) d := dice.with (same_new ap) S5.sub (by rw [upd_ne (Ne.symm ld)]; exact dice.dn)
      refine q _ _ _ (1 + m) root rows (S5.add ht ndt) (D5.sub_up ht) (.tup (SqT.of upd_same) (.cons (.int _) (.cons (.int _) (.cons ?_ .nil)))) ⟨by omega, by omega, t0, t1, by omega, hk4⟩ (by omega) (by omega)
      have nlt : l ≠ t := ne_of_none hl4 ht
      exact .lst (SqL.of (by rw [upd_ne nlt, upd_same])) (dpAll_same ((same_new ap).trans (same_new (S5.sub.free ht))) _ _ hd4)
    refine ⟨_, rfl, _, _, rfl, rfl, _, rfl, ite2 (fun c => ?_) (fun c => ?_)⟩
    · have c' := of_decide_eq_true c
      refine ⟨_, rfl, _, rfl, _, _, rfl, rfl, Hb, d, _, rfl, R0.dice, by omega, by omega, fun H3 n S3 D3 n0 n1 => ?_⟩
      have R1 := R0.call S3 D3
      refine ⟨n, rfl, by omega, by omega, for_range (n := n.toNat) (fun i σ H' => ∃ (Hb' : Hp) (v6 v7 v8 : Option V), σ = [some (.ref d), some (.int p), some (.int r), some (.int (1 + m)), some (.int root), some (.ref l), v6, v7, v8] ∧ Rows K H Hb H' Hb' d l (1 + m) i)
        ⟨Hb, none, none, none, rfl, R1⟩ ?_ ?_⟩
      · rintro i σ H4 hi ⟨Hb4, v6, v7, v8, rfl, R4⟩
        refine ⟨_, rfl, _, rfl, Hb4, d, _, rfl, R4.dice, by omega, by omega, fun H5 bb S5 D5 b0 b1 => ?_⟩
        have R5 := R4.call S5 D5
        refine ⟨_, rfl, _, _, rfl, rfl, _, rfl, _, rfl, _, _, rfl, rfl, Hb4, d, _, rfl, D5, by omega, by omega, fun H6 z S6 D6 z0 z1 => ⟨_, _, rfl, rfl, _, rfl, _, _, rfl, rfl, by omega, ?_⟩⟩
        have R6 := R5.call S6 D6
        have gm := mod_lt (x := bb + 1 + z) (show 0 < 1 + m by omega)
        refine ⟨_, rfl, Hb4, d, _, rfl, D6, by decide, by decide, fun Hx y S7 Dx y0 y1 => ?_⟩
        have Rx := R6.call S7 Dx
        refine ⟨_, _, rfl, rfl, _, rfl, ite2 (fun cA => ?_) (fun cA => ?_)⟩
        · refine ⟨_, rfl, _, rfl, _, _, rfl, rfl, _, rfl, ite2 (fun cB => ?_) (fun cB => ?_)⟩
          · have cB' := of_decide_eq_true cB
            refine ⟨_, rfl, _, _, rfl, rfl, _, rfl, _, _, rfl, rfl, _, rfl, _, _, rfl, rfl, by omega, ?_⟩
            have gm := mod_lt (x := root + 1 + (0 + (i : Int))) (show 0 < 1 + m by omega)
            refine ⟨_, rfl, _, rfl, _, rfl, _, _, rfl, rfl, Hb4, d, _, rfl, Dx, by omega, by omega, fun Hy y2 S8 Dy h0 h1 => ⟨_, _, rfl, rfl, _, rfl, _, _, rfl, rfl, by omega, ?_⟩⟩
            have bm := mod_lt (x := root + y2) (show 0 < 1 + m by omega)
            have Rx := Rx.call S8 Dy
            refine ⟨_, rfl, _, rfl, rfl, _, rfl, ite2 (fun cD => ?_) (fun cD => ?_)⟩
            · obtain ⟨_, _, _, _, _, vs, rws, hl4, _⟩ := id Rx
              refine ⟨_, rfl, .inl ⟨rfl, _, SqL.of hl4⟩, _, rfl, _, rfl, _, rfl, Hb4, d, rfl, Rx.dice, fun Hc cc Sc Dc h0 h1 => ⟨(by show 3 ≤ sizeLine; decide), fun t ht => ?_⟩⟩
              have Rc := Rx.call Sc Dc
              obtain ⟨_, _, _, _, _, vs2, rws2, hl5, hd5, _, hn5⟩ := id Rc
              refine ⟨l, _, _, rfl, rfl, Eq.trans (upd_ne (ne_of_none hl5 ht)) hl5, ?_, ?_⟩
              · have q5 := dpAll_len hd5
                rw [List.length_map] at q5
                exact small_lt (by omega)
              · exact ⟨_, _, _, _, rfl, Rc.push (r := ⟨_, _, cc⟩) ht ⟨bm.1, bm.2, gm.1, gm.2, neq cD, h0, h1⟩ hl5⟩
            · exact ⟨Hb4, _, _, _, rfl, Rx.up⟩
          · have bm : 0 ≤ bb ∧ bb < 1 + m := ⟨b0, b1⟩
            refine ⟨_, rfl, _, rfl, rfl, _, rfl, ite2 (fun cD => ?_) (fun cD => ?_)⟩
            · obtain ⟨_, _, _, _, _, vs, rws, hl4, _⟩ := id Rx
              refine ⟨_, rfl, .inl ⟨rfl, _, SqL.of hl4⟩, _, rfl, _, rfl, _, rfl, Hb4, d, rfl, Rx.dice, fun Hc cc Sc Dc h0 h1 => ⟨(by show 3 ≤ sizeLine; decide), fun t ht => ?_⟩⟩
              have Rc := Rx.call Sc Dc
              obtain ⟨_, _, _, _, _, vs2, rws2, hl5, hd5, _, hn5⟩ := id Rc
              refine ⟨l, _, _, rfl, rfl, Eq.trans (upd_ne (ne_of_none hl5 ht)) hl5, ?_, ?_⟩
              · have q5 := dpAll_len hd5
                rw [List.length_map] at q5
                exact small_lt (by omega)
              · exact ⟨_, _, _, _, rfl, Rc.push (r := ⟨_, _, cc⟩) ht ⟨bm.1, bm.2, gm.1, gm.2, neq cD, h0, h1⟩ hl5⟩
            · exact ⟨Hb4, _, _, _, rfl, Rx.up⟩
        · have bm : 0 ≤ bb ∧ bb < 1 + m := ⟨b0, b1⟩
          refine ⟨_, rfl, _, rfl, rfl, _, rfl, ite2 (fun cD => ?_) (fun cD => ?_)⟩
          · obtain ⟨_, _, _, _, _, vs, rws, hl4, _⟩ := id Rx
            refine ⟨_, rfl, .inl ⟨rfl, _, SqL.of hl4⟩, _, rfl, _, rfl, _, rfl, Hb4, d, rfl, Rx.dice, fun Hc cc Sc Dc h0 h1 => ⟨(by show 3 ≤ sizeLine; decide), fun t ht => ?_⟩⟩
            have Rc := Rx.call Sc Dc
            obtain ⟨_, _, _, _, _, vs2, rws2, hl5, hd5, _, hn5⟩ := id Rc
            refine ⟨l, _, _, rfl, rfl, Eq.trans (upd_ne (ne_of_none hl5 ht)) hl5, ?_, ?_⟩
            · have q5 := dpAll_len hd5
              rw [List.length_map] at q5
              exact small_lt (by omega)
            · exact ⟨_, _, _, _, rfl, Rc.push (r := ⟨_, _, cc⟩) ht ⟨bm.1, bm.2, gm.1, gm.2, neq cD, h0, h1⟩ hl5⟩
          · exact ⟨Hb4, _, _, _, rfl, Rx.up⟩
      · rintro σ H4 ⟨Hb4, v6, v7, v8, rfl, R4⟩
        exact ⟨_, rfl, _, rfl, _, rfl, fin H4 Hb4 R4 (by omega)⟩
    · exact ⟨_, rfl, _, rfl, _, rfl, fin _ Hb R0 (by omega)⟩
end
end Rc
/-! part RcD4 -/
namespace Rc
open PySem PySem.Spec PyProof.Rows L2
/-- plain data, at most so deep -/
def Plain : Nat → PyData → Prop
  | _, .int _ => True
  | _, .str _ => True
  | _, .none => True
  | n + 1, .list ds => ds.length ≤ 1000 ∧ ∀ d ∈ ds, Plain n d
  | n + 1, .tuple ds => ds.length ≤ 1000 ∧ ∀ d ∈ ds, Plain n d
  | _, _ => False
theorem tyL {K : PySem.W.Frag} {H : Hp} {a : Addr} {xs : List V} (h : SqL K H a xs) : TyX K H (.ref a) (.type "list") := by
  rcases h with (h | ⟨o, h⟩) | ⟨o, its, n, h, hc, _⟩
  · exact .base (.lst h)
  · exact .base (.frz h)
  · exact .kList h hc
theorem tyT {K : PySem.W.Frag} {H : Hp} {a : Addr} {xs : List V} (h : SqT K H a xs) : TyX K H (.ref a) (.type "tuple") := by
  rcases h with (h | ⟨o, h⟩) | ⟨o, its, n, h, hc, _⟩
  · exact .base (.tup h)
  · exact .fTuple h
  · exact .kTuple h hc
/-- isinstance(x, T), both built in: the answer by their names -/
theorem isi {K : PySem.W.Frag} {H : Hp} {Q : VK} {x : V} {t c : String} {b : Bool} (ty : TyX K H x (.type t)) (e : kitB t c = some b) (q : Q (.bl b) H) : rIsi K [x, .ty c] H Q := ⟨x, .ty c, _, _, b, rfl, .ty c, ty, kit_ty e, q⟩
/-- what the parts of plain data are -/
def PlainC : Nat → PyData → Prop
  | 0, _ => False
  | n + 1, d => Plain n d
structure TxtL (mg : Str → Option Value) : Prop extends Txt0 mg where
  isi : mg "isinstance" = none
  str : mg "str" = none
  tuple : mg "tuple" = none
  list : mg "list" = none
  bool : mg "bool" = none
def spLike (K : PySem.W.Frag) (n : Nat) : Sp := fun vs H Q _ => ∃ (x y : V) (e : PyData), vs = [x, y] ∧ Dp K H x e ∧ Dp K H y e ∧ Plain n e ∧ Q (.bl true) H
section
variable {P : Program} {w : World} {K : PySem.W.Frag} {mg : Str → Option Value} {base : Heap}
theorem like_step {f : Addr} {fd : FuncData} {m n : Nat} {sp : Sp} (F : Fun K "_law_like" "_law_like" s_like f fd) (T : TxtL mg) (g : mg "_law_like" = some (.ref f)) (b : Binds K fd ["_law_found", "_law_due"] [])
    (GL : FnOk P w K mg base CX0 m f fd ["_law_found", "_law_due"] sp) (hs : ∀ x y e H Q E, Dp K H x e → Dp K H y e → PlainC n e → Q (.bl true) H → sp [x, y] H Q E) : FnOk P w K mg base CX0 (m + 1) f fd ["_law_found", "_law_due"] (spLike K n) := by
  refine F.ok sc_like (fun vs H Q E h => ?_) (fun cdv A outer s H vs Q E hr h => ?_)
  · obtain ⟨x, y, e, rfl, _⟩ := h
    rfl
  · obtain ⟨x, y, e, rfl, h1, h2, hp, q⟩ := h
    refine ⟨_, (pss_cons (ps_if (pt_val (pe_callB call_isi (by rfl) T.isi (by decide +kernel) (pa_cons (pv 1) (pa_cons (pe_bltn (v := .ty "str") (by rfl) T.str boot_str rfl) pa_nil))))
   (pss_one (ps_ret (pe_and (pe_callB call_isi (by rfl) T.isi (by decide +kernel) (pa_cons (pv 0) (pa_cons (pe_bltn (v := .ty "str") (by rfl) T.str boot_str rfl) pa_nil))) (pe_one (pe_cmpR op_eq (pv 0) (pv 1) (nomark _))))))
   pss_nil)
  (pss_cons (ps_if (pt_val (pe_callB call_isi (by rfl) T.isi (by decide +kernel) (pa_cons (pv 1) (pa_cons (pe_bltn (v := .ty "int") (by rfl) T.int boot_int rfl) pa_nil))))
   (pss_one (ps_ret (pe_and (pe_callB call_isi (by rfl) T.isi (by decide +kernel) (pa_cons (pv 0) (pa_cons (pe_bltn (v := .ty "int") (by rfl) T.int boot_int rfl) pa_nil))) (pe_and (pe_not (pe_callB call_isi (by rfl) T.isi (by decide +kernel) (pa_cons (pv 0) (pa_cons (pe_bltn (v := .ty "bool") (by rfl) T.bool (by decide +kernel) rfl) pa_nil)))) (pe_one (pe_cmpR op_eq (pv 0) (pv 1) (nomark _)))))))
   pss_nil)
  (pss_cons (ps_if (pt_cmpR op_isN (pv 1) pe_non (nomark _))
   (pss_one (ps_ret (pe_cmpR op_isN (pv 0) pe_non (nomark _))))
   pss_nil)
  (pss_cons (ps_if (PW.pt (pw_or (pt_cmpR op_ne (pe_callB call_isi (by rfl) T.isi (by decide +kernel) (pa_cons (pv 1) (pa_cons (pe_bltn (v := .ty "tuple") (by rfl) T.tuple (by decide +kernel) rfl) pa_nil))) (pe_callB call_isi (by rfl) T.isi (by decide +kernel) (pa_cons (pv 0) (pa_cons (pe_bltn (v := .ty "tuple") (by rfl) T.tuple (by decide +kernel) rfl) pa_nil))) (nomark _)) (pw_or1 (pt_cmpR op_ne (pe_callB call_isi (by rfl) T.isi (by decide +kernel) (pa_cons (pv 1) (pa_cons (pe_bltn (v := .ty "list") (by rfl) T.list (by decide +kernel) rfl) pa_nil))) (pe_callB call_isi (by rfl) T.isi (by decide +kernel) (pa_cons (pv 0) (pa_cons (pe_bltn (v := .ty "list") (by rfl) T.list (by decide +kernel) rfl) pa_nil))) (nomark _)))))
   (pss_one (ps_ret pe_bl))
   pss_nil)
  (pss_cons (ps_if (pt_cmpR op_ne (pe_callB call_len_seq (by rfl) T.len PySem.boot_len (pa_cons (pv 0) pa_nil)) (pe_callB call_len_seq (by rfl) T.len PySem.boot_len (pa_cons (pv 1) pa_nil)) (nomark _))
   (pss_one (ps_ret pe_bl))
   pss_nil)
  (pss_cons (ps_for PassesOwn.never rfl (pi_range1 (by rfl) T.range (pa_cons (pe_callB call_len_seq (by rfl) T.len PySem.boot_len (pa_cons (pv 1) pa_nil)) pa_nil)) (pg_name (i := 2) sc_like.nd rfl (Or.inl rfl))
   (pss_one (ps_if (pt_not (pt_val (pe_call GL hr (by rfl) g F.kp b .nil pass0 (pa_cons (pe_ix ix_seq (pv 0) (pv 2) (fun _ _ => rfl)) (pa_cons (pe_ix ix_seq (pv 1) (pv 2) (fun _ _ => rfl)) pa_nil)))))
   (pss_one (ps_ret pe_bl))
   pss_nil)))
  (pss_one (ps_ret pe_bl)))))))), ?_⟩
    cases e with
    | int i =>
      cases h1; cases h2
      refine ⟨_, rfl, _, _, _, _, false, rfl, .ty _, .base (.int _), kit_ty (by decide +kernel), _, rfl, ite2 (fun z => Bool.noConfusion z) (fun _ => ?_)⟩
      refine ⟨_, rfl, _, _, _, _, true, rfl, .ty _, .base (.int _), kit_ty (by decide +kernel), _, rfl, ite2 (fun _ => ?_) (fun z => absurd rfl z)⟩
      refine ⟨_, rfl, _, _, _, _, true, rfl, .ty _, .base (.int _), kit_ty (by decide +kernel), _, rfl, ite2 (fun _ => ?_) (fun z => absurd rfl z)⟩
      refine ⟨_, rfl, _, _, _, _, false, rfl, .ty _, .base (.int _), kit_ty (by decide +kernel), _, rfl, _, rfl, ite2 (fun _ => ?_) (fun z => absurd rfl z)⟩
      refine ⟨_, rfl, _, rfl, rfl, ?_⟩
      rw [decide_eq_true rfl]
      exact q
    | str z =>
      cases h1; cases h2
      refine ⟨_, rfl, _, _, _, _, true, rfl, .ty _, .base (.str _), kit_ty (by decide +kernel), _, rfl, ite2 (fun _ => ?_) (fun z => absurd rfl z)⟩
      refine ⟨_, rfl, _, _, _, _, true, rfl, .ty _, .base (.str _), kit_ty (by decide +kernel), _, rfl, ite2 (fun _ => ?_) (fun z => absurd rfl z)⟩
      refine ⟨_, rfl, _, rfl, rfl, ?_⟩
      rw [decide_eq_true rfl]
      exact q
    | list ds =>
      obtain ⟨a, xs, rfl, s1, d1⟩ := dp_list_inv h1
      obtain ⟨a', ys, rfl, s2, d2⟩ := dp_list_inv h2
      obtain ⟨hlen, hch⟩ : ds.length ≤ 1000 ∧ ∀ d ∈ ds, PlainC n d := by
        cases n with
        | zero => exact hp.elim
        | succ n => exact hp
      have l1 := dpAll_len d1
      have l2 := dpAll_len d2
      refine ⟨_, rfl, _, _, _, _, false, rfl, .ty _, tyL s2, kit_ty (by decide +kernel), _, rfl, ite2 (fun z => Bool.noConfusion z) (fun _ => ?_)⟩
      refine ⟨_, rfl, _, _, _, _, false, rfl, .ty _, tyL s2, kit_ty (by decide +kernel), _, rfl, ite2 (fun z => Bool.noConfusion z) (fun _ => ?_)⟩
      refine ⟨_, rfl, rfl, _, rfl, ite2 (fun z => nomatch (of_decide_eq_true z)) (fun _ => ?_)⟩
      refine ⟨_, rfl, _, _, _, _, false, rfl, .ty _, tyL s2, kit_ty (by decide +kernel), _, rfl, _, _, _, _, false, rfl, .ty _, tyL s1, kit_ty (by decide +kernel), rfl, _, rfl, ite2 (fun z => Bool.noConfusion z) (fun _ => ?_)⟩
      refine ⟨_, rfl, _, _, _, _, true, rfl, .ty _, tyL s2, kit_ty (by decide +kernel), _, rfl, _, _, _, _, true, rfl, .ty _, tyL s1, kit_ty (by decide +kernel), rfl, _, rfl, ite2 (fun z => Bool.noConfusion z) (fun _ => ?_)⟩
      refine ⟨_, rfl, a, xs, rfl, .inl s1, _, rfl, a', ys, rfl, .inl s2, rfl, _, rfl, ite2 (fun z => absurd (by rw [l1, l2]) (neq z)) (fun _ => ?_)⟩
      refine ⟨_, rfl, a', ys, rfl, .inl s2, _, rfl, by omega, by omega, for_range (n := ys.length) (fun i σ H' => H' = H ∧ ∃ v : Option V, σ = [some (.ref a), some (.ref a'), v]) ⟨rfl, none, rfl⟩ ?_ ?_⟩
      · rintro i σ H' hi ⟨rfl, v, rfl⟩
        obtain ⟨u1, e1, p1⟩ := dpAll_get (i := i) d1 (List.getElem?_eq_getElem (by omega))
        obtain ⟨u2, e2, p2⟩ := dpAll_get (i := i) d2 (List.getElem?_eq_getElem (by omega))
        exact ⟨_, rfl, _, rfl, .inl ⟨_, _, _, _, rfl, rfl, s1, by rw [Int.zero_add]; exact atI_nat e1, _, rfl, _, rfl, .inl ⟨_, _, _, _, rfl, rfl, s2, by rw [Int.zero_add]; exact atI_nat e2,
          hs _ _ _ _ _ _ p1 p2 (hch _ (List.getElem_mem _)) ⟨_, rfl, ite2 (fun z => Bool.noConfusion z) (fun _ => ⟨rfl, _, rfl⟩)⟩⟩⟩⟩
      · rintro σ H' ⟨rfl, v, rfl⟩
        exact q
    | tuple ds =>
      obtain ⟨a, xs, rfl, s1, d1⟩ := dp_tup_inv h1
      obtain ⟨a', ys, rfl, s2, d2⟩ := dp_tup_inv h2
      obtain ⟨hlen, hch⟩ : ds.length ≤ 1000 ∧ ∀ d ∈ ds, PlainC n d := by
        cases n with
        | zero => exact hp.elim
        | succ n => exact hp
      have l1 := dpAll_len d1
      have l2 := dpAll_len d2
      refine ⟨_, rfl, _, _, _, _, false, rfl, .ty _, tyT s2, kit_ty (by decide +kernel), _, rfl, ite2 (fun z => Bool.noConfusion z) (fun _ => ?_)⟩
      refine ⟨_, rfl, _, _, _, _, false, rfl, .ty _, tyT s2, kit_ty (by decide +kernel), _, rfl, ite2 (fun z => Bool.noConfusion z) (fun _ => ?_)⟩
      refine ⟨_, rfl, rfl, _, rfl, ite2 (fun z => nomatch (of_decide_eq_true z)) (fun _ => ?_)⟩
      refine ⟨_, rfl, _, _, _, _, true, rfl, .ty _, tyT s2, kit_ty (by decide +kernel), _, rfl, _, _, _, _, true, rfl, .ty _, tyT s1, kit_ty (by decide +kernel), rfl, _, rfl, ite2 (fun z => Bool.noConfusion z) (fun _ => ?_)⟩
      refine ⟨_, rfl, _, _, _, _, false, rfl, .ty _, tyT s2, kit_ty (by decide +kernel), _, rfl, _, _, _, _, false, rfl, .ty _, tyT s1, kit_ty (by decide +kernel), rfl, _, rfl, ite2 (fun z => Bool.noConfusion z) (fun _ => ?_)⟩
      refine ⟨_, rfl, a, xs, rfl, .inr s1, _, rfl, a', ys, rfl, .inr s2, rfl, _, rfl, ite2 (fun z => absurd (by rw [l1, l2]) (neq z)) (fun _ => ?_)⟩
      refine ⟨_, rfl, a', ys, rfl, .inr s2, _, rfl, by omega, by omega, for_range (n := ys.length) (fun i σ H' => H' = H ∧ ∃ v : Option V, σ = [some (.ref a), some (.ref a'), v]) ⟨rfl, none, rfl⟩ ?_ ?_⟩
      · rintro i σ H' hi ⟨rfl, v, rfl⟩
        obtain ⟨u1, e1, p1⟩ := dpAll_get (i := i) d1 (List.getElem?_eq_getElem (by omega))
        obtain ⟨u2, e2, p2⟩ := dpAll_get (i := i) d2 (List.getElem?_eq_getElem (by omega))
        exact ⟨_, rfl, _, rfl, .inr (.inl ⟨_, _, _, _, rfl, rfl, s1, by rw [Int.zero_add]; exact atI_nat e1, _, rfl, _, rfl, .inr (.inl ⟨_, _, _, _, rfl, rfl, s2, by rw [Int.zero_add]; exact atI_nat e2,
          hs _ _ _ _ _ _ p1 p2 (hch _ (List.getElem_mem _)) ⟨_, rfl, ite2 (fun z => Bool.noConfusion z) (fun _ => ⟨rfl, _, rfl⟩)⟩⟩)⟩)⟩
      · rintro σ H' ⟨rfl, v, rfl⟩
        exact q
    | none =>
      cases h1; cases h2
      refine ⟨_, rfl, _, _, _, _, false, rfl, .ty _, .base .non, kit_ty (by decide +kernel), _, rfl, ite2 (fun z => Bool.noConfusion z) (fun _ => ?_)⟩
      refine ⟨_, rfl, _, _, _, _, false, rfl, .ty _, .base .non, kit_ty (by decide +kernel), _, rfl, ite2 (fun z => Bool.noConfusion z) (fun _ => ?_)⟩
      refine ⟨_, rfl, rfl, _, rfl, ite2 (fun _ => ?_) (fun z => absurd rfl z)⟩
      exact ⟨_, rfl, rfl, q⟩
    | bool _ => cases n <;> exact hp.elim
    | dict _ => cases n <;> exact hp.elim
theorem ok_like {f : Addr} {fd : FuncData} (F : Fun K "_law_like" "_law_like" s_like f fd) (T : TxtL mg) (g : mg "_law_like" = some (.ref f)) (b : Binds K fd ["_law_found", "_law_due"] []) : ∀ n : Nat, FnOk P w K mg base CX0 (n + 1) f fd ["_law_found", "_law_due"] (spLike K n)
  | 0 => like_step (sp := fun _ _ _ _ => False) F T g b ⟨fun _ _ _ _ h => h.elim, fun _ _ _ _ _ _ _ _ _ _ _ _ _ h => h.elim⟩ (fun _ _ _ _ _ _ _ _ h _ => h.elim)
  | n + 1 => like_step F T g b (ok_like F T g b n) (fun x y e H Q E h1 h2 hp q => ⟨x, y, e, rfl, h1, h2, hp, q⟩)
end
end Rc
/-! part RcG -/
/-! all(..), any(..) of a generator expression over a list or a tuple, its element by the model's own words. -/
namespace Rc
open PySem PySem.Spec PyProof.Rows L2
/-- the generator's frame, at a turn: its scope, the cells that it has from the def, and what stood when it was made -/
structure El (X : Cx) (scope : Scope) (P : Addr) (s1 : Shared) (cenv : Env) (s₂ : Shared) : Prop where
  sc : cenv.scope = scope
  cl : cenv.cells = cloFrom X.env.cells scope.names []
  gl : cenv.globals = mainGlobals
  bl : cenv.builtins = builtinsNs
  keep : ∀ b o, b ≠ P → s1.heap.get? b = some o → s₂.heap.get? b = some o
/-- the element at the items xs: its truth is pb -/
def EltOk (X : Cx) (scope : Scope) (P : Addr) (x : Str) (elt : Expr) (xs : List V) (pb : Nat → Bool) (σ : L2.St) (H1 : Hp) : Prop :=
  ∀ (pins : List (Addr × Obj)) (s1 : Shared), Inv X pins σ H1 s1 → ∀ (cenv : Env) (A' : Around) (E' : Value → Shared → Prop) (i : Nat) (y : V) (v : Value) (s₂ : Shared) (m₂ : Str → Option Value),
    El X scope P s1 cenv s₂ → A'.handled = none → A'.depth ≤ X.A.depth + 1 → A'.units ≤ X.A.units + 8 → xs[i]? = some y → RelV y v → s₂.heap.Ns cenv.locals m₂ → m₂ x = some v →
    wpAny (model X.prog X.w) A' (eval elt cenv) (fun r s₃ => r = .bool (pb i) ∧ Keeps s₂ s₃) E' s₂
def SqX (K : PySem.W.Frag) (H : Hp) (a : Addr) (xs : List V) : Prop := SqL K H a xs ∨ SqT K H a xs
section
variable {X : Cx} {pins : List (Addr × Obj)} {σ : L2.St} {H : Hp} {s : Shared}
theorem seq_walk {a : Addr} {xs : List V} {A : Around} {E : Value → Shared → Prop} {Q : Value → Shared → Prop} (I : Inv X pins σ H s) (h : SqX X.K H a xs)
    (hQ : ∀ (its : List Value) (o : Obj) (St : Nat → Heap → Prop), Vals xs its → (∃ o, s.heap.get? a = some o ∧ o.cls ≠ .none) →
      (∀ A' : Around, A'.handled = none → Walks X.prog X.w A' s.heap.objs.size [s.heap.objs.size, a] [s.heap.objs.size] its.length (fun i v => its[i]? = some v) St) →
      St 0 (s.heap.push o) → Q (.ref s.heap.objs.size) { s with heap := s.heap.push o }) :
    wpAny (model X.prog X.w) A (pyIter (.ref a)) Q E s := by
  rcases h with h | h
  · obtain ⟨its, rv, pl, _⟩ := I.list h
    have il : s.heap.IsList a its.toArray := pl.isList
    have cl : ∃ o, s.heap.get? a = some o ∧ o.cls ≠ .none := by
      obtain ⟨o, ho, hc, _⟩ := il
      exact ⟨o, ho, fun z => by rw [hc] at z; cases z⟩
    have lt : a < s.heap.objs.size := by
      obtain ⟨o, ho, _⟩ := il
      exact Heap.lt_size ho
    refine wpAny_pyIter_list il (hQ its _ (fun i h => h.IsListIter s.heap.objs.size a i ∧ h.IsList a its.toArray) rv cl (fun A' hA => ?_) ?_)
    · have w := Walks.list (prog := X.prog) (w := X.w) hA s.heap.objs.size a (Nat.ne_of_lt lt) its.toArray
      simpa using w
    · refine ⟨⟨_, Heap.get?_push_size _ rfl, rfl, rfl⟩, ?_⟩
      obtain ⟨o, ho, r⟩ := il
      exact ⟨o, Heap.get?_push_of_some _ ho, r⟩
  · obtain ⟨its, rv, pl, _⟩ := I.tuple h
    have il : s.heap.IsTuple a its.toArray := pl
    have cl : ∃ o, s.heap.get? a = some o ∧ o.cls ≠ .none := by
      obtain ⟨o, ho, hc, _⟩ := il
      exact ⟨o, ho, fun z => by rw [hc] at z; cases z⟩
    have lt : a < s.heap.objs.size := by
      obtain ⟨o, ho, _⟩ := il
      exact Heap.lt_size ho
    refine wpAny_pyIter_tuple il (hQ its _ (fun i h => h.IsTupleIter s.heap.objs.size a i ∧ h.IsTuple a its.toArray) rv cl (fun A' hA => ?_) ?_)
    · have w := Walks.tuple (prog := X.prog) (w := X.w) hA s.heap.objs.size a (Nat.ne_of_lt lt) its.toArray
      simpa using w
    · refine ⟨⟨_, Heap.get?_push_size _ rfl, rfl, rfl⟩, ?_⟩
      obtain ⟨o, ho, r⟩ := il
      exact ⟨o, Heap.get?_push_of_some _ ho, r⟩
/-- the generator at g, ready to be asked n times -/
def ReadyQ (X : Cx) (pins : List (Addr × Obj)) (σ : L2.St) (H1 : Hp) (P : Addr) (n : Nat) (pb : Nat → Bool) (g : Addr) (s5 : Shared) : Prop :=
  ∃ (fp wr : List Addr) (G : Array GenState → Array GenState → Prop) (F : Nat → Value → Prop) (St : Nat → Shared → Prop),
    WalksS X.prog X.w X.A.in1 g fp wr G n F St ∧ St 0 s5 ∧ TruthOf X.prog X.w X.A.in1 F pb ∧
      ∀ s', Moved wr G s5 s' → ∃ H2, GxR.Tabbed P H1 H2 ∧ Inv X pins σ H2 s'
theorem gen_seq {c P : Addr} {elt iter : Expr} {x : Str} {px gpos : Pos} {scope : Scope} {te : TE} {k : Nat} {Q' : Value → Shared → Prop} {R : List V → (Nat → Bool) → Hp → Prop}
    (hr : Room k X.A) (TB : GxR.TabB X.base X.mg c P) (hcode : X.env.code = .ref c) (S : GxR.GenS X.env scope x) (hi : PE X iter te) (hs : ∀ v, genFold iter X.env v = pure v) (I : Inv X pins σ H s)
    (h : te σ H fun v H1 => ∃ a xs pb, v = .ref a ∧ SqX X.K H1 a xs ∧ EltOk X scope P x elt xs pb σ H1 ∧ GxR.TabG H1 P ∧ R xs pb H1)
    (hQ : ∀ xs pb H1 g s5, R xs pb H1 → ReadyQ X pins σ H1 P xs.length pb g s5 → Q' (.ref g) s5) :
    wpAny (model X.prog X.w) X.A (eval (.GeneratorExp elt [⟨.Name x px, iter, [], 0⟩] scope gpos) X.env) Q' X.xe s := by
  have hdp : X.A.depth < recursionLimit := by
    have := hr.dp
    omega
  refine wpAny_GeneratorExp_walksQD hr.hd S.co (closure_ok S.free) S.cell S.dot S.loc S.kind hdp ?_ hs
  refine thn (hi.run pins s σ H _ I h) fun xv s1 ⟨v, H1, I1, r1, q1⟩ => ?_
  obtain ⟨a, xs, pb, rfl, hseq, hel, ⟨ps, hP, ht⟩, hR⟩ := q1
  obtain rfl : xv = Value.ref a := r1
  refine seq_walk I1 hseq fun its o St rv hcl W hst => ?_
  have lenE : xs.length = its.length := rv.length
  have tab1 : s1.heap.get? P = some { cls := .none, data := .fields ps } := I1.hok P _ hP
  have ltP : P < s1.heap.objs.size := Heap.lt_size tab1
  have aP : a ≠ P := by
    obtain ⟨oa, ha, hca⟩ := hcl
    intro z
    rw [z, tab1] at ha
    exact hca (by rw [← Option.some.inj ha])
  have lta : a < s1.heap.objs.size := by
    obtain ⟨oa, ha, _⟩ := hcl
    exact Heap.lt_size ha
  have tab2 : (s1.heap.push o).get? P = some { cls := .none, data := .fields ps } := Heap.get?_push_of_some _ tab1
  have codeP : PySem.W.CodeHd (s1.heap.push o) c P := TB.code.keeps fun b u e => Heap.get?_push_of_some _ (I1.bk b u e)
  have noLim : (s1.heap.push o).NoLimit := I1.nolimit.push o
  have sz2 : (s1.heap.push o).objs.size = s1.heap.objs.size + 1 := Heap.size_push ..
  -- behind the code object: h3 holds all but a grown table
  have rest : ∀ (code : Value) (h3 : Heap) (tk : Nat) (ps' : Array Value), Heap.ExtBut P (s1.heap.push o) h3 → (s1.heap.push o).objs.size ≤ h3.objs.size →
      h3.get? P = some { cls := .none, data := .fields ps' } → (∃ more, ps' = ps ++ more) → TriplesOk ps'.toList →
      wpAny (model X.prog X.w) X.A (builtinsFor X.env.globals X.env.builtins) (fun bi s₄ =>
        ∃ Ia fp wr n₀ Pf St₀ pz F, Value.ref s1.heap.objs.size = .ref Ia ∧ (∀ A' : Around, A'.handled = none → Walks X.prog X.w A' Ia fp wr n₀ Pf St₀) ∧ St₀ 0 s₄.heap ∧ (∀ b ∈ fp, b < s₄.heap.objs.size) ∧ s₄.heap.NoLimit ∧ cStatics ∉ wr ∧
          (∀ href : Heap, (∀ b o, s₄.heap.get? b = some o → href.get? b = some o) →
            QuietGenD X.prog X.w (genEnv scope (cloFrom X.env.cells scope.names []) s₄.heap.objs.size code bi X.env) x [] elt (List.range s₄.heap.objs.size) wr Pf pz F href (X.A.depth + 1) (X.A.units + 8)) ∧
          (∀ g h₅ tk gs, gs.bare = true → s₄.heap.objs.size < g → h₅.objs.size = g + 1 → (∀ b o, s₄.heap.get? b = some o → h₅.get? b = some o) →
            WalksS X.prog X.w X.A.in4 g (g :: s₄.heap.objs.size :: List.range s₄.heap.objs.size) (s₄.heap.objs.size :: wr) (GenOnlyQ s₄.gens.size) (passing pz n₀ 0).length
              (fun j y => ∃ i, (passing pz n₀ 0)[j]? = some i ∧ F i y) (GenAt X.prog X.w X.A.in4 g s₄.gens.size s₄.heap.objs.size (List.range s₄.heap.objs.size) wr pz n₀ F) →
            GenAt X.prog X.w X.A.in4 g s₄.gens.size s₄.heap.objs.size (List.range s₄.heap.objs.size) wr pz n₀ F 0 { s₄ with gens := s₄.gens.push gs, toks := tk, heap := h₅ } →
            Q' (.ref g) { s₄ with gens := s₄.gens.push gs, toks := tk, heap := h₅ })) X.xe { s1 with heap := h3, toks := tk } := by
    intro code h3 tk ps' hx hsz tab3 hmore ht3
    obtain ⟨bm, ob, e1, e2, e3, e4, e5, e6, e7, e8⟩ := TB.bm
    have keep3 : ∀ b u, b ≠ P → s1.heap.get? b = some u → h3.get? b = some u := fun b u hb e => hx b u hb (Heap.get?_push_of_some _ e)
    have stat : cStatics ≠ P ∧ cStatics < s1.heap.objs.size := by
      obtain ⟨m', hns, _⟩ := I1.nolimit
      refine ⟨fun e => ?_, hns.lt⟩
      obtain ⟨o', es, ep, ho, hd, _⟩ := hns
      rw [e, tab1] at ho
      cases ho
      cases hd
    refine wpAny_builtinsFor (m := X.mg) (by rw [I1.ok.glob]; exact ((I1.mod.glob.keeps I1.bk).push o).extBut hx TB.gP) e1 e2 (keep3 _ _ e4 (I1.bk _ _ e5)) e6 e7 e8 ?_
    refine ⟨s1.heap.objs.size, [s1.heap.objs.size, a], [s1.heap.objs.size], its.length, (fun i v => its[i]? = some v), St, (fun _ => true), (fun i y => y = .bool (pb i)), rfl, W, ?_, ?_, noLim.extBut hx stat.1, ?_, ?_, ?_⟩
    · refine (W X.A hr.hd).frame _ _ _ hst fun b hb u e => hx b u (fun z => ?_) e
      simp only [List.mem_cons, List.not_mem_nil, or_false] at hb
      rcases hb with q | q
      · exact Nat.ne_of_lt ltP (z.symm.trans q)
      · exact aP (q.symm.trans z)
    · intro b hb
      simp only [List.mem_cons, List.not_mem_nil, or_false] at hb
      have le3 : s1.heap.objs.size + 1 ≤ h3.objs.size := by
        rw [← sz2]
        exact hsz
      rcases hb with q | q
      · rw [q]
        exact le3
      · rw [q]
        exact Nat.lt_of_lt_of_le lta (Nat.le_trans (Nat.le_succ _) le3)
    · intro z
      simp only [List.mem_cons, List.not_mem_nil, or_false] at z
      exact Nat.ne_of_lt stat.2 z
    · intro href hhref
      refine ⟨fun A' E' i v s₂ m₂ hA _ _ hPv hn hm hk => ?_, fun A' E' i v s₂ m₂ hA hdA huA hPv hp hn hm hk => ?_⟩
      · simp only [List.forIn_nil]
        exact wpAny_pure ⟨rfl, GxR.keeps_refl _⟩
      · obtain ⟨y, hy, ry⟩ : ∃ y, xs[i]? = some y ∧ RelV y v := by
          have hi' : i < xs.length := by
            rw [lenE]
            exact (List.getElem?_eq_some_iff.mp hPv).1
          obtain ⟨u, hu, ru⟩ := rv.get (List.getElem?_eq_getElem hi')
          rw [hPv] at hu
          cases hu
          exact ⟨_, List.getElem?_eq_getElem hi', ru⟩
        refine hel pins s1 I1 _ A' E' i y v s₂ m₂ ⟨rfl, rfl, I1.ok.glob, rfl, fun b u hb e => ?_⟩ hA hdA huA hy ry hn hm
        have l3 : h3.get? b = some u := keep3 b u hb e
        exact hk b (List.mem_range.mpr (Heap.lt_size l3)) (fun z => by
          simp only [List.mem_cons, List.not_mem_nil, or_false] at z
          exact absurd (Heap.lt_size e) (by rw [z]; exact Nat.lt_irrefl _)) u (hhref b u l3)
    · intro g h5 tk5 gs hgb hag hsz5 hk5 W5 hat
      simp only [GxR.passing_true, List.length_range] at W5
      refine hQ xs pb H1 g _ hR ?_
      rw [lenE]
      refine ⟨_, _, _, _, _, W5.in4_1, hat, ?_, fun s' hm => ?_⟩
      · intro j y sj Qj Ej hy hQj
        obtain ⟨i, hij, rfl⟩ := hy
        obtain ⟨hj, ej⟩ := List.getElem?_eq_some_iff.mp hij
        rw [List.getElem_range] at ej
        subst ej
        exact wpAny_truthy_bool hQj
      · obtain ⟨more, em⟩ := hmore
        have old : ∀ b u, s1.heap.get? b = some u → b ∉ h3.objs.size :: [s1.heap.objs.size] := fun b u e hb => by
          have hl := Heap.lt_size e
          simp only [List.mem_cons, List.not_mem_nil, or_false] at hb
          have h9 : (s1.heap.objs.size : Nat) ≤ h3.objs.size := by omega
          rcases hb with z | z
          · rw [z] at hl
            exact absurd (Nat.lt_of_lt_of_le hl h9) (Nat.lt_irrefl _)
          · rw [z] at hl
            exact Nat.lt_irrefl _ hl
        have J := GxR.inv_tab (more := more) (h' := s'.heap) (g' := s'.gens) (d' := s'.drawn) (t' := s'.toks) I1 hP (fun b u hb e => hm.heap b u (old b u e) (hk5 b u (keep3 b u hb e)))
          (by rw [← em]; exact hm.heap P _ (old P _ tab1) (hk5 P _ tab3)) (AllBare.movedS (I1.bare.push hgb) hm)
        rw [GxR.sh_eta s1 s' hm.os] at J
        exact ⟨_, ⟨⟨ps ++ more, upd_same, by rw [← em]; exact ht3⟩, fun b hb => upd_ne hb⟩, J⟩
  refine ⟨noLim, ?_⟩
  cases hf : codeAmong gpos ps.toList with
  | none =>
    refine wpAny_genexprCodeX hcode (codeP.code tab2 ht) (codeP.tab tab2) hf fun c' h' tk hx hge hlt hco' _ htab' _ => ?_
    obtain ⟨o1, vs, f1, tf, fl, tg, inF, tx, tt, op, _, _, _, _, _, _, _, _, _, htr, _⟩ := hco'
    exact rest _ h' tk _ hx (Nat.le_trans hge (Nat.le_of_lt hlt)) htab'.2 ⟨_, rfl⟩ htr
  | some cv =>
    refine wpAny_genexprCode_hit hcode (codeP.code tab2 ht) hf ?_
    exact rest cv (s1.heap.push o) s1.toks ps (Heap.ExtBut.refl _ _) (Nat.le_refl _) tab2 ⟨#[], by simp⟩ ht
/-- all(e for x in xs), any(..): behind it the def's table may have grown -/
def tAllQ (X : Cx) (scope : Scope) (P : Addr) (x : Str) (elt : Expr) (te : TE) : TE := fun σ H Q => te σ H fun v H1 => ∃ a xs pb, v = .ref a ∧ SqX X.K H1 a xs ∧ EltOk X scope P x elt xs pb σ H1 ∧ GxR.TabG H1 P ∧
  ∀ H2, GxR.Tabbed P H1 H2 → Q (.bl ((List.range xs.length).all pb)) H2
def tAnyQ (X : Cx) (scope : Scope) (P : Addr) (x : Str) (elt : Expr) (te : TE) : TE := fun σ H Q => te σ H fun v H1 => ∃ a xs pb, v = .ref a ∧ SqX X.K H1 a xs ∧ EltOk X scope P x elt xs pb σ H1 ∧ GxR.TabG H1 P ∧
  ∀ H2, GxR.Tabbed P H1 H2 → Q (.bl ((List.range xs.length).any pb)) H2
theorem pe_allQ {c P : Addr} {elt iter : Expr} {x : Str} {px p pos gpos : Pos} {scope : Scope} {te : TE} {k : Nat} (hr : Room k X.A) (hg : Gl X "all") (hm : X.mg "all" = none) (TB : GxR.TabB X.base X.mg c P)
    (hcode : X.env.code = .ref c) (S : GxR.GenS X.env scope x) (hi : PE X iter te) (hs : ∀ v, genFold iter X.env v = pure v := by intro _; rfl)
    (he : starEach [.GeneratorExp elt [⟨.Name x px, iter, [], 0⟩] scope gpos] X.env = (false, eval (.GeneratorExp elt [⟨.Name x px, iter, [], 0⟩] scope gpos) X.env) :: starEach [] X.env := by rfl) :
    PE X (.Call (.Name "all" p) [.GeneratorExp elt [⟨.Name x px, iter, [], 0⟩] scope gpos] [] pos) (tAllQ X scope P x elt te) := by
  refine ⟨fun pins s σ H Q I h => ?_⟩
  refine wpAny_Call_Name_kw (ld_blt I hg hm (u := .builtin "all") (by decide +kernel) ?_)
  refine PyProof.Rows.callWith_builtin1 ?_ he (by rfl)
  rw [he]
  refine Calls.spliced_cons (gen_seq (R := fun xs pb H1 => ∀ H2, GxR.Tabbed P H1 H2 → Q (.bl ((List.range xs.length).all pb)) H2) hr TB hcode S hi hs I h fun xs pb H1 g s5 hR hG => ?_)
  obtain ⟨fp, wr, G, F, St, W, hst, htr, hI⟩ := hG
  refine Calls.spliced_nil (call_all_walkS (W.self 0 _ _ _ hst ⟨g, fp, wr, G, _, F, St, _, rfl, W, hst, htr, fun s' hmv => ?_⟩))
  obtain ⟨H2, hT, J⟩ := hI s' hmv
  exact ⟨.bl _, H2, J, rfl, hR H2 hT⟩
theorem pe_anyQ {c P : Addr} {elt iter : Expr} {x : Str} {px p pos gpos : Pos} {scope : Scope} {te : TE} {k : Nat} (hr : Room k X.A) (hg : Gl X "any") (hm : X.mg "any" = none) (TB : GxR.TabB X.base X.mg c P)
    (hcode : X.env.code = .ref c) (S : GxR.GenS X.env scope x) (hi : PE X iter te) (hs : ∀ v, genFold iter X.env v = pure v := by intro _; rfl)
    (he : starEach [.GeneratorExp elt [⟨.Name x px, iter, [], 0⟩] scope gpos] X.env = (false, eval (.GeneratorExp elt [⟨.Name x px, iter, [], 0⟩] scope gpos) X.env) :: starEach [] X.env := by rfl) :
    PE X (.Call (.Name "any" p) [.GeneratorExp elt [⟨.Name x px, iter, [], 0⟩] scope gpos] [] pos) (tAnyQ X scope P x elt te) := by
  refine ⟨fun pins s σ H Q I h => ?_⟩
  refine wpAny_Call_Name_kw (ld_blt I hg hm (u := .builtin "any") (by decide +kernel) ?_)
  refine PyProof.Rows.callWith_builtin1 ?_ he (by rfl)
  rw [he]
  refine Calls.spliced_cons (gen_seq (R := fun xs pb H1 => ∀ H2, GxR.Tabbed P H1 H2 → Q (.bl ((List.range xs.length).any pb)) H2) hr TB hcode S hi hs I h fun xs pb H1 g s5 hR hG => ?_)
  obtain ⟨fp, wr, G, F, St, W, hst, htr, hI⟩ := hG
  refine Calls.spliced_nil (call_any_walkS (W.self 0 _ _ _ hst ⟨g, fp, wr, G, _, F, St, _, rfl, W, hst, htr, fun s' hmv => ?_⟩))
  obtain ⟨H2, hT, J⟩ := hI s' hmv
  exact ⟨.bl _, H2, J, rfl, hR H2 hT⟩
end
end Rc
/-! part RcG2 -/
namespace Rc
open PySem PySem.Spec PyProof.Rows L2
section
variable {X : Cx} {pins : List (Addr × Obj)} {σ : L2.St} {H : Hp} {s1 s₂ : Shared} {scope : Scope} {P : Addr} {cenv : Env}
/-- the table's place holds no other thing -/
theorem tab_ne (I : Inv X pins σ H s1) (T : GxR.TabG H P) {b : Addr} {o : Obj} (h : s1.heap.get? b = some o) (hd : ∀ vs, o.data ≠ .fields vs) : b ≠ P := by
  obtain ⟨ps, hP, _⟩ := T
  have e : s1.heap.get? P = some { cls := .none, data := .fields ps } := I.hok P _ hP
  intro z
  rw [z, e] at h
  exact hd ps (by rw [← Option.some.inj h])
theorem El.ns (E : El X scope P s1 cenv s₂) (I : Inv X pins σ H s1) (T : GxR.TabG H P) {b : Addr} {m : Str → Option Value} (h : s1.heap.Ns b m) : s₂.heap.Ns b m := by
  obtain ⟨o, es, ep, ho, hd, r⟩ := h
  exact ⟨o, es, ep, E.keep b o (tab_ne I T ho fun vs z => by rw [hd] at z; cases z) ho, hd, r⟩
theorem El.cell (E : El X scope P s1 cenv s₂) (I : Inv X pins σ H s1) (T : GxR.TabG H P) {b : Addr} {v : Option Value} (h : s1.heap.IsCell b v) : s₂.heap.IsCell b v := by
  obtain ⟨o, ho, hd⟩ := h
  exact ⟨o, E.keep b o (tab_ne I T ho fun vs z => by rw [hd] at z; cases z) ho, hd⟩
/-- a captured name's value, in the generator's frame -/
theorem El.free {A : Around} {E' : Value → Shared → Prop} {Q : Value → Shared → Prop} {y : Str} {j : Nat} {v : V} {pos : Pos} (E : El X scope P s1 cenv s₂) (I : Inv X pins σ H s1) (T : GxR.TabG H P)
    (hk : scope.kind = .function) (hN : X.N[j]? = some y) (hs : σ[j]? = some (some v)) (hx : X.env.scope.names.lookup y = some .cell) (hf : scope.names.lookup y = some .free)
    (h : ∀ u, RelV v u → Q u s₂) (hd : (y == ("__debug__" : Str)) = false := by decide +kernel) (hn : (y == ("__classdict__" : Str)) = false := by decide +kernel) :
    wpAny (model X.prog X.w) A (eval (.Name y pos) cenv) Q E' s₂ := by
  obtain ⟨m, _, hl⟩ := I.loc
  obtain ⟨u, ru, lk⟩ := hl j y v hN hs (.inr (.inl hx))
  have kx : X.env.kindOf y = some .cell := hx
  rcases lk with ⟨k1, _⟩ | ⟨_, c, ec, hc⟩
  · rw [kx] at k1
    cases k1
  · have hfm : (y, NameKind.free) ∈ scope.names := PySem.mem_of_lookup hf
    have hm : (y, (X.env.cells.lookup y).getD 0) ∈ cenv.cells := by
      rw [E.cl]
      exact cloFrom_has hfm
    obtain ⟨c', hc'⟩ := mem_lookup hm
    have ec' : c' = c := by
      have q := PySem.mem_of_lookup hc'
      rw [E.cl] at q
      rcases cloFrom_mem q with z | ⟨_, z⟩
      · exact absurd z (by simp)
      · rw [z, ec]
        rfl
    subst ec'
    exact wpAny_Name (wpAny_loadName_free (by rw [E.sc]; exact hk) (show cenv.scope.names.lookup y = some .free by rw [E.sc]; exact hf) hc' (E.cell I T hc) (h u ru) hn) hd
/-- the walked name's value -/
theorem El.loc {A : Around} {E' : Value → Shared → Prop} {Q : Value → Shared → Prop} {x : Str} {m₂ : Str → Option Value} {v : Value} {pos : Pos} (E : El X scope P s1 cenv s₂)
    (hk : scope.kind = .function) (hf : scope.names.lookup x = some .local) (hn : s₂.heap.Ns cenv.locals m₂) (hm : m₂ x = some v) (h : Q v s₂) (hd : (x == ("__debug__" : Str)) = false := by decide +kernel) :
    wpAny (model X.prog X.w) A (eval (.Name x pos) cenv) Q E' s₂ :=
  wpAny_Name (wpAny_loadName_local (by rw [E.sc]; exact hk) (show cenv.scope.names.lookup x = some .local by rw [E.sc]; exact hf) hn hm h) hd
/-- a built-in's name -/
theorem El.blt {A : Around} {E' : Value → Shared → Prop} {Q : Value → Shared → Prop} {x : Str} {u : Value} {pos : Pos} (E : El X scope P s1 cenv s₂) (I : Inv X pins σ H s1) (T : GxR.TabG H P)
    (hk : scope.kind = .function) (hf : scope.names.lookup x = some .globalImplicit) (hm : X.mg x = none) (hv : bootBuiltins x = some u) (h : Q u s₂)
    (hn : x ≠ "__name__" := by decide +kernel) (hd : (x == ("__debug__" : Str)) = false := by decide +kernel) :
    wpAny (model X.prog X.w) A (eval (.Name x pos) cenv) Q E' s₂ := by
  obtain ⟨mb, h1, h2⟩ := I.mod.blt
  exact Calls.Name_function_global (by rw [E.sc]; exact hk) (show cenv.scope.names.lookup x = some .globalImplicit by rw [E.sc]; exact hf)
    (Calls.loadGlobal_builtin (by rw [E.gl]; exact E.ns I T (I.mod.glob.keeps I.bk)) hm (by rw [E.bl]; exact E.ns I T (h1.keeps I.bk)) ((h2 x hn).trans hv) h) hd
end
/-- 0 <= x < len(y), x walks whole numbers, y a captured list or tuple -/
theorem elt_len {X : Cx} {scope : Scope} {P : Addr} {x y : Str} {σ : L2.St} {H1 : Hp} {is : List Int} {l : Addr} {ks : List V} {j : Nat} {j0 : Nat} {p0 p1 p2 p3 p4 pos : Pos} (T : GxR.TabG H1 P)
    (hk : scope.kind = .function) (hx : scope.names.lookup x = some .local) (hy : scope.names.lookup y = some .free) (hl : scope.names.lookup ("len" : Str) = some NameKind.globalImplicit) (hm : X.mg "len" = none)
    (hN : X.N[j]? = some y) (hs : σ[j]? = some (some (.ref l))) (hc : X.env.scope.names.lookup y = some .cell) (hL : SqX X.K H1 l ks)
    (d1 : (x == ("__debug__" : Str)) = false := by decide +kernel) (d2 : (y == ("__debug__" : Str)) = false := by decide +kernel) (d3 : (y == ("__classdict__" : Str)) = false := by decide +kernel) :
    EltOk X scope P x (.Compare (.Constant (.int 0) j0 p0) [.LtE, .Lt] [.Name x p1, .Call (.Name "len" p2) [.Name y p3] [] p4] pos) (is.map V.int)
      (fun i => decide (0 ≤ is.getD i 0) && decide (is.getD i 0 < (ks.length : Int))) σ H1 := by
  intro pins s1 I cenv A' E' i z v s₂ m₂ E hA hd hu hi rv hn hmx
  obtain ⟨n, hn', rfl⟩ : ∃ n, is[i]? = some n ∧ z = .int n := by
    rw [List.getElem?_map] at hi
    cases e : is[i]? with
    | none => rw [e] at hi; cases hi
    | some n => rw [e] at hi; exact ⟨n, rfl, (Option.some.inj hi).symm⟩
  have eD : is.getD i 0 = n := by rw [List.getD_eq_getElem?_getD, hn']; rfl
  dsimp only
  rw [eD]
  obtain ⟨t, rfl⟩ := rv
  refine Compare_chain (wpAny_Constant_int (chain_link ?_))
  have E2 : El X scope P s1 cenv { s₂ with toks := s₂.toks + 1 } := ⟨E.sc, E.cl, E.gl, E.bl, E.keep⟩
  refine E2.loc hk hx hn hmx (le_int ?_) d1
  refine wpAny_truthy_bool ?_
  by_cases h0 : 0 ≤ n
  · rw [decide_eq_true h0]
    refine ite_tt (chain_last ?_)
    refine wpAny_Call_Name_kw (E2.blt I T hk hl hm PySem.boot_len ?_)
    refine PyProof.Rows.callWith_builtin1 ?_ (by rfl) (by rfl)
    refine Calls.spliced_cons (E2.free I T hk hN hs hc hy (fun u ru => ?_) d2 d3)
    obtain rfl : u = Value.ref l := ru
    refine Calls.spliced_nil ?_
    rcases hL with hL | hL
    · obtain ⟨its, rv, pl, hz⟩ := I.list hL
      have e := rv.length
      obtain ⟨o, ho, hcl, m, hdt⟩ := pl.isList
      have il : s₂.heap.IsList l its.toArray := ⟨o, E.keep l o (tab_ne I T ho fun vs z => by rw [hdt] at z; cases z) ho, hcl, m, hdt⟩
      refine Calls.call_len_list il (by have := line63; simp only [List.size_toArray] <;> omega) ?_
      refine lt_int ⟨?_, _, _, rfl, fun _ _ e => e⟩
      rw [List.size_toArray, e]
      rfl
    · obtain ⟨its, rv, pl, hz⟩ := I.tuple hL
      have e := rv.length
      obtain ⟨o, ho, hcl, m, hdt⟩ := pl
      have il : IsTup s₂.heap l its.toArray := ⟨o, E.keep l o (tab_ne I T ho fun vs z => by rw [hdt] at z; cases z) ho, hcl, m, hdt⟩
      refine len_tuple il (by have := line63; simp only [List.size_toArray] <;> omega) ?_
      refine lt_int ⟨?_, _, _, rfl, fun _ _ e => e⟩
      rw [List.size_toArray, e]
      rfl
  · rw [decide_eq_false h0]
    exact ite_ff ⟨rfl, _, _, rfl, fun _ _ e => e⟩
end Rc
/-! part RcM -/
namespace Rc
open PySem PySem.Spec PyProof.Rows L2
/-- for i, x in enumerate(xs): Pv by the turn -/
theorem for_enum {K : PySem.W.Frag} {a : Addr} {xs : List V} {g : TG} {tb : TS} {D : Ends} {σ : L2.St} {H : Hp} (Pv : Nat → L2.St → Hp → Prop) (h0 : Pv 0 σ H)
    (hl : ∀ i σ H, i ≤ xs.length → Pv i σ H → SqL K H a xs)
    (hs : ∀ i x T σ H, xs[i]? = some x → Pv i σ H → H T = none → g (.ref T) σ (upd H T (.tup [.int (i : Nat), x])) fun σ2 H2 => tb { D with nx := Pv (i + 1), ct := Pv (i + 1), bk := D.nx } σ2 H2)
    (hd : ∀ σ H, Pv xs.length σ H → D.nx σ H) :
    ∃ W : Nat → Nat → L2.St → Hp → Prop, (∃ m, W 0 m σ H) ∧ ∀ i m σ H, W i m σ H →
      ((Ite K a).stop i H ∧ D.nx σ H) ∨ ((Ite K a).go i H ∧ ∃ N : L2.St → Hp → Prop, (∀ σ' H', N σ' H' → ∃ m', m' < m ∧ W (i + 1) m' σ' H') ∧
        ∀ x H', (Ite K a).yld i H x H' → g x σ H' fun σ2 H2 => tb { D with nx := N, ct := N, bk := D.nx } σ2 H2) := by
  refine ⟨fun i m σ H => m = xs.length - i ∧ i ≤ xs.length ∧ Pv i σ H, ⟨_, rfl, Nat.zero_le _, h0⟩, ?_⟩
  rintro i m σ H ⟨rfl, hi, p⟩
  have sq := hl i σ H hi p
  by_cases lt : i < xs.length
  · refine .inr ⟨⟨xs, xs[i], sq, List.getElem?_eq_getElem lt⟩, Pv (i + 1), fun σ' H' q => ⟨_, by omega, rfl, lt, q⟩, fun v H' hy => ?_⟩
    obtain ⟨T, x, rfl, hT, rfl, hx⟩ := hy
    exact hs i x T σ H (hx xs sq) p hT
  · have e : i = xs.length := by omega
    subst e
    exact .inl ⟨⟨xs, sq, Nat.le_refl _⟩, hd σ H p⟩
/-! ### a map -/
def mfs (n r : Int) (l : Addr) : List (Str × V) := [("_many", .int n), ("_root", .int r), ("_roads", .ref l)]
def MapAt (K : PySem.W.Frag) (C : Addr) (H : Hp) (p : Addr) (n r : Int) (rows : List Row) : Prop :=
  ∃ (dx l : Addr), H p = some (.ins C dx (mfs n r l)) ∧ Dp K H (.ref l) (rowsDat rows)
theorem MapAt.same {K : PySem.W.Frag} {C : Addr} {H H' : Hp} {p : Addr} {n r : Int} {rows : List Row} (h : MapAt K C H p n r rows) (e : Same H H') : MapAt K C H' p n r rows := by
  obtain ⟨dx, l, h1, h2⟩ := h
  exact ⟨dx, l, e _ _ h1, dp_same e _ _ h2⟩
structure TxtM (K : PySem.W.Frag) (mg : Str → Option Value) (C : Addr) : Prop extends TxtL mg where
  cl : Cls K C
  nM : NoAttr K C "_many"
  nR : NoAttr K C "_root"
  nL : NoAttr K C "_roads"
  mgC : mg "Map" = some (.ref C)
  enum : mg "enumerate" = none
  gP : ∃ t, mg "MOST_PLACES" = some (.int 20 t)
  gR : ∃ t, mg "MOST_ROADS" = some (.int 60 t)
  gC : ∃ t, mg "MOST_COST" = some (.int 1000000000 t)
def spCheck (K : PySem.W.Frag) : Sp := fun vs H Q _ => ∃ (many root : Int) (v : V) (rows : List Row), vs = [.int many, .int root, v] ∧ Dp K H v (rowsDat rows) ∧ ChartOk many root rows ∧ ∀ H', Same H H' → Q .non H'
theorem no_not {p : Prop} [Decidable p] (h : p) : ¬ ((!decide p) = true) := by simp [h]
theorem no_dec {p : Prop} [Decidable p] (h : ¬ p) : ¬ (decide p = true) := by simp [h]
theorem ne_root : ¬ (("_many" : Str) = "_root") := by decide +kernel
theorem ne_m_roads : ¬ (("_many" : Str) = "_roads") := by decide +kernel
theorem ne_r_roads : ¬ (("_root" : Str) = "_roads") := by decide +kernel
section
variable {P : Program} {w : World} {K : PySem.W.Frag} {mg : Str → Option Value} {base : Heap}
/-- a cost that a road can have -/
def spCheckCost : Sp := fun vs H Q _ => ∃ (i c : Int), vs = [.int i, .int c] ∧ 0 ≤ c ∧ c ≤ 1000000000 ∧ Q .non H
theorem ok_check_cost {f C : Addr} {fd : FuncData} {k : Nat} (F : Fun K "check_cost" "check_cost" s_check_cost f fd) (T : TxtM K mg C) : FnOk P w K mg base CX0 (k + 1) f fd ["road", "cost"] spCheckCost := by
  obtain ⟨tC, gC⟩ := T.gC
  refine F.ok sc_check_cost (fun vs H Q E h => ?_) (fun cdv A outer s H vs Q E hr h => ?_)
  · obtain ⟨i, c, rfl, _⟩ := h
    rfl
  · obtain ⟨i, c, rfl, c0, c1, q⟩ := h
    refine ⟨_, (pss_one (ps_if (pt_not (pt_chain op_le op_le pe_int (pv 1) (pe_glob (v := .int 1000000000) rfl gC ⟨_, rfl⟩)))
   (pss_one ps_never)
   pss_nil)), ?_⟩
    refine ⟨_, rfl, _, _, rfl, rfl, _, rfl, ite2 (fun _ => ?_) (fun c => absurd (decide_eq_true c0) c)⟩
    refine ⟨_, _, rfl, rfl, _, rfl, ite2 (fun c => absurd c (no_not c1)) (fun _ => ?_)⟩
    exact q
theorem ok_check {f C : Addr} {fd : FuncData} {k : Nat} (F : Fun K "check_map" "check_map" s_check_map f fd) (T : TxtM K mg C) (hC : Has P w K mg base "check_cost" ["road", "cost"] k spCheckCost) : FnOk P w K mg base CX0 (k + 1) f fd ["many", "root", "roads"] (spCheck K) := by
  obtain ⟨fC, fdC, gCC, kC, bC, GC⟩ := hC
  obtain ⟨tP, gP⟩ := T.gP
  obtain ⟨tR, gR⟩ := T.gR
  refine F.ok sc_check_map (fun vs H Q E h => ?_) (fun cdv A outer s H vs Q E hr h => ?_)
  · obtain ⟨many, root, v, rows, rfl, _⟩ := h
    rfl
  · obtain ⟨many, root, v, rows, rfl, hD, ok, q⟩ := h
    refine ⟨_, (pss_cons (ps_if (pt_not (pt_chain op_le op_le pe_int (pv 0) (pe_glob (v := .int 20) rfl gP ⟨_, rfl⟩)))
   (pss_one ps_never)
   pss_nil)
  (pss_cons (ps_if (pt_not (pt_chain op_le op_lt pe_int (pv 1) (pv 0)))
   (pss_one ps_never)
   pss_nil)
  (pss_cons (ps_if (pt_cmpR op_gt (pe_callB call_len_seq (by rfl) T.len PySem.boot_len (pa_cons (pv 2) pa_nil)) (pe_glob (v := .int 60) rfl gR ⟨_, rfl⟩) (nomark _))
   (pss_one ps_never)
   pss_nil)
  (pss_one (ps_for PassesOwn.never rfl (pi_enum (by rfl) T.enum (pa_cons (pv 2) pa_nil)) (pg_tup (by rfl) (pgs_cons (pg_name (i := 3) sc_check_map.nd rfl (Or.inl rfl)) (pgs_cons (pg_tup (by rfl) (pgs_cons (pg_name (i := 4) sc_check_map.nd rfl (Or.inl rfl)) (pgs_cons (pg_name (i := 5) sc_check_map.nd rfl (Or.inl rfl)) (pgs_cons (pg_name (i := 6) sc_check_map.nd rfl (Or.inl rfl)) pgs_nil)))) pgs_nil)))
   (pss_cons (ps_if (PW.pt (pw_or (pt_cmpR op_eq (pv 4) (pv 5) (nomark _)) (pw_or (pt_not (pt_chain op_le op_lt pe_int (pv 4) (pv 0))) (pw_or1 (pt_not (pt_chain op_le op_lt pe_int (pv 5) (pv 0)))))))
   (pss_one ps_never)
   pss_nil)
  (pss_one (ps_expr (pe_call GC hr (by rfl) gCC kC bC .nil pass0 (pa_cons (pv 3) (pa_cons (pv 6) pa_nil))))))))))), ?_⟩
    obtain ⟨m0, m1, r0, r1, hlen, hrows⟩ := ok
    obtain ⟨a, xs, rfl, hS, hA⟩ := dp_list_inv hD
    have hlen' : xs.length = rows.length := by rw [dpAll_len hA, List.length_map]
    refine ⟨_, rfl, _, _, rfl, rfl, _, rfl, ite2 (fun _ => ?_) (fun c => absurd (decide_eq_true m0) c)⟩
    refine ⟨_, _, rfl, rfl, _, rfl, ite2 (fun c => absurd c (no_not m1)) (fun _ => ?_)⟩
    refine ⟨_, rfl, _, _, rfl, rfl, _, rfl, ite2 (fun _ => ?_) (fun c => absurd (decide_eq_true r0) c)⟩
    refine ⟨_, rfl, _, _, rfl, rfl, _, rfl, ite2 (fun c => absurd c (no_not r1)) (fun _ => ?_)⟩
    refine ⟨_, rfl, _, _, rfl, .inl hS, _, _, rfl, rfl, _, rfl, ite2 (fun c => absurd c (no_dec (by omega))) (fun _ => ?_)⟩
    refine ⟨_, rfl, a, xs, rfl, hS, for_enum (K := K) (a := a) (xs := xs) (fun i σ H' => Same H H' ∧ ∃ v3 v4 v5 v6 : Option V, σ = [some (.int many), some (.int root), some (.ref a), v3, v4, v5, v6])
      ⟨same_refl, _, _, _, _, rfl⟩ (fun i σ H' _ ⟨e, _⟩ => e.seq hS) ?_ ?_⟩
    · rintro i x t σ H' hi ⟨e, v3, v4, v5, v6, rfl⟩ ht
      obtain ⟨d, hd, hx⟩ := dpAll_get' hA hi
      obtain ⟨r, hr', rfl⟩ : ∃ r, rows[i]? = some r ∧ d = r.dat := by
        rw [List.getElem?_map] at hd
        cases er : rows[i]? with
        | none => rw [er] at hd; cases hd
        | some r => rw [er] at hd; exact ⟨r, rfl, (Option.some.inj hd).symm⟩
      have rok := hrows r (List.mem_of_getElem? hr')
      obtain ⟨t2, ys, rfl, hT, hY⟩ := dp_tup_inv hx
      have hY' : ys = [.int r.b, .int r.g, .int r.c] := by
        cases hY with
        | cons h1 h2 =>
          cases h1
          cases h2 with
          | cons h1 h2 =>
            cases h1
            cases h2 with
            | cons h1 h2 =>
              cases h1
              cases h2
              rfl
      subst hY'
      have e2 : Same H (upd H' t (.tup [.int (i : Nat), .ref t2])) := e.trans (same_new ht)
      refine ⟨t, _, rfl, .of upd_same, rfl, .int (i : Nat), _, rfl, .ref t2, _, rfl, ⟨t2, _, rfl, sqT_same e2 hT, rfl, _, _, rfl, _, _, rfl, _, _, rfl, rfl, rfl, ?_⟩⟩
      refine ⟨_, rfl, _, rfl, rfl, _, rfl, ite2 (fun c => absurd (V.int.inj (of_decide_eq_true c)) rok.ne) (fun _ => ?_)⟩
      refine ⟨_, rfl, _, _, rfl, rfl, _, rfl, ite2 (fun _ => ?_) (fun c => absurd (decide_eq_true rok.b0) c)⟩
      refine ⟨_, rfl, _, _, rfl, rfl, _, rfl, ite2 (fun c => absurd c (no_not rok.b1)) (fun _ => ?_)⟩
      refine ⟨_, rfl, _, _, rfl, rfl, _, rfl, ite2 (fun _ => ?_) (fun c => absurd (decide_eq_true rok.g0) c)⟩
      refine ⟨_, rfl, _, _, rfl, rfl, _, rfl, ite2 (fun c => absurd c (no_not rok.g1)) (fun _ => ?_)⟩
      refine ⟨_, rfl, _, rfl, _, _, rfl, rok.c0, rok.c1, ?_⟩
      exact ⟨e2, _, _, _, _, rfl⟩
    · rintro σ H' ⟨e, v3, v4, v5, v6, rfl⟩
      exact q H' e
theorem putF1 (n : Int) : putF "_many" (.int n) [] = [(("_many" : Str), V.int n)] := rfl
theorem putF2 (n r : Int) : putF "_root" (.int r) [(("_many" : Str), V.int n)] = [(("_many" : Str), V.int n), ("_root", .int r)] := by
  show (if ("_many" : Str) = "_root" then _ else _) = _
  rw [if_neg ne_root]
  rfl
theorem putF3 (n r : Int) (l : Addr) : putF "_roads" (.ref l) [(("_many" : Str), V.int n), ("_root", .int r)] = mfs n r l := by
  show (if ("_many" : Str) = "_roads" then _ else (("_many" : Str), V.int n) :: (if ("_root" : Str) = "_roads" then _ else _)) = _
  rw [if_neg ne_m_roads, if_neg ne_r_roads]
  rfl
theorem beq_rm : (("_root" : Str) == "_many") = false := by decide +kernel
theorem beq_lm : (("_roads" : Str) == "_many") = false := by decide +kernel
theorem beq_lr : (("_roads" : Str) == "_root") = false := by decide +kernel
theorem look_many (n r : Int) (l : Addr) : (mfs n r l).lookup ("_many" : Str) = some (.int n) := by simp [mfs, List.lookup]
theorem look_root (n r : Int) (l : Addr) : (mfs n r l).lookup ("_root" : Str) = some (.int r) := by simp [mfs, List.lookup, beq_rm]
theorem look_roads (n r : Int) (l : Addr) : (mfs n r l).lookup ("_roads" : Str) = some (.ref l) := by simp [mfs, List.lookup, beq_lm, beq_lr]
theorem look_no (n r : Int) (l : Addr) {m : Str} (h1 : (m == "_many") = false) (h2 : (m == "_root") = false) (h3 : (m == "_roads") = false) : (mfs n r l).lookup m = none := by simp [mfs, List.lookup, h1, h2, h3]
def spInit (K : PySem.W.Frag) (C : Addr) : Sp := fun vs H Q _ => ∃ (p dx : Addr) (many root : Int) (v : V) (rows : List Row), vs = [.ref p, .int many, .int root, v] ∧ H p = some (.ins C dx []) ∧ Dp K H v (rowsDat rows) ∧ ChartOk many root rows ∧
  ∀ (H' : Hp) (l : Addr) (xs : List V), (∀ b o, b ≠ p → H b = some o → H' b = some o) → H l = none → l ≠ p → H' l = some (.lst xs) → DpAll K H xs (rows.map Row.dat) → H' p = some (.ins C dx (mfs many root l)) → Q .non H'
theorem sqL_ins {H : Hp} {a p C C' dx dx' : Addr} {fs fs' : List (Str × V)} {xs : List V} (h : SqL K H a xs) (hp : H p = some (.ins C dx fs)) : SqL K (upd H p (.ins C' dx' fs')) a xs := by
  rcases h with (h | ⟨o, h⟩) | h
  · exact .inl (.inl (by rw [upd_ne (ne_of h hp (by intro z; cases z))]; exact h))
  · exact .inl (.inr ⟨o, by rw [upd_ne (ne_of h hp (by intro z; cases z))]; exact h⟩)
  · exact .inr h
theorem ok_init {f C : Addr} {fd : FuncData} {k : Nat} (F : Fun K "__init__" "Map.__init__" s_Map___init__ f fd) (T : TxtM K mg C) (hC : Has P w K mg base "check_map" ["many", "root", "roads"] k (spCheck K)) :
    FnOk P w K mg base CX0 (k + 1) f fd ["self", "many", "root", "roads"] (spInit K C) := by
  obtain ⟨fC, fdC, gC, kC, bC, GC⟩ := hC
  refine F.ok sc_Map___init__ (fun vs H Q E h => ?_) (fun cdv A outer s H vs Q E hr h => ?_)
  · obtain ⟨p, dx, many, root, v, rows, rfl, _⟩ := h
    rfl
  · obtain ⟨p, dx, many, root, v, rows, rfl, hp, hD, ok, q⟩ := h
    refine ⟨_, (pss_cons (ps_expr (pe_call GC hr (by rfl) gC kC bC .nil pass0 (pa_cons (pv 1) (pa_cons (pv 2) (pa_cons (pv 3) pa_nil)))))
  (pss_cons (ps_fld (pv 0) (pv 1) rfl)
  (pss_cons (ps_fld (pv 0) (pv 2) rfl)
  (pss_one (ps_fld (pv 0) (pe_callTy call_list_of (by rfl) T.list (by decide +kernel) (pa_cons (pv 3) pa_nil)) rfl))))), ?_⟩
    refine ⟨_, rfl, _, rfl, _, rfl, many, root, v, rows, rfl, hD, ok, fun H1 e1 => ?_⟩
    have h1 := e1 _ _ hp
    refine ⟨_, rfl, _, rfl, p, C, dx, _, rfl, h1, T.cl, T.nM, (by show 0 < 1000; decide), ?_⟩
    refine ⟨_, rfl, _, rfl, p, C, dx, _, rfl, upd_same, T.cl, T.nR, (by rw [putF1]; show 1 < 1000; decide), ?_⟩
    rw [upd_upd, putF1, putF2]
    obtain ⟨a, xs, rfl, hS, hA⟩ := dp_list_inv hD
    have hS1 := sqL_ins (e1.seq hS) h1 (C' := C) (dx' := dx) (fs' := [(("_many" : Str), V.int many), ("_root", .int root)])
    refine ⟨_, rfl, a, xs, rfl, .inl hS1, fun l hl => ?_⟩
    have nlp : l ≠ p := fun e => by
      rw [e, upd_same] at hl
      cases hl
    have hl1 : H1 l = none := by
      rw [upd_ne nlp] at hl
      exact hl
    refine ⟨_, rfl, p, C, dx, _, rfl, Eq.trans (upd_ne (Ne.symm nlp)) upd_same, T.cl, T.nL, (by show 2 < 1000; decide), ?_⟩
    rw [putF3]
    refine q _ l xs (fun b o nb e => ?_) (e1.free hl1) nlp (by rw [upd_ne nlp, upd_same]) hA upd_same
    have nbl : b ≠ l := ne_of_none (e1 _ _ e) hl1
    rw [upd_ne nb, upd_ne nbl, upd_ne nb]
    exact e1 _ _ e
end
end Rc
/-! part RcM2 -/
namespace Rc
open PySem PySem.Spec PyProof.Rows L2
def spSize (K : PySem.W.Frag) (C : Addr) : Sp := fun vs H Q _ => ∃ (p : Addr) (n r : Int) (rows : List Row), vs = [.ref p] ∧ MapAt K C H p n r rows ∧ Q (.int n) H
def spBegin (K : PySem.W.Frag) (C : Addr) : Sp := fun vs H Q _ => ∃ (p : Addr) (n r : Int) (rows : List Row), vs = [.ref p] ∧ MapAt K C H p n r rows ∧ Q (.int r) H
def spRoads (K : PySem.W.Frag) (C : Addr) : Sp := fun vs H Q _ => ∃ (p : Addr) (n r : Int) (rows : List Row), vs = [.ref p] ∧ MapAt K C H p n r rows ∧
  ∀ l xs, H l = none → DpAll K H xs (rows.map Row.dat) → Q (.ref l) (upd H l (.lst xs))
/-- the method m of the class keeps the promise -/
def HasM (P : Program) (w : World) (K : PySem.W.Frag) (mg : Str → Option Value) (base : Heap) (C : Addr) (m : Str) (ps : List Str) (k : Nat) (sp : Sp) : Prop :=
  ∃ (f : Addr) (fd : FuncData), Meth K C m f ∧ Binds K fd ps [] ∧ FnOk P w K mg base CX0 k f fd ps sp
/-- the class can be made, by an __init__ with the promise -/
def HasC (P : Program) (w : World) (K : PySem.W.Frag) (mg : Str → Option Value) (base : Heap) (C : Addr) (ps : List Str) (k : Nat) (sp : Sp) : Prop :=
  ∃ (f : Addr) (fd : FuncData), Mk K C f ∧ Binds K fd ps [] ∧ FnOk P w K mg base CX0 k f fd ps sp
theorem no_size : (("size" : Str) == "_many") = false ∧ (("size" : Str) == "_root") = false ∧ (("size" : Str) == "_roads") = false := by decide +kernel
theorem no_begin : (("begin" : Str) == "_many") = false ∧ (("begin" : Str) == "_root") = false ∧ (("begin" : Str) == "_roads") = false := by decide +kernel
theorem no_roads : (("roads" : Str) == "_many") = false ∧ (("roads" : Str) == "_root") = false ∧ (("roads" : Str) == "_roads") = false := by decide +kernel
theorem lk_size {n r : Int} {l : Addr} : (mfs n r l).lookup ("size" : Str) = none := look_no n r l no_size.1 no_size.2.1 no_size.2.2
theorem lk_begin {n r : Int} {l : Addr} : (mfs n r l).lookup ("begin" : Str) = none := look_no n r l no_begin.1 no_begin.2.1 no_begin.2.2
theorem lk_roads {n r : Int} {l : Addr} : (mfs n r l).lookup ("roads" : Str) = none := look_no n r l no_roads.1 no_roads.2.1 no_roads.2.2
theorem row_inv {K : PySem.W.Frag} {H : Hp} {v : V} {r : Row} (h : Dp K H v r.dat) : ∃ t, v = .ref t ∧ SqT K H t [.int r.b, .int r.g, .int r.c] := by
  obtain ⟨t, ys, rfl, hT, hY⟩ := dp_tup_inv h
  refine ⟨t, rfl, ?_⟩
  cases hY with
  | cons h1 h2 =>
    cases h1
    cases h2 with
    | cons h1 h2 =>
      cases h1
      cases h2 with
      | cons h1 h2 =>
        cases h1
        cases h2
        exact hT
theorem rows_get {K : PySem.W.Frag} {H : Hp} {xs : List V} {rows : List Row} {i : Nat} {x : V} (h : DpAll K H xs (rows.map Row.dat)) (e : xs[i]? = some x) : ∃ r, rows[i]? = some r ∧ Dp K H x r.dat := by
  obtain ⟨d, hd, hx⟩ := dpAll_get' h e
  rw [List.getElem?_map] at hd
  cases er : rows[i]? with
  | none => rw [er] at hd; cases hd
  | some r =>
    rw [er] at hd
    exact ⟨r, rfl, (Option.some.inj hd) ▸ hx⟩
theorem rows_at {K : PySem.W.Frag} {H : Hp} {xs : List V} {rows : List Row} {i : Nat} {r : Row} (h : DpAll K H xs (rows.map Row.dat)) (e : rows[i]? = some r) : ∃ t, xs[i]? = some (.ref t) ∧ SqT K H t [.int r.b, .int r.g, .int r.c] := by
  obtain ⟨v, hv, hd⟩ := dpAll_get (i := i) (d := r.dat) h (by rw [List.getElem?_map, e]; rfl)
  obtain ⟨t, rfl, hT⟩ := row_inv hd
  exact ⟨t, hv, hT⟩
theorem ints_get {K : PySem.W.Frag} {H : Hp} {xs : List V} {is : List Int} {i : Nat} {x : V} (h : DpAll K H xs (is.map PyData.int)) (e : xs[i]? = some x) : ∃ n, is[i]? = some n ∧ x = .int n := by
  rw [dpAll_ints_inv h, List.getElem?_map] at e
  cases er : is[i]? with
  | none => rw [er] at e; cases e
  | some r =>
    rw [er] at e
    exact ⟨r, rfl, (Option.some.inj e).symm⟩
/-- what some roads cost together -/
def costOf (rows : List Row) (is : List Int) : Int := (is.map fun i => (rows[i.toNat]?.map Row.c).getD 0).sum
def RoadsOk (rows : List Row) (is : List Int) : Prop := ∀ i ∈ is, 0 ≤ i ∧ i < (rows.length : Int)
def spCostOf (K : PySem.W.Frag) (C : Addr) : Sp := fun vs H Q _ => ∃ (p : Addr) (n r : Int) (rows : List Row) (v : V) (is : List Int), vs = [.ref p, v] ∧ MapAt K C H p n r rows ∧ Dp K H v (.list (is.map .int)) ∧ RoadsOk rows is ∧ is.length ≤ 1000 ∧
  ∀ H', Same H H' → Q (.int (costOf rows is)) H'
theorem take_succ {α : Type} {l : List α} {i : Nat} {x : α} (h : l[i]? = some x) : l.take (i + 1) = l.take i ++ [x] := by
  rw [List.take_add_one, h]
  rfl
section
variable {P : Program} {w : World} {K : PySem.W.Frag} {mg : Str → Option Value} {base : Heap}
theorem ok_size {f C : Addr} {fd : FuncData} {k : Nat} (F : Fun K "size" "Map.size" s_Map_size f fd) (T : TxtM K mg C) : FnOk P w K mg base CX0 (k + 1) f fd ["self"] (spSize K C) := by
  refine F.ok sc_Map_size (fun vs H Q E h => ?_) (fun cdv A outer s H vs Q E hr h => ?_)
  · obtain ⟨p, n, r, rows, rfl, _⟩ := h
    rfl
  · obtain ⟨p, n, r, rows, rfl, ⟨dx, l, hp, hD⟩, q⟩ := h
    exact ⟨_, pss_one (ps_ret (pe_fld (pv 0) rfl)), _, rfl, p, C, dx, _, _, rfl, hp, T.cl, T.nM, look_many _ _ _, q⟩
theorem ok_begin {f C : Addr} {fd : FuncData} {k : Nat} (F : Fun K "begin" "Map.begin" s_Map_begin f fd) (T : TxtM K mg C) : FnOk P w K mg base CX0 (k + 1) f fd ["self"] (spBegin K C) := by
  refine F.ok sc_Map_begin (fun vs H Q E h => ?_) (fun cdv A outer s H vs Q E hr h => ?_)
  · obtain ⟨p, n, r, rows, rfl, _⟩ := h
    rfl
  · obtain ⟨p, n, r, rows, rfl, ⟨dx, l, hp, hD⟩, q⟩ := h
    exact ⟨_, pss_one (ps_ret (pe_fld (pv 0) rfl)), _, rfl, p, C, dx, _, _, rfl, hp, T.cl, T.nR, look_root _ _ _, q⟩
theorem ok_roads {f C : Addr} {fd : FuncData} {k : Nat} (F : Fun K "roads" "Map.roads" s_Map_roads f fd) (T : TxtM K mg C) : FnOk P w K mg base CX0 (k + 1) f fd ["self"] (spRoads K C) := by
  refine F.ok sc_Map_roads (fun vs H Q E h => ?_) (fun cdv A outer s H vs Q E hr h => ?_)
  · obtain ⟨p, n, r, rows, rfl, _⟩ := h
    rfl
  · obtain ⟨p, n, r, rows, rfl, ⟨dx, l, hp, hD⟩, q⟩ := h
    obtain ⟨a, xs, e, hS, hA⟩ := dp_list_inv hD
    cases e
    exact ⟨_, pss_one (ps_ret (pe_callTy call_list_of (by rfl) T.list (by decide +kernel) (pa_cons (pe_fld (pv 0) rfl) pa_nil))), _, rfl, p, C, dx, _, _, rfl, hp, T.cl, T.nL, look_roads _ _ _, l, xs, rfl, .inl hS, fun l2 hl => q l2 xs hl hA⟩
end
end Rc
/-! part RcHx -/
/-! Promises at a higher level; facts of exceptions by a Bool. -/
namespace Rc
open PySem PySem.Spec PyProof.Rows L2 L2H
section
variable {P : Program} {w : World} {K : PySem.W.Frag} {mg : Str → Option Value} {base : Heap} {x m : Str} {ps : List Str} {j k : Nat} {sp sp' : Sp} {C : Addr}
theorem Has.up (h : Has P w K mg base x ps j sp) (e : j ≤ k) : Has P w K mg base x ps k sp := by
  obtain ⟨f, fd, h1, h2, h3, h4⟩ := h
  exact ⟨f, fd, h1, h2, h3, FnOk.mono h4 e⟩
theorem HasN.up (h : HasN P w K mg base x ps j sp) (e : j ≤ k) : HasN P w K mg base x ps k sp := by
  obtain ⟨f, fd, h1, h2, h3, h4⟩ := h
  exact ⟨f, fd, h1, h2, h3, FnOk.mono h4 e⟩
theorem HasN.imp (h : HasN P w K mg base x ps k sp) (i : ∀ vs H Q E, sp' vs H Q E → sp vs H Q E) : HasN P w K mg base x ps k sp' := by
  obtain ⟨f, fd, h1, h2, h3, h4⟩ := h
  exact ⟨f, fd, h1, h2, h3, h4.imp i⟩
theorem Has.imp (h : Has P w K mg base x ps k sp) (i : ∀ vs H Q E, sp' vs H Q E → sp vs H Q E) : Has P w K mg base x ps k sp' := by
  obtain ⟨f, fd, h1, h2, h3, h4⟩ := h
  exact ⟨f, fd, h1, h2, h3, h4.imp i⟩
theorem HasC.up (h : HasC P w K mg base C ps j sp) (e : j ≤ k) : HasC P w K mg base C ps k sp := by
  obtain ⟨f, fd, h1, h2, h3⟩ := h
  exact ⟨f, fd, h1, h2, FnOk.mono h3 e⟩
theorem HasM.up (h : HasM P w K mg base C m ps j sp) (e : j ≤ k) : HasM P w K mg base C m ps k sp := by
  obtain ⟨f, fd, h1, h2, h3⟩ := h
  exact ⟨f, fd, h1, h2, FnOk.mono h3 e⟩
end
def excB (K : PySem.W.Frag) (D : Addr) : Bool := decide (PySem.W.findIn K (.ref D) "__getattribute__" = some (some (.builtin "BaseException.__getattribute__"))) && (decide (PySem.W.findIn K (.ref D) "__getattr__" = some none) && (decide (PySem.W.subIn K (.ref D) (.type "BaseException") = some true) &&
  (PySem.W.hasDictIn K D && (decide (PySem.W.findIn K (.ref D) "__class__" = some (some (.builtin "object.__class__"))) && (decide (PySem.W.specialIn K (.builtin "object.__class__") "__get__" = some (some (.builtin "getset_descriptor.__get__"))) &&
  (decide (PySem.W.takesIn K (.builtin "object.__class__") = some true) && decide (PySem.W.mroIn K D (.type "object") = some true)))))))
theorem excB_ok {K : PySem.W.Frag} {D : Addr} (h : excB K D = true) : ExcC K D := by
  unfold excB at h
  simp only [Bool.and_eq_true, decide_eq_true_eq] at h
  obtain ⟨h1, h2, h3, h4, h5, h6, h7, h8⟩ := h
  exact ⟨h1, h2, h3, h4, h5, h6, h7, h8⟩
def kitB2 (K : PySem.W.Frag) (D : Addr) (c : Value) (b : Bool) : Bool := decide (PySem.W.kitOne K (.ref D) c = some b)
theorem kitB2_ok {K : PySem.W.Frag} {D : Addr} {c : Value} {b : Bool} (h : kitB2 K D c b = true) : PySem.W.kitOne K (.ref D) c = some b := of_decide_eq_true h
end Rc
/-! part RcH0 -/
/-! The head: what stands behind the top, told by names. -/
namespace Rc
open PySem PySem.Spec PyProof.Rows L2
def defD (x q : Str) (o : Option Str) (st : Stmt) : He.DefD := ⟨(match o with | none => (q, none) | some c => (c, some x)), x, q, defArgs st, defBody st, defScope st, [], []⟩
def fnL : List He.DefD := [
  defD "__init__" "BadMap.__init__" (some "BadMap") s_BadMap___init__,
  defD "__init__" "Map.__init__" (some "Map") s_Map___init__,
  defD "size" "Map.size" (some "Map") s_Map_size,
  defD "begin" "Map.begin" (some "Map") s_Map_begin,
  defD "roads" "Map.roads" (some "Map") s_Map_roads,
  defD "check_map" "check_map" none s_check_map,
  defD "check_cost" "check_cost" none s_check_cost,
  defD "_law_dice" "_law_dice" none s_dice,
  defD "_law_next" "_law_next" none s_next,
  defD "_law_whole" "_law_whole" none s_whole,
  defD "_law_like" "_law_like" none s_like,
  defD "_law_cost" "_law_cost" none s_cost,
  defD "_law_map" "_law_map" none s_map,
  defD "_law_wide" "_law_wide" none s_wide,
  defD "_law_is" "_law_is" none s_is,
  defD "_law_wrong" "_law_wrong" none s_wrong,
  defD "_law_refused" "_law_refused" none s_refused,
  defD "law" "law" none s_law]
def faL : List He.Fa := [
  .glo "check_map", .glo "check_cost", .glo "_law_dice", .glo "_law_next", .glo "_law_whole", .glo "_law_like", .glo "_law_cost", .glo "_law_map", .glo "_law_wide", .glo "_law_is", .glo "_law_wrong", .glo "_law_refused", .glo "law", .glo "BadMap", .glo "Map", .glo "NoTree", .glo "NoRoad", .glo "BadText", .glo "RootError", .free "len", .free "int", .free "range", .free "isinstance", .free "str", .free "tuple", .free "list", .free "bool", .free "enumerate", .free "ValueError", .int "MOST_PLACES" 20, .int "MOST_ROADS" 60, .int "MOST_COST" 1000000000, .cls "Map", .noat "Map" "_many", .noat "Map" "_root", .noat "Map" "_roads", .meth "Map" "size", .meth "Map" "begin", .meth "Map" "roads", .mkr "Map", .exc "NoRoad", .exm "NoRoad" "RootError" true, .exm "NoTree" "RootError" true, .noat "BadMap" "at", .noat "BadMap" "why", .meth "BadMap" "__init__", .exm "BadMap" "RootError" true]
def tfL : List He.Defn := []
def exL (K : PySem.W.Frag) : Bool := decide ((1 : Nat) = 1) && (decide ((2 : Nat) = 2) && (excB K (He.ga K "BadMap") && (kitB2 K (He.ga K "BadMap") (.ref (He.ga K "BadMap")) true && (kitB2 K (He.ga K "BadMap") (.ref (He.ga K "NoTree")) false && (kitB2 K (He.ga K "BadMap") (.ref (He.ga K "NoRoad")) false && (kitB2 K (He.ga K "BadMap") (.ref (He.ga K "BadText")) false && (kitB2 K (He.ga K "BadMap") (.type "ValueError") true && (oexB K (He.ga K "BadMap") && (iniB K (He.ga K "RootError"))))))))))
abbrev Rw : PySem.W.OpenRow := PySem.W.OpenLaw.row PySem.Challenge.rw_rootcheap_k01_maps_refused
/-! the hook: what the module's names reach, and the class statics; the empty tables apart -/
def reach (g : Addr → Option Obj) : List Addr := cStatics :: He.asD g 5
abbrev AlZ : Type := He.AlD × Bool
def obsZ (g : Addr → Option Obj) : AlZ := (He.obsD faL fnL (He.frT g (reach g)), exL (He.frT g (reach g)) && He.tabsB g tfL (He.frT g (reach g)))
structure SaysZ (h : Heap) (K : PySem.W.Frag) : Prop where
  d : He.SaysD faL fnL K
  more : exL K = true
  tabs : ∀ p ∈ tfL, PySem.W.codeHdIn K (He.cT K p).1 (He.cT K p).2 = true ∧ K.lookup (He.cT K p).2 = none ∧ h.get? (He.cT K p).2 = some { cls := .none, data := .fields #[] }
theorem saysZ_of {h : Heap} (e : obsZ h.get? = (He.valD fnL, true)) : SaysZ h (He.frT h.get? (reach h.get?)) := by
  have e2 : (exL (He.frT h.get? (reach h.get?)) && He.tabsB h.get? tfL (He.frT h.get? (reach h.get?))) = true := congrArg Prod.snd e
  have e3 := (Bool.and_eq_true_iff.mp e2).2
  refine ⟨congrArg Prod.fst e, (Bool.and_eq_true_iff.mp e2).1, fun p hp => ?_⟩
  have e4 := Bool.and_eq_true_iff.mp (List.all_eq_true.mp e3 p hp)
  refine ⟨e4.1, ?_⟩
  have e5 := e4.2
  split at e5
  · rename_i o q
    exact ⟨He.frT_none q e5, by rw [q, He.emptyTab_eq e5]⟩
  · exact absurd e5 Bool.false_ne_true
def hk : PySem.W.Hook where
  α := AlZ
  obs := fun s => obsZ s.heap.get?
  val := fun _ => (He.valD fnL, true)
  says := fun _ h => ∃ K : PySem.W.Frag, K.In h ∧ SaysZ h K
  of := fun _ _ e => ⟨_, He.frT_in, saysZ_of e⟩
  keeps := fun _ _ _ ⟨K, hK, c⟩ k => ⟨K, PySem.W.Frag.In.keeps hK k, c.d, c.more, fun p hp => ⟨(c.tabs p hp).1, (c.tabs p hp).2.1, k _ _ (c.tabs p hp).2.2⟩⟩
def ob (s : PySem.W.SharedT) : AlZ := obsZ (HandSHeadRun.getT s)
theorem ob_eq (s : PySem.W.SharedT) : ob s = hk.obs s.abs := by
  have e : HandSHeadRun.getT s = s.abs.heap.get? := funext (HandSHeadRun.getT_eq s)
  unfold ob
  rw [e]
  rfl
def names : List PySem.Str := (["RootError", "BadMap", "NoTree", "NoRoad", "BadText", "MOST_PLACES", "MOST_ROADS", "MOST_COST", "Map", "check_map", "check_cost", "_law_dice", "_law_next", "_law_whole", "_law_like", "_law_cost", "_law_map", "_law_wide", "_law_is", "_law_wrong", "_law_refused"] : List PySem.Str)
theorem run (w : World) : HandSHeadRun.RunEq Rw (PySem.W.view Rw.prog [24]) hk ob 6000 names w := by
  intro os
  kernel_rfl
end Rc
/-! part RcE1 -/
/-! BadMap: its making, its raising. -/
namespace Rc
open PySem PySem.Spec PyProof.Rows L2
def badF (i : Int) (y : Str) : List (Str × V) := [("why", .str y), ("at", .int i)]
structure TxtB (K : PySem.W.Frag) (mg : Str → Option Value) (B R : Addr) : Prop where
  ox : OexC K B
  nA : PySem.W.findIn K (.ref B) "at" = some none
  nW : PySem.W.findIn K (.ref B) "why" = some none
  mgB : mg "BadMap" = some (.ref B)
  ini : IniC K R
  mgR : mg "RootError" = some (.ref R)
def spBad (K : PySem.W.Frag) (B : Addr) : Sp := fun vs H Q _ => ∃ (a : Addr) (i : Int) (y : Str), vs = [.ref a, .int i, .str y] ∧ H a = some (exo a B none) ∧ i.natAbs ≤ 1000 ∧ y.length ≤ 100 ∧
  ∀ d, H d = none → d ≠ a → Q .non (upd (upd (upd H d (exd d [("at", .int i)])) a (exo a B (some d))) d (exd d (badF i y)))
def HasE (P : Program) (w : World) (K : PySem.W.Frag) (mg : Str → Option Value) (base : Heap) (B : Addr) (k : Nat) : Prop :=
  ∃ (f : Addr) (fd : FuncData), PySem.W.findIn K (.ref B) "__init__" = some (some (.ref f)) ∧ PySem.W.typeIn K (.ref f) = some (.type "function") ∧ Binds K fd ["self", "at", "why"] [] ∧ FnOk P w K mg base CX0 k f fd ["self", "at", "why"] (spBad K B)
theorem log_small {i : Int} (h : i.natAbs ≤ 1000) : i.natAbs.log2 < 1920 := by
  by_cases z : i.natAbs = 0
  · rw [z]
    decide
  · exact (Nat.log2_lt z).mpr (Nat.lt_of_le_of_lt h (Nat.lt_of_lt_of_le (by decide : 1000 < 2 ^ 10) (Nat.pow_le_pow_right (by decide) (by decide))))
section
variable {P : Program} {w : World} {K : PySem.W.Frag} {mg : Str → Option Value} {base : Heap}
theorem ok_bad {f B R : Addr} {fd : FuncData} {k : Nat} (F : Fun K "__init__" "BadMap.__init__" s_BadMap___init__ f fd) (T : TxtB K mg B R) : FnOk P w K mg base CX0 (k + 1) f fd ["self", "at", "why"] (spBad K B) := by
  refine F.ok sc_BadMap___init__ (fun vs H Q E h => ?_) (fun cdv A outer s H vs Q E hr h => ?_)
  · obtain ⟨a, i, y, rfl, _⟩ := h
    rfl
  · obtain ⟨a, i, y, rfl, ha, hi, hy, q⟩ := h
    refine ⟨_, (pss_cons (ps_expr (pe_rinit T.ini (by rfl) T.mgR (pa_cons (pv 0) (pa_cons (pe_joined (.cons pe_str (.cons (pe_fmt (pv 2)) (.cons pe_str (.cons (pe_fmt (pv 1)) .nil))))) pa_nil))))
  (pss_cons (ps_ost (pv 0) (pv 1))
  (pss_one (ps_ost (pv 0) (pv 2))))), ?_⟩
    have e1 : ("no map can be so: " : Str).length = 18 := by decide +kernel
    have e2 : (" at " : Str).length = 4 := by decide +kernel
    have e0 : Str.empty.length = 0 := by decide +kernel
    have e3 : (Str.ofString (toString i)).length ≤ 1921 := by
      have := int_text_length_le (a := i) (k := 1920) (by decide) (log_small hi)
      rw [PySem.ofString_length]
      exact this
    have T1 := T.ox
    refine ⟨_, rfl, ?_⟩
    refine ⟨_, rfl, small_line ?_, _, rfl, .inl ⟨y, rfl, small_line (by omega), y, rfl, small_line ?_, _, rfl, small_line ?_, _, rfl, .inr ⟨i, rfl, log_small hi, _, rfl, small_line ?_, ?_⟩⟩⟩
    · rw [Str.length_append, e0, e1]
      omega
    · rw [Str.length_append, Str.length_append, e0, e1]
      omega
    · rw [Str.length_append, Str.length_append, Str.length_append, e0, e1, e2]
      omega
    · rw [Str.length_append, Str.length_append, Str.length_append, Str.length_append, e0, e1, e2]
      have e4 : ((toString i : String) : Str).length ≤ 1921 := e3
      omega
    · refine ⟨a, B, _, rfl, (by show 1 ≤ 1000; decide), T1, ha, ?_⟩
      refine ⟨_, rfl, _, rfl, a, B, rfl, T1, T.nA, .inl ⟨ha, fun d hd ne => ?_⟩⟩
      exact ⟨_, rfl, _, rfl, a, B, rfl, T1, T.nW, .inr ⟨d, [("at", .int i)], upd_same, by rw [upd_ne ne, upd_same], (by show 1 ≤ 900; decide), q d hd ne⟩⟩
/-- BadMap(i, y), to be raised -/
theorem mk_bad {B : Addr} {H : Hp} {i : Int} {y : Str} {Q : XK} (hi : i.natAbs ≤ 1000) (hy : y.length ≤ 100) (q : ∀ d H', Same H H' → H d = none → H' d = some (.xd (badF i y)) → Q (.ref B) (some d) H') :
    [V.int i, V.str y].length ≤ 1000 ∧ ∀ a, H a = none → spBad K B (.ref a :: ([V.int i, V.str y] ++ [])) (upd H a (exo a B none))
      (fun v H2 => v = .non ∧ ∃ (d : Addr) (fs : List (Str × V)), H2 a = some (exo a B (some d)) ∧ H2 d = some (exd d fs) ∧ H d = none ∧ Q (.ref B) (some d) (upd (del H2 a) d (.xd fs))) (fun _ _ _ => False) := by
  refine ⟨(by show 2 ≤ 1000; decide), fun a ha => ⟨a, i, y, rfl, upd_same, hi, hy, fun d hd ne => ⟨rfl, d, badF i y, ?_, upd_same, ?_, ?_⟩⟩⟩
  · rw [upd_ne (Ne.symm ne), upd_same]
  · rw [upd_ne ne] at hd
    exact hd
  · have hd0 : H d = none := by
      rw [upd_ne ne] at hd
      exact hd
    refine q d _ (fun b o e => ?_) hd0 upd_same
    have nb : b ≠ d := ne_of_none e hd0
    have na : b ≠ a := ne_of_none e ha
    rw [upd_ne nb, del_ne na, upd_ne nb, upd_ne na, upd_ne nb, upd_ne na]
    exact e
end
end Rc
/-! part RcN -/
namespace Rc
open PySem PySem.Spec PyProof.Rows L2
/-- data of whole numbers, lists and tuples, at most so deep -/
def Num : Nat → PyData → Prop
  | _, .int _ => True
  | n + 1, .list ds => ∀ d ∈ ds, Num n d
  | n + 1, .tuple ds => ∀ d ∈ ds, Num n d
  | _, _ => False
mutual
theorem num_ok : ∀ (n : Nat) (d : PyData), Num n d → PyData.canLay0 d = true ∧ PyData.depth d ≤ n
  | _, .int _, _ => ⟨by unfold PyData.canLay0; rfl, by unfold PyData.depth; exact Nat.zero_le _⟩
  | 0, .list _, h => h.elim
  | 0, .tuple _, h => h.elim
  | n + 1, .list ds, h => by
    obtain ⟨a, b⟩ := nums_ok n ds h
    exact ⟨by unfold PyData.canLay0; exact a, by unfold PyData.depth; exact Nat.succ_le_succ b⟩
  | n + 1, .tuple ds, h => by
    obtain ⟨a, b⟩ := nums_ok n ds h
    exact ⟨by unfold PyData.canLay0; exact a, by unfold PyData.depth; exact Nat.succ_le_succ b⟩
  | 0, .none, h => h.elim
  | n + 1, .none, h => h.elim
  | 0, .bool _, h => h.elim
  | n + 1, .bool _, h => h.elim
  | 0, .str _, h => h.elim
  | n + 1, .str _, h => h.elim
  | 0, .dict _, h => h.elim
  | n + 1, .dict _, h => h.elim
theorem nums_ok : ∀ (n : Nat) (ds : List PyData), (∀ d ∈ ds, Num n d) → PyData.canLayAll0 ds = true ∧ PyData.depthAll ds ≤ n
  | _, [], _ => ⟨by unfold PyData.canLayAll0; rfl, by unfold PyData.depthAll; exact Nat.zero_le _⟩
  | n, d :: ds, h => by
    obtain ⟨a, b⟩ := num_ok n d (h d List.mem_cons_self)
    obtain ⟨a', b'⟩ := nums_ok n ds fun e he => h e (List.mem_cons_of_mem _ he)
    exact ⟨by unfold PyData.canLayAll0; rw [a, a']; rfl, by unfold PyData.depthAll; exact Nat.max_le.mpr ⟨b, b'⟩⟩
end
theorem num_shaped {n : Nat} {d : PyData} (h : Num n d) (hn : n ≤ 64) : SeqAt.shaped d = true := by
  obtain ⟨a, b⟩ := num_ok n d h
  unfold SeqAt.shaped
  rw [a, decide_eq_true (Nat.le_trans b hn)]
  rfl
mutual
theorem num_eqv : ∀ (n : Nat) (d e : PyData), Num n d → Num n e → (PyData.eqv d e = true ↔ d = e)
  | n, .int i, .int j, _, _ => by
    unfold PyData.eqv
    simp
  | n + 1, .list ds, .list es, h, h' => by
    unfold PyData.eqv
    rw [nums_eqv n ds es h h']
    simp
  | n + 1, .tuple ds, .tuple es, h, h' => by
    unfold PyData.eqv
    rw [nums_eqv n ds es h h']
    simp
  | n, .int i, .list _, _, _ => by
    unfold PyData.eqv
    simp
  | n, .int i, .tuple _, _, _ => by
    unfold PyData.eqv
    simp
  | n, .list _, .int _, _, _ => by
    unfold PyData.eqv
    simp
  | n, .tuple _, .int _, _, _ => by
    unfold PyData.eqv
    simp
  | n, .list _, .tuple _, _, _ => by
    unfold PyData.eqv
    simp
  | n, .tuple _, .list _, _, _ => by
    unfold PyData.eqv
    simp
  | 0, .list _, .list _, h, _ => h.elim
  | 0, .tuple _, .tuple _, h, _ => h.elim
  | 0, .none, _, h, _ => h.elim
  | n + 1, .none, _, h, _ => h.elim
  | 0, .bool _, _, h, _ => h.elim
  | n + 1, .bool _, _, h, _ => h.elim
  | 0, .str _, _, h, _ => h.elim
  | n + 1, .str _, _, h, _ => h.elim
  | 0, .dict _, _, h, _ => h.elim
  | n + 1, .dict _, _, h, _ => h.elim
  | 0, .int _, .none, _, h => h.elim
  | n + 1, .int _, .none, _, h => h.elim
  | 0, .int _, .bool _, _, h => h.elim
  | n + 1, .int _, .bool _, _, h => h.elim
  | 0, .int _, .str _, _, h => h.elim
  | n + 1, .int _, .str _, _, h => h.elim
  | 0, .int _, .dict _, _, h => h.elim
  | n + 1, .int _, .dict _, _, h => h.elim
  | n + 1, .list _, .none, _, h => h.elim
  | n + 1, .list _, .bool _, _, h => h.elim
  | n + 1, .list _, .str _, _, h => h.elim
  | n + 1, .list _, .dict _, _, h => h.elim
  | n + 1, .tuple _, .none, _, h => h.elim
  | n + 1, .tuple _, .bool _, _, h => h.elim
  | n + 1, .tuple _, .str _, _, h => h.elim
  | n + 1, .tuple _, .dict _, _, h => h.elim
theorem nums_eqv : ∀ (n : Nat) (ds es : List PyData), (∀ d ∈ ds, Num n d) → (∀ d ∈ es, Num n d) → (PyData.eqvAll ds es = true ↔ ds = es)
  | n, [], [], _, _ => by
    unfold PyData.eqvAll
    simp
  | n, [], _ :: _, _, _ => by
    unfold PyData.eqvAll
    simp
  | n, _ :: _, [], _, _ => by
    unfold PyData.eqvAll
    simp
  | n, d :: ds, e :: es, h, h' => by
    unfold PyData.eqvAll
    rw [Bool.and_eq_true, num_eqv n d e (h d List.mem_cons_self) (h' e List.mem_cons_self), nums_eqv n ds es (fun x hx => h x (List.mem_cons_of_mem _ hx)) (fun x hx => h' x (List.mem_cons_of_mem _ hx))]
    simp
end
theorem num_ints {n : Nat} (is : List Int) : Num (n + 1) (.list (is.map .int)) := fun d hd => by
  obtain ⟨i, _, rfl⟩ := List.mem_map.mp hd
  cases n <;> trivial
theorem num_row {n : Nat} (r : Row) : Num (n + 1) r.dat := fun d hd => by
  have : d = .int r.b ∨ d = .int r.g ∨ d = .int r.c := by simpa using hd
  rcases this with rfl | rfl | rfl <;> (cases n <;> trivial)
theorem num_rows {n : Nat} (rows : List Row) : Num (n + 2) (rowsDat rows) := fun d hd => by
  obtain ⟨r, _, rfl⟩ := List.mem_map.mp hd
  exact num_row r
/-! ### tables grow, data stays -/
structure Tabd (m : Addr → Prop) (H H' : Hp) : Prop where
  old : ∀ b o, ¬ m b → H b = some o → H' b = some o
  tab : ∀ b, m b → GxR.TabG H' b
/-- the part of a heap in which nothing is of m -/
noncomputable def sans (m : Addr → Prop) (H : Hp) : Hp := fun b => open Classical in if m b then none else H b
theorem sans_no {m : Addr → Prop} {H : Hp} {b : Addr} (h : ¬ m b) : sans m H b = H b := by
  unfold sans
  rw [if_neg h]
theorem sans_at {m : Addr → Prop} {H : Hp} {b : Addr} (h : m b) : sans m H b = none := by
  unfold sans
  rw [if_pos h]
theorem sans_same {m : Addr → Prop} {H : Hp} : Same (sans m H) H := fun b o e => by
  by_cases h : m b
  · rw [sans_at h] at e
    cases e
  · rw [sans_no h] at e
    exact e
theorem Tabd.sans {m : Addr → Prop} {H H' : Hp} (t : Tabd m H H') : Same (Rc.sans m H) H' := fun b o e => by
  by_cases h : m b
  · rw [sans_at h] at e
    cases e
  · rw [sans_no h] at e
    exact t.old b o h e
section
variable {K : PySem.W.Frag} {m : Addr → Prop} {H : Hp}
theorem tab_no (hm : ∀ b, m b → GxR.TabG H b) {b : Addr} {o : HO} (h : H b = some o) (ho : ∀ ps, o ≠ .tbl ps) : ¬ m b := fun z => by
  obtain ⟨ps, e, _⟩ := hm b z
  rw [h] at e
  exact ho ps (Option.some.inj e)
theorem sqL_sans (hm : ∀ b, m b → GxR.TabG H b) {a : Addr} {xs : List V} (h : SqL K H a xs) : SqL K (sans m H) a xs := by
  rcases h with (h | ⟨o, h⟩) | h
  · exact .inl (.inl (by rw [sans_no (tab_no hm h (by intro ps z; cases z))]; exact h))
  · exact .inl (.inr ⟨o, by rw [sans_no (tab_no hm h (by intro ps z; cases z))]; exact h⟩)
  · exact .inr h
theorem sqT_sans (hm : ∀ b, m b → GxR.TabG H b) {a : Addr} {xs : List V} (h : SqT K H a xs) : SqT K (sans m H) a xs := by
  rcases h with (h | ⟨o, h⟩) | h
  · exact .inl (.inl (by rw [sans_no (tab_no hm h (by intro ps z; cases z))]; exact h))
  · exact .inl (.inr ⟨o, by rw [sans_no (tab_no hm h (by intro ps z; cases z))]; exact h⟩)
  · exact .inr h
mutual
theorem dp_sans (hm : ∀ b, m b → GxR.TabG H b) : ∀ (d : PyData) (v : V), Dp K H v d → Dp K (sans m H) v d
  | .none, _, h => by cases h; exact .non
  | .bool b, _, h => by cases h; exact .bl b
  | .int i, _, h => by cases h; exact .int i
  | .str x, _, h => by cases h; exact .str x
  | .list ds, _, h => by
    cases h with
    | lst hs ha => exact .lst (sqL_sans hm hs) (dpAll_sans hm ds _ ha)
  | .tuple ds, _, h => by
    cases h with
    | tup hs ha => exact .tup (sqT_sans hm hs) (dpAll_sans hm ds _ ha)
  | .dict _, _, h => by cases h
theorem dpAll_sans (hm : ∀ b, m b → GxR.TabG H b) : ∀ (ds : List PyData) (vs : List V), DpAll K H vs ds → DpAll K (sans m H) vs ds
  | [], _, h => by cases h; exact .nil
  | d :: ds, _, h => by
    cases h with
    | cons h1 h2 => exact .cons (dp_sans hm d _ h1) (dpAll_sans hm ds _ h2)
end
theorem map_sans {C p : Addr} {n r : Int} {rows : List Row} (hm : ∀ b, m b → GxR.TabG H b) (h : MapAt K C H p n r rows) : MapAt K C (sans m H) p n r rows := by
  obtain ⟨dx, l, h1, h2⟩ := h
  exact ⟨dx, l, by rw [sans_no (tab_no hm h1 (by intro ps z; cases z))]; exact h1, dp_sans hm _ _ h2⟩
end
theorem Tabd.trans {m : Addr → Prop} {H H1 H2 : Hp} (a : Tabd m H H1) (b : Tabd m H1 H2) : Tabd m H H2 := ⟨fun x o n e => b.old x o n (a.old x o n e), b.tab⟩
theorem Tabd.of_same {m : Addr → Prop} {H H1 : Hp} (e : Same H H1) (hm : ∀ b, m b → GxR.TabG H b) : Tabd m H H1 := ⟨fun x o _ h => e x o h, fun b hb => by
  obtain ⟨ps, h, t⟩ := hm b hb
  exact ⟨ps, e _ _ h, t⟩⟩
theorem Tabd.of_tabbed {P : Addr} {m : Addr → Prop} {H H1 : Hp} (t : GxR.Tabbed P H H1) (hm : ∀ b, m b → GxR.TabG H b) (hP : m P) : Tabd m H H1 := ⟨fun b o n e => by
  rw [t.2 b fun z => n (z ▸ hP)]
  exact e, fun b hb => by
  by_cases e : b = P
  · rw [e]
    exact t.1
  · obtain ⟨ps, h, q⟩ := hm b hb
    exact ⟨ps, by rw [t.2 b e]; exact h, q⟩⟩
end Rc
/-! part RcE2 -/
/-! check_map, Map: what they refuse. -/
namespace Rc
open PySem PySem.Spec PyProof.Rows L2
def rowBad (many : Int) (r : Row) : Option Str := if r.b = r.g then some "place" else if ¬ 0 ≤ r.b then some "place" else if ¬ r.b < many then some "place" else if ¬ 0 ≤ r.g then some "place" else if ¬ r.g < many then some "place" else
  if ¬ 0 ≤ r.c then some "cost" else if ¬ r.c ≤ 1000000000 then some "cost" else none
/-- what is wrong of a map, and where -/
inductive BadAt (many root : Int) (rows : List Row) : Int → Str → Prop where
  | many (h : ¬ (1 ≤ many ∧ many ≤ 20)) : BadAt many root rows 0 "many"
  | root (h1 : 1 ≤ many) (h2 : many ≤ 20) (h : ¬ (0 ≤ root ∧ root < many)) : BadAt many root rows 0 "root"
  | roads (h1 : 1 ≤ many) (h2 : many ≤ 20) (h3 : 0 ≤ root) (h4 : root < many) (h : 60 < rows.length) : BadAt many root rows 0 "roads"
  | row {j : Nat} {r : Row} {y : Str} (h1 : 1 ≤ many) (h2 : many ≤ 20) (h3 : 0 ≤ root) (h4 : root < many) (h5 : rows.length ≤ 60) (hj : rows[j]? = some r) (hy : rowBad many r = some y) (hb : ∀ j' r', j' < j → rows[j']? = some r' → rowBad many r' = none) : BadAt many root rows (j : Int) y
theorem y_many : ("many" : Str).length ≤ 100 := by decide +kernel
theorem y_root : ("root" : Str).length ≤ 100 := by decide +kernel
theorem y_roads : ("roads" : Str).length ≤ 100 := by decide +kernel
theorem y_place : ("place" : Str).length ≤ 100 := by decide +kernel
theorem y_cost : ("cost" : Str).length ≤ 100 := by decide +kernel
def spCheckX (K : PySem.W.Frag) (B : Addr) : Sp := fun vs H _ E => ∃ (many root : Int) (v : V) (rows : List Row) (i : Int) (y : Str), vs = [.int many, .int root, v] ∧ Dp K H v (rowsDat rows) ∧ BadAt many root rows i y ∧
  ∀ d H', Same H H' → H d = none → H' d = some (.xd (badF i y)) → E (.ref B) (some d) H'
section
variable {P : Program} {w : World} {K : PySem.W.Frag} {mg : Str → Option Value} {base : Heap}
/-- a cost: whether a road can have it -/
def spCheckCostX (B : Addr) : Sp := fun vs H Q E => ∃ (i c : Int), vs = [.int i, .int c] ∧ i.natAbs ≤ 1000 ∧ (0 ≤ c ∧ c ≤ 1000000000 → Q .non H) ∧
  (¬ (0 ≤ c ∧ c ≤ 1000000000) → ∀ d H', Same H H' → H d = none → H' d = some (.xd (badF i "cost")) → E (.ref B) (some d) H')
theorem ok_check_costX {f C B R : Addr} {fd : FuncData} {k : Nat} (F : Fun K "check_cost" "check_cost" s_check_cost f fd) (T : TxtM K mg C) (TB : TxtB K mg B R) (hE : HasE P w K mg base B k) : FnOk P w K mg base (L2N.CX P w) (k + 2) f fd ["road", "cost"] (spCheckCostX B) := by
  obtain ⟨tC, gC⟩ := T.gC
  obtain ⟨fE, fdE, iE, tE, bE, GE⟩ := hE
  refine Fun.okN F sc_check_cost (fun vs H Q E h => ?_) (fun cdv A outer s H vs Q E hr h tk => ?_)
  · obtain ⟨i, c, rfl, _⟩ := h
    rfl
  · obtain ⟨i, c, rfl, hi, q, qE⟩ := h
    refine ⟨_, (pss_one (ps_if (pt_not (pt_chain op_le op_le pe_int (pv 1) (pe_glob (v := .int 1000000000) rfl gC ⟨_, rfl⟩)))
   (pss_one (L2N.ps_raise rfl tk (mk_excN TB.ox iE tE GE hr bE (by rfl) TB.mgB (pa_cons (pv 0) (pa_cons pe_str pa_nil)))))
   pss_nil)), ?_⟩
    refine ⟨_, rfl, _, _, rfl, rfl, _, rfl, ite2 (fun c1 => ?_) (fun c1 => ?_)⟩
    case refine_2 => exact ⟨_, rfl, ite2 (fun _ => ⟨_, rfl, mk_bad hi y_cost (qE fun z => c1 (decide_eq_true z.1))⟩) (fun z => absurd rfl z)⟩
    have p1 := of_decide_eq_true c1
    refine ⟨_, _, rfl, rfl, _, rfl, ite2 (fun c2 => ?_) (fun c2 => ?_)⟩
    · exact ⟨_, rfl, mk_bad hi y_cost (qE fun z => absurd c2 (no_not z.2))⟩
    · exact q ⟨p1, by simpa using c2⟩
theorem ok_checkX {f C B R : Addr} {fd : FuncData} {k : Nat} (F : Fun K "check_map" "check_map" s_check_map f fd) (T : TxtM K mg C) (TB : TxtB K mg B R) (hE : HasE P w K mg base B k) (hC : HasN P w K mg base "check_cost" ["road", "cost"] (k + 1) (spCheckCostX B)) : FnOk P w K mg base (L2N.CX P w) (k + 2) f fd ["many", "root", "roads"] (spCheckX K B) := by
  obtain ⟨tP, gP⟩ := T.gP
  obtain ⟨tR, gR⟩ := T.gR
  obtain ⟨fC, fdC, gCC, kC, bC, GC⟩ := hC
  obtain ⟨fE, fdE, iE, tE, bE, GE⟩ := hE
  refine Fun.okN F sc_check_map (fun vs H Q E h => ?_) (fun cdv A outer s H vs Q E hr h tk => ?_)
  · obtain ⟨many, root, v, rows, i, y, rfl, _⟩ := h
    rfl
  · obtain ⟨many, root, v, rows, i, y, rfl, hD, bad, q⟩ := h
    refine ⟨_, (pss_cons (ps_if (pt_not (pt_chain op_le op_le pe_int (pv 0) (pe_glob (v := .int 20) rfl gP ⟨_, rfl⟩)))
   (pss_one (L2N.ps_raise rfl tk (mk_excN TB.ox iE tE GE hr bE (by rfl) TB.mgB (pa_cons pe_int (pa_cons pe_str pa_nil)))))
   pss_nil)
  (pss_cons (ps_if (pt_not (pt_chain op_le op_lt pe_int (pv 1) (pv 0)))
   (pss_one (L2N.ps_raise rfl tk (mk_excN TB.ox iE tE GE hr bE (by rfl) TB.mgB (pa_cons pe_int (pa_cons pe_str pa_nil)))))
   pss_nil)
  (pss_cons (ps_if (pt_cmpR op_gt (pe_callB call_len_seq (by rfl) T.len PySem.boot_len (pa_cons (pv 2) pa_nil)) (pe_glob (v := .int 60) rfl gR ⟨_, rfl⟩) (nomark _))
   (pss_one (L2N.ps_raise rfl tk (mk_excN TB.ox iE tE GE hr bE (by rfl) TB.mgB (pa_cons pe_int (pa_cons pe_str pa_nil)))))
   pss_nil)
  (pss_one (ps_for PassesOwn.leaving rfl (pi_enum (by rfl) T.enum (pa_cons (pv 2) pa_nil)) (pg_tup (by rfl) (pgs_cons (pg_name (i := 3) sc_check_map.nd rfl (Or.inl rfl)) (pgs_cons (pg_tup (by rfl) (pgs_cons (pg_name (i := 4) sc_check_map.nd rfl (Or.inl rfl)) (pgs_cons (pg_name (i := 5) sc_check_map.nd rfl (Or.inl rfl)) (pgs_cons (pg_name (i := 6) sc_check_map.nd rfl (Or.inl rfl)) pgs_nil)))) pgs_nil)))
   (pss_cons (ps_if (PW.pt (pw_or (pt_cmpR op_eq (pv 4) (pv 5) (nomark _)) (pw_or (pt_not (pt_chain op_le op_lt pe_int (pv 4) (pv 0))) (pw_or1 (pt_not (pt_chain op_le op_lt pe_int (pv 5) (pv 0)))))))
   (pss_one (L2N.ps_raise rfl tk (mk_excN TB.ox iE tE GE hr bE (by rfl) TB.mgB (pa_cons (pv 3) (pa_cons pe_str pa_nil)))))
   pss_nil)
  (pss_one (ps_expr (pe_call GC hr (by rfl) gCC kC bC .nil (L2N.passes_call tk (E := E) fun _ _ _ _ h => h) (pa_cons (pv 3) (pa_cons (pv 6) pa_nil))))))))))), ?_⟩
    have L1 : ¬ (1 ≤ many ∧ many ≤ 20) → i = 0 ∧ y = "many" := fun h => by
      cases bad with
      | many _ => exact ⟨rfl, rfl⟩
      | root h1 h2 _ => exact absurd ⟨h1, h2⟩ h
      | roads h1 h2 _ _ _ => exact absurd ⟨h1, h2⟩ h
      | row h1 h2 _ _ _ _ _ _ => exact absurd ⟨h1, h2⟩ h
    have L2 : 1 ≤ many → many ≤ 20 → ¬ (0 ≤ root ∧ root < many) → i = 0 ∧ y = "root" := fun h1 h2 h => by
      cases bad with
      | many h3 => exact absurd ⟨h1, h2⟩ h3
      | root _ _ _ => exact ⟨rfl, rfl⟩
      | roads _ _ h3 h4 _ => exact absurd ⟨h3, h4⟩ h
      | row _ _ h3 h4 _ _ _ _ => exact absurd ⟨h3, h4⟩ h
    have L3 : 1 ≤ many → many ≤ 20 → 0 ≤ root → root < many → 60 < rows.length → i = 0 ∧ y = "roads" := fun h1 h2 h3 h4 h => by
      cases bad with
      | many h5 => exact absurd ⟨h1, h2⟩ h5
      | root _ _ h5 => exact absurd ⟨h3, h4⟩ h5
      | roads _ _ _ _ _ => exact ⟨rfl, rfl⟩
      | row _ _ _ _ h5 _ _ _ => omega
    have L4 : 1 ≤ many → many ≤ 20 → 0 ≤ root → root < many → rows.length ≤ 60 → ∃ (j : Nat) (r : Row), i = (j : Int) ∧ rows[j]? = some r ∧ rowBad many r = some y ∧ ∀ j' r', j' < j → rows[j']? = some r' → rowBad many r' = none := fun h1 h2 h3 h4 h => by
      cases bad with
      | many h5 => exact absurd ⟨h1, h2⟩ h5
      | root _ _ h5 => exact absurd ⟨h3, h4⟩ h5
      | roads _ _ _ _ h5 => omega
      | row _ _ _ _ _ hj hy hb => exact ⟨_, _, rfl, hj, hy, hb⟩
    obtain ⟨a, xs, rfl, hS, hA⟩ := dp_list_inv hD
    have hlen' : xs.length = rows.length := by rw [dpAll_len hA, List.length_map]
    refine ⟨_, rfl, _, _, rfl, rfl, _, rfl, ite2 (fun c1 => ?_) (fun c1 => ?_)⟩
    case refine_2 =>
      obtain ⟨rfl, rfl⟩ := L1 fun z => c1 (decide_eq_true z.1)
      refine ⟨_, rfl, ite2 (fun _ => mk_bad (by decide) y_many q) (fun z => absurd rfl z)⟩
    have m0 := of_decide_eq_true c1
    refine ⟨_, _, rfl, rfl, _, rfl, ite2 (fun c2 => ?_) (fun c2 => ?_)⟩
    case refine_1 =>
      obtain ⟨rfl, rfl⟩ := L1 fun z => absurd c2 (no_not z.2)
      exact mk_bad (by decide) y_many q
    have m1 : many ≤ 20 := by simpa using c2
    refine ⟨_, rfl, _, _, rfl, rfl, _, rfl, ite2 (fun c3 => ?_) (fun c3 => ?_)⟩
    case refine_2 =>
      obtain ⟨rfl, rfl⟩ := L2 m0 m1 fun z => c3 (decide_eq_true z.1)
      refine ⟨_, rfl, ite2 (fun _ => mk_bad (by decide) y_root q) (fun z => absurd rfl z)⟩
    have r0 := of_decide_eq_true c3
    refine ⟨_, rfl, _, _, rfl, rfl, _, rfl, ite2 (fun c4 => ?_) (fun c4 => ?_)⟩
    case refine_1 =>
      obtain ⟨rfl, rfl⟩ := L2 m0 m1 fun z => absurd c4 (no_not z.2)
      exact mk_bad (by decide) y_root q
    have r1 : root < many := by simpa using c4
    refine ⟨_, rfl, _, _, rfl, .inl hS, _, _, rfl, rfl, _, rfl, ite2 (fun c5 => ?_) (fun c5 => ?_)⟩
    case refine_1 =>
      obtain ⟨rfl, rfl⟩ := L3 m0 m1 r0 r1 (by have := of_decide_eq_true c5; omega)
      exact mk_bad (by decide) y_roads q
    have hl60 : rows.length ≤ 60 := by
      have : ¬ (60 : Int) < (xs.length : Int) := fun z => c5 (decide_eq_true z)
      omega
    obtain ⟨j, r1', rfl, hj, hy, hbf⟩ := L4 m0 m1 r0 r1 hl60
    have hjl : j < rows.length := (List.getElem?_eq_some_iff.mp hj).1
    refine ⟨_, rfl, a, xs, rfl, hS, for_enum (K := K) (a := a) (xs := xs) (fun i σ H' => i ≤ j ∧ Same H H' ∧ ∃ v3 v4 v5 v6 : Option V, σ = [some (.int many), some (.int root), some (.ref a), v3, v4, v5, v6])
      ⟨Nat.zero_le _, same_refl, _, _, _, _, rfl⟩ (fun i σ H' _ ⟨_, e, _⟩ => e.seq hS) ?_ ?_⟩
    · rintro n x t σ H' hi ⟨hnj, e, v3, v4, v5, v6, rfl⟩ ht
      obtain ⟨d, hd, hx⟩ := dpAll_get' hA hi
      obtain ⟨r, hr', rfl⟩ : ∃ r, rows[n]? = some r ∧ d = r.dat := by
        rw [List.getElem?_map] at hd
        cases er : rows[n]? with
        | none => rw [er] at hd; cases hd
        | some r => rw [er] at hd; exact ⟨r, rfl, (Option.some.inj hd).symm⟩
      have leaf : ∀ y', rowBad many r = some y' → n = j ∧ y' = y := fun y' hy' => by
        rcases Nat.lt_or_eq_of_le hnj with lt | rfl
        · rw [hbf n r lt hr'] at hy'
          cases hy'
        · rw [hr'] at hj
          cases hj
          rw [hy] at hy'
          exact ⟨rfl, (Option.some.inj hy').symm⟩
      have good : rowBad many r = none → n + 1 ≤ j := fun hn => by
        rcases Nat.lt_or_eq_of_le hnj with lt | rfl
        · exact lt
        · rw [hr'] at hj
          cases hj
          rw [hn] at hy
          cases hy
      obtain ⟨t2, rfl, hT⟩ := row_inv hx
      have e2 : Same H (upd H' t (.tup [.int (n : Nat), .ref t2])) := e.trans (same_new ht)
      refine ⟨t, _, rfl, .of upd_same, rfl, .int (n : Nat), _, rfl, .ref t2, _, rfl, ⟨t2, _, rfl, sqT_same e2 hT, rfl, _, _, rfl, _, _, rfl, _, _, rfl, rfl, rfl, ?_⟩⟩
      generalize upd H' t (.tup [.int (n : Nat), .ref t2]) = H3 at e2
      have up : ∀ {y'}, (∀ d H', Same H H' → H d = none → H' d = some (.xd (badF (n : Int) y')) → E (.ref B) (some d) H') → ∀ d H', Same H3 H' → H3 d = none → H' d = some (.xd (badF (n : Int) y')) → E (.ref B) (some d) H' := fun q' d H' s1 hd hx => q' d H' (e2.trans s1) (e2.free hd) hx
      have hn60 : ((n : Int)).natAbs ≤ 1000 := by omega
      refine ⟨_, rfl, _, rfl, rfl, _, rfl, ite2 (fun c6 => ?_) (fun c6 => ?_)⟩
      · obtain ⟨rfl, rfl⟩ := leaf "place" (by unfold rowBad; rw [if_pos (V.int.inj (of_decide_eq_true c6))])
        exact ⟨_, rfl, mk_bad hn60 y_place (up q)⟩
      have n6 : ¬ r.b = r.g := fun z => c6 (by rw [z]; exact decide_eq_true rfl)
      refine ⟨_, rfl, _, _, rfl, rfl, _, rfl, ite2 (fun c7 => ?_) (fun c7 => ?_)⟩
      case refine_2 =>
        obtain ⟨rfl, rfl⟩ := leaf "place" (by unfold rowBad; rw [if_neg n6, if_pos fun z => c7 (decide_eq_true z)])
        exact ⟨_, rfl, ite2 (fun _ => ⟨_, rfl, mk_bad hn60 y_place (up q)⟩) (fun z => absurd rfl z)⟩
      have p7 := of_decide_eq_true c7
      refine ⟨_, rfl, _, _, rfl, rfl, _, rfl, ite2 (fun c8 => ?_) (fun c8 => ?_)⟩
      · obtain ⟨rfl, rfl⟩ := leaf "place" (by unfold rowBad; rw [if_neg n6, if_neg (fun z => z p7), if_pos fun z => absurd c8 (no_not z)])
        exact ⟨_, rfl, mk_bad hn60 y_place (up q)⟩
      have p8 : r.b < many := by simpa using c8
      refine ⟨_, rfl, _, _, rfl, rfl, _, rfl, ite2 (fun c9 => ?_) (fun c9 => ?_)⟩
      case refine_2 =>
        obtain ⟨rfl, rfl⟩ := leaf "place" (by unfold rowBad; rw [if_neg n6, if_neg (fun z => z p7), if_neg (fun z => z p8), if_pos fun z => c9 (decide_eq_true z)])
        exact ⟨_, rfl, ite2 (fun _ => ⟨_, rfl, mk_bad hn60 y_place (up q)⟩) (fun z => absurd rfl z)⟩
      have p9 := of_decide_eq_true c9
      refine ⟨_, rfl, _, _, rfl, rfl, _, rfl, ite2 (fun c10 => ?_) (fun c10 => ?_)⟩
      · obtain ⟨rfl, rfl⟩ := leaf "place" (by unfold rowBad; rw [if_neg n6, if_neg (fun z => z p7), if_neg (fun z => z p8), if_neg (fun z => z p9), if_pos fun z => absurd c10 (no_not z)])
        exact ⟨_, rfl, mk_bad hn60 y_place (up q)⟩
      have p10 : r.g < many := by simpa using c10
      refine ⟨_, rfl, _, rfl, _, _, rfl, hn60, (fun p12 => ?_), (fun p12 => ?_)⟩
      · have := good (by unfold rowBad; rw [if_neg n6, if_neg (fun z => z p7), if_neg (fun z => z p8), if_neg (fun z => z p9), if_neg (fun z => z p10), if_neg (fun z => z p12.1), if_neg (fun z => z p12.2)])
        exact ⟨this, e2, _, _, _, _, rfl⟩
      · obtain ⟨rfl, rfl⟩ := leaf "cost" (by
          unfold rowBad
          rw [if_neg n6, if_neg (fun z => z p7), if_neg (fun z => z p8), if_neg (fun z => z p9), if_neg (fun z => z p10)]
          by_cases p11 : 0 ≤ r.c
          · rw [if_neg (fun z => z p11), if_pos fun z => p12 ⟨p11, z⟩]
          · rw [if_pos p11])
        exact up q
    · rintro σ H' ⟨hnj, e, _⟩
      omega
end
end Rc
/-! part RcE3 -/
namespace Rc
open PySem PySem.Spec PyProof.Rows L2 L2H
def spInitX (K : PySem.W.Frag) (B : Addr) : Sp := fun vs H _ E => ∃ (p : V) (many root : Int) (v : V) (rows : List Row) (i : Int) (y : Str), vs = [p, .int many, .int root, v] ∧ Dp K H v (rowsDat rows) ∧ BadAt many root rows i y ∧
  ∀ d H', Same H H' → H d = none → H' d = some (.xd (badF i y)) → E (.ref B) (some d) H'
section
variable {P : Program} {w : World} {K : PySem.W.Frag} {mg : Str → Option Value} {base : Heap}
theorem ok_initX {f C B : Addr} {fd : FuncData} {k : Nat} (F : Fun K "__init__" "Map.__init__" s_Map___init__ f fd) (T : TxtM K mg C) (hC : HasN P w K mg base "check_map" ["many", "root", "roads"] k (spCheckX K B)) :
    FnOk P w K mg base (L2N.CX P w) (k + 1) f fd ["self", "many", "root", "roads"] (spInitX K B) := by
  obtain ⟨fC, fdC, gC, kC, bC, GC⟩ := hC
  refine Fun.okN F sc_Map___init__ (fun vs H Q E h => ?_) (fun cdv A outer s H vs Q E hr h tk => ?_)
  · obtain ⟨p, many, root, v, rows, i, y, rfl, _⟩ := h
    rfl
  · obtain ⟨p, many, root, v, rows, i, y, rfl, hD, bad, q⟩ := h
    refine ⟨_, (pss_cons (ps_expr (pe_call GC hr (by rfl) gC kC bC .nil (L2N.passes_call tk (E := E) fun _ _ _ _ h => h) (pa_cons (pv 1) (pa_cons (pv 2) (pa_cons (pv 3) pa_nil)))))
  (pss_cons (ps_fld (pv 0) (pv 1) rfl)
  (pss_cons (ps_fld (pv 0) (pv 2) rfl)
  (pss_one (ps_fld (pv 0) (pe_callTy call_list_of (by rfl) T.list (by decide +kernel) (pa_cons (pv 3) pa_nil)) rfl))))), ?_⟩
    exact ⟨_, rfl, _, rfl, _, rfl, many, root, v, rows, i, y, rfl, hD, bad, q⟩
/-! ### _law_whole, _law_is -/
def spWhole : Addr → Sp := fun _ vs H Q _ => ∃ i : Int, vs = [.int i] ∧ Q (.bl true) H
theorem ok_wholeG {f : Addr} {fd : FuncData} {k : Nat} {G : Addr × Obj → Prop} (F : Fun K "_law_whole" "_law_whole" s_whole f fd) (T : TxtL mg) : FnG P w K mg base (k + 1) f fd ["_law_found"] G spWhole := by
  refine Fun.okG F sc_whole (fun a vs H Q E h => ?_) (fun cdv A outer s H vs Q E p hot hG hr h => ?_)
  · obtain ⟨i, rfl, _⟩ := h
    rfl
  · obtain ⟨i, rfl, q⟩ := h
    refine ⟨_, (pss_one (ps_ret (pe_and (pe_callB call_isi (by rfl) T.isi (by decide +kernel) (pa_cons (pv 0) (pa_cons (pe_bltn (v := .ty "int") (by rfl) T.int boot_int rfl) pa_nil))) (pe_one (pe_not (pe_callB call_isi (by rfl) T.isi (by decide +kernel) (pa_cons (pv 0) (pa_cons (pe_bltn (v := .ty "bool") (by rfl) T.bool (by decide +kernel) rfl) pa_nil)))))))), ?_⟩
    refine ⟨_, rfl, _, _, _, _, true, rfl, .ty _, .base (.int _), kit_ty (by decide +kernel), _, rfl, ite2 (fun _ => ?_) (fun z => absurd rfl z)⟩
    exact ⟨_, rfl, _, _, _, _, false, rfl, .ty _, .base (.int _), kit_ty (by decide +kernel), _, rfl, q⟩
structure TxtI (K : PySem.W.Frag) (mg : Str → Option Value) (B N1 N2 N3 : Addr) : Prop where
  xc : ExcC K B
  mgB : mg "BadMap" = some (.ref B)
  mg1 : mg "NoTree" = some (.ref N1)
  mg2 : mg "NoRoad" = some (.ref N2)
  mg3 : mg "BadText" = some (.ref N3)
  kB : PySem.W.kitOne K (.ref B) (.ref B) = some true
  k1 : PySem.W.kitOne K (.ref B) (.ref N1) = some false
  k2 : PySem.W.kitOne K (.ref B) (.ref N2) = some false
  k3 : PySem.W.kitOne K (.ref B) (.ref N3) = some false
  kV : PySem.W.kitOne K (.ref B) (.type "ValueError") = some true
  isi : mg "isinstance" = none
  ve : mg "ValueError" = none
def spIs (dd : Addr) : Addr → Sp := fun a vs H Q _ => ∃ fs, vs = [.ref a, .str "map"] ∧ H dd = some (.xd fs) ∧ ∀ H', Same H H' → Q (.bl true) H'
theorem ok_isG {f B N1 N2 N3 dd : Addr} {fd : FuncData} {k : Nat} (F : Fun K "_law_is" "_law_is" s_is f fd) (T : TxtI K mg B N1 N2 N3) : FnG P w K mg base (k + 1) f fd ["_law_e", "_law_word"] (fun p => IsP p B dd) (spIs dd) := by
  refine Fun.okG F sc_is (fun a vs H Q E h => ?_) (fun cdv A outer s H vs Q E p hot hG hr h => ?_)
  · obtain ⟨fs, rfl, _⟩ := h
    rfl
  · obtain ⟨fs, rfl, hd, q⟩ := h
    have hu : (A.deeper (envOfC "_law_is" (defScope s_is) s.heap.objs.size f cdv)).units + 64 < cLine := by have := hr.un; omega
    have hp : p ∈ (cxH CX0 P w K mg base N_is "_law_is" (defScope s_is) f cdv A outer s H E p).pn := List.mem_singleton.mpr rfl
    have hC : HotC (cxH CX0 P w K mg base N_is "_law_is" (defScope s_is) f cdv A outer s H E p) := ⟨p, ⟨hot.1, hot.2⟩, hp⟩
    refine ⟨_, (pss_cons (ps_set (i := 2) sc_is.nd rfl (Or.inl rfl) (pe_lst (pa_cons (pe_callB (call_isP T.xc hp hG) (by rfl) T.isi (by decide +kernel) (pa_cons (pv 0) (pa_cons (pe_glob (v := .ref B) (by rfl) T.mgB rfl) pa_nil))) (pa_cons (pe_callB (call_isP T.xc hp hG) (by rfl) T.isi (by decide +kernel) (pa_cons (pv 0) (pa_cons (pe_glob (v := .ref N1) (by rfl) T.mg1 rfl) pa_nil))) (pa_cons (pe_callB (call_isP T.xc hp hG) (by rfl) T.isi (by decide +kernel) (pa_cons (pv 0) (pa_cons (pe_glob (v := .ref N2) (by rfl) T.mg2 rfl) pa_nil))) (pa_cons (pe_callB (call_isP T.xc hp hG) (by rfl) T.isi (by decide +kernel) (pa_cons (pv 0) (pa_cons (pe_glob (v := .ref N3) (by rfl) T.mg3 rfl) pa_nil))) pa_nil))))))
  (pss_cons (ps_set (i := 3) sc_is.nd rfl (Or.inl rfl) (pe_lst (pa_cons pe_str (pa_cons pe_str (pa_cons pe_str (pa_cons pe_str pa_nil))))))
  (pss_one (ps_ret (pe_and (pe_callB (call_isP T.xc hp hG) (by rfl) T.isi (by decide +kernel) (pa_cons (pv 0) (pa_cons (pe_bltn (v := .ty "ValueError") (by rfl) T.ve (by decide +kernel) rfl) pa_nil)))
    (pe_one (pe_cmpR (op_eqD hu) (pv 2) (pe_lcH (own := [("_law_one", 4)]) (g := gName 4) hC sc_is.nd (pv 3) (blkOk_by (N := N_is) (sc := defScope s_is) (by decide +kernel)) (fun _ _ _ _ _ => (pg_name (i := 4) sc_is.nd rfl (Or.inl rfl))) (fun _ _ _ _ _ => (pe_cmpR op_eq (pv 1) (pv 4) (nomark _)))) (nomark _)))))))), ?_⟩
    refine ⟨_, rfl, _, _, true, fs, rfl, (fun u hu => hu), T.kB, hd, _, rfl, _, _, false, fs, rfl, (fun u hu => hu), T.k1, hd, _, rfl, _, _, false, fs, rfl, (fun u hu => hu), T.k2, hd, _, rfl, _, _, false, fs, rfl, (fun u hu => hu), T.k3, hd, (by show 4 ≤ sizeLine; decide), fun l1 hl1 => ?_⟩
    refine ⟨(by show 4 ≤ sizeLine; decide), fun l2 hl2 => ?_⟩
    have n12 : l1 ≠ l2 := fun e => by rw [← e, upd_same] at hl2; cases hl2
    have s1 : Same H (upd (upd H l1 (.lst [.bl true, .bl false, .bl false, .bl false])) l2 (.lst [.str "map", .str "tree", .str "road", .str "text"])) := (same_new hl1).trans (same_new hl2)
    have h1 : (upd (upd H l1 (.lst [.bl true, .bl false, .bl false, .bl false])) l2 (.lst [.str "map", .str "tree", .str "road", .str "text"])) l1 = some (.lst [.bl true, .bl false, .bl false, .bl false]) := by rw [upd_ne n12, upd_same]
    have h2 : (upd (upd H l1 (.lst [.bl true, .bl false, .bl false, .bl false])) l2 (.lst [.str "map", .str "tree", .str "road", .str "text"])) l2 = some (.lst [.str "map", .str "tree", .str "road", .str "text"]) := upd_same
    generalize upd (upd H l1 (.lst [.bl true, .bl false, .bl false, .bl false])) l2 (.lst [.str "map", .str "tree", .str "road", .str "text"]) = G at s1 h1 h2
    refine ⟨_, rfl, _, _, true, fs, rfl, (fun u hu => hu), T.kV, s1 _ _ hd, _, rfl, ite2 (fun _ => ?_) (fun z => absurd rfl z)⟩
    refine ⟨_, rfl, _, rfl, l2, [.str "map", .str "tree", .str "road", .str "text"], rfl, .of h2, fun D hD => ⟨fun i H' => Same G H' ∧ H' D = some (.lst (([.bl true, .bl false, .bl false, .bl false] : List V).take i)), ⟨same_new hD, upd_same⟩, (fun i H' _ z => .of (z.1 _ _ h2)), ?_, ?_⟩⟩
    · intro i x H' hi ⟨e, h⟩
      have d0 : decide (V.str "map" = V.str "map") = true := decide_eq_true rfl
      have d1 : decide (V.str "map" = V.str "tree") = false := by decide +kernel
      have d2 : decide (V.str "map" = V.str "road") = false := by decide +kernel
      have d3 : decide (V.str "map" = V.str "text") = false := by decide +kernel
      match i, hi with
      | 0, hi =>
        cases hi
        refine ⟨rfl, _, rfl, _, rfl, rfl, _, h, small_lt (by decide), same_mut e hD, ?_⟩
        rw [upd_same, d0]
        rfl
      | 1, hi =>
        cases hi
        refine ⟨rfl, _, rfl, _, rfl, rfl, _, h, small_lt (by decide), same_mut e hD, ?_⟩
        rw [upd_same, d1]
        rfl
      | 2, hi =>
        cases hi
        refine ⟨rfl, _, rfl, _, rfl, rfl, _, h, small_lt (by decide), same_mut e hD, ?_⟩
        rw [upd_same, d2]
        rfl
      | 3, hi =>
        cases hi
        refine ⟨rfl, _, rfl, _, rfl, rfl, _, h, small_lt (by decide), same_mut e hD, ?_⟩
        rw [upd_same, d3]
        rfl
      | n + 4, hi => cases hi
    · rintro H' ⟨e, h⟩
      have dd : ∀ (H0 : Hp) (a : Addr), H0 a = some (.lst [.bl true, .bl false, .bl false, .bl false]) → Dp K H0 (.ref a) (.list [.bool true, .bool false, .bool false, .bool false]) := fun H0 a z => .lst (.of z) (.cons (.bl _) (.cons (.bl _) (.cons (.bl _) (.cons (.bl _) .nil))))
      refine ⟨_, _, dd _ _ (e _ _ h1), dd _ _ h, by decide +kernel, by decide +kernel, ?_⟩
      have eq : PyData.eqv (.list [.bool true, .bool false, .bool false, .bool false]) (.list [.bool true, .bool false, .bool false, .bool false]) = true := by decide +kernel
      rw [eq]
      exact q _ (s1.trans e)
end
end Rc
/-! part RcE4 -/
namespace Rc
open PySem PySem.Spec PyProof.Rows L2 L2H
theorem chart_inv {K : PySem.W.Frag} {H : Hp} {v : V} {many root : Int} {rows : List Row} (h : Dp K H v (chartDat many root rows)) : ∃ t l, v = .ref t ∧ SqT K H t [.int many, .int root, .ref l] ∧ Dp K H (.ref l) (rowsDat rows) := by
  obtain ⟨t, ys, rfl, hT, hY⟩ := dp_tup_inv h
  cases hY with
  | cons h1 h2 =>
    cases h1
    cases h2 with
    | cons h1 h2 =>
      cases h1
      cases h2 with
      | cons h1 h2 =>
        cases h2
        obtain ⟨l, xs, e, hS, hA⟩ := dp_list_inv h1
        subst e
        exact ⟨t, l, rfl, hT, .lst hS hA⟩
def spRefused (K : PySem.W.Frag) : Sp := fun vs H Q _ => ∃ (v : V) (many root : Int) (rows : List Row) (i : Int) (y : Str), vs = [v, .int i, .str y] ∧ Dp K H v (chartDat many root rows) ∧ BadAt many root rows i y ∧ ∀ H', Q (.bl true) H'
section
variable {P : Program} {w : World} {K : PySem.W.Frag} {mg : Str → Option Value} {base : Heap}
theorem ok_refused {f B R C N1 N2 N3 : Addr} {fd : FuncData} {k : Nat} (F : Fun K "_law_refused" "_law_refused" s_refused f fd) (TM : TxtM K mg C) (TB : TxtB K mg B R) (T : TxtI K mg B N1 N2 N3) (ex : PySem.W.exmOne K (.ref B) (.ref R) = some true)
    (hM : HasCN P w K mg base C ["self", "many", "root", "roads"] k (spInitX K B)) (hI : ∀ dd, HasG P w K mg base "_law_is" ["_law_e", "_law_word"] (k + 1) (fun p => IsP p B dd) (spIs dd)) (hW : HasG P w K mg base "_law_whole" ["_law_found"] (k + 1) (fun _ => True) spWhole) :
    FnOk P w K mg base CX0 (k + 2) f fd ["_law_chart", "_law_at", "_law_why"] (spRefused K) := by
  obtain ⟨fM, fdM, mM, bM, GM⟩ := hM
  obtain ⟨fW, fdW, gW, kW, bW, GW⟩ := hW
  refine F.ok sc_refused (fun vs H Q E h => ?_) (fun cdv A outer s H vs Q E hr h => ?_)
  · obtain ⟨v, many, root, rows, i, y, rfl, _⟩ := h
    rfl
  · obtain ⟨v, many, root, rows, i, y, rfl, hD, bad, q⟩ := h
    have XC : XfC K B := ⟨T.xc.hg, T.xc.hk, T.xc.hs, T.xc.hd⟩
    refine ⟨_, (pss_cons (L2N.ps_try_as (i := 3) rfl rfl sc_refused.nd rfl (show (defScope s_refused).names.lookup ("_law_e" : Str) = some NameKind.local by decide +kernel) ⟨by rfl, by decide, .inl TB.mgR⟩ takes0N
      (fun W pn xe tk hp => pss_one (ps_expr (pe_makeS mM GM hr (by rfl) TM.mgC bM (fun σ => L2N.passAt tk σ) (pa_cons (pe_ix (r := rIxT K) ix_tup (pv 0) pe_int (fun _ _ => rfl)) (pa_cons (pe_ix (r := rIxT K) ix_tup (pv 0) pe_int (fun _ _ => rfl)) (pa_cons (pe_ix (r := rIxT K) ix_tup (pv 0) pe_int (fun _ _ => rfl)) pa_nil))))))
      (fun a oe cls d pn hz hf => pss_ex (p := fun dd => cls = .ref B ∧ d = some dd) fun dd h => pss_one (ps_ret (pe_and (by
          obtain ⟨fI, fdI, gI, kI, bI, GI⟩ := hI dd
          exact pe_callP (E := E0) GI ⟨hr.dp, hr.un⟩ ⟨rfl, hf.elim fun vs hv => ⟨vs, hv, hz.2.2 vs hv⟩⟩ List.mem_cons_self ⟨hz.1.trans h.1, hz.2.1.trans h.2, hf⟩ (by rfl) gI kI bI (pa_cons (pv 3) (pa_cons pe_str pa_nil)))
        (pe_and (pe_callP (E := E0) GW ⟨hr.dp, hr.un⟩ ⟨rfl, hf.elim fun vs hv => ⟨vs, hv, hz.2.2 vs hv⟩⟩ List.mem_cons_self trivial (by rfl) gW kW bW (pa_cons (pe_xf XC TB.nA hz.zc hf (pv 3)) pa_nil))
        (pe_and (pe_cmpR op_eq (pe_xf XC TB.nA hz.zc hf (pv 3)) (pv 1) (nomark _))
        (pe_and (pe_callB (id := "isinstance") (r := rIsi K) call_isi (by rfl) TM.isi (by decide +kernel) (pa_cons (pe_xf XC TB.nW hz.zc hf (pv 3)) (pa_cons (pe_bltn (v := .ty "str") (by rfl) TM.str boot_str rfl) pa_nil)))
        (pe_one (pe_cmpR op_eq (pe_xf XC TB.nW hz.zc hf (pv 3)) (pv 2) (nomark _)))))))))) 
      (pss_one (ps_ret pe_bl))), ?_⟩
    obtain ⟨t, l, rfl, hT, hR⟩ := chart_inv hD
    refine ⟨_, rfl, t, _, 0, .int many, rfl, rfl, hT, atI_nat (j := 0) rfl, _, rfl, t, _, 1, .int root, rfl, rfl, hT, atI_nat (j := 1) rfl, _, rfl, t, _, 2, .ref l, rfl, rfl, hT, atI_nat (j := 2) rfl, fun x dx hx hdx ne => ?_⟩
    have s1 : Same H (upd (upd H dx (.own x)) x (.ins C dx [])) := (same_new hdx).trans (same_new (by rw [upd_ne (Ne.symm ne)]; exact hx))
    refine ⟨_, many, root, _, rows, i, y, rfl, dp_same s1 _ _ hR, bad, fun d H' e hd hxd => ⟨true, ex, fun _ a ha => ⟨d, ⟨rfl, rfl⟩, ?_⟩, fun z => Bool.noConfusion z⟩⟩
    have l1 : (badF i y).lookup ("at" : Str) = some (.int i) := by
      have e1 : (("at" : Str) == "why") = false := by decide +kernel
      simp [badF, List.lookup, e1]
    have l2 : (badF i y).lookup ("why" : Str) = some (.str y) := by simp [badF, List.lookup]
    refine ⟨_, rfl, badF i y, rfl, hxd, fun H2 e2 => ⟨_, rfl, ite2 (fun _ => ?_) (fun z => absurd rfl z)⟩⟩
    have h2 := e2 _ _ hxd
    refine ⟨_, rfl, rfl, rfl, d, badF i y, .int i, rfl, h2, l1, i, rfl, _, rfl, ite2 (fun _ => ?_) (fun z => absurd rfl z)⟩
    refine ⟨_, rfl, rfl, rfl, d, badF i y, .int i, rfl, h2, l1, _, rfl, rfl, _, rfl, ite2 (fun _ => ?_) (fun z => absurd (decide_eq_true rfl) z)⟩
    refine ⟨_, rfl, rfl, rfl, d, badF i y, .str y, rfl, h2, l2, _, _, _, _, true, rfl, .ty _, .base (.str _), kit_ty (by decide +kernel), _, rfl, ite2 (fun _ => ?_) (fun z => absurd rfl z)⟩
    refine ⟨_, rfl, rfl, rfl, d, badF i y, .str y, rfl, h2, l2, _, rfl, rfl, ?_⟩
    rw [decide_eq_true rfl]
    exact q _
end
end Rc
/-! part RcD6 -/
/-! _law_broad, _law_wide, _law_whole. -/
namespace Rc
open PySem PySem.Spec PyProof.Rows L2
def spBroad (K : PySem.W.Frag) : Sp := fun vs H Q _ => ∃ (Hb : Hp) (d : Addr), vs = [.ref d] ∧ Dice K H Hb d ∧
  ∀ H' Hb' v many root rows, Sub (at1 d) H Hb H' Hb' → Dice K H' Hb' d → Dp K Hb' v (chartDat many root rows) → ChartOk many root rows → Q v H'
def spWide (K : PySem.W.Frag) : Sp := fun vs H Q _ => ∃ (Hb : Hp) (d : Addr), vs = [.ref d] ∧ Dice K H Hb d ∧
  ∀ H' Hb' v many root rows, Sub (at1 d) H Hb H' Hb' → Dice K H' Hb' d → Dp K Hb' v (chartDat many root rows) → ChartOk many root rows → Q v H'
def spWholeP : Sp := fun vs H Q _ => ∃ i : Int, vs = [.int i] ∧ Q (.bl true) H
section
variable {P : Program} {w : World} {K : PySem.W.Frag} {mg : Str → Option Value} {base : Heap}
theorem ok_wide {f : Addr} {fd : FuncData} {k : Nat} (F : Fun K "_law_wide" "_law_wide" s_wide f fd) (hN : Has P w K mg base "_law_next" ["_law_dice_here", "_law_many"] k (spNext K)) (hM : Has P w K mg base "_law_map" ["_law_d", "_law_places", "_law_roads"] k (spMap K)) :
    FnOk P w K mg base CX0 (k + 1) f fd ["_law_d"] (spWide K) := by
  obtain ⟨fN, fdN, gN, kN, bN, GN⟩ := hN
  obtain ⟨fM, fdM, gM, kM, bM, GM⟩ := hM
  refine F.ok sc_wide (fun vs H Q E h => ?_) (fun cdv A outer s H vs Q E hr h => ?_)
  · obtain ⟨Hb, d, rfl, _⟩ := h
    rfl
  · obtain ⟨Hb, d, rfl, D, q⟩ := h
    refine ⟨_, (pss_cons (ps_if (pt_cmpR op_eq (pe_call GN hr (by rfl) gN kN bN .nil pass0 (pa_cons (pv 0) (pa_cons pe_int pa_nil))) pe_int (nomark _))
   (pss_one (ps_ret (pe_call GM hr (by rfl) gM kM bM .nil pass0 (pa_cons (pv 0) (pa_cons pe_int (pa_cons pe_int pa_nil))))))
   pss_nil)
  (pss_one (ps_ret (pe_call GM hr (by rfl) gM kM bM .nil pass0 (pa_cons (pv 0) (pa_cons pe_int (pa_cons pe_int pa_nil))))))), ?_⟩
    refine ⟨_, rfl, Hb, d, 4, rfl, D, by decide, by decide, fun H1 z S1 D1 z0 z1 => ⟨rfl, _, rfl, ite2 (fun _ => ?_) (fun _ => ?_)⟩⟩
    · exact ⟨_, rfl, Hb, d, 20, 60, rfl, D1, by decide, by decide, by decide, by decide, fun H' Hb' v many root rows S2 D2 hD ok _ _ => q H' Hb' v many root rows (S1.dtrans S2 D1) D2 hD ok⟩
    · exact ⟨_, rfl, Hb, d, 8, 16, rfl, D1, by decide, by decide, by decide, by decide, fun H' Hb' v many root rows S2 D2 hD ok _ _ => q H' Hb' v many root rows (S1.dtrans S2 D1) D2 hD ok⟩
theorem ok_whole {f : Addr} {fd : FuncData} {k : Nat} (F : Fun K "_law_whole" "_law_whole" s_whole f fd) (T : TxtL mg) : FnOk P w K mg base CX0 (k + 1) f fd ["_law_found"] spWholeP := by
  refine F.ok sc_whole (fun vs H Q E h => ?_) (fun cdv A outer s H vs Q E hr h => ?_)
  · obtain ⟨i, rfl, _⟩ := h
    rfl
  · obtain ⟨i, rfl, q⟩ := h
    refine ⟨_, (pss_one (ps_ret (pe_and (pe_callB call_isi (by rfl) T.isi (by decide +kernel) (pa_cons (pv 0) (pa_cons (pe_bltn (v := .ty "int") (by rfl) T.int boot_int rfl) pa_nil))) (pe_one (pe_not (pe_callB call_isi (by rfl) T.isi (by decide +kernel) (pa_cons (pv 0) (pa_cons (pe_bltn (v := .ty "bool") (by rfl) T.bool (by decide +kernel) rfl) pa_nil)))))))), ?_⟩
    refine ⟨_, rfl, _, _, _, _, true, rfl, .ty _, .base (.int _), kit_ty (by decide +kernel), _, rfl, ite2 (fun _ => ?_) (fun z => absurd rfl z)⟩
    exact ⟨_, rfl, _, _, _, _, false, rfl, .ty _, .base (.int _), kit_ty (by decide +kernel), _, rfl, q⟩
end
end Rc
/-! part RcE5 -/
namespace Rc
open PySem PySem.Spec PyProof.Rows L2 L2H
def badRow (many : Int) : Nat → Row
  | 0 => ⟨0, 0, -1⟩
  | 1 => ⟨-1, 0, 1⟩
  | 2 => ⟨many, 0, -1⟩
  | 3 => ⟨0, many, 1⟩
  | 4 => ⟨0, -1, 1000000001⟩
  | 5 => ⟨many - 1, many - 1, 0⟩
  | 6 => ⟨0, 1, -1⟩
  | 7 => ⟨1, 0, 1000000001⟩
  | _ => ⟨0, 1, -1000000000⟩
def badWord (j : Nat) : Str := if j < 6 then "place" else "cost"
theorem badRow_bad {many : Int} (h : 2 ≤ many) : ∀ j, j < 9 → rowBad many (badRow many j) = some (badWord j)
  | 0, _ => by simp [rowBad, badRow, badWord]
  | 1, _ => by simp [rowBad, badRow, badWord]
  | 2, _ => by
    have h1 : ¬ many = 0 := by omega
    have h2 : 0 ≤ many := by omega
    simp [rowBad, badRow, badWord, h1, h2]
  | 3, _ => by
    have h1 : ¬ 0 = many := by omega
    have h2 : 0 < many := by omega
    have h3 : 0 ≤ many := by omega
    simp [rowBad, badRow, badWord, h1, h2, h3]
  | 4, _ => by
    have h2 : 0 < many := by omega
    simp [rowBad, badRow, badWord, h2]
  | 5, _ => by simp [rowBad, badRow, badWord]
  | 6, _ => by
    have h2 : 0 < many := by omega
    have h3 : 1 < many := by omega
    simp [rowBad, badRow, badWord, h2, h3]
  | 7, _ => by
    have h2 : 0 < many := by omega
    have h3 : 1 < many := by omega
    simp [rowBad, badRow, badWord, h2, h3]
  | 8, _ => by
    have h2 : 0 < many := by omega
    have h3 : 1 < many := by omega
    simp [rowBad, badRow, badWord, h2, h3]
  | n + 9, h => by omega
theorem row_good {many : Int} {r : Row} (h : Row.Ok many r) : rowBad many r = none := by
  unfold rowBad
  rw [if_neg h.ne, if_neg (fun z => z h.b0), if_neg (fun z => z h.b1), if_neg (fun z => z h.g0), if_neg (fun z => z h.g1), if_neg (fun z => z h.c0), if_neg (fun z => z h.c1)]
/-- good rows, a bad one, a further one -/
theorem bad_behind {many root : Int} {rows : List Row} {r r2 : Row} {y : Str} (m0 : 1 ≤ many) (m1 : many ≤ 20) (r0 : 0 ≤ root) (r1 : root < many) (hl : rows.length ≤ 58) (hg : ∀ x ∈ rows, Row.Ok many x) (hb : rowBad many r = some y) : BadAt many root (rows ++ [r, r2]) (rows.length : Int) y := by
  refine .row m0 m1 r0 r1 (by rw [List.length_append]; simp; omega) (r := r) (by simp) hb fun j' r' hj hr => row_good (hg r' ?_)
  rw [List.getElem?_append_left hj] at hr
  exact List.mem_of_getElem? hr
def wrongDat (many root : Int) (rows : List Row) (i : Int) (y : Str) : PyData := .tuple [chartDat many root rows, .int i, .str y]
def spWrong (K : PySem.W.Frag) : Sp := fun vs H Q _ => ∃ (Hb : Hp) (d : Addr) (v : V) (many root : Int) (rows : List Row), vs = [.ref d, v] ∧ Dice K H Hb d ∧ Dp K Hb v (chartDat many root rows) ∧ ChartOk many root rows ∧
  ∀ H' v' m r rows' i y, Dp K H' v' (wrongDat m r rows' i y) → BadAt m r rows' i y → Q v' H'
section
variable {P : Program} {w : World} {K : PySem.W.Frag} {mg : Str → Option Value} {base : Heap}
end
end Rc
/-! part RcQ0 -/
namespace Rc
open PySem PySem.Spec PyProof.Rows L2
theorem seq_via {t u : TS} {D : Ends} {σ : L2.St} {H : Hp} (S : L2.St → Hp → Prop) (h1 : ∀ N : L2.St → Hp → Prop, (∀ σ H, S σ H → N σ H) → t { D with nx := N } σ H) (h2 : ∀ σ H, S σ H → u D σ H) : tSeq t u D σ H := h1 _ h2
theorem gname_go {i : Nat} {v : V} {σ : L2.St} {H : Hp} {Q : L2.St → Hp → Prop} (h : Q (σ.set i (some v)) H) : gName i v σ H Q := h
def rLenK (K : PySem.W.Frag) : List V → Hp → VK → Prop := fun xs H Q => ∃ p ys, xs = [.ref p] ∧ (SqL K H p ys ∨ SqT K H p ys) ∧ Q (.int ys.length) H
theorem takes0J {X : Cx} : L2.Takes X (fun _ _ _ _ => False) := fun _ _ x => by
  obtain ⟨_, _, _, _, _, _, _, _, _, _, _, _, _, _, _, _, z⟩ := x
  exact z.elim
section
variable {X : Cx} {o e : Expr} {es : List Expr} {to : TE} {t : TA} {name : Str} {apos cpos : Pos} {T id : String} {r : V → List V → Hp → VK → Prop}
/-- a method of a built-in type, the class facts by name -/
theorem pe_bmK {K : PySem.W.Frag} (hK : X.K = K) (pa : PlainAttrs T) (slot : Slot T name id) (hty : typeOf (.builtin id) = pure (.type "method_descriptor")) (hm : MtR X id r) (ho : PE X o to) (ha : PA X (e :: es) t)
    (hbase : attributeBase o name X.env (eval o X.env) = eval o X.env := by rfl)
    (hfew : ((backTo cpos (starEach (e :: es) X.env)).all (fun x => !x.1) && (backToKw cpos (keywordEach [] X.env)).all (fun x => x.1.isSome)
      && decide ((e :: es).length + ([] : List Keyword).length + (if ([] : List Keyword).isEmpty then 0 else 1) < 30)) = true := by rfl)
    (hline : (apos.endLine == cpos.line) = true := by rfl) (hs : starEach (e :: es) X.env = (false, eval e X.env) :: starEach es X.env := by rfl) (hplain : (backTo cpos (starEach es X.env)).any (·.1) = false := by rfl) :
    PE X (.Call (.Attribute o name apos) (e :: es) [] cpos) (tBM K T r to t) := hK ▸ pe_bm pa slot hty hm ho ha hbase hfew hline hs hplain
end
end Rc
/-! part RcE6 -/
namespace Rc
open PySem PySem.Spec PyProof.Rows L2 L2H
theorem dp_row {K : PySem.W.Frag} {G : Hp} {t : Addr} {r : Row} : Dp K (upd G t (.tup [.int r.b, .int r.g, .int r.c])) (.ref t) r.dat := .tup (.of upd_same) (.cons (.int _) (.cons (.int _) (.cons (.int _) .nil)))
theorem dp_rep {K : PySem.W.Frag} {G : Hp} {x : V} {d : PyData} (h : Dp K G x d) : ∀ n : Nat, DpAll K G (List.replicate n [x]).flatten (List.replicate n d)
  | 0 => .nil
  | n + 1 => by
    rw [List.replicate_succ, List.replicate_succ, List.flatten_cons]
    exact .cons h (dp_rep h n)
theorem dp_reps {K : PySem.W.Frag} {G : Hp} {p : Addr} {x : V} {r : Row} {n : Nat} (h : G p = some (.lst (List.replicate n [x]).flatten)) (hx : Dp K G x r.dat) : Dp K G (.ref p) (rowsDat (List.replicate n r)) := by
  refine .lst (.of h) ?_
  rw [List.map_replicate]
  exact dp_rep hx n
/-- (many, root, rows) and (that, i, y) -/
theorem made_end {K : PySem.W.Frag} {G : Hp} {many root i : Int} {y : Str} {l : Addr} {rows : List Row} {Q : VK} (hD : Dp K G (.ref l) (rowsDat rows)) (q : ∀ H' v', Dp K H' v' (wrongDat many root rows i y) → Q v' H') :
    ∀ t2, G t2 = none → ∀ t3, (upd G t2 (.tup [.int many, .int root, .ref l])) t3 = none → Q (.ref t3) (upd (upd G t2 (.tup [.int many, .int root, .ref l])) t3 (.tup [.ref t2, .int i, .str y])) := by
  intro t2 h2 t3 h3
  have n : t2 ≠ t3 := fun e => by rw [← e, upd_same] at h3; cases h3
  have s1 : Same G (upd (upd G t2 (.tup [.int many, .int root, .ref l])) t3 (.tup [.ref t2, .int i, .str y])) := (same_new h2).trans (same_new h3)
  exact q _ _ (.tup (.of upd_same) (.cons (.tup (.of (by rw [upd_ne n, upd_same])) (.cons (.int _) (.cons (.int _) (.cons (dp_same s1 _ _ hD) .nil)))) (.cons (.int _) (.cons (.str _) .nil))))
theorem dpAll_take {K : PySem.W.Frag} {H : Hp} : ∀ {vs : List V} {ds : List PyData}, DpAll K H vs ds → ∀ n : Nat, DpAll K H (vs.take n) (ds.take n)
  | _, _, .nil, n => by
    rw [List.take_nil, List.take_nil]
    exact .nil
  | _, _, .cons h1 h2, 0 => .nil
  | _, _, .cons h1 h2, n + 1 => .cons h1 (dpAll_take h2 n)
theorem nine_get {j : Nat} (h : j < 9) : ([0, 1, 2, 3, 4, 5, 6, 7, 8] : List Nat)[j]? = some j := by
  match j, h with
  | 0, _ => rfl
  | 1, _ => rfl
  | 2, _ => rfl
  | 3, _ => rfl
  | 4, _ => rfl
  | 5, _ => rfl
  | 6, _ => rfl
  | 7, _ => rfl
  | 8, _ => rfl
  | n + 9, h => omega
theorem words_get {j : Nat} (h : j < 9) : (List.replicate 6 (V.str "place") ++ List.replicate 3 (V.str "cost"))[j]? = some (V.str (badWord j)) := by
  match j, h with
  | 0, _ => rfl
  | 1, _ => rfl
  | 2, _ => rfl
  | 3, _ => rfl
  | 4, _ => rfl
  | 5, _ => rfl
  | 6, _ => rfl
  | 7, _ => rfl
  | 8, _ => rfl
  | n + 9, h => omega
theorem tnext_go {D : Ends} {σ : L2.St} {H : Hp} (h : D.nx σ H) : tNext D σ H := h
theorem cut58 (xs : List V) : cutV xs none (some 58) = xs.take 58 := by
  have h1 : HT.sIx xs.length 0 none = 0 := rfl
  have h2 : HT.sIx xs.length xs.length (some 58) = min 58 xs.length := rfl
  unfold cutV
  rw [h1, h2, List.drop_zero, Nat.sub_zero]
  by_cases h : xs.length ≤ 58
  · rw [Nat.min_eq_right h, List.take_length, List.take_of_length_le h]
  · rw [Nat.min_eq_left (by omega)]
section
variable {P : Program} {w : World} {K : PySem.W.Frag} {mg : Str → Option Value} {base : Heap}
theorem ok_wrong {f : Addr} {fd : FuncData} {k : Nat} (F : Fun K "_law_wrong" "_law_wrong" s_wrong f fd) (T : Txt0 mg) (hN : Has P w K mg base "_law_next" ["_law_dice_here", "_law_many"] k (spNext K)) : FnOk P w K mg base CX0 (k + 1) f fd ["_law_d", "_law_chart"] (spWrong K) := by
  obtain ⟨fN, fdN, gN, kN, bN, GN⟩ := hN
  refine F.ok sc_wrong (fun vs H Q E h => ?_) (fun cdv A outer s H vs Q E hr h => ?_)
  · obtain ⟨Hb, d, v, many, root, rows, rfl, _⟩ := h
    rfl
  · obtain ⟨Hb, d, v, many, root, rows, rfl, D, hD, ok, q⟩ := h
    refine ⟨_, (pss_cons (ps_asg (pv 1) (pg_tup (by rfl) (pgs_cons (pg_name (i := 2) sc_wrong.nd rfl (Or.inl rfl)) (pgs_cons (pg_name (i := 3) sc_wrong.nd rfl (Or.inl rfl)) (pgs_cons (pg_name (i := 4) sc_wrong.nd rfl (Or.inl rfl)) pgs_nil)))))
  (pss_cons (ps_set (i := 5) sc_wrong.nd rfl (Or.inl rfl) (pe_call GN hr (by rfl) gN kN bN .nil pass0 (pa_cons (pv 0) (pa_cons pe_int pa_nil))))
  (pss_cons (ps_if (pt_cmpR op_lt (pv 5) pe_int (nomark _))
   (pss_one (ps_ret (pe_tup (pa_cons (pe_tup (pa_cons (pe_ix ix_list (pe_lst (pa_cons pe_int (pa_cons pe_int pa_nil))) (pv 5) (fun _ _ => rfl)) (pa_cons (pe_un un_neg pe_int) (pa_cons (pe_lst (pa_cons (pe_tup (pa_cons pe_int (pa_cons pe_int (pa_cons (pe_un un_neg pe_int) pa_nil)))) pa_nil)) pa_nil)))) (pa_cons pe_int (pa_cons pe_str pa_nil))))))
   pss_nil)
  (pss_cons (ps_if (pt_cmpR op_lt (pv 5) pe_int (nomark _))
   (pss_one (ps_ret (pe_tup (pa_cons (pe_tup (pa_cons (pv 2) (pa_cons (pe_ix ix_list (pe_lst (pa_cons (pe_un un_neg pe_int) (pa_cons (pv 2) pa_nil))) (pe_op op_sub (pv 5) pe_int) (fun _ _ => rfl)) (pa_cons (pe_op op_rep (pe_lst (pa_cons (pe_tup (pa_cons pe_int (pa_cons pe_int (pa_cons (pe_un un_neg pe_int) pa_nil)))) pa_nil)) pe_int) pa_nil)))) (pa_cons pe_int (pa_cons pe_str pa_nil))))))
   pss_nil)
  (pss_cons (ps_if (pt_cmpR op_eq (pv 5) pe_int (nomark _))
   (pss_one (ps_ret (pe_tup (pa_cons (pe_tup (pa_cons (pv 2) (pa_cons (pv 3) (pa_cons (pe_op op_rep (pe_lst (pa_cons (pe_tup (pa_cons pe_int (pa_cons pe_int (pa_cons (pe_un un_neg pe_int) pa_nil)))) pa_nil)) pe_int) pa_nil)))) (pa_cons pe_int (pa_cons pe_str pa_nil))))))
   pss_nil)
  (pss_cons (ps_set (i := 4) sc_wrong.nd rfl (Or.inl rfl) (pe_slice sl_list (pv 4) po_none (po_some pe_int)))
  (pss_cons (ps_set (i := 6) sc_wrong.nd rfl (Or.inl rfl) (pe_lst (pa_cons (pe_tup (pa_cons pe_int (pa_cons pe_int (pa_cons (pe_un un_neg pe_int) pa_nil)))) (pa_cons (pe_tup (pa_cons (pe_un un_neg pe_int) (pa_cons pe_int (pa_cons pe_int pa_nil)))) (pa_cons (pe_tup (pa_cons (pv 2) (pa_cons pe_int (pa_cons (pe_un un_neg pe_int) pa_nil)))) (pa_cons (pe_tup (pa_cons pe_int (pa_cons (pv 2) (pa_cons pe_int pa_nil)))) (pa_cons (pe_tup (pa_cons pe_int (pa_cons (pe_un un_neg pe_int) (pa_cons (pe_op op_add (pe_op op_pow pe_int pe_int) pe_int) pa_nil)))) (pa_cons (pe_tup (pa_cons (pe_op op_sub (pv 2) pe_int) (pa_cons (pe_op op_sub (pv 2) pe_int) (pa_cons pe_int pa_nil)))) pa_nil))))))))
  (pss_cons (ps_set (i := 7) sc_wrong.nd rfl (Or.inl rfl) (pe_op op_cat (pe_op op_rep (pe_lst (pa_cons pe_str pa_nil)) pe_int) (pe_op op_rep (pe_lst (pa_cons pe_str pa_nil)) pe_int)))
  (pss_cons (ps_if (pt_cmpR op_eq (pv 2) pe_int (nomark _))
   (pss_one (ps_ret (pe_tup (pa_cons (pe_tup (pa_cons (pv 2) (pa_cons (pv 3) (pa_cons (pe_op op_cat (pv 4) (pe_lst (pa_cons (pe_tup (pa_cons pe_int (pa_cons pe_int (pa_cons (pe_un un_neg pe_int) pa_nil)))) (pa_cons (pe_tup (pa_cons pe_int (pa_cons pe_int (pa_cons (pe_un un_neg pe_int) pa_nil)))) pa_nil)))) pa_nil)))) (pa_cons (pe_callB call_len_seq (by rfl) T.len PySem.boot_len (pa_cons (pv 4) pa_nil)) (pa_cons pe_str pa_nil))))))
   pss_nil)
  (pss_cons (ps_set (i := 6) sc_wrong.nd rfl (Or.inl rfl) (pe_op op_cat (pv 6) (pe_lst (pa_cons (pe_tup (pa_cons pe_int (pa_cons pe_int (pa_cons (pe_un un_neg pe_int) pa_nil)))) (pa_cons (pe_tup (pa_cons pe_int (pa_cons pe_int (pa_cons (pe_op op_add (pe_op op_pow pe_int pe_int) pe_int) pa_nil)))) (pa_cons (pe_tup (pa_cons pe_int (pa_cons pe_int (pa_cons (pe_un un_neg (pe_op op_pow pe_int pe_int)) pa_nil)))) pa_nil))))))
  (pss_one (ps_ret (pe_tup (pa_cons (pe_tup (pa_cons (pv 2) (pa_cons (pv 3) (pa_cons (pe_op op_cat (pv 4) (pe_lst (pa_cons (pe_ix ix_list (pv 6) (pe_op op_sub (pv 5) pe_int) (fun _ _ => rfl)) (pa_cons (pe_tup (pa_cons pe_int (pa_cons pe_int (pa_cons (pe_un un_neg pe_int) pa_nil)))) pa_nil)))) pa_nil)))) (pa_cons (pe_callB call_len_seq (by rfl) T.len PySem.boot_len (pa_cons (pv 4) pa_nil)) (pa_cons (pe_ix ix_list (pv 7) (pe_op op_sub (pv 5) pe_int) (fun _ _ => rfl)) pa_nil)))))))))))))))), ?_⟩
    obtain ⟨t, l, rfl, hT, hR⟩ := chart_inv hD
    obtain ⟨m0, m1, r0, r1, hl60, hrows⟩ := id ok
    refine ⟨_, rfl, t, _, rfl, sqT_same D.sub hT, rfl, _, _, rfl, _, _, rfl, _, _, rfl, rfl, ?_⟩
    refine ⟨_, rfl, Hb, d, 14, rfl, D, by decide, by decide, fun H1 kd S1 D1 k0 k1 => ?_⟩
    have hR1 : Dp K H1 (.ref l) (rowsDat rows) := dp_same D1.sub _ _ hR
    clear S1 D1 D hR hT hD
    refine ⟨_, rfl, _, _, rfl, rfl, _, rfl, ite2 (fun c => ?_) (fun c => ?_)⟩
    · have c' := of_decide_eq_true c
      refine ⟨(by show 2 ≤ sizeLine; decide), fun l1 hl1 => ?_⟩
      have h01 : kd = 0 ∨ kd = 1 := by omega
      rcases h01 with rfl | rfl
      · refine ⟨_, rfl, l1, _, _, _, rfl, rfl, .of upd_same, atI_nat (j := 0) rfl, _, rfl, _, rfl, (by show 3 ≤ sizeLine; decide), fun t1 ht1 => ⟨(by show 1 ≤ sizeLine; decide), fun l2 hl2 => ⟨(by show 3 ≤ sizeLine; decide), fun t2 ht2 => ⟨(by show 3 ≤ sizeLine; decide), fun t3 ht3 => ?_⟩⟩⟩⟩
        exact made_end (rows := [⟨0, 0, -1⟩]) (.lst (.of upd_same) (.cons (dp_same (same_new hl2) _ _ (dp_row (r := ⟨0, 0, -1⟩))) .nil)) (fun H' v' hd => q H' v' _ _ _ _ _ hd (.many (by omega))) t2 ht2 t3 ht3
      · refine ⟨_, rfl, l1, _, _, _, rfl, rfl, .of upd_same, atI_nat (j := 1) rfl, _, rfl, _, rfl, (by show 3 ≤ sizeLine; decide), fun t1 ht1 => ⟨(by show 1 ≤ sizeLine; decide), fun l2 hl2 => ⟨(by show 3 ≤ sizeLine; decide), fun t2 ht2 => ⟨(by show 3 ≤ sizeLine; decide), fun t3 ht3 => ?_⟩⟩⟩⟩
        exact made_end (rows := [⟨0, 0, -1⟩]) (.lst (.of upd_same) (.cons (dp_same (same_new hl2) _ _ (dp_row (r := ⟨0, 0, -1⟩))) .nil)) (fun H' v' hd => q H' v' _ _ _ _ _ hd (.many (by omega))) t2 ht2 t3 ht3
    have c' : ¬ kd < 2 := fun z => c (decide_eq_true z)
    refine ⟨_, rfl, _, _, rfl, rfl, _, rfl, ite2 (fun c2 => ?_) (fun c2 => ?_)⟩
    · have c2' := of_decide_eq_true c2
      refine ⟨_, rfl, _, rfl, _, rfl, (by show 2 ≤ sizeLine; decide), fun l1 hl1 => ?_⟩
      have h23 : kd = 2 ∨ kd = 3 := by omega
      rcases h23 with rfl | rfl
      · refine ⟨_, rfl, _, _, rfl, rfl, l1, _, _, _, rfl, rfl, .of upd_same, atI_nat (j := 0) rfl, _, rfl, (by show 3 ≤ sizeLine; decide), fun t1 ht1 => ⟨(by show 1 ≤ sizeLine; decide), fun l2 hl2 => ⟨l2, 61, _, rfl, rfl, upd_same, by decide, by decide, small_line (by show 1 * 61 ≤ 16777216; decide), fun p hp => ⟨(by show 3 ≤ sizeLine; decide), fun t2 ht2 => ⟨(by show 3 ≤ sizeLine; decide), fun t3 ht3 => ?_⟩⟩⟩⟩⟩
        exact made_end (dp_reps upd_same (dp_same ((same_new hl2).trans (same_new hp)) _ _ (dp_row (r := ⟨0, 0, -1⟩)))) (fun H' v' hd => q H' v' _ _ _ _ _ hd (.root m0 m1 (by omega))) t2 ht2 t3 ht3
      · refine ⟨_, rfl, _, _, rfl, rfl, l1, _, _, _, rfl, rfl, .of upd_same, atI_nat (j := 1) rfl, _, rfl, (by show 3 ≤ sizeLine; decide), fun t1 ht1 => ⟨(by show 1 ≤ sizeLine; decide), fun l2 hl2 => ⟨l2, 61, _, rfl, rfl, upd_same, by decide, by decide, small_line (by show 1 * 61 ≤ 16777216; decide), fun p hp => ⟨(by show 3 ≤ sizeLine; decide), fun t2 ht2 => ⟨(by show 3 ≤ sizeLine; decide), fun t3 ht3 => ?_⟩⟩⟩⟩⟩
        exact made_end (dp_reps upd_same (dp_same ((same_new hl2).trans (same_new hp)) _ _ (dp_row (r := ⟨0, 0, -1⟩)))) (fun H' v' hd => q H' v' _ _ _ _ _ hd (.root m0 m1 (by omega))) t2 ht2 t3 ht3
    have c2' : ¬ kd < 4 := fun z => c2 (decide_eq_true z)
    refine ⟨_, rfl, rfl, _, rfl, ite2 (fun c3 => ?_) (fun c3 => ?_)⟩
    · refine ⟨_, rfl, _, rfl, _, rfl, (by show 3 ≤ sizeLine; decide), fun t1 ht1 => ⟨(by show 1 ≤ sizeLine; decide), fun l2 hl2 => ⟨l2, 61, _, rfl, rfl, upd_same, by decide, by decide, small_line (by show 1 * 61 ≤ 16777216; decide), fun p hp => ⟨(by show 3 ≤ sizeLine; decide), fun t2 ht2 => ⟨(by show 3 ≤ sizeLine; decide), fun t3 ht3 => ?_⟩⟩⟩⟩⟩
      exact made_end (dp_reps upd_same (dp_same ((same_new hl2).trans (same_new hp)) _ _ (dp_row (r := ⟨0, 0, -1⟩)))) (fun H' v' hd => q H' v' _ _ _ _ _ hd (.roads m0 m1 r0 r1 (by rw [List.length_replicate]; decide))) t2 ht2 t3 ht3
    have c3' : ¬ kd = 4 := fun z => c3 (by rw [z]; exact decide_eq_true rfl)
    obtain ⟨_, xs, el, hS1, hA1⟩ := dp_list_inv hR1
    cases el
    have hxl : xs.length = rows.length := by rw [dpAll_len hA1, List.length_map]
    refine ⟨_, rfl, _, rfl, l, xs, rfl, hS1, fun l58 hl58 => ?_⟩
    rw [cut58]
    have g58 : (upd H1 l58 (.lst (xs.take 58))) l58 = some (.lst (xs.take 58)) := upd_same
    have a58 : DpAll K (upd H1 l58 (.lst (xs.take 58))) (xs.take 58) ((rows.take 58).map Row.dat) := by
      rw [List.map_take]
      exact dpAll_take (dpAll_same (same_new hl58) _ _ hA1) 58
    have hrows58 : ∀ x ∈ rows.take 58, Row.Ok many x := fun x hx => hrows x (List.mem_of_mem_take hx)
    have hl58' : (rows.take 58).length ≤ 58 := by rw [List.length_take]; omega
    have hx58 : (xs.take 58).length = (rows.take 58).length := by rw [List.length_take, List.length_take, hxl]
    generalize rows.take 58 = rs at a58 hrows58 hl58' hx58
    generalize xs.take 58 = zs at g58 a58 hx58
    generalize upd H1 l58 (.lst zs) = G0 at g58 a58
    refine gname_go ?_
    dsimp only
    refine seq_via (fun σ G => ∃ (lb : Addr) (bs : List V), σ = [some (.ref d), some (.ref t), some (.int many), some (.int root), some (.ref l58), some (.int kd), some (.ref lb), none] ∧ Same G0 G ∧ G lb = some (.lst bs) ∧
      DpAll K G bs (([0, 1, 2, 3, 4, 5].map (badRow many)).map Row.dat)) (fun N hN => ?_) ?_
    · refine ⟨_, rfl, (by show 3 ≤ sizeLine; decide), fun t1 h1 => ⟨_, rfl, (by show 3 ≤ sizeLine; decide), fun t2 h2 => ⟨_, rfl, _, rfl, (by show 3 ≤ sizeLine; decide), fun t3 h3 => ⟨_, rfl, (by show 3 ≤ sizeLine; decide), fun t4 h4 => ?_⟩⟩⟩⟩
      refine ⟨_, rfl, _, _, rfl, rfl, ⟨by decide, by decide, by decide⟩, _, _, rfl, rfl, (by show 3 ≤ sizeLine; decide), fun t5 h5 => ⟨_, rfl, _, _, rfl, rfl, _, rfl, _, _, rfl, rfl, (by show 3 ≤ sizeLine; decide), fun t6 h6 => ⟨(by show 6 ≤ sizeLine; decide), fun lb hlb => ?_⟩⟩⟩
      refine hN _ _ ⟨lb, _, rfl, ((((((same_new h1).trans (same_new h2)).trans (same_new h3)).trans (same_new h4)).trans (same_new h5)).trans (same_new h6)).trans (same_new hlb), upd_same, ?_⟩
      exact .cons (dp_same ((((((same_new h2).trans (same_new h3)).trans (same_new h4)).trans (same_new h5)).trans (same_new h6)).trans (same_new hlb)) _ _ (dp_row (r := badRow many 0))) (.cons (dp_same (((((same_new h3).trans (same_new h4)).trans (same_new h5)).trans (same_new h6)).trans (same_new hlb)) _ _ (dp_row (r := badRow many 1))) (.cons (dp_same ((((same_new h4).trans (same_new h5)).trans (same_new h6)).trans (same_new hlb)) _ _ (dp_row (r := badRow many 2))) (.cons (dp_same (((same_new h5).trans (same_new h6)).trans (same_new hlb)) _ _ (dp_row (r := badRow many 3))) (.cons (dp_same ((same_new h6).trans (same_new hlb)) _ _ (dp_row (r := badRow many 4))) (.cons (dp_same (same_new hlb) _ _ (dp_row (r := badRow many 5))) .nil)))))
    · rintro σ G1 ⟨lb, bs, rfl, e1, hlb, hbs⟩
      refine seq_via (fun σ G => ∃ (wl : Addr), σ = [some (.ref d), some (.ref t), some (.int many), some (.int root), some (.ref l58), some (.int kd), some (.ref lb), some (.ref wl)] ∧ Same G1 G ∧
        G wl = some (.lst ((List.replicate 6 (V.str "place")) ++ List.replicate 3 (V.str "cost")))) (fun N hN => ?_) ?_
      · refine ⟨(by show 1 ≤ sizeLine; decide), fun w1 h1 => ⟨w1, 6, _, rfl, rfl, upd_same, by decide, by decide, small_line (by show 1 * 6 ≤ 16777216; decide), fun w2 h2 => ?_⟩⟩
        refine ⟨(by show 1 ≤ sizeLine; decide), fun w3 h3 => ⟨w3, 3, _, rfl, rfl, upd_same, by decide, by decide, small_line (by show 1 * 3 ≤ 16777216; decide), fun w4 h4 => ?_⟩⟩
        have n23 : w2 ≠ w3 := fun e => by rw [← e, upd_same] at h3; cases h3
        have n24 : w2 ≠ w4 := fun e => by rw [← e, upd_ne n23, upd_same] at h4; cases h4
        refine ⟨w2, w4, _, _, rfl, rfl, by rw [upd_ne n24, upd_ne n23, upd_same], upd_same, small_line (by show 6 + 3 ≤ 16777216; decide), fun w5 h5 => ?_⟩
        exact hN _ _ ⟨w5, rfl, ((((same_new h1).trans (same_new h2)).trans (same_new h3)).trans (same_new h4)).trans (same_new h5), upd_same⟩
      · rintro σ G2 ⟨wl, rfl, e2, hwl⟩
        have g2 := (e1.trans e2) _ _ g58
        have a2 := dpAll_same (e1.trans e2) _ _ a58
        have hlb2 := e2 _ _ hlb
        have hbs2 := dpAll_same e2 _ _ hbs
        refine ⟨_, rfl, rfl, _, rfl, ite2 (fun c4 => ?_) (fun c4 => ?_)⟩
        · have m1' : many = 1 := V.int.inj (of_decide_eq_true c4)
          refine ⟨_, rfl, _, rfl, _, rfl, _, rfl, (by show 3 ≤ sizeLine; decide), fun t1 h1 => ⟨_, rfl, (by show 3 ≤ sizeLine; decide), fun t2 h2 => ⟨(by show 2 ≤ sizeLine; decide), fun l2 hl2 => ?_⟩⟩⟩
          have n1 : l58 ≠ t1 := ne_of_none g2 h1
          have n2 : l58 ≠ t2 := fun e => by rw [← e, upd_ne n1, g2] at h2; cases h2
          have n3 : l58 ≠ l2 := fun e => by rw [← e, upd_ne n2, upd_ne n1, g2] at hl2; cases hl2
          refine ⟨l58, l2, _, _, rfl, rfl, by rw [upd_ne n3, upd_ne n2, upd_ne n1]; exact g2, upd_same, small_line (by rw [hx58]; simp; omega), fun p hp => ⟨(by show 3 ≤ sizeLine; decide), fun t3 h3 => ?_⟩⟩
          have n4 : l58 ≠ p := fun e => by rw [← e, upd_ne n3, upd_ne n2, upd_ne n1, g2] at hp; cases hp
          have n5 : l58 ≠ t3 := fun e => by rw [← e, upd_ne n4, upd_ne n3, upd_ne n2, upd_ne n1, g2] at h3; cases h3
          refine ⟨_, rfl, l58, zs, rfl, .inl (.of (by rw [upd_ne n5, upd_ne n4, upd_ne n3, upd_ne n2, upd_ne n1]; exact g2)), (by show 3 ≤ sizeLine; decide), fun t4 h4 => ?_⟩
          rw [hx58]
          have sAll := (((same_new (o := HO.tup [.int 0, .int 1, .int (-1)]) h1).trans (same_new (o := HO.tup [.int 0, .int 0, .int (-1)]) h2)).trans (same_new (o := HO.lst [.ref t1, .ref t2]) hl2)).trans (same_new (o := HO.lst (zs ++ [.ref t1, .ref t2])) hp)
          refine made_end (rows := rs ++ [badRow many 6, badRow many 0]) (.lst (.of upd_same) ?_) (fun H' v' hd => q H' v' _ _ _ _ _ hd (bad_behind m0 m1 r0 r1 hl58' hrows58 (by rw [m1']; decide +kernel))) t3 h3 t4 h4
          rw [List.map_append]
          exact dpAll_app (dpAll_same sAll _ _ a2) (.cons (dp_same (((same_new h2).trans (same_new hl2)).trans (same_new hp)) _ _ (dp_row (r := badRow many 6))) (.cons (dp_same ((same_new hl2).trans (same_new hp)) _ _ (dp_row (r := badRow many 0))) .nil))
        · have hm2 : 2 ≤ many := by
            have : ¬ many = 1 := fun z => c4 (by rw [z]; exact decide_eq_true rfl)
            omega
          refine tnext_go ?_
          dsimp only
          refine seq_via (fun σ G => ∃ (b2 : Addr) (b9 : List V), σ = [some (.ref d), some (.ref t), some (.int many), some (.int root), some (.ref l58), some (.int kd), some (.ref b2), some (.ref wl)] ∧ Same G2 G ∧ G b2 = some (.lst b9) ∧
            DpAll K G b9 (([0, 1, 2, 3, 4, 5, 6, 7, 8].map (badRow many)).map Row.dat)) (fun N hN => ?_) ?_
          · have lb6 : bs.length = 6 := by rw [dpAll_len hbs2]; rfl
            refine ⟨_, rfl, _, rfl, (by show 3 ≤ sizeLine; decide), fun t1 h1 => ⟨_, _, rfl, rfl, ⟨by decide, by decide, by decide⟩, _, _, rfl, rfl, (by show 3 ≤ sizeLine; decide), fun t2 h2 => ⟨_, _, rfl, rfl, ⟨by decide, by decide, by decide⟩, _, rfl, (by show 3 ≤ sizeLine; decide), fun t3 h3 => ⟨(by show 3 ≤ sizeLine; decide), fun l2 hl2 => ?_⟩⟩⟩⟩
            have n1 : lb ≠ t1 := ne_of_none hlb2 h1
            have n2 : lb ≠ t2 := fun e => by rw [← e, upd_ne n1, hlb2] at h2; cases h2
            have n3 : lb ≠ t3 := fun e => by rw [← e, upd_ne n2, upd_ne n1, hlb2] at h3; cases h3
            have n4 : lb ≠ l2 := fun e => by rw [← e, upd_ne n3, upd_ne n2, upd_ne n1, hlb2] at hl2; cases hl2
            refine ⟨lb, l2, _, _, rfl, rfl, by rw [upd_ne n4, upd_ne n3, upd_ne n2, upd_ne n1]; exact hlb2, upd_same, small_line (by rw [lb6]; show 6 + 3 ≤ 16777216; decide), fun b2 hb2 => ?_⟩
            have sAll := ((((same_new h1).trans (same_new h2)).trans (same_new h3)).trans (same_new hl2)).trans (same_new (o := HO.lst (bs ++ [.ref t1, .ref t2, .ref t3])) hb2)
            refine hN _ _ ⟨b2, _, rfl, sAll, upd_same, ?_⟩
            exact dpAll_app (ds := ([0, 1, 2, 3, 4, 5].map (badRow many)).map Row.dat) (es := ([6, 7, 8].map (badRow many)).map Row.dat) (dpAll_same sAll _ _ hbs2) (.cons (dp_same ((((same_new h2).trans (same_new h3)).trans (same_new hl2)).trans (same_new hb2)) _ _ (dp_row (r := badRow many 6)))
              (.cons (dp_same (((same_new h3).trans (same_new hl2)).trans (same_new hb2)) _ _ (dp_row (r := badRow many 7))) (.cons (dp_same ((same_new hl2).trans (same_new hb2)) _ _ (dp_row (r := badRow many 8))) .nil)))
          · rintro σ G3 ⟨b2, b9, rfl, e3, hb2, hb9⟩
            have g3 := e3 _ _ g2
            have a3 := dpAll_same e3 _ _ a2
            have w3 := e3 _ _ hwl
            obtain ⟨j, rfl⟩ : ∃ j : Nat, kd = (j : Int) + 5 := ⟨(kd - 5).toNat, by omega⟩
            have hj : j < 9 := by omega
            obtain ⟨x, hx, hxd⟩ := dpAll_get (i := j) (d := (badRow many j).dat) hb9 (by rw [List.getElem?_map, List.getElem?_map, nine_get hj]; rfl)
            have ej : (j : Int) + 5 - 5 = (j : Int) := by omega
            refine ⟨_, rfl, _, rfl, _, rfl, _, rfl, _, rfl, _, _, rfl, rfl, b2, b9, _, x, rfl, rfl, .of hb2, by rw [ej]; exact atI_nat hx, _, rfl, (by show 3 ≤ sizeLine; decide), fun t1 h1 => ⟨(by show 2 ≤ sizeLine; decide), fun l2 hl2 => ?_⟩⟩
            have n1 : l58 ≠ t1 := ne_of_none g3 h1
            have n3 : l58 ≠ l2 := fun e => by rw [← e, upd_ne n1, g3] at hl2; cases hl2
            refine ⟨l58, l2, _, _, rfl, rfl, by rw [upd_ne n3, upd_ne n1]; exact g3, upd_same, small_line (by rw [hx58]; simp; omega), fun p hp => ⟨(by show 3 ≤ sizeLine; decide), fun t3 h3 => ?_⟩⟩
            have n4 : l58 ≠ p := fun e => by rw [← e, upd_ne n3, upd_ne n1, g3] at hp; cases hp
            have n5 : l58 ≠ t3 := fun e => by rw [← e, upd_ne n4, upd_ne n3, upd_ne n1, g3] at h3; cases h3
            have m1 : wl ≠ t1 := ne_of_none w3 h1
            have m3 : wl ≠ l2 := fun e => by rw [← e, upd_ne m1, w3] at hl2; cases hl2
            have m4 : wl ≠ p := fun e => by rw [← e, upd_ne m3, upd_ne m1, w3] at hp; cases hp
            have m5 : wl ≠ t3 := fun e => by rw [← e, upd_ne m4, upd_ne m3, upd_ne m1, w3] at h3; cases h3
            refine ⟨_, rfl, l58, zs, rfl, .inl (.of (by rw [upd_ne n5, upd_ne n4, upd_ne n3, upd_ne n1]; exact g3)), ?_⟩
            refine ⟨_, rfl, _, rfl, _, _, rfl, rfl, wl, _, _, .str (badWord j), rfl, rfl, .of (by rw [upd_ne m5, upd_ne m4, upd_ne m3, upd_ne m1]; exact w3), by rw [ej]; exact atI_nat (words_get hj), (by show 3 ≤ sizeLine; decide), fun t4 h4 => ?_⟩
            rw [hx58]
            have s0 := same_new (o := HO.tup [.int 0, .int 0, .int (-1)]) h1
            have sAll := (s0.trans (same_new (o := HO.lst [x, .ref t1]) hl2)).trans (same_new (o := HO.lst (zs ++ [x, .ref t1])) hp)
            refine made_end (rows := rs ++ [badRow many j, badRow many 0]) (.lst (.of upd_same) ?_) (fun H' v' hd => q H' v' _ _ _ _ _ hd (bad_behind (by omega) (by omega) r0 r1 hl58' hrows58 (badRow_bad hm2 j hj))) t3 h3 t4 h4
            rw [List.map_append]
            exact dpAll_app (dpAll_same sAll _ _ a3) (.cons (dp_same sAll _ _ hxd) (.cons (dp_same ((same_new hl2).trans (same_new hp)) _ _ (dp_row (r := badRow many 0))) .nil))
end
end Rc
/-! part RcM3 -/
namespace Rc
open PySem PySem.Spec PyProof.Rows L2
mutual
theorem dp_but {K : PySem.W.Frag} {H H' : Hp} (e : ∀ b o, H b = some o → (∀ C dx fs, o ≠ .ins C dx fs) → H' b = some o) : ∀ (d : PyData) (v : V), Dp K H v d → Dp K H' v d
  | .none, _, h => by cases h; exact .non
  | .bool b, _, h => by cases h; exact .bl b
  | .int i, _, h => by cases h; exact .int i
  | .str x, _, h => by cases h; exact .str x
  | .list ds, _, h => by
    cases h with
    | lst hs ha =>
      refine .lst ?_ (dpAll_but e ds _ ha)
      rcases hs with (h | ⟨o, h⟩) | h
      · exact .inl (.inl (e _ _ h (by intro _ _ _ z; cases z)))
      · exact .inl (.inr ⟨o, e _ _ h (by intro _ _ _ z; cases z)⟩)
      · exact .inr h
  | .tuple ds, _, h => by
    cases h with
    | tup hs ha =>
      refine .tup ?_ (dpAll_but e ds _ ha)
      rcases hs with (h | ⟨o, h⟩) | h
      · exact .inl (.inl (e _ _ h (by intro _ _ _ z; cases z)))
      · exact .inl (.inr ⟨o, e _ _ h (by intro _ _ _ z; cases z)⟩)
      · exact .inr h
  | .dict _, _, h => by cases h
theorem dpAll_but {K : PySem.W.Frag} {H H' : Hp} (e : ∀ b o, H b = some o → (∀ C dx fs, o ≠ .ins C dx fs) → H' b = some o) : ∀ (ds : List PyData) (vs : List V), DpAll K H vs ds → DpAll K H' vs ds
  | [], _, h => by cases h; exact .nil
  | d :: ds, _, h => by
    cases h with
    | cons h1 h2 => exact .cons (dp_but e d _ h1) (dpAll_but e ds _ h2)
end
/-- Map(many, root, rows) -/
theorem mk_map {K : PySem.W.Frag} {C x dx : Addr} {H : Hp} {many root : Int} {v : V} {rows : List Row} {Q : Hp → Prop} {E : XK} (hD : Dp K H v (rowsDat rows)) (ok : ChartOk many root rows) (hx : H x = none) (hdx : H dx = none) (ne : dx ≠ x) (q : ∀ H', Same H H' → MapAt K C H' x many root rows → Q H') :
    spInit K C (.ref x :: ([.int many, .int root, v] ++ [])) (upd (upd H dx (.own x)) x (.ins C dx [])) (fun u H2 => u = .non ∧ Q H2) E := by
  have s1 : Same H (upd (upd H dx (.own x)) x (.ins C dx [])) := (same_new hdx).trans (same_new (by rw [upd_ne (Ne.symm ne)]; exact hx))
  refine ⟨x, dx, many, root, v, rows, rfl, upd_same, dp_same s1 _ _ hD, ok, fun H' l xs old hl nl hl' hA hp => ⟨rfl, q H' (fun b o e => ?_) ⟨dx, l, hp, .lst (.of hl') (dpAll_but (fun b o e no => ?_) _ _ hA)⟩⟩⟩
  · exact old b o (ne_of_none e hx) (s1 _ _ e)
  · refine old b o (fun z => ?_) e
    rw [z, upd_same] at e
    exact no _ _ _ (Option.some.inj e).symm
end Rc
/-! part RcE7 -/
namespace Rc
open PySem PySem.Spec PyProof.Rows L2 L2H
theorem rows_keep {K : PySem.W.Frag} {H H' : Hp} (e : ∀ b o, H b = some o → (∀ ys, o ≠ .lst ys) → (∀ C dx fs, o ≠ .ins C dx fs) → H' b = some o) : ∀ {rows : List Row} {xs : List V}, DpAll K H xs (rows.map Row.dat) → DpAll K H' xs (rows.map Row.dat)
  | [], _, h => by cases h; exact .nil
  | r :: rows, _, h => by
    rw [List.map_cons] at h ⊢
    cases h with
    | cons h1 h2 =>
      refine .cons ?_ (rows_keep e h2)
      obtain ⟨t, rfl, hT⟩ := row_inv h1
      refine .tup ?_ (.cons (.int _) (.cons (.int _) (.cons (.int _) .nil)))
      rcases hT with (h | ⟨o, h⟩) | h
      · exact .inl (.inl (e _ _ h (by intro ys z; cases z) (by intro _ _ _ z; cases z)))
      · exact .inl (.inr ⟨o, e _ _ h (by intro ys z; cases z) (by intro _ _ _ z; cases z)⟩)
      · exact .inr h
/-- Map(many, root, rows), its own list told -/
theorem mk_map2 {K : PySem.W.Frag} {C x dx : Addr} {H : Hp} {many root : Int} {v : V} {rows : List Row} {Q : Hp → Prop} {E : XK} (hD : Dp K H v (rowsDat rows)) (ok : ChartOk many root rows) (hx : H x = none) (hdx : H dx = none) (ne : dx ≠ x)
    (q : ∀ H' l zs, Same H H' → H l = none → H' x = some (.ins C dx (mfs many root l)) → H' l = some (.lst zs) → DpAll K H' zs (rows.map Row.dat) → Q H') :
    spInit K C (.ref x :: ([.int many, .int root, v] ++ [])) (upd (upd H dx (.own x)) x (.ins C dx [])) (fun u H2 => u = .non ∧ Q H2) E := by
  have s1 : Same H (upd (upd H dx (.own x)) x (.ins C dx [])) := (same_new hdx).trans (same_new (by rw [upd_ne (Ne.symm ne)]; exact hx))
  refine ⟨x, dx, many, root, v, rows, rfl, upd_same, dp_same s1 _ _ hD, ok, fun H' l xs old hl nl hl' hA hp => ⟨rfl, q H' l xs (fun b o e => ?_) (s1.free hl) hp hl' (rows_keep (fun b o e _ no => ?_) hA)⟩⟩
  · exact old b o (ne_of_none e hx) (s1 _ _ e)
  · refine old b o (fun z => ?_) e
    rw [z, upd_same] at e
    exact no _ _ _ (Option.some.inj e).symm
def spLaw (K : PySem.W.Frag) : Sp := fun vs H Q _ => ∃ (a : Addr) (ns : List Int), vs = [.ref a] ∧ SqL K H a (ns.map V.int) ∧ ∀ H', Q (.bl true) H'
section
variable {P : Program} {w : World} {K : PySem.W.Frag} {mg : Str → Option Value} {base : Heap}
theorem ok_law {f C : Addr} {fd : FuncData} {k : Nat} (F : Fun K "law" "law" s_law f fd) (T : TxtM K mg C)
    (hDi : Has P w K mg base "_law_dice" ["_law_script"] (k + 1) (spDice K)) (hN : Has P w K mg base "_law_next" ["_law_dice_here", "_law_many"] (k + 1) (spNext K)) (hWi : Has P w K mg base "_law_wide" ["_law_d"] (k + 1) (spWide K))
    (hWr : Has P w K mg base "_law_wrong" ["_law_d", "_law_chart"] (k + 1) (spWrong K)) (hRe : Has P w K mg base "_law_refused" ["_law_chart", "_law_at", "_law_why"] (k + 1) (spRefused K)) (hL : Has P w K mg base "_law_like" ["_law_found", "_law_due"] (k + 1) (spLike K 2))
    (hC : HasC P w K mg base C ["self", "many", "root", "roads"] k (spInit K C)) (hZ : HasM P w K mg base C "size" ["self"] (k + 1) (spSize K C)) (hB : HasM P w K mg base C "begin" ["self"] (k + 1) (spBegin K C)) (hR : HasM P w K mg base C "roads" ["self"] (k + 1) (spRoads K C)) :
    FnOk P w K mg base CX0 (k + 2) f fd ["_law_script"] (spLaw K) := by
  obtain ⟨fDi, fdDi, gDi, kDi, bDi, GDi⟩ := hDi
  obtain ⟨fN, fdN, gN, kN, bN, GN⟩ := hN
  obtain ⟨fWi, fdWi, gWi, kWi, bWi, GWi⟩ := hWi
  obtain ⟨fWr, fdWr, gWr, kWr, bWr, GWr⟩ := hWr
  obtain ⟨fRe, fdRe, gRe, kRe, bRe, GRe⟩ := hRe
  obtain ⟨fL, fdL, gL, kL, bL, GL⟩ := hL
  obtain ⟨fC, fdC, mC, bC, GC⟩ := hC
  obtain ⟨fZ, fdZ, mZ, bZ, GZ⟩ := hZ
  obtain ⟨fB, fdB, mB, bB, GB⟩ := hB
  obtain ⟨fR, fdR, mR, bR, GR⟩ := hR
  refine F.ok sc_law (fun vs H Q E h => ?_) (fun cdv A outer s H vs Q E hr h => ?_)
  · obtain ⟨a, ns, rfl, _⟩ := h
    rfl
  · obtain ⟨a, ns, rfl, hS, q⟩ := h
    refine ⟨_, (pss_cons (ps_set (i := 1) sc_law.nd rfl (Or.inl rfl) (pe_call GDi hr (by rfl) gDi kDi bDi .nil pass0 (pa_cons (pv 0) pa_nil)))
  (pss_cons (ps_asg (pe_call GWi hr (by rfl) gWi kWi bWi .nil pass0 (pa_cons (pv 1) pa_nil)) (pg_tup (by rfl) (pgs_cons (pg_name (i := 2) sc_law.nd rfl (Or.inl rfl)) (pgs_cons (pg_name (i := 3) sc_law.nd rfl (Or.inl rfl)) (pgs_cons (pg_name (i := 4) sc_law.nd rfl (Or.inl rfl)) pgs_nil)))))
  (pss_cons (ps_if (pt_cmpR op_eq (pe_call GN hr (by rfl) gN kN bN .nil pass0 (pa_cons (pv 1) (pa_cons pe_int pa_nil))) pe_int (nomark _))
   (pss_cons (ps_asg (pe_call GWr hr (by rfl) gWr kWr bWr .nil pass0 (pa_cons (pv 1) (pa_cons (pe_tup (pa_cons (pv 2) (pa_cons (pv 3) (pa_cons (pv 4) pa_nil)))) pa_nil))) (pg_tup (by rfl) (pgs_cons (pg_name (i := 5) sc_law.nd rfl (Or.inl rfl)) (pgs_cons (pg_name (i := 6) sc_law.nd rfl (Or.inl rfl)) (pgs_cons (pg_name (i := 7) sc_law.nd rfl (Or.inl rfl)) pgs_nil)))))
  (pss_one (ps_ret (pe_call GRe hr (by rfl) gRe kRe bRe .nil pass0 (pa_cons (pv 5) (pa_cons (pv 6) (pa_cons (pv 7) pa_nil)))))))
   pss_nil)
  (pss_cons (ps_set (i := 8) sc_law.nd rfl (Or.inl rfl) (pe_callTy call_list_of (by rfl) T.list (by decide +kernel) (pa_cons (pv 4) pa_nil)))
  (pss_cons (ps_set (i := 9) sc_law.nd rfl (Or.inl rfl) (pe_make mC GC hr (by rfl) T.mgC bC .nil pass0 (pa_cons (pv 2) (pa_cons (pv 3) (pa_cons (pv 8) pa_nil)))))
  (pss_cons (ps_for PassesOwn.never rfl (pi_range1 (by rfl) T.range (pa_cons pe_int pa_nil)) (pg_name (i := 10) sc_law.nd rfl (Or.inl rfl))
   (pss_cons (ps_set (i := 11) sc_law.nd rfl (Or.inl rfl) (pe_meth0 (pv 9) T.cl mR GR hr bR .nil pass0))
  (pss_cons (ps_if (PW.pt (pw_or (pt_not (pt_val (pe_call GL hr (by rfl) gL kL bL .nil pass0 (pa_cons (pe_lst (pa_cons (pe_meth0 (pv 9) T.cl mZ GZ hr bZ .nil pass0) (pa_cons (pe_meth0 (pv 9) T.cl mB GB hr bB .nil pass0) pa_nil))) (pa_cons (pe_lst (pa_cons (pv 2) (pa_cons (pv 3) pa_nil))) pa_nil))))) (pw_or1 (pt_not (pt_val (pe_call GL hr (by rfl) gL kL bL .nil pass0 (pa_cons (pv 11) (pa_cons (pv 4) pa_nil))))))))
   (pss_one (ps_ret pe_bl))
   pss_nil)
  (pss_cons (ps_if (PW.pt (pw_and (pt_cmpR op_eq (pv 10) pe_int (nomark _)) (pw_and1 (pt_cmpR (op_neD hr.units) (pv 8) (pv 4) (nomark _)))))
   (pss_one (ps_ret pe_bl))
   pss_nil)
  (pss_cons (ps_expr (pe_bm0 PySem.F.plainAttrs_list PySem.F.slot_list_clear PySem.F.type_list_clear mt_clear (pv 11)))
  (pss_one (ps_expr (pe_bm0 PySem.F.plainAttrs_list PySem.F.slot_list_clear PySem.F.type_list_clear mt_clear (pv 8)))))))))
  (pss_one (ps_ret (pe_cmpR op_eq (pe_meth0 (pe_make mC GC hr (by rfl) T.mgC bC .nil pass0 (pa_cons pe_int (pa_cons pe_int (pa_cons (pe_op op_rep (pe_lst (pa_cons (pe_tup (pa_cons pe_int (pa_cons pe_int (pa_cons (pe_op op_pow pe_int pe_int) pa_nil)))) pa_nil)) pe_int) pa_nil)))) T.cl mZ GZ hr bZ .nil pass0) pe_int (nomark _)))))))))), ?_⟩
    refine ⟨_, rfl, a, ns, rfl, hS, fun H1 d D1 => ?_⟩
    refine ⟨_, rfl, H, d, rfl, D1, fun H2 Hb v many root rows S2 D2 hD ok => ?_⟩
    obtain ⟨t, l, rfl, hT, hRw⟩ := chart_inv hD
    refine ⟨t, _, rfl, sqT_same D2.sub hT, rfl, _, _, rfl, _, _, rfl, _, _, rfl, rfl, ?_⟩
    obtain ⟨_, xs, el, hLX, hXA⟩ := dp_list_inv hRw
    cases el
    have hxl : xs.length = rows.length := by rw [dpAll_len hXA, List.length_map]
    obtain ⟨m0, m1, r0, r1, hl60, hrows⟩ := id ok
    refine ⟨_, rfl, Hb, d, 2, rfl, D2, by decide, by decide, fun H3 z S3 D3 z0 z1 => ⟨rfl, _, rfl, ite2 (fun c => ?_) (fun c => ?_)⟩⟩
    · refine ⟨_, rfl, _, rfl, _, rfl, _, rfl, (by show 3 ≤ sizeLine; decide), fun t2 h2 => ?_⟩
      have ht2b : Hb t2 = none := D3.sub.free h2
      refine ⟨_, d, .ref t2, many, root, rows, rfl, D3.sub_up h2, .tup (.of upd_same) (.cons (.int _) (.cons (.int _) (.cons (dp_same (same_new ht2b) _ _ hRw) .nil))), ok, fun H4 v4 m r rows' i y hd4 bad => ?_⟩
      obtain ⟨t4, ys, rfl, hT4, hY4⟩ := dp_tup_inv hd4
      obtain ⟨cv, rfl, hcv⟩ : ∃ cv, ys = [cv, .int i, .str y] ∧ Dp K H4 cv (chartDat m r rows') := by
        cases hY4 with
        | cons h1 h2 =>
          cases h2 with
          | cons h3 h4 =>
            cases h3
            cases h4 with
            | cons h5 h6 =>
              cases h5
              cases h6
              exact ⟨_, rfl, h1⟩
      refine ⟨t4, _, rfl, hT4, rfl, _, _, rfl, _, _, rfl, _, _, rfl, rfl, ?_⟩
      exact ⟨_, rfl, _, rfl, _, rfl, cv, m, r, rows', i, y, rfl, hcv, bad, fun H' => q H'⟩
    · refine ⟨_, rfl, l, xs, rfl, .inl (D3.sub.seq hLX), fun S hSn => ?_⟩
      have hSb : Hb S = none := D3.sub.free hSn
      have e4 : Same Hb (upd H3 S (.lst xs)) := D3.sub.trans (same_new hSn)
      have h4S : (upd H3 S (.lst xs)) S = some (.lst xs) := upd_same
      generalize upd H3 S (.lst xs) = H4 at e4 h4S
      refine ⟨_, rfl, _, rfl, _, rfl, fun x dx hx hdx ne => mk_map2 (.lst (.of h4S) (dpAll_same e4 _ _ hXA)) ok hx hdx ne fun H5 l2 zs e5 hl2 h5x h5l h5z => ?_⟩
      have e5b := e4.trans e5
      have h5S := e5 _ _ h4S
      have nlS : l2 ≠ S := fun z => by rw [z, h4S] at hl2; cases hl2
      have nxS : x ≠ S := fun z => by rw [z, h4S] at hx; cases hx
      have shR : SeqAt.shaped (rowsDat rows) = true := num_shaped (num_rows (n := 0) rows) (by decide)
      have plR : Plain 2 (rowsDat rows) := ⟨by rw [List.length_map]; omega, fun e he => by
        obtain ⟨r, _, rfl⟩ := List.mem_map.mp he
        refine ⟨(by show 3 ≤ 1000; decide), fun e2 he2 => ?_⟩
        have : e2 = .int r.b ∨ e2 = .int r.g ∨ e2 = .int r.c := by simpa using he2
        rcases this with rfl | rfl | rfl <;> trivial⟩
      refine ⟨2, rfl, by decide, by decide, for_range (lo := 0) (n := 2) (fun i σ G => ∃ (ys : List V) (v10 v11 : Option V), σ = [some (.ref a), some (.ref d), some (.int many), some (.int root), some (.ref l), none, none, none, some (.ref S), some (.ref x), v10, v11] ∧
        Same Hb G ∧ G S = some (.lst ys) ∧ (i = 0 → ys = xs) ∧ G x = some (.ins C dx (mfs many root l2)) ∧ G l2 = some (.lst zs) ∧ DpAll K G zs (rows.map Row.dat)) ⟨xs, _, _, rfl, e5b, h5S, fun _ => rfl, h5x, h5l, h5z⟩ ?_ ?_⟩
      · rintro i σ G hi ⟨ys, v10, v11, rfl, eG, hGS, hys, hGx, hGl, hGz⟩
        have hM : MapAt K C G x many root rows := ⟨dx, l2, hGx, .lst (.of hGl) hGz⟩
        refine ⟨_, rfl, x, dx, _, rfl, hGx, lk_roads, x, many, root, rows, rfl, hM, fun Fl vs hF hA => ?_⟩
        have s1 : Same G (upd G Fl (.lst vs)) := same_new hF
        have h1F : (upd G Fl (.lst vs)) Fl = some (.lst vs) := upd_same
        have nFS : Fl ≠ S := fun z => by rw [z, hGS] at hF; cases hF
        have nFx : Fl ≠ x := fun z => by rw [z, hGx] at hF; cases hF
        have nFl : Fl ≠ l2 := fun z => by rw [z, hGl] at hF; cases hF
        have hbF : Hb Fl = none := eG.free hF
        generalize upd G Fl (.lst vs) = G1 at s1 h1F
        refine ⟨_, rfl, x, dx, _, rfl, s1 _ _ hGx, lk_size, x, many, root, rows, rfl, hM.same s1, _, rfl, x, dx, _, rfl, s1 _ _ hGx, lk_begin, x, many, root, rows, rfl, hM.same s1, (by show 2 ≤ sizeLine; decide), fun a1 ha1 => ⟨_, rfl, _, rfl, (by show 2 ≤ sizeLine; decide), fun a2 ha2 => ?_⟩⟩
        have n12 : a1 ≠ a2 := fun e => by rw [← e, upd_same] at ha2; cases ha2
        have s3 : Same G1 (upd (upd G1 a1 (.lst [.int many, .int root])) a2 (.lst [.int many, .int root])) := (same_new ha1).trans (same_new ha2)
        have d1 : Dp K (upd (upd G1 a1 (.lst [.int many, .int root])) a2 (.lst [.int many, .int root])) (.ref a1) (.list [.int many, .int root]) := .lst (.of (by rw [upd_ne n12, upd_same])) (.cons (.int _) (.cons (.int _) .nil))
        have d2 : Dp K (upd (upd G1 a1 (.lst [.int many, .int root])) a2 (.lst [.int many, .int root])) (.ref a2) (.list [.int many, .int root]) := .lst (.of upd_same) (.cons (.int _) (.cons (.int _) .nil))
        generalize upd (upd G1 a1 (.lst [.int many, .int root])) a2 (.lst [.int many, .int root]) = G3 at s3 d1 d2
        have s13 := s1.trans s3
        have h3F := s3 _ _ h1F
        have e3b := eG.trans s13
        have dl : Dp K G3 (.ref l) (rowsDat rows) := .lst (e3b.seq hLX) (dpAll_same e3b _ _ hXA)
        refine ⟨_, _, _, rfl, d1, d2, ⟨(by show 2 ≤ 1000; decide), fun e he => by
          have : e = .int many ∨ e = .int root := by simpa using he
          rcases this with rfl | rfl <;> trivial⟩, _, rfl, ite2 (fun z => Bool.noConfusion z) (fun _ => ?_)⟩
        refine ⟨_, rfl, _, rfl, _, _, _, rfl, .lst (.of h3F) (dpAll_same s13 _ _ hA), dl, plR, _, rfl, ite2 (fun z => Bool.noConfusion z) (fun _ => ?_)⟩
        refine tnext_go ?_
        dsimp only
        refine seq_via (fun σ G' => σ = [some (.ref a), some (.ref d), some (.int many), some (.int root), some (.ref l), none, none, none, some (.ref S), some (.ref x), some (.int (0 + (i : Int))), some (.ref Fl)] ∧ G' = G3) (fun N hN => ?_) ?_
        · refine ⟨_, rfl, rfl, _, rfl, ite2 (fun c5 => ?_) (fun c5 => ?_)⟩
          · have i0 : i = 0 := by
              have := V.int.inj (of_decide_eq_true c5)
              omega
            refine ⟨_, rfl, _, rfl, rowsDat rows, rowsDat rows, .lst (.of (s13 _ _ hGS)) (by rw [hys i0]; exact dpAll_same e3b _ _ hXA), dl, shR, shR, _, rfl, ite2 (fun z => ?_) (fun _ => hN _ _ ⟨rfl, rfl⟩)⟩
            have := (num_eqv 2 _ _ (num_rows (n := 0) rows) (num_rows (n := 0) rows)).mpr rfl
            rw [this] at z
            cases z
          · exact hN _ _ ⟨rfl, rfl⟩
        · rintro σ G' ⟨rfl, rfl⟩
          refine ⟨_, rfl, .inl ⟨rfl, _, SqL.of h3F⟩, Fl, _, rfl, rfl, h3F, ?_⟩
          have h4 : ∀ b, b ≠ Fl → (upd G' Fl (.lst [])) b = G' b := fun b hb => upd_ne hb
          have h4S' : (upd G' Fl (.lst [])) S = some (.lst ys) := by rw [h4 S (Ne.symm nFS)]; exact s13 _ _ hGS
          refine ⟨_, rfl, .inl ⟨rfl, _, SqL.of h4S'⟩, S, _, rfl, rfl, h4S', ?_⟩
          refine ⟨[], _, _, rfl, same_mut (same_mut e3b hbF) hSb, upd_same, fun z => by omega, ?_, ?_, rows_keep (fun b o e nl _ => ?_) (dpAll_same s13 _ _ hGz)⟩
          · rw [upd_ne nxS, h4 x (Ne.symm nFx)]
            exact s13 _ _ hGx
          · rw [upd_ne nlS, h4 l2 (Ne.symm nFl)]
            exact s13 _ _ hGl
          · have b1 : b ≠ Fl := fun z => by rw [z, h3F] at e; exact nl _ (Option.some.inj e).symm
            have b2 : b ≠ S := fun z => by rw [z, s13 _ _ hGS] at e; exact nl _ (Option.some.inj e).symm
            rw [upd_ne b2, h4 b b1]
            exact e
      · rintro σ G ⟨ys, v10, v11, rfl, eG, hGS, hys, hGx, hGl, hGz⟩
        refine ⟨_, _, rfl, rfl, ⟨by decide, by decide, by decide⟩, (by show 3 ≤ sizeLine; decide), fun t1 ht1 => ⟨(by show 1 ≤ sizeLine; decide), fun l1 hl1 => ⟨l1, 60, _, rfl, rfl, upd_same, by decide, by decide, small_line (by show 1 * 60 ≤ 16777216; decide), fun p hp => ?_⟩⟩⟩
        refine fun x dx hx hdx ne => mk_map (many := 20) (root := 19) (rows := List.replicate 60 ⟨19, 0, 1000000000⟩) (dp_reps upd_same (dp_same ((same_new hl1).trans (same_new hp)) _ _ (dp_row (r := ⟨19, 0, 1000000000⟩)))) ?_ hx hdx ne fun H6 e6 hM6 => ?_
        · refine ⟨by decide, by decide, by decide, by decide, by rw [List.length_replicate]; decide, fun r hr => ?_⟩
          rw [List.eq_of_mem_replicate hr]
          exact ⟨by decide, by decide, by decide, by decide, by decide, by decide, by decide⟩
        · obtain ⟨dx6, l6, h6, d6⟩ := id hM6
          refine ⟨x, dx6, _, rfl, h6, lk_size, x, 20, 19, _, rfl, hM6, rfl, ?_⟩
          rw [decide_eq_true rfl]
          exact q _
end
end Rc
/-! part RcX7 -/
/-! _law_is: the one of the four words. -/
namespace Rc
open PySem PySem.Spec PyProof.Rows L2 L2H HotX
/-- an exception of the class D: isinstance of the four classes -/
structure TxtQ (K : PySem.W.Frag) (mg : Str → Option Value) (D : Addr) (b0 b1 b2 b3 : Bool) : Prop where
  xc : ExcC K D
  cl : ∃ N0 N1 N2 N3 : Addr, mg "BadMap" = some (.ref N0) ∧ mg "NoTree" = some (.ref N1) ∧ mg "NoRoad" = some (.ref N2) ∧ mg "BadText" = some (.ref N3) ∧
    PySem.W.kitOne K (.ref D) (.ref N0) = some b0 ∧ PySem.W.kitOne K (.ref D) (.ref N1) = some b1 ∧ PySem.W.kitOne K (.ref D) (.ref N2) = some b2 ∧ PySem.W.kitOne K (.ref D) (.ref N3) = some b3
  kV : PySem.W.kitOne K (.ref D) (.type "ValueError") = some true
  isi : mg "isinstance" = none
  ve : mg "ValueError" = none
def four (w : Str) : List Bool := [decide (V.str w = V.str "map"), decide (V.str w = V.str "tree"), decide (V.str w = V.str "road"), decide (V.str w = V.str "text")]
theorem four_tree : four "tree" = [false, true, false, false] := by decide +kernel
theorem four_road : four "road" = [false, false, true, false] := by decide +kernel
theorem four_map : four "map" = [true, false, false, false] := by decide +kernel
theorem four_text : four "text" = [false, false, false, true] := by decide +kernel
def spIsQ (w : Str) (r : Bool) (od : Option Addr) : Addr → Sp := fun a vs H Q _ => vs = [.ref a, .str w] ∧ (∀ dd, od = some dd → ∃ fs, H dd = some (.xd fs)) ∧ ∀ H', Same H H' → Q (.bl r) H'
section
variable {P : Program} {w : World} {K : PySem.W.Frag} {mg : Str → Option Value} {base : Heap}
theorem ok_isQ {f D : Addr} {od : Option Addr} {y : Str} {b0 b1 b2 b3 : Bool} {fd : FuncData} {k : Nat} (F : Fun K "_law_is" "_law_is" s_is f fd) (T : TxtQ K mg D b0 b1 b2 b3) : FnG P w K mg base (k + 1) f fd ["_law_e", "_law_word"] (fun p => IsQ p D od) (spIsQ y (decide (four y = [b0, b1, b2, b3])) od) := by
  obtain ⟨N0, N1, N2, N3, g0, g1, g2, g3, k0, k1, k2, k3⟩ := T.cl
  refine Fun.okG F sc_is (fun a vs H Q E h => ?_) (fun cdv A outer s H vs Q E p hot hG hr h => ?_)
  · obtain ⟨rfl, _⟩ := h
    rfl
  · obtain ⟨rfl, hd, q⟩ := h
    have hu : (A.deeper (envOfC "_law_is" (defScope s_is) s.heap.objs.size f cdv)).units + 64 < cLine := by have := hr.un; omega
    have hp : p ∈ (cxH CX0 P w K mg base N_is "_law_is" (defScope s_is) f cdv A outer s H E p).pn := List.mem_singleton.mpr rfl
    have hC : HotC (cxH CX0 P w K mg base N_is "_law_is" (defScope s_is) f cdv A outer s H E p) := ⟨p, ⟨hot.1, hot.2⟩, hp⟩
    refine ⟨_, (pss_cons (ps_set (i := 2) sc_is.nd rfl (Or.inl rfl) (pe_lst (pa_cons (pe_callB (call_isQ T.xc hp hG) (by rfl) T.isi (by decide +kernel) (pa_cons (pv 0) (pa_cons (pe_glob (v := .ref N0) (by rfl) g0 rfl) pa_nil))) (pa_cons (pe_callB (call_isQ T.xc hp hG) (by rfl) T.isi (by decide +kernel) (pa_cons (pv 0) (pa_cons (pe_glob (v := .ref N1) (by rfl) g1 rfl) pa_nil))) (pa_cons (pe_callB (call_isQ T.xc hp hG) (by rfl) T.isi (by decide +kernel) (pa_cons (pv 0) (pa_cons (pe_glob (v := .ref N2) (by rfl) g2 rfl) pa_nil))) (pa_cons (pe_callB (call_isQ T.xc hp hG) (by rfl) T.isi (by decide +kernel) (pa_cons (pv 0) (pa_cons (pe_glob (v := .ref N3) (by rfl) g3 rfl) pa_nil))) pa_nil))))))
  (pss_cons (ps_set (i := 3) sc_is.nd rfl (Or.inl rfl) (pe_lst (pa_cons pe_str (pa_cons pe_str (pa_cons pe_str (pa_cons pe_str pa_nil))))))
  (pss_one (ps_ret (pe_and (pe_callB (call_isQ T.xc hp hG) (by rfl) T.isi (by decide +kernel) (pa_cons (pv 0) (pa_cons (pe_bltn (v := .ty "ValueError") (by rfl) T.ve (by decide +kernel) rfl) pa_nil)))
    (pe_one (pe_cmpR (op_eqD hu) (pv 2) (pe_lcH (own := [("_law_one", 4)]) (g := gName 4) hC sc_is.nd (pv 3) (blkOk_by (N := N_is) (sc := defScope s_is) (by decide +kernel)) (fun _ _ _ _ _ => (pg_name (i := 4) sc_is.nd rfl (Or.inl rfl))) (fun _ _ _ _ _ => (pe_cmpR op_eq (pv 1) (pv 4) (nomark _)))) (nomark _)))))))), ?_⟩
    refine ⟨_, rfl, _, _, b0, rfl, (fun u hu => hu), k0, hd, _, rfl, _, _, b1, rfl, (fun u hu => hu), k1, hd, _, rfl, _, _, b2, rfl, (fun u hu => hu), k2, hd, _, rfl, _, _, b3, rfl, (fun u hu => hu), k3, hd, (by show 4 ≤ sizeLine; decide), fun l1 hl1 => ?_⟩
    refine ⟨(by show 4 ≤ sizeLine; decide), fun l2 hl2 => ?_⟩
    have n12 : l1 ≠ l2 := fun e => by rw [← e, upd_same] at hl2; cases hl2
    have s1 : Same H (upd (upd H l1 (.lst [.bl b0, .bl b1, .bl b2, .bl b3])) l2 (.lst [.str "map", .str "tree", .str "road", .str "text"])) := (same_new hl1).trans (same_new hl2)
    have h1 : (upd (upd H l1 (.lst [.bl b0, .bl b1, .bl b2, .bl b3])) l2 (.lst [.str "map", .str "tree", .str "road", .str "text"])) l1 = some (.lst [.bl b0, .bl b1, .bl b2, .bl b3]) := by rw [upd_ne n12, upd_same]
    have h2 : (upd (upd H l1 (.lst [.bl b0, .bl b1, .bl b2, .bl b3])) l2 (.lst [.str "map", .str "tree", .str "road", .str "text"])) l2 = some (.lst [.str "map", .str "tree", .str "road", .str "text"]) := upd_same
    generalize upd (upd H l1 (.lst [.bl b0, .bl b1, .bl b2, .bl b3])) l2 (.lst [.str "map", .str "tree", .str "road", .str "text"]) = G at s1 h1 h2
    refine ⟨_, rfl, _, _, true, rfl, (fun u hu => hu), T.kV, (fun dd e => by obtain ⟨fs, z⟩ := hd dd e; exact ⟨fs, s1 _ _ z⟩), _, rfl, ite2 (fun _ => ?_) (fun z => absurd rfl z)⟩
    refine ⟨_, rfl, _, rfl, l2, [.str "map", .str "tree", .str "road", .str "text"], rfl, .of h2, fun D hD => ⟨fun i H' => Same G H' ∧ H' D = some (.lst ((((four y).map V.bl)).take i)), ⟨same_new hD, upd_same⟩, (fun i H' _ z => .of (z.1 _ _ h2)), ?_, ?_⟩⟩
    · intro i x H' hi ⟨e, h⟩
      match i, hi with
      | 0, hi =>
        cases hi
        exact ⟨rfl, _, rfl, _, rfl, rfl, _, h, small_lt (by show 0 < 16777216; decide), same_mut e hD, by rw [upd_same]; rfl⟩
      | 1, hi =>
        cases hi
        exact ⟨rfl, _, rfl, _, rfl, rfl, _, h, small_lt (by show 1 < 16777216; decide), same_mut e hD, by rw [upd_same]; rfl⟩
      | 2, hi =>
        cases hi
        exact ⟨rfl, _, rfl, _, rfl, rfl, _, h, small_lt (by show 2 < 16777216; decide), same_mut e hD, by rw [upd_same]; rfl⟩
      | 3, hi =>
        cases hi
        exact ⟨rfl, _, rfl, _, rfl, rfl, _, h, small_lt (by show 3 < 16777216; decide), same_mut e hD, by rw [upd_same]; rfl⟩
      | n + 4, hi => cases hi
    · rintro H' ⟨e, h⟩
      have dd : ∀ (H0 : Hp) (a : Addr) (c0 c1 c2 c3 : Bool), H0 a = some (.lst [.bl c0, .bl c1, .bl c2, .bl c3]) → Dp K H0 (.ref a) (.list [.bool c0, .bool c1, .bool c2, .bool c3]) := fun H0 a _ _ _ _ z => .lst (.of z) (.cons (.bl _) (.cons (.bl _) (.cons (.bl _) (.cons (.bl _) .nil))))
      have sh : ∀ c0 c1 c2 c3 : Bool, SeqAt.shaped (.list [.bool c0, .bool c1, .bool c2, .bool c3]) = true := by decide +kernel
      have eq : ∀ c0 c1 c2 c3 a0 a1 a2 a3 : Bool, PyData.eqv (.list [.bool c0, .bool c1, .bool c2, .bool c3]) (.list [.bool a0, .bool a1, .bool a2, .bool a3]) = decide ([a0, a1, a2, a3] = [c0, c1, c2, c3]) := by decide +kernel
      refine ⟨_, _, dd _ _ b0 b1 b2 b3 (e _ _ h1), dd _ _ (decide (V.str y = V.str "map")) (decide (V.str y = V.str "tree")) (decide (V.str y = V.str "road")) (decide (V.str y = V.str "text")) h, sh _ _ _ _, sh _ _ _ _, ?_⟩
      rw [eq]
      exact q _ (s1.trans e)
end
end Rc
/-! part RcR0 -/
/-! Which places are reached: the mathematics. -/
namespace Rc
inductive Reach (rows : List Row) (root : Int) : Int → Prop where
  | root : Reach rows root root
  | step {r : Row} (h : r ∈ rows) (p : Reach rows root r.b) : Reach rows root r.g
def Lof (rows : List Row) (j : Nat) : List Int := (rows.filter fun r => decide (r.b = (j : Int))).map Row.g
theorem mem_Lof {rows : List Row} {j : Nat} {g : Int} : g ∈ Lof rows j ↔ ∃ r ∈ rows, r.b = (j : Int) ∧ r.g = g := by
  unfold Lof
  rw [List.mem_map]
  constructor
  · rintro ⟨r, hr, e⟩
    obtain ⟨h1, h2⟩ := List.mem_filter.mp hr
    exact ⟨r, h1, of_decide_eq_true h2, e⟩
  · rintro ⟨r, h1, h2, e⟩
    exact ⟨r, List.mem_filter.mpr ⟨h1, decide_eq_true h2⟩, e⟩
theorem Lof_snoc (rows : List Row) (r : Row) (j : Nat) : Lof (rows ++ [r]) j = if r.b = (j : Int) then Lof rows j ++ [r.g] else Lof rows j := by
  unfold Lof
  rw [List.filter_append, List.map_append]
  by_cases h : r.b = (j : Int)
  · rw [if_pos h]
    simp [h]
  · rw [if_neg h]
    simp [h]
def got (Rs : List Bool) (v : Int) : Prop := Rs[v.toNat]? = some true
def falses (Rs : List Bool) : Nat := Rs.count false
theorem falses_set : ∀ {Rs : List Bool} {j : Nat}, Rs[j]? = some false → falses (Rs.set j true) + 1 = falses Rs
  | [], j, h => by simp at h
  | b :: Rs, 0, h => by
    have e : b = false := Option.some.inj h
    subst e
    simp [falses]
  | b :: Rs, j + 1, h => by
    have ih := falses_set (Rs := Rs) (j := j) h
    unfold falses at ih ⊢
    rw [List.set_cons_succ, List.count_cons, List.count_cons]
    omega
theorem got_set {Rs : List Bool} {j : Nat} {v : Int} (hj : j < Rs.length) : got (Rs.set j true) v ↔ v.toNat = j ∨ got Rs v := by
  unfold got
  rw [List.getElem?_set]
  by_cases h : j = v.toNat
  · rw [if_pos h, if_pos (by omega)]
    exact ⟨fun _ => .inl h.symm, fun _ => rfl⟩
  · rw [if_neg h]
    exact ⟨fun x => .inr x, fun x => x.resolve_left fun z => h z.symm⟩
structure Inv5 (many root : Int) (rows : List Row) (Rs : List Bool) (ws : List Int) (ex : Int → Prop) : Prop where
  len : Rs.length = many.toNat
  gr : got Rs root
  sound : ∀ v, 0 ≤ v → got Rs v → Reach rows root v
  gw : ∀ v ∈ ws, 0 ≤ v ∧ v < many ∧ got Rs v
  closed : ∀ r ∈ rows, got Rs r.b → r.b ∉ ws → ¬ ex r.b → got Rs r.g
def none0 : Int → Prop := fun _ => False
namespace Inv5
variable {many root : Int} {rows : List Row} {Rs : List Bool} {ws : List Int} {h g : Int} {ex : Int → Prop}
theorem pop (I : Inv5 many root rows Rs (ws ++ [h]) none0) : Inv5 many root rows Rs ws (fun v => v = h) :=
  ⟨I.len, I.gr, I.sound, fun v hv => I.gw v (List.mem_append_left _ hv), fun r hr hg hn he => I.closed r hr hg (fun z => by
    rcases List.mem_append.mp z with z | z
    · exact hn z
    · exact he (List.mem_singleton.mp z)) fun z => z⟩
theorem mark (I : Inv5 many root rows Rs ws ex) (g0 : 0 ≤ g) (g1 : g < many) (hr : Reach rows root g) (hrow : ∀ r ∈ rows, 0 ≤ r.b ∧ 0 ≤ r.g) : Inv5 many root rows (Rs.set g.toNat true) (ws ++ [g]) ex := by
  have hj : g.toNat < Rs.length := by rw [I.len]; omega
  have up : ∀ v, got Rs v → got (Rs.set g.toNat true) v := fun v x => (got_set hj).mpr (.inr x)
  refine ⟨by rw [List.length_set]; exact I.len, up _ I.gr, fun v v0 x => ?_, fun v hv => ?_, fun r hr2 hg hn he => ?_⟩
  · rcases (got_set hj).mp x with z | z
    · rw [show v = g by omega]
      exact hr
    · exact I.sound v v0 z
  · rcases List.mem_append.mp hv with z | z
    · obtain ⟨a, b, c⟩ := I.gw v z
      exact ⟨a, b, up v c⟩
    · rw [List.mem_singleton.mp z]
      exact ⟨g0, g1, (got_set hj).mpr (.inl rfl)⟩
  · have nb : r.b ≠ g := fun e => hn (List.mem_append_right _ (by rw [e]; exact List.mem_singleton.mpr rfl))
    have hb := (hrow r hr2).1
    rcases (got_set hj).mp hg with z | z
    · exact absurd (show r.b = g by omega) nb
    · exact up _ (I.closed r hr2 z (fun y => hn (List.mem_append_left _ y)) he)
theorem done (I : Inv5 many root rows Rs ws (fun v => v = h)) (h0 : 0 ≤ h) (hg : ∀ g ∈ Lof rows h.toNat, got Rs g) : Inv5 many root rows Rs ws none0 :=
  ⟨I.len, I.gr, I.sound, I.gw, fun r hr hb hn _ => by
    by_cases e : r.b = h
    · exact hg _ (mem_Lof.mpr ⟨r, hr, by omega, rfl⟩)
    · exact I.closed r hr hb hn e⟩
theorem all (I : Inv5 many root rows Rs [] none0) : ∀ v, Reach rows root v → got Rs v := fun v hv => by
  induction hv with
  | root => exact I.gr
  | step h _ ih => exact I.closed _ h ih (by simp) fun z => z
end Inv5
theorem inv5_start {many root : Int} {rows : List Row} (r0 : 0 ≤ root) (r1 : root < many) (hrow : ∀ r ∈ rows, 0 ≤ r.b) : Inv5 many root rows ((List.range many.toNat).map fun (i : Nat) => decide ((i : Int) = root)) [root] none0 := by
  have hg : ∀ v : Int, 0 ≤ v → got ((List.range many.toNat).map fun (i : Nat) => decide ((i : Int) = root)) v → v = root := fun v v0 h => by
    unfold got at h
    rw [List.getElem?_map] at h
    cases e : (List.range many.toNat)[v.toNat]? with
    | none => rw [e] at h; cases h
    | some i =>
      rw [e] at h
      obtain ⟨hi, ei⟩ := List.getElem?_eq_some_iff.mp e
      rw [List.getElem_range] at ei
      have z := of_decide_eq_true (Option.some.inj h)
      omega
  have hr : got ((List.range many.toNat).map fun (i : Nat) => decide ((i : Int) = root)) root := by
    unfold got
    rw [List.getElem?_map, List.getElem?_eq_getElem (by rw [List.length_range]; omega), List.getElem_range]
    show some (decide ((root.toNat : Int) = root)) = some true
    rw [decide_eq_true (by omega)]
  refine ⟨by simp, hr, fun v v0 h => ?_, fun v hv => ?_, fun r hrr hb hn _ => ?_⟩
  · rw [hg v v0 h]
    exact .root
  · rw [List.mem_singleton.mp hv]
    exact ⟨r0, r1, hr⟩
  · exact absurd (List.mem_singleton.mpr (hg _ (hrow r hrr) hb)) hn
end Rc
/-! part RcR -/
namespace Rc
open PySem PySem.Spec PyProof.Rows L2
/-- a list of new lists of ints: at D, its parts at gs -/
structure Goals (H0 H' : Hp) (D : Addr) (gs : List Addr) (L : Nat → List Int) : Prop where
  dd : H' D = some (.lst (gs.map V.ref))
  nd : gs.Nodup
  nD : D ∉ gs
  new : ∀ g ∈ gs, H0 g = none
  newD : H0 D = none
  has : ∀ j g, gs[j]? = some g → H' g = some (.lst ((L j).map V.int))
theorem nodup_at {α : Type} : ∀ {l : List α} {i j : Nat} {a : α}, l.Nodup → l[i]? = some a → l[j]? = some a → i = j
  | [], i, j, a, _, h, _ => by simp at h
  | b :: l, 0, 0, a, _, _, _ => rfl
  | b :: l, 0, j + 1, a, nd, h, h' => by
    have e : b = a := Option.some.inj h
    exact absurd (List.mem_of_getElem? (show l[j]? = some b by rw [e]; exact h')) (List.nodup_cons.mp nd).1
  | b :: l, i + 1, 0, a, nd, h, h' => by
    have e : b = a := Option.some.inj h'
    exact absurd (List.mem_of_getElem? (show l[i]? = some b by rw [e]; exact h)) (List.nodup_cons.mp nd).1
  | b :: l, i + 1, j + 1, a, nd, h, h' => by rw [nodup_at (l := l) (i := i) (j := j) (List.nodup_cons.mp nd).2 h h']
theorem Goals.there {H0 H' : Hp} {D b : Addr} {gs : List Addr} {L : Nat → List Int} (G : Goals H0 H' D gs L) (h : b = D ∨ b ∈ gs) : ∃ o, H' b = some o := by
  rcases h with z | z
  · exact ⟨_, z ▸ G.dd⟩
  · obtain ⟨j, hj⟩ := List.getElem?_of_mem z
    exact ⟨_, G.has j _ hj⟩
theorem Goals.grow {H0 H' : Hp} {D l : Addr} {gs : List Addr} (G : Goals H0 H' D gs fun _ => []) (hl : H' l = none) (h0 : H0 l = none) :
    Goals H0 (upd (upd H' l (.lst [])) D (.lst (gs.map V.ref ++ [.ref l]))) D (gs ++ [l]) fun _ => [] := by
  have nDl : D ≠ l := ne_of_none G.dd hl
  have nin : l ∉ gs := fun z => by
    obtain ⟨j, hj⟩ := List.getElem?_of_mem z
    have q := G.has j l hj
    rw [hl] at q
    cases q
  refine ⟨by rw [upd_same, List.map_append]; rfl, ?_, ?_, ?_, G.newD, fun j g hg => ?_⟩
  · rw [List.nodup_append]
    refine ⟨G.nd, by simp, fun a ha b hb => ?_⟩
    rw [List.mem_singleton.mp hb]
    exact fun z => nin (z ▸ ha)
  · intro z
    rcases List.mem_append.mp z with z | z
    · exact G.nD z
    · exact nDl (List.mem_singleton.mp z)
  · intro g hg
    rcases List.mem_append.mp hg with z | z
    · exact G.new g z
    · rw [List.mem_singleton.mp z]
      exact h0
  · have hm := List.mem_of_getElem? hg
    have neD : g ≠ D := fun z => by
      rw [z] at hm
      rcases List.mem_append.mp hm with y | y
      · exact G.nD y
      · exact nDl (List.mem_singleton.mp y)
    rw [upd_ne neD]
    by_cases e : g = l
    · rw [e, upd_same]
      rfl
    · rw [upd_ne e]
      by_cases hj : j < gs.length
      · rw [List.getElem?_append_left hj] at hg
        exact G.has j g hg
      · rw [List.getElem?_append_right (by omega)] at hg
        have := List.mem_of_getElem? hg
        exact absurd (List.mem_singleton.mp this) e
theorem Goals.keep {H0 H' H2 : Hp} {D : Addr} {gs : List Addr} {L : Nat → List Int} (G : Goals H0 H' D gs L) (e : ∀ b o, b = D ∨ b ∈ gs → H' b = some o → H2 b = some o) : Goals H0 H2 D gs L :=
  ⟨e _ _ (.inl rfl) G.dd, G.nd, G.nD, G.new, G.newD, fun j g h => e _ _ (.inr (List.mem_of_getElem? h)) (G.has j g h)⟩
theorem Goals.put {H0 H' : Hp} {D g : Addr} {gs : List Addr} {L L' : Nat → List Int} {j : Nat} (G : Goals H0 H' D gs L) (hj : gs[j]? = some g) (hL : ∀ i, i ≠ j → L' i = L i) : Goals H0 (upd H' g (.lst ((L' j).map V.int))) D gs L' := by
  refine ⟨?_, G.nd, G.nD, G.new, G.newD, fun i a h => ?_⟩
  · have ne : D ≠ g := fun e => G.nD (by rw [e]; exact List.mem_of_getElem? hj)
    rw [upd_ne ne]
    exact G.dd
  · by_cases e : i = j
    · subst e
      rw [hj] at h
      cases h
      exact upd_same
    · have ne : a ≠ g := by
        intro z
        rw [z] at h
        exact e (nodup_at G.nd h hj)
      rw [upd_ne ne, hL i e]
      exact G.has i a h
def lenOf : Option HO → Nat
  | some (.lst xs) => xs.length
  | _ => 0
def cntOf : Option HO → Nat
  | some (.lst xs) => xs.countP fun x => decide (x = V.bl false)
  | _ => 0
theorem cnt_bl : ∀ Rs : List Bool, (Rs.map V.bl).countP (fun x => decide (x = V.bl false)) = falses Rs
  | [] => rfl
  | b :: Rs => by
    have ih := cnt_bl Rs
    unfold falses at ih ⊢
    rw [List.map_cons, List.countP_cons, List.count_cons, ih]
    cases b <;> simp
theorem tru_mono {K : PySem.W.Frag} {ta : TE} {σ : L2.St} {H : Hp} {Q Q' : Bool → Hp → Prop} (hm : ∀ (A B : VK), (∀ x H1, A x H1 → B x H1) → ta σ H A → ta σ H B) (h : ∀ b H1, Q b H1 → Q' b H1)
    (x : ta σ H fun x H' => ∃ k, TruV K x H' k ∧ Q k H') : ta σ H fun x H' => ∃ k, TruV K x H' k ∧ Q' k H' :=
  hm _ _ (fun _ _ ⟨k, a, b⟩ => ⟨k, a, h _ _ b⟩) x
theorem Lof_len (rows : List Row) (j : Nat) : (Lof rows j).length ≤ rows.length := by
  unfold Lof
  rw [List.length_map]
  exact List.length_filter_le _ _
def spLeft (K : PySem.W.Frag) : Sp := fun vs H Q _ => ∃ (many root : Int) (v : V) (rows : List Row), vs = [.int many, .int root, v] ∧ Dp K H v (rowsDat rows) ∧ 0 ≤ root ∧ root < many ∧ many ≤ 1000 ∧ rows.length ≤ 1000 ∧
  (∀ r ∈ rows, 0 ≤ r.b ∧ r.b < many ∧ 0 ≤ r.g ∧ r.g < many) ∧
  ∀ H' p (ns : List Int), Same H H' → H p = none → H' p = some (.lst (ns.map V.int)) → (∀ v, v ∈ ns ↔ 0 ≤ v ∧ v < many ∧ ¬ Reach rows root v) → ns.Pairwise (fun a b => a < b) → Q (.ref p) H'
section
variable {P : Program} {w : World} {K : PySem.W.Frag} {mg : Str → Option Value} {base : Heap}
end
end Rc
/-! part RcT -/
namespace Rc
open PySem PySem.Spec PyProof.Rows L2
/-- a def whose code object is known -/
structure FunT (K : PySem.W.Frag) (x qual : Str) (st : Stmt) (f : Addr) (fd : FuncData) (c : Addr) : Prop where
  ex : ∃ (oc : Value) (od : Option Addr) (kV doc pm : Value) (an : Option Addr) (ct : Value) (osl : Array (Option Value)),
    fd = PySem.W.fnOf x qual (defArgs st) (defBody st) (defScope st) .none kV doc pm an (.ref c) ct ∧ K.lookup f = some ⟨oc, od, .func fd, osl⟩ ∧ PySem.W.codeIn K (.ref c) qual = true
  kp : PySem.W.keepIn K (.ref f) = true
theorem FunT.fn {K : PySem.W.Frag} {x qual : Str} {st : Stmt} {f : Addr} {fd : FuncData} {c : Addr} (F : FunT K x qual st f fd c) : Fun K x qual st f fd := by
  obtain ⟨oc, od, kV, doc, pm, an, ct, osl, h1, h2, h3⟩ := F.ex
  exact ⟨⟨oc, od, kV, doc, pm, an, .ref c, ct, osl, h1, h2, h3⟩, F.kp⟩
/-- a generator expression's scope within a def's -/
def genC (sc scope : Scope) (x : Str) : Bool :=
  decide (scope.kind = .function) && (!scope.isCoroutine && (scope.names.all (fun y => !decide (y.2 = .cell)) && (decide (scope.names.lookup (".0" : Str) = some NameKind.local) && (decide (scope.names.lookup x = some NameKind.local) &&
    scope.names.all fun y => !decide (y.2 = .free) || decide (sc.names.lookup y.1 = some NameKind.cell)))))
section
variable {P : Program} {w : World} {K : PySem.W.Frag} {mg : Str → Option Value} {base : Heap}
theorem FunT.ok {x qual : Str} {st : Stmt} {f c : Addr} {fd : FuncData} {N ps : List Str} {k : Nat} {sp : Sp} (F : FunT K x qual st f fd c) (S : FnScope N ps (defScope st)) (len : ∀ vs H Q E, sp vs H Q E → vs.length = ps.length)
    (hbody : ∀ (A : Around) (outer : List Env) (s : Shared) (H : Hp) (vs : List V) (Q : VK) (E : XK), Room k (A.deeper (envOfC qual (defScope st) s.heap.objs.size f (.ref c))) → sp vs H Q E →
      ∃ t, PSs (cxOf CX0 P w K mg base N qual (defScope st) f (.ref c) A outer s H E).nox (defBody st) t ∧ t { nx := fun _ H' => Q .non H', rt := Q } (start N vs) H) :
    FnOk P w K mg base CX0 (k + 1) f fd ps sp := by
  obtain ⟨oc, od, kV, doc, pm, an, ct, osl, rfl, lk, hcd⟩ := F.ex
  refine fn_of lk hcd S len fun A outer s H vs Q E hr hsp => ?_
  obtain ⟨t, h, q⟩ := hbody A outer s H vs Q E hr hsp
  exact ⟨t, h.nox, q⟩
theorem genS_cx {N : List Str} {qual : Str} {sc scope : Scope} {f : Addr} {cd : Value} {A : Around} {outer : List Env} {s : Shared} {H : Hp} {E : XK} {x : Str} (h : genC sc scope x = true) :
    GxR.GenS (cxOf CX0 P w K mg base N qual sc f cd A outer s H E).nox.env scope x := by
  unfold genC at h
  simp only [Bool.and_eq_true, decide_eq_true_eq, Bool.not_eq_true', List.all_eq_true, Bool.or_eq_true, decide_eq_false_iff_not] at h
  obtain ⟨h1, h2, h3, h4, h5, h6⟩ := h
  refine ⟨h1, h2, h3, h4, h5, fun y hy e => ?_⟩
  rcases h6 y hy with z | z
  · exact absurd e z
  · exact cell_has (n := s.heap.objs.size + 1) z
end
/-! ### is_tree -/
def pick (rows : List Row) (is : List Int) : List Row := is.map fun i => (rows[i.toNat]?).getD ⟨0, 0, 0⟩
def IsTree (n root : Int) (rows : List Row) (is : List Int) : Prop := (is.length : Int) = n - 1 ∧ RoadsOk rows is ∧ ∀ v, 0 ≤ v → v < n → Reach (pick rows is) root v
theorem pick_len (rows : List Row) (is : List Int) : (pick rows is).length = is.length := by
  unfold pick
  rw [List.length_map]
/-- the chosen rows, as they stand -/
theorem pick_data {K : PySem.W.Frag} {H : Hp} {xs : List V} {rows : List Row} (h : DpAll K H xs (rows.map Row.dat)) : ∀ {is : List Int}, RoadsOk rows is → DpAll K H (is.map fun i => (xs[i.toNat]?).getD .non) ((pick rows is).map Row.dat)
  | [], _ => .nil
  | i :: is, ok => by
    obtain ⟨i0, i1⟩ := ok i List.mem_cons_self
    have hi : i.toNat < rows.length := by omega
    obtain ⟨t, ht, hT⟩ := rows_at h (List.getElem?_eq_getElem hi)
    obtain ⟨v, hv, hd⟩ := dpAll_get (i := i.toNat) (d := rows[i.toNat].dat) h (by rw [List.getElem?_map, List.getElem?_eq_getElem hi]; rfl)
    have ih := pick_data h (is := is) (fun j hj => ok j (List.mem_cons_of_mem _ hj))
    unfold pick at ih ⊢
    rw [List.map_cons, List.map_cons, List.map_cons, hv, List.getElem?_eq_getElem hi]
    exact .cons hd ih
theorem pick_ok {many : Int} {rows : List Row} {is : List Int} (h : ∀ r ∈ rows, Row.Ok many r) (ok : RoadsOk rows is) : ∀ r ∈ pick rows is, Row.Ok many r := fun r hr => by
  obtain ⟨i, hi, e⟩ := List.mem_map.mp hr
  obtain ⟨i0, i1⟩ := ok i hi
  have hl : i.toNat < rows.length := by omega
  rw [List.getElem?_eq_getElem hl] at e
  have e' : rows[i.toNat] = r := e
  rw [← e']
  exact h _ (List.getElem_mem hl)
theorem all_iff {is : List Int} {n : Nat} : (List.range is.length).all (fun i => decide (0 ≤ is.getD i 0) && decide (is.getD i 0 < (n : Int))) = true ↔ ∀ i ∈ is, 0 ≤ i ∧ i < (n : Int) := by
  rw [List.all_eq_true]
  constructor
  · intro h i hi
    obtain ⟨j, hj⟩ := List.getElem?_of_mem hi
    have q := h j (List.mem_range.mpr (List.getElem?_eq_some_iff.mp hj).1)
    rw [List.getD_eq_getElem?_getD, hj, Bool.and_eq_true] at q
    exact ⟨of_decide_eq_true q.1, of_decide_eq_true q.2⟩
  · intro h j hj
    have hl := List.mem_range.mp hj
    have e : is.getD j 0 = is[j] := by rw [List.getD_eq_getElem?_getD, List.getElem?_eq_getElem hl]; rfl
    obtain ⟨a, b⟩ := h _ (List.getElem_mem hl)
    rw [e, decide_eq_true a, decide_eq_true b]
    rfl
def spIsTree (K : PySem.W.Frag) (C P : Addr) : Sp := fun vs H Q _ => ∃ (p : Addr) (n r : Int) (rows : List Row) (v : V) (is : List Int), vs = [.ref p, v] ∧ MapAt K C H p n r rows ∧ ChartOk n r rows ∧ Dp K H v (.list (is.map .int)) ∧ is.length ≤ 1000 ∧ GxR.TabG H P ∧
  ∀ H' b, Tabd (at1 P) H H' → (b = true ↔ IsTree n r rows is) → Q (.bl b) H'
section
variable {P : Program} {w : World} {K : PySem.W.Frag} {mg : Str → Option Value} {base : Heap}
end
end Rc
/-! part RcH -/
namespace Rc
open PySem PySem.Spec PyProof.Rows L2 L2H
abbrev FunN (K : PySem.W.Frag) (x q : Str) (st : Stmt) (f : Addr) (fd : FuncData) : Prop := FunD K x q (defArgs st) (defBody st) (defScope st) [] [] f fd
theorem funD_fun {K : PySem.W.Frag} {x q : Str} {st : Stmt} {f : Addr} {fd : FuncData} (F : FunN K x q st f fd) : Fun K x q st f fd := by
  obtain ⟨oc, od, dV, kV, doc, pm, an, cdv, ct, osl, e, lk, hcd, hD, _⟩ := F.ex
  rcases hD with ⟨_, rfl⟩ | ⟨z, _⟩
  · exact ⟨⟨oc, od, kV, doc, pm, an, cdv, ct, osl, e, lk, hcd⟩, F.kp⟩
  · exact absurd rfl z
theorem funD_funT {K : PySem.W.Frag} {x q : Str} {st : Stmt} {p : Str × Option Str} {fd : FuncData} (F : FunN K x q st (He.fAd K p) fd) : FunT K x q st (He.fAd K p) fd (He.codeOf K p) := by
  obtain ⟨oc, od, dV, kV, doc, pm, an, cdv, ct, osl, rfl, lk, hcd, hD, _⟩ := F.ex
  rcases hD with ⟨_, rfl⟩ | ⟨z, _⟩
  · obtain ⟨c, rfl⟩ := He.codeIn_ref hcd
    have e := He.codeOf_eq (p := p) (c := c) lk rfl
    rw [e]
    exact ⟨⟨oc, od, kV, doc, pm, an, ct, osl, rfl, lk, hcd⟩, F.kp⟩
  · exact absurd rfl z
theorem facts {P : Program} {w : World} {K : PySem.W.Frag} {h : Heap} {mg : Str → Option Value} {f : Addr} (X : K.In h) (G : h.Ns mainGlobals mg) (hfa : mg ("law" : Str) = some (.ref f)) (c : SaysZ h K) :
    ∃ fd : FuncData, (∀ (s : Shared) (v : Value), BindsTo s fd ⟨[v], []⟩ [("_law_script", v)]) ∧ ∀ base : Heap, K.In base → base.Ns mainGlobals mg → FnOk P w K mg base CX0 11 f fd ["_law_script"] (spLaw K) := by
  have d := c.d
  obtain ⟨fd0, F0⟩ := d.def_ 0 (d := defD "__init__" "BadMap.__init__" (some "BadMap") s_BadMap___init__) rfl
  obtain ⟨fd1, F1⟩ := d.def_ 1 (d := defD "__init__" "Map.__init__" (some "Map") s_Map___init__) rfl
  obtain ⟨fd2, F2⟩ := d.def_ 2 (d := defD "size" "Map.size" (some "Map") s_Map_size) rfl
  obtain ⟨fd3, F3⟩ := d.def_ 3 (d := defD "begin" "Map.begin" (some "Map") s_Map_begin) rfl
  obtain ⟨fd4, F4⟩ := d.def_ 4 (d := defD "roads" "Map.roads" (some "Map") s_Map_roads) rfl
  obtain ⟨fd5, F5⟩ := d.def_ 5 (d := defD "check_map" "check_map" none s_check_map) rfl
  obtain ⟨fd6, F6⟩ := d.def_ 6 (d := defD "check_cost" "check_cost" none s_check_cost) rfl
  obtain ⟨fd7, F7⟩ := d.def_ 7 (d := defD "_law_dice" "_law_dice" none s_dice) rfl
  obtain ⟨fd8, F8⟩ := d.def_ 8 (d := defD "_law_next" "_law_next" none s_next) rfl
  obtain ⟨fd9, F9⟩ := d.def_ 9 (d := defD "_law_whole" "_law_whole" none s_whole) rfl
  obtain ⟨fd10, F10⟩ := d.def_ 10 (d := defD "_law_like" "_law_like" none s_like) rfl
  obtain ⟨fd11, F11⟩ := d.def_ 11 (d := defD "_law_cost" "_law_cost" none s_cost) rfl
  obtain ⟨fd12, F12⟩ := d.def_ 12 (d := defD "_law_map" "_law_map" none s_map) rfl
  obtain ⟨fd13, F13⟩ := d.def_ 13 (d := defD "_law_wide" "_law_wide" none s_wide) rfl
  obtain ⟨fd14, F14⟩ := d.def_ 14 (d := defD "_law_is" "_law_is" none s_is) rfl
  obtain ⟨fd15, F15⟩ := d.def_ 15 (d := defD "_law_wrong" "_law_wrong" none s_wrong) rfl
  obtain ⟨fd16, F16⟩ := d.def_ 16 (d := defD "_law_refused" "_law_refused" none s_refused) rfl
  obtain ⟨fd17, F17⟩ := d.def_ 17 (d := defD "law" "law" none s_law) rfl
  have e := hfa.symm.trans (He.glo_ok X G (d.fact 12 (f := .glo "law") rfl))
  cases e
  have TM : TxtM K mg (He.ga K "Map") :=
    { len := (He.free_ok X G (d.fact 19 (f := .free "len") rfl)), int := (He.free_ok X G (d.fact 20 (f := .free "int") rfl)), range := (He.free_ok X G (d.fact 21 (f := .free "range") rfl)), isi := (He.free_ok X G (d.fact 22 (f := .free "isinstance") rfl)), str := (He.free_ok X G (d.fact 23 (f := .free "str") rfl)), tuple := (He.free_ok X G (d.fact 24 (f := .free "tuple") rfl)), list := (He.free_ok X G (d.fact 25 (f := .free "list") rfl)), bool := (He.free_ok X G (d.fact 26 (f := .free "bool") rfl)), enum := (He.free_ok X G (d.fact 27 (f := .free "enumerate") rfl)), cl := He.cls_ok (d.fact 32 (f := .cls "Map") rfl), nM := He.noat_ok (d.fact 33 (f := .noat "Map" "_many") rfl), nR := He.noat_ok (d.fact 34 (f := .noat "Map" "_root") rfl), nL := He.noat_ok (d.fact 35 (f := .noat "Map" "_roads") rfl), mgC := (He.glo_ok X G (d.fact 14 (f := .glo "Map") rfl)), gP := He.int_ok X G (d.fact 29 (f := .int "MOST_PLACES" 20) rfl), gR := He.int_ok X G (d.fact 30 (f := .int "MOST_ROADS" 60) rfl), gC := He.int_ok X G (d.fact 31 (f := .int "MOST_COST" 1000000000) rfl) }
  have ex := c.more
  unfold exL at ex
  simp only [Bool.and_eq_true, decide_eq_true_eq] at ex
  obtain ⟨x_t1, x_t2, x_xcBadMap, x_kBadMap0, x_kBadMap1, x_kBadMap2, x_kBadMap3, x_kVBadMap, x_oxB, x_iniB⟩ := ex
  have mZ := He.meth_ok (d.fact 36 (f := .meth "Map" "size") rfl)
  have qBadMap : TxtQ K mg (He.ga K "BadMap") true false false false := ⟨excB_ok x_xcBadMap, ⟨_, _, _, _, (He.glo_ok X G (d.fact 13 (f := .glo "BadMap") rfl)), (He.glo_ok X G (d.fact 15 (f := .glo "NoTree") rfl)), (He.glo_ok X G (d.fact 16 (f := .glo "NoRoad") rfl)), (He.glo_ok X G (d.fact 17 (f := .glo "BadText") rfl)), kitB2_ok x_kBadMap0, kitB2_ok x_kBadMap1, kitB2_ok x_kBadMap2, kitB2_ok x_kBadMap3⟩, kitB2_ok x_kVBadMap, TM.isi, (He.free_ok X G (d.fact 28 (f := .free "ValueError") rfl))⟩
  have b := FunD.bindsA (ps := ["_law_script"]) F17 fun _ _ _ _ _ _ us hl => match us, hl with | [_], _ => rfl
  refine ⟨fd17, fun s v => b s [v] rfl, fun base _ _  => ?_⟩
  have b0 : Binds K fd0 ["self", "at", "why"] [] := F0.bindsN fun _ _ _ _ _ _ us hl => match us, hl with | [_, _, _], _ => rfl
  have b1 : Binds K fd1 ["self", "many", "root", "roads"] [] := F1.bindsN fun _ _ _ _ _ _ us hl => match us, hl with | [_, _, _, _], _ => rfl
  have b2 : Binds K fd2 ["self"] [] := F2.bindsN fun _ _ _ _ _ _ us hl => match us, hl with | [_], _ => rfl
  have b3 : Binds K fd3 ["self"] [] := F3.bindsN fun _ _ _ _ _ _ us hl => match us, hl with | [_], _ => rfl
  have b4 : Binds K fd4 ["self"] [] := F4.bindsN fun _ _ _ _ _ _ us hl => match us, hl with | [_], _ => rfl
  have b5 : Binds K fd5 ["many", "root", "roads"] [] := F5.bindsN fun _ _ _ _ _ _ us hl => match us, hl with | [_, _, _], _ => rfl
  have b6 : Binds K fd6 ["road", "cost"] [] := F6.bindsN fun _ _ _ _ _ _ us hl => match us, hl with | [_, _], _ => rfl
  have b7 : Binds K fd7 ["_law_script"] [] := F7.bindsN fun _ _ _ _ _ _ us hl => match us, hl with | [_], _ => rfl
  have b8 : Binds K fd8 ["_law_dice_here", "_law_many"] [] := F8.bindsN fun _ _ _ _ _ _ us hl => match us, hl with | [_, _], _ => rfl
  have b9 : Binds K fd9 ["_law_found"] [] := F9.bindsN fun _ _ _ _ _ _ us hl => match us, hl with | [_], _ => rfl
  have b10 : Binds K fd10 ["_law_found", "_law_due"] [] := F10.bindsN fun _ _ _ _ _ _ us hl => match us, hl with | [_, _], _ => rfl
  have b11 : Binds K fd11 ["_law_d"] [] := F11.bindsN fun _ _ _ _ _ _ us hl => match us, hl with | [_], _ => rfl
  have b12 : Binds K fd12 ["_law_d", "_law_places", "_law_roads"] [] := F12.bindsN fun _ _ _ _ _ _ us hl => match us, hl with | [_, _, _], _ => rfl
  have b13 : Binds K fd13 ["_law_d"] [] := F13.bindsN fun _ _ _ _ _ _ us hl => match us, hl with | [_], _ => rfl
  have b14 : Binds K fd14 ["_law_e", "_law_word"] [] := F14.bindsN fun _ _ _ _ _ _ us hl => match us, hl with | [_, _], _ => rfl
  have b15 : Binds K fd15 ["_law_d", "_law_chart"] [] := F15.bindsN fun _ _ _ _ _ _ us hl => match us, hl with | [_, _], _ => rfl
  have b16 : Binds K fd16 ["_law_chart", "_law_at", "_law_why"] [] := F16.bindsN fun _ _ _ _ _ _ us hl => match us, hl with | [_, _, _], _ => rfl
  have hDice : ∀ k, Has P w K mg base "_law_dice" ["_law_script"] (k + 1) (spDice K) := fun k => ⟨_, fd7, (He.glo_ok X G (d.fact 2 (f := .glo "_law_dice") rfl)), F7.kp, b7, ok_dice (k := k) (funD_fun F7) TM.toTxt0⟩
  have hNext : ∀ k, Has P w K mg base "_law_next" ["_law_dice_here", "_law_many"] (k + 1) (spNext K) := fun k => ⟨_, fd8, (He.glo_ok X G (d.fact 3 (f := .glo "_law_next") rfl)), F8.kp, b8, ok_next (k := k) (funD_fun F8) TM.toTxt0⟩
  have hCC : Has P w K mg base "check_cost" ["road", "cost"] 3 spCheckCost := ⟨_, fd6, (He.glo_ok X G (d.fact 1 (f := .glo "check_cost") rfl)), F6.kp, b6, ok_check_cost (k := 2) (funD_fun F6) TM⟩
  have hCheck : Has P w K mg base "check_map" ["many", "root", "roads"] 4 (spCheck K) := ⟨_, fd5, (He.glo_ok X G (d.fact 0 (f := .glo "check_map") rfl)), F5.kp, b5, ok_check (k := 3) (funD_fun F5) TM hCC⟩
  have hInit : HasC P w K mg base (He.ga K "Map") ["self", "many", "root", "roads"] 5 (spInit K (He.ga K "Map")) := ⟨_, fd1, He.mkr_ok (d.fact 39 (f := .mkr "Map") rfl), b1, ok_init (k := 4) (funD_fun F1) TM hCheck⟩
  have hSize : ∀ k, HasM P w K mg base (He.ga K "Map") "size" ["self"] (k + 1) (spSize K (He.ga K "Map")) := fun k => ⟨_, fd2, He.meth_ok (d.fact 36 (f := .meth "Map" "size") rfl), b2, ok_size (k := k) (funD_fun F2) TM⟩
  have hBegin : ∀ k, HasM P w K mg base (He.ga K "Map") "begin" ["self"] (k + 1) (spBegin K (He.ga K "Map")) := fun k => ⟨_, fd3, He.meth_ok (d.fact 37 (f := .meth "Map" "begin") rfl), b3, ok_begin (k := k) (funD_fun F3) TM⟩
  have hRoads : ∀ k, HasM P w K mg base (He.ga K "Map") "roads" ["self"] (k + 1) (spRoads K (He.ga K "Map")) := fun k => ⟨_, fd4, He.meth_ok (d.fact 38 (f := .meth "Map" "roads") rfl), b4, ok_roads (k := k) (funD_fun F4) TM⟩
  have hCost : Has P w K mg base "_law_cost" ["_law_d"] 5 (spCost K) := ⟨_, fd11, (He.glo_ok X G (d.fact 6 (f := .glo "_law_cost") rfl)), F11.kp, b11, ok_cost (k := 4) (funD_fun F11) TM.toTxt0 (hNext 3)⟩
  have hMap : Has P w K mg base "_law_map" ["_law_d", "_law_places", "_law_roads"] 6 (spMap K) := ⟨_, fd12, (He.glo_ok X G (d.fact 7 (f := .glo "_law_map") rfl)), F12.kp, b12, ok_map (k := 5) (funD_fun F12) TM.toTxt0 (hNext 4) hCost⟩
  have hWide : Has P w K mg base "_law_wide" ["_law_d"] 7 (spWide K) := ⟨_, fd13, (He.glo_ok X G (d.fact 8 (f := .glo "_law_wide") rfl)), F13.kp, b13, ok_wide (k := 6) (funD_fun F13) (hNext 5) hMap⟩
  have hWhole : Has P w K mg base "_law_whole" ["_law_found"] 5 spWholeP := ⟨_, fd9, (He.glo_ok X G (d.fact 4 (f := .glo "_law_whole") rfl)), F9.kp, b9, ok_whole (k := 4) (funD_fun F9) TM.toTxtL⟩
  have hLike : ∀ n, Has P w K mg base "_law_like" ["_law_found", "_law_due"] (n + 1) (spLike K n) := fun n => ⟨_, fd10, (He.glo_ok X G (d.fact 5 (f := .glo "_law_like") rfl)), F10.kp, b10, ok_like (funD_fun F10) TM.toTxtL (He.glo_ok X G (d.fact 5 (f := .glo "_law_like") rfl)) b10 n⟩
  have hIs : ∀ k y D b0 b1 b2 b3 od, TxtQ K mg D b0 b1 b2 b3 → HasG P w K mg base "_law_is" ["_law_e", "_law_word"] (k + 1) (fun p => IsQ p D od) (spIsQ y (decide (four y = [b0, b1, b2, b3])) od) := fun k y D b0 b1 b2 b3 od T => ⟨_, fd14, (He.glo_ok X G (d.fact 9 (f := .glo "_law_is") rfl)), F14.kp, b14, ok_isQ (k := k) (funD_fun F14) T⟩
  have TB : TxtB K mg (He.ga K "BadMap") (He.ga K "RootError") := ⟨oexB_ok x_oxB, He.noat_ok (d.fact 43 (f := .noat "BadMap" "at") rfl), He.noat_ok (d.fact 44 (f := .noat "BadMap" "why") rfl), (He.glo_ok X G (d.fact 13 (f := .glo "BadMap") rfl)), iniB_ok x_iniB, (He.glo_ok X G (d.fact 18 (f := .glo "RootError") rfl))⟩
  have exmB := He.exm_ok (d.fact 46 (f := .exm "BadMap" "RootError" true) rfl)
  have mEB := He.meth_ok (d.fact 45 (f := .meth "BadMap" "__init__") rfl)
  have hEB : ∀ k, HasE P w K mg base (He.ga K "BadMap") (k + 1) := fun k => ⟨_, fd0, mEB.at_, beq_iff_eq.mp mEB.fn, b0, ok_bad (k := k) (funD_fun F0) TB⟩
  have hCostX : HasN P w K mg base "check_cost" ["road", "cost"] 3 (spCheckCostX (He.ga K "BadMap")) := ⟨_, fd6, (He.glo_ok X G (d.fact 1 (f := .glo "check_cost") rfl)), F6.kp, b6, ok_check_costX (k := 1) (funD_fun F6) TM TB (hEB 0)⟩
  have hCheckX : HasN P w K mg base "check_map" ["many", "root", "roads"] 4 (spCheckX K (He.ga K "BadMap")) := ⟨_, fd5, (He.glo_ok X G (d.fact 0 (f := .glo "check_map") rfl)), F5.kp, b5, ok_checkX (k := 2) (funD_fun F5) TM TB (hEB 1) hCostX⟩
  have hInitX : HasCN P w K mg base (He.ga K "Map") ["self", "many", "root", "roads"] 5 (spInitX K (He.ga K "BadMap")) := ⟨_, fd1, He.mkr_ok (d.fact 39 (f := .mkr "Map") rfl), b1, ok_initX (k := 4) (funD_fun F1) TM hCheckX⟩
  have TI : TxtI K mg (He.ga K "BadMap") (He.ga K "NoTree") (He.ga K "NoRoad") (He.ga K "BadText") := ⟨excB_ok x_xcBadMap, TB.mgB, (He.glo_ok X G (d.fact 15 (f := .glo "NoTree") rfl)), (He.glo_ok X G (d.fact 16 (f := .glo "NoRoad") rfl)), (He.glo_ok X G (d.fact 17 (f := .glo "BadText") rfl)), kitB2_ok x_kBadMap0, kitB2_ok x_kBadMap1, kitB2_ok x_kBadMap2, kitB2_ok x_kBadMap3, kitB2_ok x_kVBadMap, TM.isi, (He.free_ok X G (d.fact 28 (f := .free "ValueError") rfl))⟩
  have hWholeG : HasG P w K mg base "_law_whole" ["_law_found"] 6 (fun _ => True) spWhole := ⟨_, fd9, (He.glo_ok X G (d.fact 4 (f := .glo "_law_whole") rfl)), F9.kp, b9, ok_wholeG (k := 5) (funD_fun F9) TM.toTxtL⟩
  have hIsG : ∀ dd, HasG P w K mg base "_law_is" ["_law_e", "_law_word"] 6 (fun p => IsP p (He.ga K "BadMap") dd) (spIs dd) := fun dd => ⟨_, fd14, (He.glo_ok X G (d.fact 9 (f := .glo "_law_is") rfl)), F14.kp, b14, ok_isG (k := 5) (funD_fun F14) TI⟩
  have hWrong : Has P w K mg base "_law_wrong" ["_law_d", "_law_chart"] 6 (spWrong K) := ⟨_, fd15, (He.glo_ok X G (d.fact 10 (f := .glo "_law_wrong") rfl)), F15.kp, b15, ok_wrong (k := 5) (funD_fun F15) TM.toTxt0 (hNext 4)⟩
  have hRef : Has P w K mg base "_law_refused" ["_law_chart", "_law_at", "_law_why"] 7 (spRefused K) := ⟨_, fd16, (He.glo_ok X G (d.fact 11 (f := .glo "_law_refused") rfl)), F16.kp, b16, ok_refused (k := 5) (funD_fun F16) TM TB TI exmB hInitX hIsG hWholeG⟩
  exact ok_law (k := 9) (funD_fun F17) TM (hDice 9) (hNext 9) (hWide.up (by decide)) (hWrong.up (by decide)) (hRef.up (by decide)) ((hLike 2).up (by decide)) (hInit.up (by decide)) (hSize 9) (hBegin 9) (hRoads 9)
end Rc
open PySem PySem.W PySem.Calls PyProof.Rows
theorem PySem.Challenge.cw_rootcheap_k01_maps_refused_holds : PySem.Challenge.rw_rootcheap_k01_maps_refused.Holds := by
  w_on; o_law
  refine HandSHeadRun.head_any (r := OpenLaw.row PySem.Challenge.rw_rootcheap_k01_maps_refused) (q := view (OpenLaw.row PySem.Challenge.rw_rootcheap_k01_maps_refused).prog [24]) (H := Rc.hk) (ob := Rc.ob) (M := 6000) (loose := Rc.names) (d := HandSHeadRun.topDef (OpenLaw.row PySem.Challenge.rw_rootcheap_k01_maps_refused).prog 24) (kwd := []) Rc.ob_eq
    (by kernel_rfl) (fun s => by kernel_rfl) Rc.run (by kernel_rfl) (by kernel_rfl) (by kernel_rfl) (by rfl) (by first | assumption | decide +kernel) (by decide +kernel) ⟨rfl, rfl, rfl, rfl, rfl, by decide +kernel⟩ ?hw ?hc
  case hw => w_witness2
  case hc =>
    refine LamX.walk_ofTsE (l := PySem.Challenge.rw_rootcheap_k01_maps_refused) (n := 63) (k := 11) (x := "_law_script") (CX := fun _ => L2.CX0) rfl (by decide) (by kernel_rfl) ⟨rfl, by decide, by decide⟩ ?F (fun _ _ _ _ _ z => z)
    intro w mg fa h Y G hmg0
    obtain ⟨K, KX, c⟩ := Y
    have hmg : mg ("law" : PySem.Str) = some (.ref fa) := by
      have e : (HandSHeadRun.topDef (OpenLaw.row PySem.Challenge.rw_rootcheap_k01_maps_refused).prog 24).name = ("law" : PySem.Str) := by kernel_rfl
      rw [← e]
      exact hmg0
    obtain ⟨fd, hb, hF⟩ := Rc.facts (P := (PySem.Challenge.rw_rootcheap_k01_maps_refused).prog) (w := w) KX G hmg c
    have hmem : ∀ p ∈ Rc.tfL.map (He.cT K), ∃ x ∈ Rc.tfL, He.cT K x = p := fun p hp => List.mem_map.mp hp
    refine ⟨K, KX, fd, Rc.tfL.map (He.cT K), Rc.spLaw K, ?_, ?_, ?_, hb, ?_, ?_⟩
    · intro p hp
      obtain ⟨x, hx, rfl⟩ := hmem p hp
      exact (c.tabs x hx).2.2
    · intro p hp
      obtain ⟨x, hx, rfl⟩ := hmem p hp
      exact (c.tabs x hx).2.1
    · intro p hp
      obtain ⟨x, hx, rfl⟩ := hmem p hp
      exact PySem.W.codeHd_of_K KX (c.tabs x hx).1
    · intro H a ns hl _ hT hS
      exact ⟨a, ns, rfl, hS, fun _ => rfl⟩
    · intro base hK hG hTB
      exact hF base hK hG 
