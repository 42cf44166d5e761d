import PyProof.Rows.All
import Wide.All
import OpenK.AllK
import Wide.FinOn
import KE.KStateDown
import KE.KTupSum
import Lean
import HandS.ForMost
import HandS.Flow
import HandS.IsInst
import HandS.Style
import HandS.Strs
import HandS.SetFor
import HandS.TupAny
import HandS.TupMul
import HandS.Conv
import HandS.More
import HandS.Zip
import HandS.Walk
import HandS.Wide
import HandS.WordsExc
import HandS.Defaults
import HandS.Head0
import HandS.Head1
import HandS.Head2
import HandS.HeadEnd
import HandS.HeadHook1
import HandS.HeadHook2
import KE.KEqDeep
import PySem.Challenge.RW_anyspan_k01_rules_and_rows
set_option Elab.async false
set_option linter.all false
set_option maxRecDepth 100000
set_option maxHeartbeats 0
namespace XR
open PySem PySem.Spec PyProof.Rows L2
section
variable {X : Cx}
/-- one rule or another, as the values want it -/
theorem opOr {f : Value → Value → Sem Value} {r q : R2} (a : OpR X f r) (b : OpR X f q) : OpR X f (fun x y H Q => r x y H Q ∨ q x y H Q) :=
  fun pins s σ H x y v u Q I rx ry h => h.elim (fun z => a pins s σ H x y v u Q I rx ry z) (fun z => b pins s σ H x y v u Q I rx ry z)
theorem callOr {f : Value} {r q : List V → Hp → VK → Prop} (a : CallR X f r) (b : CallR X f q) : CallR X f (fun xs H Q => r xs H Q ∨ q xs H Q) :=
  fun pins s σ H xs us Q I rx h => h.elim (fun z => a pins s σ H xs us Q I rx z) (fun z => b pins s σ H xs us Q I rx z)
/-- sum of a tuple of ints -/
def rSumT (K : PySem.W.Frag) : List V → Hp → VK → Prop := fun vs H Q => ∃ (t : Addr) (ks : List Int), vs = [V.ref t] ∧ SqT K H t (ks.map V.int) ∧ Q (.int ks.sum) H
theorem cr_sumT (hc : X.calm = true) : CallR X (.builtin "sum") (rSumT X.K) := by
  intro pins s σ H vs us Q I r h
  obtain ⟨t, ks, rfl, hs, q⟩ := h
  obtain ⟨its, rv, ht, _⟩ := I.tuple hs
  rw [Vals.ref1 r]
  have hi := rv.ints
  obtain ⟨xs, e⟩ := hi.allInts.items
  have hk : numsOf (intItems xs).toList = ks := by
    rw [← e]
    exact hi.numsOf
  rw [nums_intItems] at hk
  have ht2 : s.heap.IsTuple t (intItems xs) := by
    rw [← e]
    exact ht
  refine PySem.W.ktm_sumG (I.ok.hd hc) ht2 fun h' tk t' kp => ?_
  rw [preSum_eq, List.take_of_length_le (by simp), hk]
  exact ⟨.int _, H, I.kept kp, ⟨_, rfl⟩, q⟩
/-- True + 1, True - 1 -/
def rBI (g : Bool → Int → V) : R2 := fun x y H Q => ∃ (a : Bool) (j : Int), x = .bl a ∧ y = .int j ∧ Q (g a j) H
theorem op_addBI : OpR X (binaryOp .Add) (rBI fun a j => .int ((if a = true then (1 : Int) else 0) + j)) := by
  intro pins s σ H x y v u Q I rx ry h
  obtain ⟨a, j, rfl, rfl, q⟩ := h
  cases rx
  obtain ⟨t, rfl⟩ := ry
  exact PySem.IntBool.add_bool_int ⟨.int _, H, I.tok _, ⟨_, rfl⟩, q⟩
theorem op_subBI : OpR X (binaryOp .Sub) (rBI fun a j => .int ((if a = true then (1 : Int) else 0) - j)) := by
  intro pins s σ H x y v u Q I rx ry h
  obtain ⟨a, j, rfl, rfl, q⟩ := h
  cases rx
  obtain ⟨t, rfl⟩ := ry
  exact PySem.IntBool.sub_bool_int ⟨.int _, H, I.tok _, ⟨_, rfl⟩, q⟩
theorem call_str_bl : CallR X (.type "str") (fun xs H Q => ∃ b : Bool, xs = [.bl b] ∧ Q (.str (if b then "True" else "False")) H) := by
  intro pins s σ H xs us Q I r h
  obtain ⟨b, rfl, q⟩ := h
  obtain ⟨u, rfl, r1⟩ := vals1 r
  cases r1
  exact PySem.P.str_of_bool ⟨.str _, H, I.tok _, ⟨_, rfl⟩, q⟩
end
section
variable {X : Cx} {a b c d : Expr} {ta tb tc td : TE} {pos : Pos}
/-- a op1 b op2 c op3 d -/
def tChain3 (r r' r'' : R2) (ta tb tc td : TE) : TE := fun σ H Q => ta σ H fun x H1 => tb σ H1 fun y H2 => r x y H2 fun z H3 => ∃ k, z = .bl k ∧
  (if k = true then tc σ H3 fun y2 H4 => r' y y2 H4 fun z2 H5 => ∃ k2, z2 = .bl k2 ∧ (if k2 = true then td σ H5 fun y3 H6 => r'' y2 y3 H6 Q else Q (.bl false) H5) else Q (.bl false) H3)
theorem pe_chain3 {o1 o2 o3 : CmpOp} {r r' r'' : R2} (h1 : OpR X (compareOp o1) r) (h2 : OpR X (compareOp o2) r') (h3 : OpR X (compareOp o3) r'') (ha : PE X a ta) (hb : PE X b tb) (hc : PE X c tc) (hd : PE X d td)
    (hm : lastMarks [o1, o2, o3] [b, c, d] = false := by with_unfolding_all rfl) : PE X (.Compare a [o1, o2, o3] [b, c, d] pos) (tChain3 r r' r'' ta tb tc td) := by
  refine ⟨fun pins s σ H Q I h => Compare_chain (thn (ha.run pins s σ H _ I h) ?_) hm⟩
  rintro v s1 ⟨x, H1, I1, r1, q1⟩
  refine chain_link (thn (hb.run pins s1 σ H1 _ I1 q1) ?_)
  rintro u s2 ⟨y, H2, I2, r2, q2⟩
  refine thn (h1 pins s2 σ H2 x y v u _ I2 r1 r2 q2) ?_
  rintro g s3 ⟨z, H3, I3, r3, k, rfl, q3⟩
  cases r3
  refine wpAny_truthy_bool ?_
  cases k with
  | false => exact ite_ff ⟨.bl false, H3, I3, rfl, q3⟩
  | true =>
    refine ite_tt (chain_link (thn (hc.run pins s3 σ H3 _ I3 q3) ?_))
    rintro u2 s4 ⟨y2, H4, I4, r4, q4⟩
    refine thn (h2 pins s4 σ H4 y y2 u u2 _ I4 r2 r4 q4) ?_
    rintro g2 s5 ⟨z2, H5, I5, r5, k2, rfl, q5⟩
    cases r5
    refine wpAny_truthy_bool ?_
    cases k2 with
    | false => exact ite_ff ⟨.bl false, H5, I5, rfl, q5⟩
    | true =>
      refine ite_tt (chain_last (thn (hd.run pins s5 σ H5 _ I5 q5) ?_))
      rintro u3 s6 ⟨y3, H6, I6, r6, q6⟩
      exact h3 pins s6 σ H6 y2 y3 u2 u3 Q I6 r4 r6 q6
theorem pt_chain3 {o1 o2 o3 : CmpOp} {r r' r'' : R2} (h1 : OpR X (compareOp o1) r) (h2 : OpR X (compareOp o2) r') (h3 : OpR X (compareOp o3) r'') (ha : PE X a ta) (hb : PE X b tb) (hc : PE X c tc) (hd : PE X d td)
    (hm : lastMarks [o1, o2, o3] [b, c, d] = false := by with_unfolding_all rfl) : PT X (.Compare a [o1, o2, o3] [b, c, d] pos) (tTest (tChain3 r r' r'' ta tb tc td)) := by
  refine ⟨fun pins s σ H Q I h => isTrue_chain (thn (ha.run pins s σ H _ I h) ?_) hm⟩
  rintro v s1 ⟨x, H1, I1, r1, q1⟩
  refine test_link (thn (hb.run pins s1 σ H1 _ I1 q1) ?_)
  rintro u s2 ⟨y, H2, I2, r2, q2⟩
  refine thn (h1 pins s2 σ H2 x y v u _ I2 r1 r2 q2) ?_
  rintro g s3 ⟨z, H3, I3, r3, k, rfl, q3⟩
  cases r3
  refine wpAny_truthy_bool ?_
  cases k with
  | false =>
    obtain ⟨k', e', q'⟩ := q3
    cases e'
    exact ite_ff ⟨H3, I3, q'⟩
  | true =>
    refine ite_tt (test_link (thn (hc.run pins s3 σ H3 _ I3 q3) ?_))
    rintro u2 s4 ⟨y2, H4, I4, r4, q4⟩
    refine thn (h2 pins s4 σ H4 y y2 u u2 _ I4 r2 r4 q4) ?_
    rintro g2 s5 ⟨z2, H5, I5, r5, k2, rfl, q5⟩
    cases r5
    refine wpAny_truthy_bool ?_
    cases k2 with
    | false =>
      obtain ⟨k', e', q'⟩ := q5
      cases e'
      exact ite_ff ⟨H5, I5, q'⟩
    | true =>
      refine ite_tt (test_last (thn (hd.run pins s5 σ H5 _ I5 q5) ?_))
      rintro u3 s6 ⟨y3, H6, I6, r6, q6⟩
      refine thn (h3 pins s6 σ H6 y2 y3 u2 u3 _ I6 r4 r6 q6) ?_
      rintro g3 s7 ⟨z3, H7, I7, r7, k3, rfl, q7⟩
      cases r7
      exact wpAny_truthy_bool ⟨H7, I7, q7⟩
end
end XR
namespace XR
open PySem PySem.Spec PyProof.Rows L2 HT
section
variable {prog : Program} {w : World} {A : Around} {E : Value → Shared → Prop} {s : Shared}
theorem rev_adjust (n : Nat) : Builtin.Slice.sliceAdjust none none (-1) (n : Int) = ((n : Int) - 1, -1) := by
  delta Builtin.Slice.sliceAdjust
  rfl
theorem rev_places (n : Nat) : Builtin.Slice.slicePlaces ((n : Int) - 1) (-1) (-1) = n := by
  delta Builtin.Slice.slicePlaces
  by_cases h : -1 < (n : Int) - 1
  · simp <;> omega
  · simp <;> omega
theorem rev_pick (xs : Array Value) : ((List.range xs.size).filterMap fun (m : Nat) => xs[(((xs.size : Int) - 1) + (m : Int) * (-1)).toNat]?) = xs.toList.reverse := by
  have e1 : ((List.range xs.size).filterMap fun (m : Nat) => xs[(((xs.size : Int) - 1) + (m : Int) * (-1)).toNat]?) = (((List.range xs.size).map fun k => xs.size - 1 - k).filterMap (xs[·]?)) := by
    rw [List.filterMap_map]
    refine congrArg (fun g => List.filterMap g (List.range xs.size)) (funext fun m => ?_)
    show xs[(((xs.size : Int) - 1) + (m : Int) * (-1)).toNat]? = xs[xs.size - 1 - m]?
    rw [show (((xs.size : Int) - 1) + (m : Int) * (-1)).toNat = xs.size - 1 - m by omega]
  rw [e1, PySem.W.krv_range, List.filterMap_reverse, PySem.W.krv_all]
theorem getItem_tuple_rev {tq sl : Addr} {items : Array Value} {vl vu vs : Value} {Q : Value → Shared → Prop} (ht : IsTup s.heap tq items) (hs : s.heap.IsSliceOf sl vl vu vs) (pl1 : IsPart vl none) (pu1 : IsPart vu none) (ps : IsPart vs (some (-1)))
    (h : Q (.ref s.heap.objs.size) { s with heap := s.heap.push { cls := .type "tuple", data := .seq items.toList.reverse.toArray } }) (hz : items.size ≤ sizeLine) : wpAny (model prog w) A (getItem (.ref tq) (.ref sl)) Q E s := by
  have hok : sizeOk (.seq items.toList.reverse.toArray) := by
    show items.toList.reverse.toArray.size ≤ sizeLine
    simpa using hz
  obtain ⟨os, ho, hc, hd⟩ := id hs
  have hT : s.TypeIs (.ref sl) "slice" := ⟨os, ho, hc⟩
  unfold getItem
  try (with_reducible refine wpAny_holding ?_)
  first | (refine wpAny_bind (wpAny_pure ?_)) | skip
  refine wpAny_bind (wpAny_sequenceKey ht.typeIs (by decide) (wpAny_bind (wpAny_callSpecial?_slot (name := Str.ofString "__getitem__") ht.typeIs PyProof.Rows.slot_tuple_getitem
    (wpAny_call_entry PyProof.Rows.slot_tuple_getitem ht.typeIs entry_tuple_getitem ?_ (args_tuple_getitem _ _)))))
  show wpAny _ _ (Builtin.Tuple.tupleItemsOf (.ref tq) >>= _) _ _ s
  refine wpAny_bind (tupleItemsOf_ ht (wpAny_bind (wpAny_typeOf hT ?_)))
  rw [if_pos (by decide)]
  have hap : ∀ {Q2 : Int × Int × Nat → Shared → Prop}, Q2 ((items.size : Int) - 1, -1, items.size) s → wpAny (model prog w) A.in1 (Builtin.Slice.sliceApplied (.ref sl) (pure (items.size : Int))) Q2 E s := by
    intro Q2 q2
    unfold Builtin.Slice.sliceApplied Builtin.Slice.sliceFields
    refine wpAny_bind (wpAny_bind (wpAny_field ho hd (x := vl) rfl (wpAny_bind (wpAny_field ho hd (x := vu) rfl (wpAny_bind (wpAny_field ho hd (x := vs) rfl (wpAny_pure ?_)))))))
    refine wpAny_bind (slicePart_ ps ?_)
    show wpAny _ _ (if ((-1 : Int) == 0) = true then _ else _) _ _ s
    rw [if_neg (by decide)]
    refine wpAny_bind (slicePart_ pl1 (wpAny_bind (slicePart_ pu1 (wpAny_bind (wpAny_pure ?_)))))
    show wpAny _ _ (match Builtin.Slice.sliceAdjust none none (-1) (items.size : Int) with | (x, y) => pure (x, (-1 : Int), Builtin.Slice.slicePlaces x y (-1))) _ _ s
    rw [rev_adjust]
    show wpAny _ _ (pure ((items.size : Int) - 1, (-1 : Int), Builtin.Slice.slicePlaces ((items.size : Int) - 1) (-1) (-1))) _ _ s
    rw [rev_places]
    exact wpAny_pure q2
  refine wpAny_bind (hap ?_)
  have hno : ¬ ((((items.size : Int) - 1) == 0 && (-1 : Int) == 1 && items.size == items.size) = true) := by
    rw [show ((-1 : Int) == 1) = false from rfl, Bool.and_false, Bool.false_and]
    exact Bool.false_ne_true
  show wpAny _ _ (if (((items.size : Int) - 1) == 0 && (-1 : Int) == 1 && items.size == items.size) = true then _ else _) _ _ s
  rw [if_neg hno, rev_pick]
  first
    | exact wpAny_bind (m := Builtin.Tuple.tupleExact _) (wpAny_newObj_type (wpAny_pure ⟨_, rfl, wpAny_pure h⟩) hok)
    | exact wpAny_bind (m := Builtin.Tuple.tupleExact _) (wpAny_newObj_type (wpAny_bind (wpAny_pure (wpAny_pure ⟨_, rfl, wpAny_pure h⟩))) hok)
    | exact wpAny_bind (wpAny_bind (m := Builtin.Tuple.tupleExact _) (wpAny_newObj_type (wpAny_pure (wpAny_pure ⟨_, rfl, wpAny_pure h⟩)) hok))
    | exact wpAny_bind (wpAny_bind (m := Builtin.Tuple.tupleExact _) (wpAny_newObj_type (wpAny_pure ⟨_, rfl, wpAny_pure h⟩) hok))
end
section
variable {X : Cx}
/-- x[::-1], x a tuple or a list -/
def tRev2 (K : PySem.W.Frag) (te : TE) : TE := fun σ H Q => te σ H fun x H1 => ∃ a xs, x = .ref a ∧ ((SqL K H1 a xs ∧ ∀ p, H1 p = none → Q (.ref p) (upd H1 p (.lst xs.reverse))) ∨ (SqT K H1 a xs ∧ ∀ p, H1 p = none → Q (.ref p) (upd H1 p (.tup xs.reverse))))
theorem pe_rev2 {e : Expr} {te : TE} {k : Nat} {p1 p2 p3 pos : Pos} (he : PE X e te) : PE X (.Subscript e (.Slice none none (some (.UnaryOp .USub (.Constant (.int 1) k p1) p2)) p3) pos) (tRev2 X.K te) := by
  refine ⟨fun pins s σ H Q I h => Subscript_ (thn (he.run pins s σ H _ I h) ?_)⟩
  rintro v s1 ⟨x, H1, I1, r1, a, xs, rfl, q⟩
  cases r1
  have hneg : PO X (some (.UnaryOp .USub (.Constant (.int 1) k p1) p2)) (tPart (tUn (rU fun i => .int (-i)) (tC (.int 1)))) := po_some (pe_un un_neg pe_int)
  refine wpAny_Slice (thn (po_none.run pins s1 σ H1 (fun o G => o = none ∧ G = H1) I1 ⟨rfl, rfl⟩) ?_)
  rintro vl s2 ⟨_, _, I2, pl, rfl, rfl⟩
  refine thn (po_none.run pins s2 σ _ (fun o G => o = none ∧ G = _) I2 ⟨rfl, rfl⟩) ?_
  rintro vu s3 ⟨_, _, I3, pu, rfl, rfl⟩
  refine thn (hneg.run pins s3 σ _ (fun o G => o = some (-1) ∧ G = _) I3 ⟨1, rfl, -1, rfl, rfl, rfl⟩) ?_
  rintro vs t4 ⟨_, H4, I4, ps, rfl, rfl⟩
  have J5 : Inv X pins σ H4 { t4 with heap := t4.heap.push { cls := .type "slice", data := .fields #[vl, vu, vs] } } := I4.kept (t' := t4.toks) fun _ _ z => Heap.get?_push_of_some _ z
  show wpAny (model X.prog X.w) X.A (subscriptTail e (.Slice none none (some (.UnaryOp .USub (.Constant (.int 1) k p1) p2)) p3) (.ref a) (.ref t4.heap.objs.size)) (EP X pins σ Q) X.xe _
  rcases q with ⟨hx, q⟩ | ⟨hx, q⟩
  · obtain ⟨its, r, hq, hz⟩ := J5.list hx
    have hl := r.length
    refine tail_any (ops := [.ref a, .ref t4.heap.objs.size]) hq.isList.typeIs (PySem.slot_list_getitem.lookup) ?_ (by with_unfolding_all rfl)
    refine wpAny_getItem_list_slice hq.isList (Heap.IsSliceOf.new _ vl vu vs) pl pu ps (by decide) ?_ (by rw [List.size_toArray]; omega)
    rw [PySem.W.krv_pick]
    refine ⟨.ref _, _, J5.laid (t' := t4.toks) (o := .lst xs.reverse) (fun _ _ z => Heap.get?_push_of_some _ z) (Nat.le_refl _) ?_, rfl, q _ (J5.hok.fresh (Nat.le_refl _))⟩
    exact ⟨by simpa using hz, _, 0, r.reverse, Heap.get?_push_size _ rfl⟩
  · obtain ⟨its, r, hq, hz⟩ := J5.tuple hx
    have hl := r.length
    refine tail_any (ops := [.ref a, .ref t4.heap.objs.size]) hq.typeIs (PyProof.Rows.slot_tuple_getitem.lookup) ?_ (by with_unfolding_all rfl)
    refine getItem_tuple_rev hq (Heap.IsSliceOf.new _ vl vu vs) pl pu ps ?_ (by rw [List.size_toArray]; omega)
    refine ⟨.ref _, _, J5.laid (t' := t4.toks) (o := .tup xs.reverse) (fun _ _ z => Heap.get?_push_of_some _ z) (Nat.le_refl _) ?_, rfl, q _ (J5.hok.fresh (Nat.le_refl _))⟩
    exact ⟨by rw [List.length_reverse]; exact hz, its.reverse, r.reverse, _, Heap.get?_push_size _ rfl, rfl, 0, rfl⟩
end
end XR
namespace XR
open PySem PySem.Spec PyProof.Rows L2 HT
open PySem.Calls PySem
section
variable {P : Program} {w : World} {A : Around} {E : Value → Shared → Prop} {s : Shared}
/-- an empty set, as the model lays it -/
abbrev nSet (w : World) : Obj := { cls := .type "set", dict := none, data := .set #[] 0 (.fresh 0 0 (!w.params.followText "set-order")) }
abbrev setDone (w : World) (s : Shared) (ns : List Int) (s2 : Shared) : Prop := ∃ h' tk c, s2 = { s with heap := h', toks := tk } ∧ SetR w h' s.heap.objs.size (fun j => decide (j ∈ ns)) c ∧ c ≤ ns.length ∧ ∀ b o, s.heap.get? b = some o → h'.get? b = some o
/-- set(l), l a list of ints -/
theorem call_set_lst {l : Addr} {its : Array Value} (ns : List Int) {Q : Value → Shared → Prop} (hh : A.handled = none) (hl : s.heap.IsList l its) (hit : IntsAre its.toList ns) (hb : ns.length + 1 < scanBound)
    (h : ∀ s2, setDone w s ns s2 → Q (.ref s.heap.objs.size) s2) : wpAny (model P w) A (call (.type "set") [.ref l]) Q E s := by
  have hn : its.size = ns.length := by
    rw [← Array.length_toList]
    exact IntsAre.length hit
  obtain ⟨c0, tl, hm0⟩ := F.called_set.mro
  have m1 := F.called_set.made
  have m2 := F.called_set.sub
  refine wpAny_call (codeAny_of_tree (show wpAny _ _ (callAny (.type "set") _) _ _ _ from wpAny_pure (And.intro (Code.quiet_builtin _ (by decide +kernel)) (codeAny_builtin F.entry_type_call ?_))))
  rewrite [Around.under_plain (weight_type_call_type "set" [.ref l] []) rfl]
  have m3 := F.called_set.notType
  have m4 := F.called_set.canCreate
  have m5 := F.typeCall_set_1 (.ref l)
  repeat (any_goals (first | (assumption) | (wp_step)))
  refine codeAny_mono (code_set_led1 (.ref l) (E := E) (Q₁ := fun ob s1 => ob = .ref s.heap.objs.size ∧ s1 = { s with heap := s.heap.push (nSet w) }) ⟨rfl, rfl⟩) ?_
  intro r s1 hr
  cases r with
  | error e => exact hr
  | ok fl =>
    cases fl with
    | ret ob =>
      obtain ⟨rfl, rfl⟩ := hr
      have gS : (s.heap.push (nSet w)).get? s.heap.objs.size = some (nSet w) := Heap.get?_push_size _ rfl
      have tS : Shared.TypeIs { s with heap := s.heap.push (nSet w) } (.ref s.heap.objs.size) "set" := ⟨_, gS, rfl⟩
      have m6 := F.called_set.init.lookup
      have m7 := F.called_set.init.bind (.ref s.heap.objs.size)
      repeat (any_goals (first | (assumption) | (wp_step)))
      refine codeAny_mono (codeAny_call_builtin (R := wants (fun r s2 => r = .none ∧ setDone w s ns s2) E) F.called_set.init.plain F.entry_set_init (check_set_init_1 tS ?_)) ?_
      · obtain ⟨⟨ocls, odict, odata, oslots⟩, ho, hc, nl, hd⟩ := hl
        simp only at hc hd
        subst hc hd
        have ho2 : (s.heap.push (nSet w)).get? l = some { cls := .type "list", dict := odict, data := .seq its nl, slots := oslots } := Heap.get?_push_of_some _ ho
        have m8 := F.sub_list_set
        have m9 := F.sub_list_frozenset
        have m10 : (Value.type "list" == Value.type "dict") = false := by decide
        have hl2 : (s.heap.push (nSet w)).IsList l its := ⟨_, ho2, rfl, nl, rfl⟩
        unfold Builtin.«set.__init__»
        unfold noKeywords Builtin.Frozenset.updateFrom
        generalize hPI : pyIter = PI
        wp_walk
        subst hPI
        refine wpAny_pyIter_list hl2 (wpAny_bind (wpAny_runValue ?_))
        have lt : l < s.heap.objs.size := Heap.lt_size ho
        have h3 : A.in1.in1.in1.handled = none := by simp [hh]
        have ne : l ≠ (s.heap.push (nSet w)).objs.size := by
          rw [Heap.size_push]
          exact Nat.ne_of_lt (Nat.lt_succ_of_lt lt)
        have nf : s.heap.objs.size ∉ [(s.heap.push (nSet w)).objs.size, l] := by
          rw [Heap.size_push]
          simp only [List.mem_cons, List.not_mem_nil, or_false, not_or]
          exact ⟨Nat.ne_of_lt (Nat.lt_succ_self _), Nat.ne_of_gt lt⟩
        have hv : ∀ (i : Nat) (v : Value), its[i]? = some v → ∃ k t, ns[i]? = some k ∧ v = .int k t := fun i v e => by
          have hi : i < ns.length := hn ▸ (Array.getElem?_eq_some_iff.mp e).1
          obtain ⟨t, z⟩ := PyProof.Rows.IntsAre.int_at hit i v (by rw [Array.getElem?_toList]; exact e)
          exact ⟨ns[i], t, List.getElem?_eq_getElem hi, by rw [z, List.getD_eq_getElem?_getD, List.getElem?_eq_getElem hi]; rfl⟩
        refine set_update_ints ((Walks.list h3 _ l ne its).toS) s.heap.objs.size nf ns hn hb hv (its.size - 0) 0 _ (by omega) (Nat.zero_le _) ⟨⟨_, Heap.get?_push_size _ rfl, rfl, rfl⟩, hl2.push _⟩ ⟨0, Nat.le_refl 0, setR_new_at (Heap.get?_push_of_some _ gS)⟩ ?_
        intro s' c' hm hc' hS
        obtain ⟨h', g2, d2, tk2, os2⟩ := s'
        obtain rfl : g2 = s.gens := hm.gens
        obtain rfl : d2 = s.drawn := hm.drawn
        obtain rfl : os2 = s.os := hm.os
        show wpAny _ _ _ _ _ _
        refine wpAny_pure ?_
        show wpAny _ _ (ret (Value.none)) _ _ _
        refine wpAny_pure ⟨rfl, h', tk2, c', rfl, hS, hn ▸ hc', fun b o e => ?_⟩
        have b0 : b < s.heap.objs.size := Heap.lt_size e
        have b2 : b ≠ (s.heap.push (nSet w)).objs.size := by
          rw [Heap.size_push]
          exact Nat.ne_of_lt (Nat.lt_succ_of_lt b0)
        refine hm.heap b o ?_ (Heap.get?_push_of_some _ (Heap.get?_push_of_some _ e))
        simp only [List.mem_cons, List.not_mem_nil, or_false, not_or]
        exact ⟨Nat.ne_of_lt b0, b2⟩
      · intro r2 s2 hr2
        cases r2 with
        | error e => exact hr2
        | ok f2 =>
          cases f2 with
          | ret r =>
            obtain ⟨rfl, hq⟩ := hr2
            repeat (any_goals (first | (assumption) | (wp_step)))
            exact h _ hq
          | _ => exact hr2.elim
    | _ => exact hr.elim
end
section
variable {X : Cx}
def rSetL (K : PySem.W.Frag) (w : World) : List V → Hp → VK → Prop := fun xs H Q => ∃ (l : Addr) (ns : List Int), xs = [V.ref l] ∧ SqL K H l (ns.map V.int) ∧ ns.length ≤ 60 ∧
  ∀ p c, H p = none → c ≤ ns.length → Q (.ref p) (upd H p (SetO w p (fun j => decide (j ∈ ns)) c))
theorem cr_setL (hc : X.calm = true) : CallR X (.type "set") (rSetL X.K X.w) := by
  intro pins s σ H xs us Q I r h
  obtain ⟨l, ns, rfl, hs, hl, q⟩ := h
  obtain ⟨its, rv, hp, _⟩ := I.list hs
  rw [Vals.ref1 r]
  refine call_set_lst ns (I.ok.hd hc) hp.isList (by simpa using rv.ints) (by unfold scanBound; omega) ?_
  rintro _ ⟨h', tk, c, rfl, R, hcn, kp⟩
  exact ⟨.ref _, _, I.laid (t' := tk) kp (Nat.le_refl _) (setO_new R), rfl, q _ c (I.hok.fresh (Nat.le_refl _)) hcn⟩
end
end XR
namespace XR
open PySem PySem.Spec PyProof.Rows L2 HT
section
variable {X : Cx}
/-- l + m, lists that can be read -/
def rCatL (K : PySem.W.Frag) : R2 := fun x y H Q => ∃ l b xs zs, x = .ref l ∧ y = .ref b ∧ SqL K H l xs ∧ SqL K H b zs ∧ xs.length + zs.length ≤ sizeLine ∧ ∀ p, H p = none → Q (.ref p) (upd H p (.lst (xs ++ zs)))
theorem op_catL : OpR X (binaryOp .Add) (rCatL X.K) := by
  intro pins s σ H x y v u Q I rx ry h
  obtain ⟨l, b, xs, zs, rfl, rfl, h1, h2, hz, q⟩ := h
  cases rx
  cases ry
  obtain ⟨its, r, ⟨o, n, e, hc, hd0, hd⟩, _⟩ := I.list h1
  obtain ⟨its2, r2, ⟨o2, n2, e2, hc2, hd02, hd2⟩, _⟩ := I.list h2
  have l1 := r.length
  have l2 := r2.length
  obtain ⟨c1, d1, t1, s1⟩ := o
  obtain ⟨c2, d2, t2, s2⟩ := o2
  simp only at hc hd0 hd hc2 hd02 hd2
  subst hc hd0 hd hc2 hd02 hd2
  have ej : (its ++ its2).toArray = its.toArray ++ its2.toArray := by simp
  refine concat_meets ⟨_, e, rfl⟩ ⟨_, e2, rfl⟩ noFill_list_add seq_list_add PySem.F.slot_list_add PySem.F.entry_list_add (PySem.F.args_list_add_2 _ _) (list_addW l b its.toArray its2.toArray n n2 _ _ s1 s2 (by rw [List.size_toArray, List.size_toArray]; omega)) ⟨e, e2, ?_⟩
  rw [← ej]
  exact ⟨.ref _, _, I.lnew (t' := s.toks) (r.append r2) (by simp only [List.length_append]; omega), rfl, q _ I.fresh⟩
/-- l == [] -/
def rEq0 (K : PySem.W.Frag) (neg : Bool) : R2 := fun x y H Q => ∃ l b xs, x = .ref l ∧ y = .ref b ∧ SqL K H l xs ∧ SqL K H b [] ∧ Q (.bl (if neg then !xs.isEmpty else xs.isEmpty)) H
theorem op_eq0 (hu : X.A.units + 64 < cLine) : OpR X (compareOp .Eq) (rEq0 X.K false) := by
  intro pins s σ H x y v u Q I rx ry h
  obtain ⟨l, b, xs, rfl, rfl, h1, h2, q⟩ := h
  cases rx
  cases ry
  obtain ⟨its, r, p1, _⟩ := I.list h1
  obtain ⟨its2, r2, p2, _⟩ := I.list h2
  cases r2
  cases r with
  | nil => exact SeqAt.eq_listAt (e := fun _ => true) p1.isList p2.isList rfl (by omega) (fun j h => absurd h (by simp)) ⟨.bl true, H, I, rfl, q⟩
  | cons a b => exact SeqAt.eq_list_lengthsAt p1.isList p2.isList (by simp) (by omega) ⟨.bl false, H, I, rfl, q⟩
theorem op_ne0 (hu : X.A.units + 64 < cLine) : OpR X (compareOp .NotEq) (rEq0 X.K true) := by
  intro pins s σ H x y v u Q I rx ry h
  obtain ⟨l, b, xs, rfl, rfl, h1, h2, q⟩ := h
  cases rx
  cases ry
  obtain ⟨its, r, p1, _⟩ := I.list h1
  obtain ⟨its2, r2, p2, _⟩ := I.list h2
  cases r2
  cases r with
  | nil => exact SeqAt.RcNeAt.lists (e := fun _ => true) p1.isList p2.isList rfl (by omega) (fun j h => absurd h (by simp)) X.prog X.w X.xe _ ⟨.bl false, H, I, rfl, q⟩
  | cons a b => exact SeqAt.RcNeAt.lists_lengths p1.isList p2.isList (by simp) (by omega) X.prog X.w X.xe _ ⟨.bl true, H, I, rfl, q⟩
end
end XR
namespace K01
open PySem PySem.Spec PyProof.Rows L2 XR
def top (i : Nat) : Stmt := PySem.Challenge.pw_anyspan_k01_rules_and_rows.main.body.getD i (.Pass ⟨0, 0, 0, 0⟩)
abbrev sIsWhole : Stmt := top 8
abbrev sIsRule : Stmt := top 9
abbrev sAreRules : Stmt := top 10
abbrev sIsPlace : Stmt := top 11
abbrev sIsRow : Stmt := top 12
abbrev sMustBeRules : Stmt := top 13
abbrev sMustBeRow : Stmt := top 14
abbrev sStretchKeeps : Stmt := top 15
abbrev sRowKeeps : Stmt := top 16
abbrev sKeeps : Stmt := top 17
abbrev sLawDeck : Stmt := top 19
abbrev sLawPick : Stmt := top 20
abbrev sLawWhole : Stmt := top 21
abbrev sLawOne : Stmt := top 22
abbrev sLawSort : Stmt := top 23
abbrev sLawSame : Stmt := top 24
abbrev sLawOdd : Stmt := top 25
abbrev sLawSpoilt : Stmt := top 26
abbrev sLawRules : Stmt := top 27
abbrev sLawKeeps : Stmt := top 28
abbrev sLawFits : Stmt := top 29
abbrev sLawWalk : Stmt := top 30
abbrev sLawAreRules : Stmt := top 31
abbrev sLawIsRow : Stmt := top 32
abbrev sLaw : Stmt := top 33
/-! ### heaps -/
theorem same_new {H : Hp} {p : Addr} {o : HO} (h : H p = none) : Same H (upd H p o) := fun b x e => by
  rw [upd_ne (ne_of_none e h)]
  exact e
theorem Same.tup {K : PySem.W.Frag} {H H' : Hp} {a : Addr} {xs : List V} (e : Same H H') (h : SqT K H a xs) : SqT K H' a xs := by
  rcases h with (h | ⟨o, h⟩) | h
  · exact .inl (.inl (e _ _ h))
  · exact .inl (.inr ⟨o, e _ _ h⟩)
  · exact .inr h
mutual
theorem dp_same {K : PySem.W.Frag} {H H' : Hp} (s : Same H H') : ∀ (d : PyData) (v : V), Dp K H v d → Dp K H' v d
  | .none, _, .non => .non
  | .bool b, _, .bl _ => .bl b
  | .int i, _, .int _ => .int i
  | .str x, _, .str _ => .str x
  | .list ds, _, .lst h a => .lst (s.seq h) (dpa_same s ds _ a)
  | .tuple ds, _, .tup h a => .tup (Same.tup s h) (dpa_same s ds _ a)
theorem dpa_same {K : PySem.W.Frag} {H H' : Hp} (s : Same H H') : ∀ (ds : List PyData) (vs : List V), DpAll K H vs ds → DpAll K H' vs ds
  | [], _, .nil => .nil
  | d :: ds, _, .cons a b => .cons (dp_same s d _ a) (dpa_same s ds _ b)
end
theorem dpa_len {K : PySem.W.Frag} {H : Hp} : ∀ {vs : List V} {ds : List PyData}, DpAll K H vs ds → vs.length = ds.length
  | _, _, .nil => rfl
  | _, _, .cons _ b => by rw [List.length_cons, List.length_cons, dpa_len b]
theorem dpa_get {K : PySem.W.Frag} {H : Hp} : ∀ {vs : List V} {ds : List PyData} {i : Nat} {v : V}, DpAll K H vs ds → vs[i]? = some v → ∃ d, ds[i]? = some d ∧ Dp K H v d
  | _, _, _, _, .nil, e => by simp at e
  | _, _, 0, _, .cons a _, e => by
    cases Option.some.inj e
    exact ⟨_, rfl, a⟩
  | _, _, i + 1, _, .cons _ b, e => dpa_get (i := i) b e
theorem dpa_append {K : PySem.W.Frag} {H : Hp} : ∀ {vs us : List V} {ds es : List PyData}, DpAll K H vs ds → DpAll K H us es → DpAll K H (vs ++ us) (ds ++ es)
  | _, _, _, _, .nil, h => h
  | _, _, _, _, .cons a b, h => .cons a (dpa_append b h)
theorem dpa_ints {K : PySem.W.Frag} {H : Hp} : ∀ (ns : List Int), DpAll K H (ns.map V.int) (ns.map PyData.int)
  | [] => .nil
  | n :: r => .cons (.int n) (dpa_ints r)
/-- the types' names of data -/
def tn : PyData → String
  | .none => "NoneType"
  | .bool _ => "bool"
  | .int _ => "int"
  | .str _ => "str"
  | .list _ => "list"
  | .tuple _ => "tuple"
  | .dict _ => "dict"
theorem dp_ty {K : PySem.W.Frag} {H : Hp} {v : V} {d : PyData} (h : Dp K H v d) : TyX K H v (.type (tn d)) := by
  cases h with
  | non => exact .base .non
  | bl b => exact .base (.bl b)
  | int i => exact .base (.int i)
  | str x => exact .base (.str x)
  | lst h _ =>
    rcases h with (h | ⟨o, h⟩) | h
    · exact .base (.lst h)
    · exact .base (.frz h)
    · obtain ⟨_, _, _, a1, a2, _⟩ := h
      exact .kList a1 a2
  | tup h _ =>
    rcases h with (h | ⟨o, h⟩) | h
    · exact .base (.tup h)
    · exact .fTuple h
    · obtain ⟨_, _, _, a1, a2, _⟩ := h
      exact .kTuple a1 a2
/-! ### defs and callees -/
def Df (K : PySem.W.Frag) (mg : Str → Option Value) (x : Str) (st : Stmt) : Prop := ∃ f fd, FunD K x x (defArgs st) (defBody st) (defScope st) [] [] f fd ∧ mg x = some (.ref f)
def Cal (P : Program) (w : World) (K : PySem.W.Frag) (mg : Str → Option Value) (base : Heap) (x : Str) (k : Nat) (ps : List Str) (sp : Sp) : Prop :=
  ∃ f fd, FnOk P w K mg base CX0 k f fd ps sp ∧ mg x = some (.ref f) ∧ PySem.W.keepIn K (.ref f) = true ∧ Binds K fd ps []
theorem Cal.imp {P : Program} {w : World} {K : PySem.W.Frag} {mg : Str → Option Value} {base : Heap} {x : Str} {k j : Nat} {ps : List Str} {sp sp' : Sp} (C : Cal P w K mg base x k ps sp) (hk : k ≤ j) (h : ∀ vs H Q E, sp' vs H Q E → sp vs H Q E) : Cal P w K mg base x j ps sp' := by
  obtain ⟨f, fd, G, a, b, c⟩ := C
  exact ⟨f, fd, (G.mono hk).imp h, a, b, c⟩
theorem pe_cal {X : Cx} {x : Str} {k : Nat} {ps : List Str} {sp : Sp} {e : Expr} {es : List Expr} {t : TA} {p pos : Pos} (C : Cal X.prog X.w X.K X.mg X.base x k ps sp) (hr : Room k X.A) (ha : PA X (e :: es) t) (hg : Gl X x := by rfl) (hdb : (x == ("__debug__" : Str)) = false := by decide)
    (he : starEach (e :: es) X.env = (false, eval e X.env) :: starEach es X.env := by rfl) (hpl : (backTo pos (starEach es X.env)).any (·.1) = false := by rfl) : PE X (.Call (.Name x p) (e :: es) [] pos) (tCall sp [] E0 t) := by
  obtain ⟨f, fd, G, hm, kp, b⟩ := C
  exact pe_call G hr hg hm kp b .nil pass0 ha hdb he hpl
section
variable {P : Program} {w : World} {K : PySem.W.Frag} {mg : Str → Option Value} {base : Heap}
theorem cal_of {x : Str} {st : Stmt} {N ps : List Str} {k : Nat} {sp : Sp} (D : Df K mg x st) (S : FnScope N ps (defScope st))
    (hb : ∀ (kV doc pm : Value) (an : Option Addr) (cdv ct : Value) (us : List Value), us.length = ps.length → bindArgs (PySem.W.fnOf x x (defArgs st) (defBody st) (defScope st) .none kV doc pm an cdv ct) ⟨us, []⟩ = pure (ps.zip us))
    (len : ∀ vs H Q E, sp vs H Q E → vs.length = ps.length)
    (hbody : ∀ (f : Addr) (cdv : Value) (A : Around) (outer : List Env) (s : Shared) (H : Hp) (vs : List V) (Q : VK) (E : XK), Room k (A.deeper (envOfC x (defScope st) s.heap.objs.size f cdv)) → sp vs H Q E →
      ∃ t, PSs (cxOf CX0 P w K mg base N x (defScope st) f cdv A outer s H E).nox (defBody st) t ∧ t { nx := fun _ H' => Q .non H', rt := Q } (start N vs) H) : Cal P w K mg base x (k + 1) ps sp := by
  obtain ⟨f, fd, F, hm⟩ := D
  refine ⟨f, fd, F.ok S len fun cdv A outer s H vs Q E hr h => ?_, hm, F.kp, F.bindsN hb⟩
  obtain ⟨t, a, b⟩ := hbody f cdv A outer s H vs Q E hr h
  exact ⟨t, a.nox, b⟩
end
/-- what the top leaves of the built-in names, and the three numbers -/
structure Txt (mg : Str → Option Value) : Prop where
  isi : mg "isinstance" = none
  int : mg "int" = none
  bool : mg "bool" = none
  tuple : mg "tuple" = none
  list : mg "list" = none
  str : mg "str" = none
  len : mg "len" = none
  all : mg "all" = none
  zip : mg "zip" = none
  sum : mg "sum" = none
  range : mg "range" = none
  sorted : mg "sorted" = none
  set : mg "set" = none
  max : mg "max" = none
  min : mg "min" = none
  enum : mg "enumerate" = none
  span : ∃ t, mg "MOST_SPAN" = some (.int 8 t)
  rules : ∃ t, mg "MOST_RULES" = some (.int 5 t)
  places : ∃ t, mg "MOST_PLACES" = some (.int 120 t)
/-! ### is_whole -/
def wholeD : PyData → Bool
  | .int _ => true
  | _ => false
def intD : PyData → Bool
  | .bool _ => true
  | .int _ => true
  | _ => false
theorem kit_int : ∀ d : PyData, kitB (tn d) "int" = some (intD d)
  | .none => (by decide +kernel : kitB "NoneType" "int" = some false)
  | .bool _ => (by decide +kernel : kitB "bool" "int" = some true)
  | .int _ => (by decide +kernel : kitB "int" "int" = some true)
  | .str _ => (by decide +kernel : kitB "str" "int" = some false)
  | .list _ => (by decide +kernel : kitB "list" "int" = some false)
  | .tuple _ => (by decide +kernel : kitB "tuple" "int" = some false)
  | .dict _ => (by decide +kernel : kitB "dict" "int" = some false)
def boolD : PyData → Bool
  | .bool _ => true
  | _ => false
theorem kit_bool : ∀ d : PyData, kitB (tn d) "bool" = some (boolD d)
  | .none => (by decide +kernel : kitB "NoneType" "bool" = some false)
  | .bool _ => (by decide +kernel : kitB "bool" "bool" = some true)
  | .int _ => (by decide +kernel : kitB "int" "bool" = some false)
  | .str _ => (by decide +kernel : kitB "str" "bool" = some false)
  | .list _ => (by decide +kernel : kitB "list" "bool" = some false)
  | .tuple _ => (by decide +kernel : kitB "tuple" "bool" = some false)
  | .dict _ => (by decide +kernel : kitB "dict" "bool" = some false)
def tupleD : PyData → Bool
  | .tuple _ => true
  | _ => false
theorem kit_tuple : ∀ d : PyData, kitB (tn d) "tuple" = some (tupleD d)
  | .none => (by decide +kernel : kitB "NoneType" "tuple" = some false)
  | .bool _ => (by decide +kernel : kitB "bool" "tuple" = some false)
  | .int _ => (by decide +kernel : kitB "int" "tuple" = some false)
  | .str _ => (by decide +kernel : kitB "str" "tuple" = some false)
  | .list _ => (by decide +kernel : kitB "list" "tuple" = some false)
  | .tuple _ => (by decide +kernel : kitB "tuple" "tuple" = some true)
  | .dict _ => (by decide +kernel : kitB "dict" "tuple" = some false)
def listD : PyData → Bool
  | .list _ => true
  | _ => false
theorem kit_list : ∀ d : PyData, kitB (tn d) "list" = some (listD d)
  | .none => (by decide +kernel : kitB "NoneType" "list" = some false)
  | .bool _ => (by decide +kernel : kitB "bool" "list" = some false)
  | .int _ => (by decide +kernel : kitB "int" "list" = some false)
  | .str _ => (by decide +kernel : kitB "str" "list" = some false)
  | .list _ => (by decide +kernel : kitB "list" "list" = some true)
  | .tuple _ => (by decide +kernel : kitB "tuple" "list" = some false)
  | .dict _ => (by decide +kernel : kitB "dict" "list" = some false)
def strD : PyData → Bool
  | .str _ => true
  | _ => false
theorem kit_str : ∀ d : PyData, kitB (tn d) "str" = some (strD d)
  | .none => (by decide +kernel : kitB "NoneType" "str" = some false)
  | .bool _ => (by decide +kernel : kitB "bool" "str" = some false)
  | .int _ => (by decide +kernel : kitB "int" "str" = some false)
  | .str _ => (by decide +kernel : kitB "str" "str" = some true)
  | .list _ => (by decide +kernel : kitB "list" "str" = some false)
  | .tuple _ => (by decide +kernel : kitB "tuple" "str" = some false)
  | .dict _ => (by decide +kernel : kitB "dict" "str" = some false)
section
variable {P : Program} {w : World} {K : PySem.W.Frag} {mg : Str → Option Value} {base : Heap}
theorem pe_ty {X : Cx} {x : Str} {T : String} {pos : Pos} (hm : X.mg x = none) (hv : bootBuiltins x = some (.type T)) (hg : Gl X x := by rfl) (hn : x ≠ "__name__" := by decide) (hd : (x == ("__debug__" : Str)) = false := by decide) : PE X (.Name x pos) (tC (.ty T)) := pe_bltn hg hm hv rfl hn hd
theorem pe_isi {X : Cx} {e c : Expr} {te tc : TE} {p pos : Pos} (hm : X.mg "isinstance" = none) (he : PE X e te) (hc : PE X c tc) (hg : Gl X "isinstance" := by rfl)
    (h1 : starEach [e, c] X.env = (false, eval e X.env) :: starEach [c] X.env := by rfl) (h2 : (backTo pos (starEach [c] X.env)).any (·.1) = false := by rfl) (h3 : starEach [c] X.env = (false, eval c X.env) :: starEach [] X.env := by rfl) :
    PE X (.Call (.Name "isinstance" p) [e, c] [] pos) (tCB (rIsi X.K) (tCons te (tCons tc tNil))) := pe_callB call_isi hg hm (by decide +kernel) (pa_cons he (pa_cons hc pa_nil h3) h1) (he := h1) (hpl := h2)
def spWhole (K : PySem.W.Frag) : Sp := fun vs H Q _ => ∃ v d, vs = [v] ∧ Dp K H v d ∧ Q (.bl (wholeD d)) H
theorem scWhole : FnScope ["thing"] ["thing"] (defScope sIsWhole) := ⟨rfl, rfl, rfl, by decide +kernel, rfl, by decide +kernel, by decide +kernel⟩
theorem c_whole (D : Df K mg "is_whole" sIsWhole) (T : Txt mg) : Cal P w K mg base "is_whole" 1 ["thing"] (spWhole K) := by
  refine cal_of D scWhole (fun _ _ _ _ _ _ us hl => match us, hl with | [_], _ => rfl) (fun vs H Q E h => ?_) (fun f cdv A outer s H vs Q E hr h => ?_)
  · obtain ⟨v, d, rfl, _⟩ := h
    rfl
  · obtain ⟨v, d, rfl, hd, q⟩ := h
    refine ⟨_, pss_one (ps_ret (pe_and (pe_isi T.isi (pv 0) (pe_ty (T := "int") T.int (by decide +kernel))) (pe_one (pe_not (pe_isi T.isi (pv 0) (pe_ty (T := "bool") T.bool (by decide +kernel))))))), ?_⟩
    refine ⟨v, rfl, _, _, _, _, _, rfl, .ty _, dp_ty hd, kit_ty (kit_int d), _, rfl, ite2 (fun e => ⟨v, rfl, _, _, _, _, _, rfl, .ty _, dp_ty hd, kit_ty (kit_bool d), _, rfl, ?_⟩) (fun e => ?_)⟩
    · cases hd <;> first | exact q | cases e
    · cases hd <;> first | exact q | exact absurd rfl e
end
end K01
namespace K01
open PySem PySem.Spec PyProof.Rows L2 XR
/-! ### comprehensions that leave all else as it was: F is what they make -/
theorem take_snoc {α : Type} {l : List α} {i : Nat} {x : α} (h : l[i]? = some x) : l.take i ++ [x] = l.take (i + 1) := by
  rw [List.take_add_one, h]
  rfl
section
variable {g : TG} {te : TE} {vs : List Nat} {σ : L2.St} {H1 : Hp} {D : Addr} {Qd : Hp → Prop} {J : It}
theorem lc_same {n : Nat} {G : Hp → Prop} {Y : Nat → Hp → V → Hp → Prop} (w : Walk J n G Y) (F : List V) (hF : F.length = n) (hn : n < sizeLine) (hD : H1 D = none) (hG : ∀ H, Same H1 H → G H)
    (hs : ∀ i x y H H2 (Q : VK), i < n → Same H1 H → Y i H x H2 → F[i]? = some y → (∀ H', Same H H' → Q y H') → g x (wipe σ vs) H2 fun σ2 H3 => wipe σ2 vs = wipe σ vs ∧ te σ2 H3 Q)
    (hd : ∀ H, Same H1 H → H D = some (.lst F) → Qd H) :
    ∃ W : Nat → Nat → Hp → Prop, (∃ m, W 0 m (upd H1 D (.lst []))) ∧ ∀ i m H, (W i m H) →
      (J.stop i H ∧ Qd H) ∨ (J.go i H ∧ ∃ Nx : Hp → Prop, (∀ H', Nx H' → ∃ m', m' < m ∧ W (i + 1) m' H') ∧ ∀ x H', J.yld i H x H' → g x (wipe σ vs) H' fun σ2 H2 => wipe σ2 vs = wipe σ vs ∧ tYes σ2 H2 fun b H3 =>
        if b = true then (te σ2 H3 fun y H4 => ∃ acc, H4 D = some (.lst acc) ∧ acc.length < sizeLine ∧ Nx (upd H4 D (.lst (acc ++ [y])))) else Nx H3) := by
  refine lc_it w (fun i H => Same H1 H ∧ H D = some (.lst (F.take i))) ⟨same_new hD, upd_same⟩ (fun i H _ p => hG H p.1) (fun i x H H2 hi p y => ?_) (fun H p => ?_)
  · have hi2 : i < F.length := by omega
    refine hs i x F[i] H H2 _ hi p.1 y (List.getElem?_eq_getElem hi2) fun H' s => ?_
    refine ⟨_, s _ _ p.2, ?_, fun b o e => ?_, ?_⟩
    · rw [List.length_take]
      omega
    · rw [upd_ne (ne_of_none e hD)]
      exact s _ _ (p.1 _ _ e)
    · rw [upd_same, take_snoc (List.getElem?_eq_getElem hi2)]
  · have e := p.2
    rw [List.take_of_length_le (by omega)] at e
    exact hd H p.1 e
end
/-! ### rules -/
def ruleD : PyData → Bool
  | .tuple [.int s, .int l, .int m] => decide (1 ≤ s ∧ s ≤ 8) && decide (0 ≤ l ∧ l ≤ m ∧ m ≤ s)
  | _ => false
def spanD : PyData → Int
  | .tuple (.int s :: _) => s
  | _ => 0
def risingB (ns : List Int) : Bool := ((ns.zip (ns.drop 1)).map fun p => decide (p.1 < p.2)).all id
def areD : PyData → Bool
  | .tuple ds => decide (1 ≤ ds.length ∧ ds.length ≤ 5) && (ds.all ruleD && risingB (ds.map spanD))
  | _ => false
def placeD : PyData → Bool
  | .int i => decide (0 ≤ i ∧ i ≤ 1)
  | _ => false
def rowD : PyData → Bool
  | .tuple ds => decide (ds.length ≤ 120) && ds.all placeD
  | _ => false
theorem bl_all {α : Type} (f : α → Bool) (ds : List α) : ds.map (fun d => V.bl (f d)) = (ds.map f).map V.bl := by
  rw [List.map_map]
  rfl
theorem all_id {α : Type} (f : α → Bool) (ds : List α) : (ds.map f).all id = ds.all f := by
  rw [List.all_map]
  rfl
theorem wholeD_int {d : PyData} (h : wholeD d = true) : ∃ i, d = .int i := by
  cases d <;> first | exact ⟨_, rfl⟩ | cases h
section
variable {P : Program} {w : World} {K : PySem.W.Frag} {mg : Str → Option Value} {base : Heap}
theorem dpa_size {X : Cx} {pins : List (Addr × Obj)} {σ : L2.St} {H : Hp} {s : Shared} {a : Addr} {xs : List V} (I : Inv X pins σ H s) (h : SqT X.K H a xs) : xs.length ≤ sizeLine := by
  obtain ⟨_, _, _, z⟩ := I.tuple h
  exact z
/-- data of a size that can be told: lists and tuples of fewer than a million things -/
def small : PyData → Bool
  | .tuple ds => decide (ds.length < 1000000)
  | .list ds => decide (ds.length < 1000000)
  | _ => true
theorem lt_line {n : Nat} (h : n < 1000000) : n < sizeLine := Nat.lt_of_lt_of_le h (by decide)
def spRule (K : PySem.W.Frag) : Sp := fun vs H Q _ => ∃ v d, vs = [v] ∧ Dp K H v d ∧ ∀ H', Same H H' → Q (.bl (ruleD d)) H'
theorem scRule : FnScope ["thing", "span", "least", "most", "number"] ["thing"] (defScope sIsRule) := ⟨rfl, rfl, rfl, by decide +kernel, rfl, by decide +kernel, by decide +kernel⟩
theorem ruleD_len {ds : List PyData} (h : ds.length ≠ 3) : ruleD (.tuple ds) = false := by
  unfold ruleD
  split
  · rename_i e
    cases e
    exact absurd rfl h
  · rfl
theorem ruleD_whole {a b c : PyData} (h : ¬ (wholeD a = true ∧ wholeD b = true ∧ wholeD c = true)) : ruleD (.tuple [a, b, c]) = false := by
  unfold ruleD
  split
  · rename_i e
    cases e
    exact absurd ⟨rfl, rfl, rfl⟩ h
  · rfl
theorem c_rule (D : Df K mg "is_rule" sIsRule) (T : Txt mg) (CW : Cal P w K mg base "is_whole" 1 ["thing"] (spWhole K)) : Cal P w K mg base "is_rule" 2 ["thing"] (spRule K) := by
  refine cal_of D scRule (fun _ _ _ _ _ _ us hl => match us, hl with | [_], _ => rfl) (fun vs H Q E h => ?_) (fun f cdv A outer s H vs Q E hr h => ?_)
  · obtain ⟨v, d, rfl, _⟩ := h
    rfl
  · obtain ⟨v, d, rfl, hd, q⟩ := h
    obtain ⟨tS, mS⟩ := T.span
    refine ⟨_, pss_cons (ps_if (PW.pt (pw_or (pt_not (pt_val (pe_isi T.isi (pv 0) (pe_ty (T := "tuple") T.tuple (by decide +kernel))))) (pw_or1 (pt_cmpR op_ne (pe_callB call_len_seq (by rfl) T.len PySem.boot_len (pa_cons (pv 0) pa_nil)) pe_int (nomark _)))))
        (pss_one (ps_ret pe_bl)) pss_nil)
      (pss_cons (ps_if (pt_not (pt_val (pe_callB (cr_all rfl) (by rfl) T.all (by decide +kernel) (pa_cons (pe_lc (own := [("number", 4)]) (g := gName 4) (tt := tYes) rfl scRule.nd (pi_tup (pv 0)) (blkOk_by (own := [("number", 4)]) (N := ["thing", "span", "least", "most", "number"]) (sc := defScope sIsRule) (by decide +kernel))
          (fun _ _ _ _ _ => pg_name (i := 4) scRule.nd rfl (Or.inl rfl)) (fun _ _ _ _ _ => pts_nil) (fun _ _ _ _ _ => pe_cal CW hr (pa_cons (pv 4) pa_nil))) pa_nil))))
        (pss_one (ps_ret pe_bl)) pss_nil)
      (pss_cons (ps_asg (pv 0) (pg_tup rfl (pgs_cons (pg_name (i := 1) scRule.nd rfl (.inl rfl)) (pgs_cons (pg_name (i := 2) scRule.nd rfl (.inl rfl)) (pgs_cons (pg_name (i := 3) scRule.nd rfl (.inl rfl)) pgs_nil)))))
      (pss_one (ps_ret (pe_and (pe_chain op_le op_le pe_int (pv 1) (pe_glob (v := .int 8) rfl mS ⟨_, rfl⟩)) (pe_one (pe_chain3 op_le op_le op_le pe_int (pv 2) (pv 3) (pv 1)))))))), ?_⟩
    refine ⟨v, rfl, _, _, _, _, _, rfl, .ty _, dp_ty hd, kit_ty (kit_tuple d), _, rfl, ?_⟩
    cases hd with
    | @tup a xs ds hs ha =>
      have el := dpa_len ha
      refine iteF ⟨.ref a, rfl, a, xs, rfl, .inr hs, rfl, _, rfl, ite2 (fun e => ?_) (fun e => ?_)⟩
      · have e2 : ds.length ≠ 3 := fun z => by
          rw [el, z] at e
          exact absurd e (by decide)
        have := q H (Same.refl H)
        rw [ruleD_len e2] at this
        exact this
      · have e2 : ds.length = 3 := by
          rw [el] at e
          have e3 : decide (V.int (ds.length : Int) = V.int 3) = true := by simpa using e
          have e4 := of_decide_eq_true e3
          injection e4 with e5
          omega
        obtain ⟨da, db, dc, rfl⟩ : ∃ da db dc, ds = [da, db, dc] := by
          match ds, e2 with
          | [x, y, z], _ => exact ⟨x, y, z, rfl⟩
        cases ha with
        | @cons va _ _ _ ha1 ha =>
          cases ha with
          | @cons vb _ _ _ ha2 ha =>
            cases ha with
            | @cons vc _ _ _ ha3 ha =>
              cases ha
              refine ⟨.ref a, rfl, a, rfl, ⟨_, hs⟩, fun L hL => lc_same (walk_tup (xs := [va, vb, vc])) [.bl (wholeD da), .bl (wholeD db), .bl (wholeD dc)] rfl (by show 3 < sizeLine; decide) hL (fun H s => Same.tup s hs) ?_ ?_⟩
              · rintro i x y H0 H2 Q0 hi s0 ⟨rfl, hx⟩ hy q0
                refine ⟨rfl, x, rfl, x, ?_⟩
                match i, hx, hy with
                | 0, hx, hy => cases hx; cases hy; exact ⟨da, rfl, dp_same s0 _ _ ha1, q0 _ (Same.refl _)⟩
                | 1, hx, hy => cases hx; cases hy; exact ⟨db, rfl, dp_same s0 _ _ ha2, q0 _ (Same.refl _)⟩
                | 2, hx, hy => cases hx; cases hy; exact ⟨dc, rfl, dp_same s0 _ _ ha3, q0 _ (Same.refl _)⟩
              · intro H0 s0 hL0
                refine ⟨L, [wholeD da, wholeD db, wholeD dc], rfl, .inl (.inl hL0), _, rfl, ite2 (fun e => ?_) (fun e => ?_)⟩
                · have := q H0 s0
                  rw [ruleD_whole (fun z => by simp [z.1, z.2.1, z.2.2] at e)] at this
                  exact this
                · have e3 : wholeD da = true ∧ wholeD db = true ∧ wholeD dc = true := by
                    cases h1 : wholeD da <;> cases h2 : wholeD db <;> cases h3 : wholeD dc <;> simp_all
                  obtain ⟨i1, rfl⟩ := wholeD_int e3.1
                  obtain ⟨i2, rfl⟩ := wholeD_int e3.2.1
                  obtain ⟨i3, rfl⟩ := wholeD_int e3.2.2
                  cases ha1
                  cases ha2
                  cases ha3
                  refine ⟨.ref a, rfl, a, _, rfl, Same.tup s0 hs, rfl, _, _, rfl, _, _, rfl, _, _, rfl, rfl, ?_⟩
                  have q1 := q H0 s0
                  refine ⟨_, rfl, 1, i1, rfl, rfl, _, rfl, ?_⟩
                  by_cases c1 : 1 ≤ i1
                  · rw [decide_eq_true c1]
                    refine iteT ⟨i1, 8, rfl, rfl, _, rfl, ?_⟩
                    by_cases c2 : i1 ≤ 8
                    · rw [decide_eq_true c2]
                      refine iteT ⟨_, rfl, 0, i2, rfl, rfl, _, rfl, ?_⟩
                      by_cases c3 : 0 ≤ i2
                      · rw [decide_eq_true c3]
                        refine iteT ⟨_, rfl, i2, i3, rfl, rfl, _, rfl, ?_⟩
                        by_cases c4 : i2 ≤ i3
                        · rw [decide_eq_true c4]
                          refine iteT ⟨_, rfl, i3, i1, rfl, rfl, ?_⟩
                          by_cases c5 : i3 ≤ i1
                          · simpa [ruleD, c1, c2, c3, c4, c5] using q1
                          · simpa [ruleD, c1, c2, c3, c4, c5] using q1
                        · rw [decide_eq_false c4]
                          refine iteF ?_
                          simpa [ruleD, c4] using q1
                      · rw [decide_eq_false c3]
                        refine iteF ?_
                        simpa [ruleD, c3] using q1
                    · rw [decide_eq_false c2]
                      refine iteF ?_
                      simpa [ruleD, c2] using q1
                  · rw [decide_eq_false c1]
                    refine iteF ⟨_, rfl, iteF ?_⟩
                    simpa [ruleD, c1] using q1
    | _ => exact iteT (q H (Same.refl H))
end
end K01
namespace K01
open PySem PySem.Spec PyProof.Rows L2 XR
section
variable {P : Program} {w : World} {K : PySem.W.Frag} {mg : Str → Option Value} {base : Heap}
/-! ### is_place -/
def spPlace (K : PySem.W.Frag) : Sp := fun vs H Q _ => ∃ v d, vs = [v] ∧ Dp K H v d ∧ Q (.bl (placeD d)) H
theorem scPlace : FnScope ["thing"] ["thing"] (defScope sIsPlace) := ⟨rfl, rfl, rfl, by decide +kernel, rfl, by decide +kernel, by decide +kernel⟩
theorem c_place (D : Df K mg "is_place" sIsPlace) (T : Txt mg) (CW : Cal P w K mg base "is_whole" 1 ["thing"] (spWhole K)) : Cal P w K mg base "is_place" 2 ["thing"] (spPlace K) := by
  refine cal_of D scPlace (fun _ _ _ _ _ _ us hl => match us, hl with | [_], _ => rfl) (fun vs H Q E h => ?_) (fun f cdv A outer s H vs Q E hr h => ?_)
  · obtain ⟨v, d, rfl, _⟩ := h
    rfl
  · obtain ⟨v, d, rfl, hd, q⟩ := h
    refine ⟨_, pss_one (ps_ret (pe_and (pe_cal CW hr (pa_cons (pv 0) pa_nil)) (pe_one (pe_chain op_le op_le pe_int (pv 0) pe_int)))), ?_⟩
    refine ⟨v, rfl, v, d, rfl, hd, _, rfl, ?_⟩
    cases hd with
    | int i =>
      refine iteT ⟨_, rfl, 0, i, rfl, rfl, _, rfl, ?_⟩
      by_cases c1 : 0 ≤ i
      · rw [decide_eq_true c1]
        refine iteT ⟨i, 1, rfl, rfl, ?_⟩
        simpa [placeD, c1] using q
      · rw [decide_eq_false c1]
        refine iteF ?_
        simpa [placeD, c1] using q
    | _ => exact iteF q
/-! ### is_row, are_rules -/
def spRow (K : PySem.W.Frag) : Sp := fun vs H Q _ => ∃ v d, vs = [v] ∧ Dp K H v d ∧ ∀ H', Same H H' → Q (.bl (rowD d)) H'
theorem scRow : FnScope ["thing", "part"] ["thing"] (defScope sIsRow) := ⟨rfl, rfl, rfl, by decide +kernel, rfl, by decide +kernel, by decide +kernel⟩
theorem c_row (D : Df K mg "is_row" sIsRow) (T : Txt mg) (CP : Cal P w K mg base "is_place" 2 ["thing"] (spPlace K)) : Cal P w K mg base "is_row" 3 ["thing"] (spRow K) := by
  refine cal_of D scRow (fun _ _ _ _ _ _ us hl => match us, hl with | [_], _ => rfl) (fun vs H Q E h => ?_) (fun f cdv A outer s H vs Q E hr h => ?_)
  · obtain ⟨v, d, rfl, _⟩ := h
    rfl
  · obtain ⟨v, d, rfl, hd, q⟩ := h
    obtain ⟨tS, mS⟩ := T.places
    refine ⟨_, pss_cons (ps_if (PW.pt (pw_or (pt_not (pt_val (pe_isi T.isi (pv 0) (pe_ty (T := "tuple") T.tuple (by decide +kernel))))) (pw_or1 (pt_cmpR op_gt (pe_callB call_len_seq (by rfl) T.len PySem.boot_len (pa_cons (pv 0) pa_nil)) (pe_glob (v := .int 120) rfl mS ⟨_, rfl⟩) (nomark _)))))
        (pss_one (ps_ret pe_bl)) pss_nil)
      (pss_one (ps_ret (pe_callB (cr_all rfl) (by rfl) T.all (by decide +kernel) (pa_cons (pe_lc (own := [("part", 1)]) (g := gName 1) (tt := tYes) rfl scRow.nd (pi_tup (pv 0)) (blkOk_by (own := [("part", 1)]) (N := ["thing", "part"]) (sc := defScope sIsRow) (by decide +kernel))
          (fun _ _ _ _ _ => pg_name (i := 1) scRow.nd rfl (Or.inl rfl)) (fun _ _ _ _ _ => pts_nil) (fun _ _ _ _ _ => pe_cal CP hr (pa_cons (pv 1) pa_nil))) pa_nil)))), ?_⟩
    refine ⟨v, rfl, _, _, _, _, _, rfl, .ty _, dp_ty hd, kit_ty (kit_tuple d), _, rfl, ?_⟩
    cases hd with
    | @tup a xs ds hs ha =>
      have el := dpa_len ha
      refine iteF ⟨.ref a, rfl, a, xs, rfl, .inr hs, _, _, rfl, rfl, _, rfl, ite2 (fun e => ?_) (fun e => ?_)⟩
      · have e1 : (120 : Int) < xs.length := of_decide_eq_true e
        have := q H (Same.refl H)
        have e2 : rowD (.tuple ds) = false := by
          have e3 : ¬ ds.length ≤ 120 := by omega
          simp [rowD, e3]
        rw [e2] at this
        exact this
      · have e1 : ¬ (120 : Int) < xs.length := fun z => e (decide_eq_true z)
        have e2 : ds.length ≤ 120 := by omega
        refine ⟨.ref a, rfl, a, rfl, ⟨_, hs⟩, fun L hL => lc_same (walk_tup (xs := xs)) ((ds.map placeD).map V.bl) (by simp [el]) (lt_line (by omega)) hL (fun H s => Same.tup s hs) ?_ ?_⟩
        · rintro i x y H0 H2 Q0 hi s0 ⟨rfl, hx⟩ hy q0
          obtain ⟨d, hd1, hd2⟩ := dpa_get ha hx
          have ey : y = .bl (placeD d) := by
            rw [List.getElem?_map, List.getElem?_map, hd1] at hy
            exact (Option.some.inj hy).symm
          subst ey
          exact ⟨rfl, x, rfl, x, d, rfl, dp_same s0 _ _ hd2, q0 _ (Same.refl _)⟩
        · intro H0 s0 hL0
          refine ⟨L, ds.map placeD, rfl, .inl (.inl hL0), ?_⟩
          have := q H0 s0
          rw [all_id]
          simpa [rowD, e2] using this
    | _ => exact iteT (q H (Same.refl H))
theorem ruleD_tup {d : PyData} (h : ruleD d = true) : ∃ s l m, d = .tuple [.int s, .int l, .int m] ∧ 1 ≤ s ∧ s ≤ 8 ∧ 0 ≤ l ∧ l ≤ m ∧ m ≤ s := by
  unfold ruleD at h
  split at h
  · rename_i s l m
    simp only [Bool.and_eq_true, decide_eq_true_eq] at h
    exact ⟨s, l, m, rfl, h.1.1, h.1.2, h.2.1, h.2.2.1, h.2.2.2⟩
  · cases h
def spAre (K : PySem.W.Frag) : Sp := fun vs H Q _ => ∃ v d, vs = [v] ∧ Dp K H v d ∧ ∀ H', Same H H' → Q (.bl (areD d)) H'
abbrev nAre : List Str := ["thing", "spans", "part", "rule", "one", "other"]
theorem scAre : FnScope nAre ["thing"] (defScope sAreRules) := ⟨rfl, rfl, rfl, by decide +kernel, rfl, by decide +kernel, by decide +kernel⟩
theorem cutOne (xs : List V) : cutV xs (some 1) none = xs.drop 1 := by
  unfold cutV
  rw [HT.sIx_none, show HT.sIx xs.length 0 (some 1) = min 1 xs.length from HT.sIx_nat xs.length 0 1]
  cases xs with
  | nil => rfl
  | cons x r =>
    rw [show min 1 (x :: r).length = 1 by rw [List.length_cons]; omega]
    show List.take ((x :: r).length - 1) r = r
    rw [List.length_cons, Nat.add_sub_cancel, List.take_length]
theorem c_are (D : Df K mg "are_rules" sAreRules) (T : Txt mg) (CR : Cal P w K mg base "is_rule" 2 ["thing"] (spRule K)) : Cal P w K mg base "are_rules" 3 ["thing"] (spAre K) := by
  refine cal_of D scAre (fun _ _ _ _ _ _ us hl => match us, hl with | [_], _ => rfl) (fun vs H Q E h => ?_) (fun f cdv A outer s H vs Q E hr h => ?_)
  · obtain ⟨v, d, rfl, _⟩ := h
    rfl
  · obtain ⟨v, d, rfl, hd, q⟩ := h
    obtain ⟨tS, mS⟩ := T.rules
    refine ⟨_, pss_cons (ps_if (PW.pt (pw_or (pt_not (pt_val (pe_isi T.isi (pv 0) (pe_ty (T := "tuple") T.tuple (by decide +kernel))))) (pw_or1 (pt_not (pt_chain op_le op_le pe_int (pe_callB call_len_seq (by rfl) T.len PySem.boot_len (pa_cons (pv 0) pa_nil)) (pe_glob (v := .int 5) rfl mS ⟨_, rfl⟩))))))
        (pss_one (ps_ret pe_bl)) pss_nil)
      (pss_cons (ps_if (pt_not (pt_val (pe_callB (cr_all rfl) (by rfl) T.all (by decide +kernel) (pa_cons (pe_lc (own := [("part", 2)]) (g := gName 2) (tt := tYes) rfl scAre.nd (pi_tup (pv 0)) (blkOk_by (own := [("part", 2)]) (N := nAre) (sc := defScope sAreRules) (by decide +kernel))
          (fun _ _ _ _ _ => pg_name (i := 2) scAre.nd rfl (Or.inl rfl)) (fun _ _ _ _ _ => pts_nil) (fun _ _ _ _ _ => pe_cal CR hr (pa_cons (pv 2) pa_nil))) pa_nil))))
        (pss_one (ps_ret pe_bl)) pss_nil)
      (pss_cons (ps_setLc (i := 1) (own := [("rule", 3)]) (g := gName 3) (tt := tYes) (te := tOp (rIxT K) (tVar 3) (tC (.int 0))) rfl scAre.nd rfl rfl (sw_true rfl rfl rfl (by decide +kernel)) (pi_tup (pv 0)) (blkOk_by (own := [("rule", 3)]) (N := nAre) (sc := defScope sAreRules) (by decide +kernel))
          (fun _ _ _ _ _ => pg_name (i := 3) scAre.nd rfl (Or.inl rfl)) (fun _ _ _ _ _ => pts_nil) (fun _ _ _ _ _ => pe_ix ix_tup (pv 3) pe_int (fun _ _ => rfl)))
      (pss_one (ps_ret (pe_callB (cr_all rfl) (by rfl) T.all (by decide +kernel) (pa_cons (pe_lc (own := [("one", 4), ("other", 5)]) (g := gTup K 2 (gCons (gName 4) (gCons (gName 5) gNil))) (tt := tYes) rfl scAre.nd (pi_zip (by rfl) T.zip (pa_cons (pv 1) (pa_cons (pe_slice sl_list (pv 1) (po_some pe_int) po_none) pa_nil)))
          (blkOk_by (own := [("one", 4), ("other", 5)]) (N := nAre) (sc := defScope sAreRules) (by decide +kernel))
          (fun _ _ _ _ _ => pg_tup rfl (pgs_cons (pg_name (i := 4) scAre.nd rfl (.inl rfl)) (pgs_cons (pg_name (i := 5) scAre.nd rfl (.inl rfl)) pgs_nil))) (fun _ _ _ _ _ => pts_nil) (fun _ _ _ _ _ => pe_cmpR op_lt (pv 4) (pv 5) (nomark _))) pa_nil)))))), ?_⟩
    refine ⟨v, rfl, _, _, _, _, _, rfl, .ty _, dp_ty hd, kit_ty (kit_tuple d), _, rfl, ?_⟩
    cases hd with
    | @tup a xs ds hs ha =>
      have el := dpa_len ha
      have q0 := q H (Same.refl H)
      refine iteF ⟨.ref a, rfl, a, xs, rfl, .inr hs, 1, _, rfl, rfl, _, rfl, ?_⟩
      by_cases c1 : (1 : Int) ≤ xs.length
      · rw [decide_eq_true c1]
        refine iteT ⟨_, 5, rfl, rfl, _, rfl, ?_⟩
        by_cases c2 : (xs.length : Int) ≤ 5
        · rw [decide_eq_true c2]
          refine iteF ⟨.ref a, rfl, a, rfl, ⟨_, hs⟩, fun L hL => lc_same (walk_tup (xs := xs)) ((ds.map ruleD).map V.bl) (by simp [el]) (lt_line (by omega)) hL (fun H s => Same.tup s hs) ?_ ?_⟩
          · rintro i x y H0 H2 Q0 hi s0 ⟨rfl, hx⟩ hy q0
            obtain ⟨d, hd1, hd2⟩ := dpa_get ha hx
            have ey : y = .bl (ruleD d) := by
              rw [List.getElem?_map, List.getElem?_map, hd1] at hy
              exact (Option.some.inj hy).symm
            subst ey
            exact ⟨rfl, x, rfl, x, d, rfl, dp_same s0 _ _ hd2, q0⟩
          · intro H0 s0 hL0
            refine ⟨L, ds.map ruleD, rfl, .inl (.inl hL0), _, rfl, ?_⟩
            rw [all_id]
            have e5 : 1 ≤ ds.length ∧ ds.length ≤ 5 := ⟨by omega, by omega⟩
            cases hall : ds.all ruleD with
            | false =>
              refine iteT ?_
              have := q H0 s0
              rw [show areD (.tuple ds) = false by simp [areD, hall]] at this
              exact this
            | true =>
              have hall2 := List.all_eq_true.mp hall
              have hs0 := Same.tup s0 hs
              refine iteF ⟨.ref a, rfl, a, rfl, ⟨_, hs0⟩, fun S hS => lc_same (walk_tup (xs := xs)) ((ds.map spanD).map V.int) (by simp [el]) (lt_line (by omega)) hS (fun H s => Same.tup s hs0) ?_ ?_⟩
              · rintro i x y H1 H2 Q0 hi s1 ⟨rfl, hx⟩ hy q0
                obtain ⟨d, hd1, hd2⟩ := dpa_get ha hx
                obtain ⟨z1, z2, z3, rfl, _⟩ := ruleD_tup (hall2 d (List.mem_of_getElem? hd1))
                have ey : y = .int z1 := by
                  rw [List.getElem?_map, List.getElem?_map, hd1] at hy
                  exact (Option.some.inj hy).symm
                subst ey
                cases hd2 with
                | @tup b ys _ hb hbs =>
                  cases hbs with
                  | cons h1 hbs =>
                    cases h1
                    exact ⟨rfl, .ref b, rfl, b, _, 0, _, rfl, rfl, Same.tup (s0.trans s1) hb, atI_nat (j := 0) rfl, q0 _ (Same.refl _)⟩
              · intro H1 s1 hS1
                have hsp : SqL K H1 S ((ds.map spanD).map V.int) := .inl (.inl hS1)
                refine ⟨.ref S, rfl, .ref S, rfl, 1, rfl, S, _, rfl, hsp, fun C hC => ?_⟩
                have s2 : Same H1 (upd H1 C (.lst (cutV ((ds.map spanD).map V.int) (some 1) none))) := same_new hC
                have hcc : SqL K (upd H1 C (.lst (cutV ((ds.map spanD).map V.int) (some 1) none))) C (((ds.map spanD).drop 1).map V.int) := by
                  rw [cutOne, ← List.map_drop]
                  exact .inl (.inl upd_same)
                refine ⟨S, C, (ds.map spanD).map V.int, ((ds.map spanD).drop 1).map V.int, rfl, s2.seq hsp, hcc, fun L hL => lc_same (walk_zip rfl) ((((ds.map spanD).zip ((ds.map spanD).drop 1)).map fun p => decide (p.1 < p.2)).map V.bl) ?_ ?_ hL (fun H s => ⟨s.seq (s2.seq hsp), s.seq hcc⟩) ?_ ?_⟩
                · simp
                · exact lt_line (by simp; omega)
                · rintro i x y H3 H4 Q0 hi s3 ⟨T0, x1, x2, rfl, nT, rfl, f1, f2⟩ hy q0
                  have f3 : ((ds.map spanD).map V.int)[i]? = some x1 := f1
                  have f4 : (((ds.map spanD).drop 1).map V.int)[i]? = some x2 := f2
                  rw [List.getElem?_map] at f3 f4
                  obtain ⟨n1, g1, rfl⟩ := Option.map_eq_some_iff.mp f3
                  obtain ⟨n2, g2, rfl⟩ := Option.map_eq_some_iff.mp f4
                  have ez : ((ds.map spanD).zip ((ds.map spanD).drop 1))[i]? = some (n1, n2) := List.getElem?_zip_eq_some.mpr ⟨g1, g2⟩
                  rw [List.getElem?_map, List.getElem?_map, ez] at hy
                  cases hy
                  exact ⟨T0, _, rfl, .inl (.inl upd_same), rfl, _, _, rfl, _, _, rfl, rfl, rfl, _, rfl, _, rfl, n1, n2, rfl, rfl, q0 _ (same_new nT)⟩
                · intro H3 s3 hL3
                  refine ⟨L, ((ds.map spanD).zip ((ds.map spanD).drop 1)).map fun p => decide (p.1 < p.2), rfl, .inl (.inl hL3), ?_⟩
                  have := q H3 (((s0.trans s1).trans s2).trans s3)
                  simpa [areD, hall, e5.1, e5.2, risingB] using this
        · rw [decide_eq_false c2]
          refine iteT ?_
          have e2 : ¬ ds.length ≤ 5 := by omega
          rw [show areD (.tuple ds) = false by simp [areD, e2]] at q0
          exact q0
      · rw [decide_eq_false c1]
        refine iteF ⟨_, rfl, iteT ?_⟩
        have e2 : ¬ 1 ≤ ds.length := by omega
        have e3 : ds = [] := by
          cases ds with
          | nil => rfl
          | cons _ _ => simp at e2
        subst e3
        exact q0
    | _ => exact iteT (q H (Same.refl H))
end
end K01
namespace K01
open PySem PySem.Spec PyProof.Rows L2 XR
/-! ### rows and windows -/
abbrev Ru := Int × Int × Int
def dR (r : Ru) : PyData := .tuple [.int r.1, .int r.2.1, .int r.2.2]
def okR (r : Ru) : Prop := 1 ≤ r.1 ∧ r.1 ≤ 8 ∧ 0 ≤ r.2.1 ∧ r.2.1 ≤ r.2.2 ∧ r.2.2 ≤ r.1
def win (row : List Int) (i s : Nat) : Int := ((row.drop i).take s).sum
def okW (row : List Int) (i : Nat) (r : Ru) : Bool := decide (r.2.1 ≤ win row i r.1.toNat) && decide (win row i r.1.toNat ≤ r.2.2)
def kw (row : List Int) (r : Ru) : Bool := (List.range (row.length + 1 - r.1.toNat)).all fun i => okW row i r
def keepsM (rs : List Ru) (row : List Int) : Bool := rs.all (kw row)
theorem cut_nat (row : List Int) (i j : Nat) (h : j ≤ row.length) : cutV (row.map V.int) (some (i : Int)) (some (j : Int)) = ((row.drop i).take (j - i)).map V.int := by
  unfold cutV
  rw [HT.sIx_nat, HT.sIx_nat, List.length_map, Nat.min_eq_left h]
  by_cases hi : i ≤ row.length
  · rw [Nat.min_eq_left hi, List.map_take, List.map_drop]
  · rw [Nat.min_eq_right (by omega), show j - row.length = 0 by omega, List.take_zero, List.drop_eq_nil_of_le (by omega), List.take_nil]
    rfl
theorem cut_from (row : List Int) (i : Nat) : cutV (row.map V.int) (some (i : Int)) none = (row.drop i).map V.int := by
  unfold cutV
  rw [HT.sIx_nat, HT.sIx_none, List.length_map]
  by_cases hi : i ≤ row.length
  · rw [Nat.min_eq_left hi, List.map_drop, List.take_of_length_le (by simp)]
  · rw [Nat.min_eq_right (by omega), List.drop_eq_nil_of_le (by omega : row.length ≤ i), Nat.sub_self, List.take_zero]
    rfl
theorem cut_whole {xs : List V} {lo hi : Option Int} (h : HT.sIx xs.length 0 lo = 0 ∧ HT.sIx xs.length xs.length hi = xs.length) : cutV xs lo hi = xs := by
  unfold cutV
  rw [h.1, h.2, Nat.sub_zero, List.drop_zero, List.take_length]
theorem sl_any {K : PySem.W.Frag} {H : Hp} {a : Addr} {xs : List V} {lo hi : Option Int} {Q : VK} (hs : SqT K H a xs) (h : ∀ p H', Same H H' → SqT K H' p (cutV xs lo hi) → Q (.ref p) H') : rSlA K (.ref a) lo hi H Q := by
  refine ⟨a, xs, rfl, hs, fun hw => h a H (Same.refl H) ?_, fun _ p hp => h p _ (same_new hp) (.inl (.inl upd_same))⟩
  rw [cut_whole hw]
  exact hs
section
variable {P : Program} {w : World} {K : PySem.W.Frag} {mg : Str → Option Value} {base : Heap}
theorem dR_get {H : Hp} {v : V} {r : Ru} (h : Dp K H v (dR r)) : ∃ a, v = .ref a ∧ SqT K H a [.int r.1, .int r.2.1, .int r.2.2] := by
  cases h with
  | tup hs ha =>
    cases ha with
    | cons h1 ha =>
      cases ha with
      | cons h2 ha =>
        cases ha with
        | cons h3 ha =>
          cases ha
          cases h1
          cases h2
          cases h3
          exact ⟨_, rfl, hs⟩
def spStretch (K : PySem.W.Frag) : Sp := fun vs H Q _ => ∃ (v : V) (b : Addr) (r : Ru) (row : List Int) (e : Nat), vs = [v, .ref b, .int e] ∧ Dp K H v (dR r) ∧ SqT K H b (row.map V.int) ∧ 1 ≤ r.1 ∧ r.1 ≤ e ∧ e ≤ row.length ∧
  ∀ H', Same H H' → Q (.bl (okW row (e - r.1.toNat) r)) H'
theorem scStretch : FnScope ["rule", "row", "end", "span", "least", "most"] ["rule", "row", "end"] (defScope sStretchKeeps) := ⟨rfl, rfl, rfl, by decide +kernel, rfl, by decide +kernel, by decide +kernel⟩
theorem c_stretch (D : Df K mg "stretch_keeps" sStretchKeeps) (T : Txt mg) : Cal P w K mg base "stretch_keeps" 1 ["rule", "row", "end"] (spStretch K) := by
  refine cal_of D scStretch (fun _ _ _ _ _ _ us hl => match us, hl with | [_, _, _], _ => rfl) (fun vs H Q E h => ?_) (fun f cdv A outer s H vs Q E hr h => ?_)
  · obtain ⟨v, b, r, row, e, rfl, _⟩ := h
    rfl
  · obtain ⟨v, b, r, row, e, rfl, hv, hb, h1, h2, h3, q⟩ := h
    obtain ⟨a, rfl, ha⟩ := dR_get hv
    refine ⟨_, pss_cons (ps_asg (pv 0) (pg_tup rfl (pgs_cons (pg_name (i := 3) scStretch.nd rfl (.inl rfl)) (pgs_cons (pg_name (i := 4) scStretch.nd rfl (.inl rfl)) (pgs_cons (pg_name (i := 5) scStretch.nd rfl (.inl rfl)) pgs_nil)))))
      (pss_one (ps_ret (pe_chain op_le op_le (pv 4) (pe_callB (cr_sumT rfl) (by rfl) T.sum (by decide +kernel) (pa_cons (pe_slice sl_tupA (pv 1) (po_some (pe_op op_sub (pv 2) (pv 3))) (po_some (pv 2))) pa_nil)) (pv 5)))), ?_⟩
    refine ⟨.ref a, rfl, a, _, rfl, ha, rfl, _, _, rfl, _, _, rfl, _, _, rfl, rfl, ?_⟩
    refine ⟨_, rfl, .ref b, rfl, _, rfl, _, rfl, _, _, rfl, rfl, _, rfl, _, rfl, _, rfl, ?_⟩
    have ei : (e : Int) - r.1 = ((e - r.1.toNat : Nat) : Int) := by omega
    rw [ei]
    refine sl_any hb fun p H' s hp => ?_
    rw [cut_nat row _ _ h3, show e - (e - r.1.toNat) = r.1.toNat by omega] at hp
    refine ⟨p, _, rfl, hp, _, _, rfl, rfl, _, rfl, ?_⟩
    have q1 := q H' s
    by_cases c1 : r.2.1 ≤ win row (e - r.1.toNat) r.1.toNat
    · refine (if_pos (decide_eq_true c1)).mpr ⟨_, rfl, _, _, rfl, rfl, ?_⟩
      have : okW row (e - r.1.toNat) r = decide (win row (e - r.1.toNat) r.1.toNat ≤ r.2.2) := by simp [okW, c1]
      rw [this] at q1
      exact q1
    · refine (if_neg (fun z => c1 (of_decide_eq_true z))).mpr ?_
      have : okW row (e - r.1.toNat) r = false := by simp [okW, c1]
      rw [this] at q1
      exact q1
/-! ### row_keeps -/
def RulesAt (K : PySem.W.Frag) (H : Hp) (v : V) (rs : List Ru) : Prop := Dp K H v (.tuple (rs.map dR))
theorem RulesAt.get {H : Hp} {v : V} {rs : List Ru} (h : RulesAt K H v rs) : ∃ a xs, v = .ref a ∧ SqT K H a xs ∧ DpAll K H xs (rs.map dR) := by
  cases h with
  | tup hs ha => exact ⟨_, _, rfl, hs, ha⟩
def spKeep (K : PySem.W.Frag) : Sp := fun vs H Q _ => ∃ (v : V) (b : Addr) (rs : List Ru) (row : List Int), vs = [v, .ref b] ∧ RulesAt K H v rs ∧ SqT K H b (row.map V.int) ∧ (∀ r ∈ rs, 1 ≤ r.1 ∧ r.1 ≤ 8) ∧ row.length ≤ 1000 ∧
  ∀ H', Same H H' → Q (.bl (keepsM rs row)) H'
theorem scKeep : FnScope ["rules", "row", "rule", "end"] ["rules", "row"] (defScope sRowKeeps) := ⟨rfl, rfl, rfl, by decide +kernel, rfl, by decide +kernel, by decide +kernel⟩
theorem dR_at {H : Hp} {xs : List V} {rs : List Ru} {i : Nat} {x : V} (ha : DpAll K H xs (rs.map dR)) (hx : xs[i]? = some x) : ∃ r, rs[i]? = some r ∧ Dp K H x (dR r) := by
  obtain ⟨d, hd, h⟩ := dpa_get ha hx
  rw [List.getElem?_map] at hd
  obtain ⟨r, hr, rfl⟩ := Option.map_eq_some_iff.mp hd
  exact ⟨r, hr, h⟩
theorem keeps_no {rs : List Ru} {row : List Int} {i : Nat} {r : Ru} {j : Nat} (hi : rs[i]? = some r) (hj : j < row.length + 1 - r.1.toNat) (h : okW row j r = false) : keepsM rs row = false := by
  cases e : keepsM rs row with
  | false => rfl
  | true =>
    have h1 := List.all_eq_true.mp e r (List.mem_of_getElem? hi)
    have h2 := List.all_eq_true.mp h1 j (List.mem_range.mpr hj)
    have h3 : okW row j r = true := h2
    rw [h] at h3
    cases h3
theorem keeps_yes {rs : List Ru} {row : List Int} (h : ∀ (i : Nat) (r : Ru), rs[i]? = some r → kw row r = true) : keepsM rs row = true := by
  refine List.all_eq_true.mpr fun r hr => ?_
  obtain ⟨i, hi⟩ := List.getElem?_of_mem hr
  exact h i r hi
theorem kw_yes {row : List Int} {r : Ru} (h : ∀ j, j < row.length + 1 - r.1.toNat → okW row j r = true) : kw row r = true := List.all_eq_true.mpr fun j hj => h j (List.mem_range.mp hj)
theorem c_rowkeeps (D : Df K mg "row_keeps" sRowKeeps) (T : Txt mg) (CS : Cal P w K mg base "stretch_keeps" 1 ["rule", "row", "end"] (spStretch K)) : Cal P w K mg base "row_keeps" 2 ["rules", "row"] (spKeep K) := by
  refine cal_of D scKeep (fun _ _ _ _ _ _ us hl => match us, hl with | [_, _], _ => rfl) (fun vs H Q E h => ?_) (fun f cdv A outer s H vs Q E hr h => ?_)
  · obtain ⟨v, b, rs, row, rfl, _⟩ := h
    rfl
  · obtain ⟨v, b, rs, row, rfl, hv, hb, hok, hz, q⟩ := h
    obtain ⟨a, xs, rfl, hs, ha⟩ := hv.get
    have el : xs.length = rs.length := by rw [dpa_len ha, List.length_map]
    refine ⟨_, pss_cons (ps_for PassesOwn.never rfl (pi_tup (pv 0)) (pg_name (i := 2) scKeep.nd rfl (.inl rfl))
        (pss_one (ps_for PassesOwn.never rfl (pi_range2 (by rfl) T.range (pa_cons (pe_ix ix_tup (pv 2) pe_int (fun _ _ => rfl)) (pa_cons (pe_op op_add (pe_callB call_len_seq (by rfl) T.len PySem.boot_len (pa_cons (pv 1) pa_nil)) pe_int) pa_nil))) (pg_name (i := 3) scKeep.nd rfl (.inl rfl))
          (pss_one (ps_if (pt_not (pt_val (pe_cal CS hr (pa_cons (pv 2) (pa_cons (pv 1) (pa_cons (pv 3) pa_nil)))))) (pss_one (ps_ret pe_bl)) pss_nil)))))
      (pss_one (ps_ret pe_bl)), ?_⟩
    refine ⟨.ref a, rfl, a, rfl, ⟨_, hs⟩, for_tup (K := K) (a := a) (xs := xs) (fun i σ H' => Same H H' ∧ (∃ y z, σ = [some (.ref a), some (.ref b), y, z]) ∧ ∀ j r, j < i → rs[j]? = some r → kw row r = true)
      ⟨Same.refl H, ⟨none, none, rfl⟩, fun j r h => absurd h (by omega)⟩ (fun i σ H' _ p => Same.tup p.1 hs) ?_ ?_⟩
    · rintro i x σ H' hx ⟨s1, ⟨y, z, rfl⟩, hj⟩
      obtain ⟨r, hr1, hr2⟩ := dR_at ha hx
      have hr3 := dp_same s1 _ _ hr2
      obtain ⟨c, rfl, hc⟩ := dR_get hr3
      have ok1 := hok r (List.mem_of_getElem? hr1)
      refine ⟨.ref c, rfl, c, _, 0, _, rfl, rfl, hc, atI_nat (j := 0) rfl, .ref b, rfl, b, _, rfl, .inr (Same.tup s1 hb), _, 1, rfl, rfl, r.1, _, rfl, ⟨by omega, by omega, by rw [List.length_map]; omega, by rw [List.length_map]; omega⟩, ?_⟩
      have en : ((((row.map V.int).length : Int) + 1) - r.1).toNat = row.length + 1 - r.1.toNat := by
        rw [List.length_map]
        omega
      rw [en]
      refine for_range (lo := r.1) (n := row.length + 1 - r.1.toNat) (fun k σ H2 => Same H' H2 ∧ (∃ z, σ = [some (.ref a), some (.ref b), some (.ref c), z]) ∧ ∀ j, j < k → okW row j r = true) ⟨Same.refl _, ⟨_, rfl⟩, fun j h => absurd h (by omega)⟩ ?_ ?_
      · rintro k σ H2 hk ⟨s2, ⟨z2, rfl⟩, hw⟩
        have s3 := s1.trans s2
        refine ⟨.ref c, rfl, .ref b, rfl, .int (r.1 + k), rfl, .ref c, b, r, row, r.1.toNat + k, ?_, dp_same s2 _ _ hr3, Same.tup s3 hb, ok1.1, by omega, by omega, fun H3 s4 => ?_⟩
        · rw [show r.1 + (k : Int) = ((r.1.toNat + k : Nat) : Int) by omega]
          rfl
        · rw [show r.1.toNat + k - r.1.toNat = k by omega]
          refine ⟨_, rfl, ?_⟩
          cases ek : okW row k r with
          | false =>
            refine iteT ?_
            have q1 := q H3 (s3.trans s4)
            rw [keeps_no hr1 hk ek] at q1
            exact q1
          | true =>
            refine iteF ⟨s2.trans s4, ⟨_, rfl⟩, fun j hj2 => ?_⟩
            by_cases e : j = k
            · rw [e]
              exact ek
            · exact hw j (by omega)
      · rintro σ H2 ⟨s2, ⟨z2, rfl⟩, hw⟩
        refine ⟨s1.trans s2, ⟨_, _, rfl⟩, fun j r' hj2 hr' => ?_⟩
        by_cases e : j = i
        · rw [e, hr1] at hr'
          cases hr'
          exact kw_yes hw
        · exact hj j r' (by omega) hr'
    · rintro σ H' ⟨s1, ⟨y, z, rfl⟩, hj⟩
      have q1 := q H' s1
      rw [keeps_yes fun i r hr => hj i r (by rw [el]; exact (List.getElem?_eq_some_iff.mp hr).1) hr] at q1
      exact q1
/-! ### must_be_rules, must_be_row, where nothing is refused; keeps -/
def spMustR (K : PySem.W.Frag) : Sp := fun vs H Q _ => ∃ v d, vs = [v] ∧ Dp K H v d ∧ areD d = true ∧ ∀ H', Same H H' → Q .non H'
theorem scMustR : FnScope ["thing"] ["thing"] (defScope sMustBeRules) := ⟨rfl, rfl, rfl, by decide +kernel, rfl, by decide +kernel, by decide +kernel⟩
theorem c_mustR (D : Df K mg "must_be_rules" sMustBeRules) (CA : Cal P w K mg base "are_rules" 3 ["thing"] (spAre K)) : Cal P w K mg base "must_be_rules" 4 ["thing"] (spMustR K) := by
  refine cal_of D scMustR (fun _ _ _ _ _ _ us hl => match us, hl with | [_], _ => rfl) (fun vs H Q E h => ?_) (fun f cdv A outer s H vs Q E hr h => ?_)
  · obtain ⟨v, d, rfl, _⟩ := h
    rfl
  · obtain ⟨v, d, rfl, hd, ht, q⟩ := h
    refine ⟨_, pss_one (ps_if (pt_not (pt_val (pe_cal CA hr (pa_cons (pv 0) pa_nil)))) (pss_one ps_never) pss_nil), ?_⟩
    refine ⟨v, rfl, v, d, rfl, hd, fun H' s => ⟨_, rfl, ?_⟩⟩
    rw [ht]
    exact iteF (q H' s)
def spMustW (K : PySem.W.Frag) : Sp := fun vs H Q _ => ∃ v d, vs = [v] ∧ Dp K H v d ∧ rowD d = true ∧ ∀ H', Same H H' → Q .non H'
theorem scMustW : FnScope ["thing"] ["thing"] (defScope sMustBeRow) := ⟨rfl, rfl, rfl, by decide +kernel, rfl, by decide +kernel, by decide +kernel⟩
theorem c_mustW (D : Df K mg "must_be_row" sMustBeRow) (CA : Cal P w K mg base "is_row" 3 ["thing"] (spRow K)) : Cal P w K mg base "must_be_row" 4 ["thing"] (spMustW K) := by
  refine cal_of D scMustW (fun _ _ _ _ _ _ us hl => match us, hl with | [_], _ => rfl) (fun vs H Q E h => ?_) (fun f cdv A outer s H vs Q E hr h => ?_)
  · obtain ⟨v, d, rfl, _⟩ := h
    rfl
  · obtain ⟨v, d, rfl, hd, ht, q⟩ := h
    refine ⟨_, pss_one (ps_if (pt_not (pt_val (pe_cal CA hr (pa_cons (pv 0) pa_nil)))) (pss_one ps_never) pss_nil), ?_⟩
    refine ⟨v, rfl, v, d, rfl, hd, fun H' s => ⟨_, rfl, ?_⟩⟩
    rw [ht]
    exact iteF (q H' s)
/-- rules and a row that are such -/
def Good (rs : List Ru) : Prop := areD (.tuple (rs.map dR)) = true
def GoodW (row : List Int) : Prop := row.length ≤ 120 ∧ ∀ x ∈ row, 0 ≤ x ∧ x ≤ 1
theorem GoodW.rowD {row : List Int} (h : GoodW row) : rowD (.tuple (row.map .int)) = true := by
  show (decide ((row.map PyData.int).length ≤ 120) && (row.map PyData.int).all placeD) = true
  rw [List.length_map, decide_eq_true h.1, Bool.true_and]
  refine List.all_eq_true.mpr fun d hd => ?_
  obtain ⟨x, hx, rfl⟩ := List.mem_map.mp hd
  exact decide_eq_true (h.2 x hx)
theorem Good.ok {rs : List Ru} (h : Good rs) : ∀ r ∈ rs, okR r := fun r hr => by
  unfold Good areD at h
  simp only [Bool.and_eq_true] at h
  have h1 := List.all_eq_true.mp h.2.1 (dR r) (List.mem_map_of_mem hr)
  obtain ⟨s, l, m, e, a⟩ := ruleD_tup h1
  unfold dR at e
  cases e
  exact a
def spKeeps (K : PySem.W.Frag) : Sp := fun vs H Q _ => ∃ (v : V) (b : Addr) (rs : List Ru) (row : List Int), vs = [v, .ref b] ∧ RulesAt K H v rs ∧ SqT K H b (row.map V.int) ∧ Good rs ∧ GoodW row ∧
  ∀ H', Same H H' → Q (.bl (keepsM rs row)) H'
theorem scKeeps : FnScope ["rules", "row"] ["rules", "row"] (defScope sKeeps) := ⟨rfl, rfl, rfl, by decide +kernel, rfl, by decide +kernel, by decide +kernel⟩
theorem c_keeps (D : Df K mg "keeps" sKeeps) (C1 : Cal P w K mg base "must_be_rules" 4 ["thing"] (spMustR K)) (C2 : Cal P w K mg base "must_be_row" 4 ["thing"] (spMustW K)) (C3 : Cal P w K mg base "row_keeps" 2 ["rules", "row"] (spKeep K)) : Cal P w K mg base "keeps" 5 ["rules", "row"] (spKeeps K) := by
  refine cal_of D scKeeps (fun _ _ _ _ _ _ us hl => match us, hl with | [_, _], _ => rfl) (fun vs H Q E h => ?_) (fun f cdv A outer s H vs Q E hr h => ?_)
  · obtain ⟨v, b, rs, row, rfl, _⟩ := h
    rfl
  · obtain ⟨v, b, rs, row, rfl, hv, hb, hg, hw, q⟩ := h
    refine ⟨_, pss_cons (ps_expr (pe_cal C1 hr (pa_cons (pv 0) pa_nil))) (pss_cons (ps_expr (pe_cal C2 hr (pa_cons (pv 1) pa_nil))) (pss_one (ps_ret (pe_cal C3 (hr.mono (by decide)) (pa_cons (pv 0) (pa_cons (pv 1) pa_nil)))))), ?_⟩
    refine ⟨v, rfl, v, _, rfl, hv, hg, fun H1 s1 => ?_⟩
    refine ⟨.ref b, rfl, .ref b, _, rfl, .tup (Same.tup s1 hb) (dpa_ints row), hw.rowD, fun H2 s2 => ?_⟩
    have s3 := s1.trans s2
    exact ⟨v, rfl, .ref b, rfl, v, b, rs, row, rfl, dp_same s3 _ _ hv, Same.tup s3 hb, fun r hr => ⟨(hg.ok r hr).1, (hg.ok r hr).2.1⟩, by have := hw.1; omega, fun H3 s4 => q H3 (s3.trans s4)⟩
end
end K01
namespace K01
open PySem PySem.Spec PyProof.Rows L2 XR
/-! ### heaps beside a deck -/
def exc (H : Hp) (Z : Addr → Bool) : Hp := fun b => if Z b = true then none else H b
/-- what is new -/
def nw (H H' : Hp) : Hp := fun b => if (H b).isNone = true then H' b else none
/-- all but d is as it was -/
def SB (d : Addr) (H H' : Hp) : Prop := ∀ b o, b ≠ d → H b = some o → H' b = some o
theorem SB.refl (d : Addr) (H : Hp) : SB d H H := fun _ _ _ h => h
theorem SB.trans {d : Addr} {H H1 H2 : Hp} (a : SB d H H1) (b : SB d H1 H2) : SB d H H2 := fun c o n h => b c o n (a c o n h)
theorem Same.sb {d : Addr} {H H' : Hp} (a : Same H H') : SB d H H' := fun b o _ h => a b o h
theorem sb_set {d : Addr} {H : Hp} {o : HO} : SB d H (upd H d o) := fun b _ n h => by
  rw [upd_ne n]
  exact h
theorem SB.exc {d : Addr} {H H' : Hp} {Z : Addr → Bool} (a : SB d H H') (hd : Z d = true) : Same (exc H Z) (exc H' Z) := fun b o h => by
  unfold K01.exc at h ⊢
  cases z : Z b with
  | true =>
    rw [z, if_pos rfl] at h
    cases h
  | false =>
    rw [z, if_neg Bool.false_ne_true] at h
    rw [if_neg Bool.false_ne_true]
    exact a b o (fun e => by rw [e, hd] at z; cases z) h
theorem exc_same (H : Hp) (Z : Addr → Bool) : Same (exc H Z) H := fun b o h => by
  unfold K01.exc at h
  split at h
  · cases h
  · exact h
theorem nw_same (H H' : Hp) : Same (nw H H') H' := fun b o h => by
  unfold nw at h
  split at h
  · exact h
  · cases h
theorem nw_exc {H H' : Hp} {Z : Addr → Bool} (hz : ∀ b, Z b = true → H b ≠ none) : Same (nw H H') (exc H' Z) := fun b o h => by
  unfold nw at h
  unfold K01.exc
  cases hb : H b with
  | none =>
    rw [hb, Option.isNone_none, if_pos rfl] at h
    cases z : Z b with
    | true => exact absurd hb (hz b z)
    | false =>
      rw [if_neg Bool.false_ne_true]
      exact h
  | some x =>
    rw [hb] at h
    cases h
theorem nw_mono {H H1 H2 : Hp} (a : Same H H1) (b : Same H1 H2) : Same (nw H H1) (nw H H2) := fun c o h => by
  unfold nw at h ⊢
  split at h
  · rename_i z
    rw [if_pos z]
    exact b c o h
  · cases h
theorem nw_sub {H H1 H2 : Hp} (a : Same H H1) : Same (nw H1 H2) (nw H H2) := fun c o h => by
  unfold nw at h ⊢
  split at h
  · rename_i z
    have z1 : H c = none := a.free (Option.isNone_iff_eq_none.mp z)
    rw [z1]
    exact h
  · cases h
theorem nw_new {H : Hp} {p : Addr} {o : HO} (hp : H p = none) : nw H (upd H p o) p = some o := by
  unfold nw
  rw [hp, upd_same]
  rfl
/-- the deck at d: three ints, the last one at most n -/
def DK (H : Hp) (d : Addr) (n : Nat) : Prop := ∃ a b c : Int, H d = some (.lst [.int a, .int b, .int c]) ∧ 0 ≤ b ∧ b < 2147483579 ∧ 0 ≤ c ∧ c ≤ n
theorem DK.mono {H : Hp} {d : Addr} {n m : Nat} (h : DK H d n) (e : n ≤ m) : DK H d m := by
  obtain ⟨a, b, c, h1, h2, h3, h4, h5⟩ := h
  exact ⟨a, b, c, h1, h2, h3, h4, by omega⟩
theorem DK.same {H H' : Hp} {d : Addr} {n : Nat} (h : DK H d n) (e : Same H H') : DK H' d n := by
  obtain ⟨a, b, c, h1, h2⟩ := h
  exact ⟨a, b, c, e _ _ h1, h2⟩
theorem DK.ne {H : Hp} {d : Addr} {n : Nat} (h : DK H d n) : H d ≠ none := by
  obtain ⟨a, b, c, h1, h2⟩ := h
  rw [h1]
  exact fun z => nomatch z
section
variable {P : Program} {w : World} {K : PySem.W.Frag} {mg : Str → Option Value} {base : Heap}
/-! ### _law_deck -/
def spDeck : Sp := fun vs H Q _ => ∃ (c : Int) (t : Nat), vs = [.int c, .int t] ∧ ∀ p H', H p = none → H' = upd H p (.lst [.int (if c ≥ 10 ^ 18 then c - 10 ^ 18 else 0), .int (c % 2147483579), .int t]) → Q (.ref p) H'
theorem scDeck : FnScope ["cell", "turn"] ["cell", "turn"] (defScope sLawDeck) := ⟨rfl, rfl, rfl, by decide +kernel, rfl, by decide +kernel, by decide +kernel⟩
theorem c_deck (D : Df K mg "_law_deck" sLawDeck) : Cal P w K mg base "_law_deck" 1 ["cell", "turn"] spDeck := by
  refine cal_of D scDeck (fun _ _ _ _ _ _ us hl => match us, hl with | [_, _], _ => rfl) (fun vs H Q E h => ?_) (fun f cdv A outer s H vs Q E hr h => ?_)
  · obtain ⟨c, t, rfl, _⟩ := h
    rfl
  · obtain ⟨c, t, rfl, q⟩ := h
    refine ⟨_, pss_cons (ps_if (pt_cmpR op_ge (pv 0) (pe_op op_pow pe_int pe_int) (nomark _)) (pss_one (ps_ret (pe_lst (pa_cons (pe_op op_sub (pv 0) (pe_op op_pow pe_int pe_int)) (pa_cons (pe_op op_mod (pv 0) pe_int) (pa_cons (pv 1) pa_nil)))))) pss_nil)
      (pss_one (ps_ret (pe_lst (pa_cons pe_int (pa_cons (pe_op op_mod (pv 0) pe_int) (pa_cons (pv 1) pa_nil)))))), ?_⟩
    refine ⟨_, rfl, 10, 18, rfl, rfl, ⟨by decide, by decide, by decide⟩, c, _, rfl, rfl, _, rfl, ite2 (fun e => ?_) (fun e => ?_)⟩
    · have e1 : c ≥ 10 ^ 18 := of_decide_eq_true e
      refine ⟨_, rfl, 10, 18, rfl, rfl, ⟨by decide, by decide, by decide⟩, c, _, rfl, rfl, _, rfl, c, 2147483579, rfl, rfl, (by show (0 : Int) < 2147483579; decide), _, rfl, (by show 3 ≤ sizeLine; decide), fun p hp => q p _ hp ?_⟩
      rw [if_pos e1]
      rfl
    · have e1 : ¬ c ≥ 10 ^ 18 := fun z => e (decide_eq_true z)
      refine ⟨_, rfl, c, 2147483579, rfl, rfl, (by show (0 : Int) < 2147483579; decide), _, rfl, (by show 3 ≤ sizeLine; decide), fun p hp => q p _ hp ?_⟩
      rw [if_neg e1]
/-! ### _law_pick -/
def spPick : Sp := fun vs H Q _ => ∃ (d : Addr) (k n : Nat), vs = [.ref d, .int k] ∧ 1 ≤ k ∧ k ≤ 1000000 ∧ n ≤ 1000000 ∧ DK H d n ∧ ∀ H' (i : Nat), i < k → SB d H H' → DK H' d (n + 1) → Q (.int i) H'
theorem scPick : FnScope ["deck", "size", "found", "number"] ["deck", "size"] (defScope sLawPick) := ⟨rfl, rfl, rfl, by decide +kernel, rfl, by decide +kernel, by decide +kernel⟩
theorem mod_nat {x : Int} {k : Nat} (h : 1 ≤ k) : ∃ i : Nat, i < k ∧ x % (k : Int) = (i : Int) := by
  have h1 := Int.emod_nonneg x (show (k : Int) ≠ 0 by omega)
  have h2 := Int.emod_lt_of_pos x (show (0 : Int) < k by omega)
  exact ⟨(x % (k : Int)).toNat, by omega, by omega⟩
theorem c_pick (D : Df K mg "_law_pick" sLawPick) : Cal P w K mg base "_law_pick" 1 ["deck", "size"] spPick := by
  refine cal_of D scPick (fun _ _ _ _ _ _ us hl => match us, hl with | [_, _], _ => rfl) (fun vs H Q E h => ?_) (fun f cdv A outer s H vs Q E hr h => ?_)
  · obtain ⟨d, k, n, rfl, _⟩ := h
    rfl
  · obtain ⟨d, k, n, rfl, h1, h2, h3, ⟨a, b, c, hd, b0, b1, c0, c1⟩, q⟩ := h
    refine ⟨_, pss_cons (ps_if (pt_cmpR op_gt (pe_ix ix_list (pv 0) pe_int (fun _ _ => rfl)) pe_int (nomark _))
        (pss_cons (ps_set (i := 2) scPick.nd rfl (.inl rfl) (pe_op op_mod (pe_ix ix_list (pv 0) pe_int (fun _ _ => rfl)) (pv 1)))
        (pss_cons (ps_asg (pe_op op_fdiv (pe_ix ix_list (pv 0) pe_int (fun _ _ => rfl)) (pv 1)) (pg_sub (pv 0) pe_int set_list))
        (pss_one (ps_ret (pv 2))))) pss_nil)
      (pss_cons (ps_asg (pe_op op_add (pe_ix ix_list (pv 0) pe_int (fun _ _ => rfl)) pe_int) (pg_sub (pv 0) pe_int set_list))
      (pss_cons (ps_set (i := 3) scPick.nd rfl (.inl rfl) (pe_op op_mod (pe_op op_pow (pe_op op_add (pe_ix ix_list (pv 0) pe_int (fun _ _ => rfl)) (pe_op op_mul pe_int (pe_ix ix_list (pv 0) pe_int (fun _ _ => rfl)))) pe_int) pe_int))
      (pss_cons (ps_set (i := 2) scPick.nd rfl (.inl rfl) (pe_op op_fdiv (pe_op op_mod (pe_op op_pow (pe_op op_add (pv 3) (pe_op op_mul pe_int (pe_ix ix_list (pv 0) pe_int (fun _ _ => rfl)))) pe_int) pe_int) pe_int))
      (pss_one (ps_ret (pe_op op_mod (pv 2) (pv 1))))))), ?_⟩
    refine ⟨_, rfl, d, _, 0, _, rfl, rfl, SqL.of hd, atI_nat (j := 0) rfl, a, 1, rfl, rfl, _, rfl, ite2 (fun e => ?_) (fun e => ?_)⟩
    · obtain ⟨i, hi, ei⟩ := mod_nat (x := a) h1
      refine ⟨_, rfl, d, _, 0, _, rfl, rfl, SqL.of hd, atI_nat (j := 0) rfl, _, rfl, a, k, rfl, rfl, (by show (0 : Int) < k; omega), ?_⟩
      refine ⟨_, rfl, d, _, 0, _, rfl, rfl, SqL.of hd, atI_nat (j := 0) rfl, _, rfl, a, k, rfl, rfl, ⟨by show (0 : Int) < k; omega, by show (k : Int) < 1073741824; omega⟩, ?_⟩
      refine ⟨_, rfl, d, _, 0, 0, rfl, rfl, hd, rfl, _, rfl, ?_⟩
      have z := q (upd H d (.lst [.int (a / k), .int b, .int c])) i hi sb_set ⟨_, _, _, upd_same, b0, b1, c0, by omega⟩
      rw [← ei] at z
      exact z
    · refine ⟨_, rfl, d, _, 2, _, rfl, rfl, SqL.of hd, atI_nat (j := 2) rfl, c, 1, rfl, rfl, _, rfl, d, _, 2, 2, rfl, rfl, hd, rfl, ?_⟩
      have hd2 : (upd H d (.lst [.int a, .int b, .int (c + 1)])) d = some (.lst [.int a, .int b, .int (c + 1)]) := upd_same
      refine ⟨_, rfl, d, _, 1, _, rfl, rfl, SqL.of hd2, atI_nat (j := 1) rfl, _, rfl, d, _, 2, _, rfl, rfl, SqL.of hd2, atI_nat (j := 2) rfl, 15485867, c + 1, rfl, rfl, .inl ⟨by decide, by decide⟩, b, _, rfl, rfl, _, 5, rfl, rfl, ⟨by decide, by decide, by omega⟩, _, 2147483647, rfl, rfl, (by show (0 : Int) < 2147483647; decide), ?_⟩
      have n0 := Int.emod_nonneg ((b + 15485867 * (c + 1)) ^ (5 : Int).toNat) (show (2147483647 : Int) ≠ 0 by decide)
      have n1 := Int.emod_lt_of_pos ((b + 15485867 * (c + 1)) ^ (5 : Int).toNat) (show (0 : Int) < 2147483647 by decide)
      refine ⟨_, rfl, _, rfl, d, _, 2, _, rfl, rfl, SqL.of hd2, atI_nat (j := 2) rfl, 7919, c + 1, rfl, rfl, .inl ⟨by decide, by decide⟩, _, _, rfl, rfl, _, 3, rfl, rfl, ⟨by decide, by decide, by omega⟩, _, 2147483629, rfl, rfl, (by show (0 : Int) < 2147483629; decide), _, 32, rfl, rfl, ⟨by decide, by decide⟩, ?_⟩
      refine ⟨_, rfl, _, rfl, _, k, rfl, rfl, (by show (0 : Int) < k; omega), ?_⟩
      obtain ⟨i, hi, ei⟩ := mod_nat (x := ((((b + 15485867 * (c + 1)) ^ (5 : Int).toNat % 2147483647) + 7919 * (c + 1)) ^ (3 : Int).toNat % 2147483629) / 32) h1
      have z := q (upd H d (.lst [.int a, .int b, .int (c + 1)])) i hi sb_set ⟨_, _, _, upd_same, b0, b1, by omega, by omega⟩
      rw [← ei] at z
      exact z
/-! ### _law_whole, _law_one, _law_sort, _law_same -/
theorem scLWhole : FnScope ["thing"] ["thing"] (defScope sLawWhole) := ⟨rfl, rfl, rfl, by decide +kernel, rfl, by decide +kernel, by decide +kernel⟩
theorem c_lwhole (D : Df K mg "_law_whole" sLawWhole) (T : Txt mg) : Cal P w K mg base "_law_whole" 1 ["thing"] (spWhole K) := by
  refine cal_of D scLWhole (fun _ _ _ _ _ _ us hl => match us, hl with | [_], _ => rfl) (fun vs H Q E h => ?_) (fun f cdv A outer s H vs Q E hr h => ?_)
  · obtain ⟨v, d, rfl, _⟩ := h
    rfl
  · obtain ⟨v, d, rfl, hd, q⟩ := h
    refine ⟨_, pss_one (ps_ret (pe_and (pe_isi T.isi (pv 0) (pe_ty (T := "int") T.int (by decide +kernel))) (pe_one (pe_not (pe_isi T.isi (pv 0) (pe_ty (T := "bool") T.bool (by decide +kernel))))))), ?_⟩
    refine ⟨v, rfl, _, _, _, _, _, rfl, .ty _, dp_ty hd, kit_ty (kit_int d), _, rfl, ite2 (fun e => ⟨v, rfl, _, _, _, _, _, rfl, .ty _, dp_ty hd, kit_ty (kit_bool d), _, rfl, ?_⟩) (fun e => ?_)⟩
    · cases hd <;> first | exact q | cases e
    · cases hd <;> first | exact q | exact absurd rfl e
def spOne (K : PySem.W.Frag) : Sp := fun vs H Q _ => ∃ (d l : Addr) (xs : List V) (n : Nat), vs = [.ref d, .ref l] ∧ l ≠ d ∧ SqL K H l xs ∧ 1 ≤ xs.length ∧ xs.length ≤ 1000000 ∧ n ≤ 1000000 ∧ DK H d n ∧
  ∀ H' (i : Nat) v, xs[i]? = some v → SB d H H' → DK H' d (n + 1) → Q v H'
theorem SB.seq {d l : Addr} {H H' : Hp} {xs : List V} (e : SB d H H') (n : l ≠ d) (h : SqL K H l xs) : SqL K H' l xs := by
  rcases h with (h | ⟨o, h⟩) | h
  · exact .inl (.inl (e _ _ n h))
  · exact .inl (.inr ⟨o, e _ _ n h⟩)
  · exact .inr h
theorem scOne : FnScope ["deck", "some"] ["deck", "some"] (defScope sLawOne) := ⟨rfl, rfl, rfl, by decide +kernel, rfl, by decide +kernel, by decide +kernel⟩
theorem c_one (D : Df K mg "_law_one" sLawOne) (T : Txt mg) (CP : Cal P w K mg base "_law_pick" 1 ["deck", "size"] spPick) : Cal P w K mg base "_law_one" 2 ["deck", "some"] (spOne K) := by
  refine cal_of D scOne (fun _ _ _ _ _ _ us hl => match us, hl with | [_, _], _ => rfl) (fun vs H Q E h => ?_) (fun f cdv A outer s H vs Q E hr h => ?_)
  · obtain ⟨d, l, xs, n, rfl, _⟩ := h
    rfl
  · obtain ⟨d, l, xs, n, rfl, hne, hl, h1, h2, hn, hd, q⟩ := h
    refine ⟨_, pss_one (ps_ret (pe_ix ix_list (pv 1) (pe_cal CP hr (pa_cons (pv 0) (pa_cons (pe_callB call_len_seq (by rfl) T.len PySem.boot_len (pa_cons (pv 1) pa_nil)) pa_nil))) (fun _ _ => rfl))), ?_⟩
    refine ⟨_, rfl, .ref d, rfl, .ref l, rfl, l, xs, rfl, .inl hl, d, xs.length, n, rfl, h1, h2, hn, hd, fun H' i hi sb dk => ?_⟩
    exact ⟨l, xs, i, xs[i], rfl, rfl, sb.seq hne hl, atI_nat (List.getElem?_eq_getElem hi), q H' i _ (List.getElem?_eq_getElem hi) sb dk⟩
def sortD : PyData → Int
  | .bool _ => 1
  | .int _ => 2
  | .str _ => 3
  | .list _ => 4
  | .tuple _ => 5
  | _ => 6
def spSort (K : PySem.W.Frag) : Sp := fun vs H Q _ => ∃ v d, vs = [v] ∧ Dp K H v d ∧ Q (.int (sortD d)) H
theorem scSort : FnScope ["thing"] ["thing"] (defScope sLawSort) := ⟨rfl, rfl, rfl, by decide +kernel, rfl, by decide +kernel, by decide +kernel⟩
theorem c_sort (D : Df K mg "_law_sort" sLawSort) (T : Txt mg) : Cal P w K mg base "_law_sort" 1 ["thing"] (spSort K) := by
  refine cal_of D scSort (fun _ _ _ _ _ _ us hl => match us, hl with | [_], _ => rfl) (fun vs H Q E h => ?_) (fun f cdv A outer s H vs Q E hr h => ?_)
  · obtain ⟨v, d, rfl, _⟩ := h
    rfl
  · obtain ⟨v, d, rfl, hd, q⟩ := h
    refine ⟨_, pss_cons (ps_if (pt_val (pe_isi T.isi (pv 0) (pe_ty (T := "bool") T.bool (by decide +kernel)))) (pss_one (ps_ret pe_int)) pss_nil)
      (pss_cons (ps_if (pt_val (pe_isi T.isi (pv 0) (pe_ty (T := "int") T.int (by decide +kernel)))) (pss_one (ps_ret pe_int)) pss_nil)
      (pss_cons (ps_if (pt_val (pe_isi T.isi (pv 0) (pe_ty (T := "str") T.str (by decide +kernel)))) (pss_one (ps_ret pe_int)) pss_nil)
      (pss_cons (ps_if (pt_val (pe_isi T.isi (pv 0) (pe_ty (T := "list") T.list (by decide +kernel)))) (pss_one (ps_ret pe_int)) pss_nil)
      (pss_one (ps_ret (pe_ifExp (pt_val (pe_isi T.isi (pv 0) (pe_ty (T := "tuple") T.tuple (by decide +kernel)))) pe_int pe_int)))))), ?_⟩
    refine ⟨v, rfl, _, _, _, _, _, rfl, .ty _, dp_ty hd, kit_ty (kit_bool d), _, rfl, ?_⟩
    cases d with
    | bool b => exact iteT q
    | _ =>
      refine iteF ⟨v, rfl, _, _, _, _, _, rfl, .ty _, dp_ty hd, kit_ty (kit_int _), _, rfl, ?_⟩
      first
        | exact iteT q
        | (refine iteF ⟨v, rfl, _, _, _, _, _, rfl, .ty _, dp_ty hd, kit_ty (kit_str _), _, rfl, ?_⟩
           first
             | exact iteT q
             | (refine iteF ⟨v, rfl, _, _, _, _, _, rfl, .ty _, dp_ty hd, kit_ty (kit_list _), _, rfl, ?_⟩
                first
                  | exact iteT q
                  | (refine iteF ⟨v, rfl, _, _, _, _, _, rfl, .ty _, dp_ty hd, kit_ty (kit_tuple _), _, rfl, ?_⟩
                     first
                       | exact iteT q
                       | exact iteF q)))
/-- of two truths -/
def spSame : Sp := fun vs H Q _ => ∃ a b : Bool, vs = [.bl a, .bl b] ∧ Q (.bl (decide (a = b))) H
theorem scSame : FnScope ["told", "due"] ["told", "due"] (defScope sLawSame) := ⟨rfl, rfl, rfl, by decide +kernel, rfl, by decide +kernel, by decide +kernel⟩
theorem c_same (D : Df K mg "_law_same" sLawSame) (CS : Cal P w K mg base "_law_sort" 1 ["thing"] (spSort K)) : Cal P w K mg base "_law_same" 2 ["told", "due"] spSame := by
  refine cal_of D scSame (fun _ _ _ _ _ _ us hl => match us, hl with | [_, _], _ => rfl) (fun vs H Q E h => ?_) (fun f cdv A outer s H vs Q E hr h => ?_)
  · obtain ⟨a, b, rfl, _⟩ := h
    rfl
  · obtain ⟨a, b, rfl, q⟩ := h
    refine ⟨_, pss_cons (ps_if (pt_cmpR op_ne (pe_cal CS hr (pa_cons (pv 0) pa_nil)) (pe_cal CS hr (pa_cons (pv 1) pa_nil)) (nomark _)) (pss_one (ps_ret pe_bl)) pss_nil)
      (pss_cons (ps_if (PW.pt (pw_and (pt_cmpR op_gt (pe_cal CS hr (pa_cons (pv 0) pa_nil)) pe_int (nomark _)) (pw_and1 (pt_cmpR op_lt (pe_cal CS hr (pa_cons (pv 0) pa_nil)) pe_int (nomark _))))) pss_never pss_nil)
      (pss_one (ps_ret (pe_cmpR op_eq (pv 0) (pv 1) (nomark _))))), ?_⟩
    refine ⟨_, rfl, _, _, rfl, .bl a, _, rfl, _, _, rfl, .bl b, rfl, _, rfl, iteF ?_⟩
    refine ⟨_, rfl, _, _, rfl, .bl a, _, _, rfl, rfl, _, rfl, iteF (iteF ?_)⟩
    refine ⟨_, rfl, _, rfl, rfl, ?_⟩
    have e : decide (V.bl a = V.bl b) = decide (a = b) := by cases a <;> cases b <;> rfl
    rw [e]
    exact q
end
end K01
namespace K01
open PySem PySem.Spec PyProof.Rows L2 XR
/-! ### displays of data -/
section
variable {K : PySem.W.Frag} {σ : L2.St}
def EvD (K : PySem.W.Frag) (σ : L2.St) (te : TE) (d : PyData) : Prop := ∀ (H : Hp) (Q : VK), (∀ v H', Same H H' → Dp K (nw H H') v d → Q v H') → te σ H Q
def EvA (K : PySem.W.Frag) (σ : L2.St) (ta : TA) (ds : List PyData) : Prop := ∀ (H : Hp) (Q : List V → Hp → Prop), (∀ vs H', Same H H' → DpAll K (nw H H') vs ds → Q vs H') → ta σ H Q
theorem ev_int (i : Int) : EvD K σ (tC (.int i)) (.int i) := fun H Q q => q _ H (Same.refl H) (.int i)
theorem ev_bl (b : Bool) : EvD K σ (tC (.bl b)) (.bool b) := fun H Q q => q _ H (Same.refl H) (.bl b)
theorem ev_non : EvD K σ (tC .non) .none := fun H Q q => q _ H (Same.refl H) .non
theorem ev_str (x : Str) : EvD K σ (tC (.str x)) (.str x) := fun H Q q => q _ H (Same.refl H) (.str x)
theorem ev_neg (i : Int) : EvD K σ (tUn (rU fun i => .int (-i)) (tC (.int i))) (.int (-i)) := fun H Q q => ⟨i, rfl, q _ H (Same.refl H) (.int _)⟩
theorem eva_nil : EvA K σ tNil [] := fun H Q q => q _ H (Same.refl H) .nil
theorem eva_cons {te : TE} {ta : TA} {d : PyData} {ds : List PyData} (h1 : EvD K σ te d) (h2 : EvA K σ ta ds) : EvA K σ (tCons te ta) (d :: ds) := fun H Q q =>
  h1 H _ fun v H1 s1 d1 => h2 H1 _ fun vs H2 s2 d2 => q _ H2 (s1.trans s2) (.cons (dp_same (nw_mono s1 s2) _ _ d1) (dpa_same (nw_sub s1) _ _ d2))
theorem ev_tup {ta : TA} {ds : List PyData} (h : EvA K σ ta ds) (hz : ds.length ≤ sizeLine := by decide) : EvD K σ (tTup ta) (.tuple ds) := fun H Q q =>
  h H _ fun vs H1 s1 d1 => ⟨by rw [dpa_len d1]; exact hz, fun p hp => q _ _ (s1.trans (same_new hp)) (.tup (.inl (.inl (by
    unfold nw
    rw [s1.free hp, upd_same]
    rfl))) (dpa_same (nw_mono s1 (same_new hp)) _ _ d1))⟩
theorem ev_lst {ta : TA} {ds : List PyData} (h : EvA K σ ta ds) (hz : ds.length ≤ sizeLine := by decide) : EvD K σ (tLst ta) (.list ds) := fun H Q q =>
  h H _ fun vs H1 s1 d1 => ⟨by rw [dpa_len d1]; exact hz, fun p hp => q _ _ (s1.trans (same_new hp)) (.lst (.inl (.inl (by
    unfold nw
    rw [s1.free hp, upd_same]
    rfl))) (dpa_same (nw_mono s1 (same_new hp)) _ _ d1))⟩
end
/-- an expression that is data, wherever it stands -/
def PEv (e : Expr) (d : PyData) : Prop := ∀ X : Cx, ∃ te, PE X e te ∧ ∀ σ, EvD X.K σ te d
def PAv (es : List Expr) (ds : List PyData) : Prop := ∀ X : Cx, ∃ ta, PA X es ta ∧ ∀ σ, EvA X.K σ ta ds
theorem pev_int {i : Int} {j : Nat} {pos : Pos} : PEv (.Constant (.int i) j pos) (.int i) := fun X => ⟨_, pe_int, fun σ => ev_int i⟩
theorem pev_bl {b : Bool} {j : Nat} {pos : Pos} : PEv (.Constant (.bool b) j pos) (.bool b) := fun X => ⟨_, pe_bl, fun σ => ev_bl b⟩
theorem pev_non {j : Nat} {pos : Pos} : PEv (.Constant .none j pos) .none := fun X => ⟨_, pe_non, fun σ => ev_non⟩
theorem pev_str {x : Str} {j : Nat} {pos : Pos} : PEv (.Constant (.str x) j pos) (.str x) := fun X => ⟨_, pe_str, fun σ => ev_str x⟩
theorem pev_neg {i : Int} {j : Nat} {p pos : Pos} : PEv (.UnaryOp .USub (.Constant (.int i) j p) pos) (.int (-i)) := fun X => ⟨_, pe_un un_neg pe_int, fun σ => ev_neg i⟩
theorem pev_pow {a b : Int} {j k : Nat} {p q pos : Pos} (h : 0 ≤ b ∧ b ≤ 1000000 ∧ a.natAbs < 2 ^ 64) : PEv (.BinOp (.Constant (.int a) j p) .Pow (.Constant (.int b) k q) pos) (.int (a ^ b.toNat)) := fun X => ⟨_, pe_op op_pow pe_int pe_int, fun σ H Q z => ⟨a, b, rfl, rfl, h, z _ H (Same.refl H) (.int _)⟩⟩
theorem pav_nil : PAv [] [] := fun X => ⟨_, pa_nil, fun σ => eva_nil⟩
theorem pav_cons {e : Expr} {es : List Expr} {d : PyData} {ds : List PyData} (h1 : PEv e d) (h2 : PAv es ds) (hs : ∀ env, starEach (e :: es) env = (false, eval e env) :: starEach es env := by intro _; rfl) : PAv (e :: es) (d :: ds) := fun X => by
  obtain ⟨te, a1, a2⟩ := h1 X
  obtain ⟨ta, b1, b2⟩ := h2 X
  exact ⟨_, pa_cons a1 b1 (hs _), fun σ => eva_cons (a2 σ) (b2 σ)⟩
theorem pev_tup {es : List Expr} {ds : List PyData} {k : Nat} {pos : Pos} (h : PAv es ds) (hz : ds.length ≤ sizeLine := by decide) : PEv (.Tuple es k pos) (.tuple ds) := fun X => by
  obtain ⟨ta, a, b⟩ := h X
  exact ⟨_, pe_tup a, fun σ => ev_tup (b σ) hz⟩
theorem pev_lst {es : List Expr} {ds : List PyData} {pos : Pos} (h : PAv es ds) (hz : ds.length ≤ sizeLine := by decide) : PEv (.List es pos) (.list ds) := fun X => by
  obtain ⟨ta, a, b⟩ := h X
  exact ⟨_, pe_lst a, fun σ => ev_lst (b σ) hz⟩
/-- a display of a list: it stands at a new place -/
def EvL (K : PySem.W.Frag) (σ : L2.St) (te : TE) (ds : List PyData) : Prop := ∀ (H : Hp) (Q : VK), (∀ l vs H', Same H H' → H l = none → H' l = some (.lst vs) → DpAll K (nw H H') vs ds → Q (.ref l) H') → te σ H Q
def PEvL (e : Expr) (ds : List PyData) : Prop := ∀ X : Cx, ∃ te, PE X e te ∧ ∀ σ, EvL X.K σ te ds
theorem pevl {es : List Expr} {ds : List PyData} {pos : Pos} (h : PAv es ds) (hz : ds.length ≤ sizeLine := by decide) : PEvL (.List es pos) ds := fun X => by
  obtain ⟨ta, a, b⟩ := h X
  exact ⟨_, pe_lst a, fun σ H Q q => b σ H _ fun vs H1 s1 d1 => ⟨by rw [dpa_len d1]; exact hz, fun p hp => q _ _ _ (s1.trans (same_new hp)) (s1.free hp) upd_same (dpa_same (nw_mono s1 (same_new hp)) _ _ d1)⟩⟩
/-- the right side of the i-th statement of a body -/
def rhs (b : List Stmt) (i : Nat) : Expr := match b[i]? with
  | some (.Assign _ e _) => e
  | _ => .Constant .none 0 ⟨0, 0, 0, 0⟩
def i3 (a b c : Int) : PyData := .tuple [.int a, .int b, .int c]
theorem oddE : PEvL (rhs (defBody sLawOdd) 0) ([.none, .bool true, .str "", .str "a", .tuple [], .list [], .tuple [.tuple []], .int 7, .int (-1), .int (10 ^ (30 : Int).toNat), .tuple [.int 1, .int 2], .tuple [.tuple [.int 3, .int 1, .int 2]], .tuple [.int 0, .int 1], .list [.int 0, .int 1], .tuple [.int 2, .int 4]]) := by
  exact pevl (pav_cons pev_non (pav_cons pev_bl (pav_cons pev_str (pav_cons pev_str (pav_cons (pev_tup pav_nil) (pav_cons (pev_lst pav_nil) (pav_cons (pev_tup (pav_cons (pev_tup pav_nil) pav_nil)) (pav_cons pev_int (pav_cons pev_neg (pav_cons (pev_pow (by decide)) (pav_cons (pev_tup (pav_cons pev_int (pav_cons pev_int pav_nil))) (pav_cons (pev_tup (pav_cons (pev_tup (pav_cons pev_int (pav_cons pev_int (pav_cons pev_int pav_nil)))) pav_nil)) (pav_cons (pev_tup (pav_cons pev_int (pav_cons pev_int pav_nil))) (pav_cons (pev_lst (pav_cons pev_int (pav_cons pev_int pav_nil))) (pav_cons (pev_tup (pav_cons pev_int (pav_cons pev_int pav_nil))) pav_nil)))))))))))))))
end K01
namespace K01
open PySem PySem.Spec PyProof.Rows L2 XR
section
variable {P : Program} {w : World} {K : PySem.W.Frag} {mg : Str → Option Value} {base : Heap}
/-! ### _law_odd -/
abbrev only (d : Addr) : Addr → Bool := fun b => decide (b = d)
theorem only_some {d : Addr} {H : Hp} (h : H d ≠ none) : ∀ b, only d b = true → H b ≠ none := fun b e => by
  rw [of_decide_eq_true e]
  exact h
def spOdd (K : PySem.W.Frag) : Sp := fun vs H Q _ => ∃ (d : Addr) (n : Nat), vs = [.ref d] ∧ n ≤ 1000000 ∧ DK H d n ∧ ∀ H' v dat, SB d H H' → DK H' d (n + 1) → Dp K (exc H' (only d)) v dat → Q v H'
theorem scOdd : FnScope ["deck", "some"] ["deck"] (defScope sLawOdd) := ⟨rfl, rfl, rfl, by decide +kernel, rfl, by decide +kernel, by decide +kernel⟩
theorem c_odd (D : Df K mg "_law_odd" sLawOdd) (CO : Cal P w K mg base "_law_one" 2 ["deck", "some"] (spOne K)) : Cal P w K mg base "_law_odd" 3 ["deck"] (spOdd K) := by
  refine cal_of D scOdd (fun _ _ _ _ _ _ us hl => match us, hl with | [_], _ => rfl) (fun vs H Q E h => ?_) (fun f cdv A outer s H vs Q E hr h => ?_)
  · obtain ⟨d, n, rfl, _⟩ := h
    rfl
  · obtain ⟨d, n, rfl, hn, hd, q⟩ := h
    obtain ⟨te, he, ev⟩ := oddE (cxOf CX0 P w K mg base ["deck", "some"] "_law_odd" (defScope sLawOdd) f cdv A outer s H E).nox
    refine ⟨_, pss_cons (ps_set (i := 1) scOdd.nd rfl (.inl rfl) he) (pss_one (ps_ret (pe_cal CO hr (pa_cons (pv 0) (pa_cons (pv 1) pa_nil))))), ?_⟩
    refine ev _ H _ fun l xs H1 s1 hn1 hl ha => ?_
    have hne : l ≠ d := fun e => hd.ne (e ▸ hn1)
    refine ⟨_, rfl, _, rfl, d, l, xs, n, rfl, hne, SqL.of hl, by rw [dpa_len ha]; decide, by rw [dpa_len ha]; decide, hn, hd.same s1, fun H2 i v hv sb dk => ?_⟩
    obtain ⟨dat, _, hdat⟩ := dpa_get ha hv
    exact q H2 v dat ((Same.sb s1).trans sb) dk (dp_same (sb.exc (decide_eq_true rfl)) _ _ (dp_same (nw_exc (only_some hd.ne)) _ _ hdat))
end
end K01
namespace K01
open PySem PySem.Spec PyProof.Rows L2 XR
/-! ### rows that grow -/
def fitsM (rs : List Ru) (row : List Int) : Bool := rs.all fun r => decide (row.length < r.1.toNat) || okW row (row.length - r.1.toNat) r
theorem win_old {row : List Int} {x : Int} {i s : Nat} (h : i + s ≤ row.length) : win (row ++ [x]) i s = win row i s := by
  unfold win
  rw [List.drop_append_of_le_length (by omega), List.take_append_of_le_length (by rw [List.length_drop]; omega)]
theorem keeps_snoc {rs : List Ru} {row : List Int} {x : Int} (h0 : ∀ r ∈ rs, 1 ≤ r.1) (h1 : keepsM rs row = true) (h2 : fitsM rs (row ++ [x]) = true) : keepsM rs (row ++ [x]) = true := by
  refine List.all_eq_true.mpr fun r hr => kw_yes fun j hj => ?_
  have a1 := List.all_eq_true.mp (List.all_eq_true.mp h1 r hr)
  have a2 := List.all_eq_true.mp h2 r hr
  have a3 := h0 r hr
  rw [List.length_append, List.length_singleton] at hj
  by_cases c : j + r.1.toNat ≤ row.length
  · have a4 : okW row j r = true := a1 j (List.mem_range.mpr (by omega))
    unfold okW at a4 ⊢
    rw [win_old c]
    exact a4
  · have a4 : ¬ (row ++ [x]).length < r.1.toNat := by
      rw [List.length_append, List.length_singleton]
      omega
    simp only [a4, decide_false, Bool.false_or] at a2
    rw [List.length_append, List.length_singleton, show row.length + 1 - r.1.toNat = j by omega] at a2
    exact a2
section
variable {P : Program} {w : World} {K : PySem.W.Frag} {mg : Str → Option Value} {base : Heap}
theorem chain_ok {row : List Int} {i : Nat} {r : Ru} {B : Bool → Prop} (h : B (okW row i r)) : if decide (r.2.1 ≤ win row i r.1.toNat) = true then B (decide (win row i r.1.toNat ≤ r.2.2)) else B false := by
  by_cases c1 : r.2.1 ≤ win row i r.1.toNat
  · rw [if_pos (decide_eq_true c1)]
    simpa [okW, c1] using h
  · rw [if_neg (fun z => c1 (of_decide_eq_true z))]
    simpa [okW, c1] using h
/-! ### _law_keeps -/
theorem scLKeep : FnScope ["rules", "row", "span", "least", "most", "at"] ["rules", "row"] (defScope sLawKeeps) := ⟨rfl, rfl, rfl, by decide +kernel, rfl, by decide +kernel, by decide +kernel⟩
theorem c_lkeeps (D : Df K mg "_law_keeps" sLawKeeps) (T : Txt mg) : Cal P w K mg base "_law_keeps" 1 ["rules", "row"] (spKeep K) := by
  refine cal_of D scLKeep (fun _ _ _ _ _ _ us hl => match us, hl with | [_, _], _ => rfl) (fun vs H Q E h => ?_) (fun f cdv A outer s H vs Q E hr h => ?_)
  · obtain ⟨v, b, rs, row, rfl, _⟩ := h
    rfl
  · obtain ⟨v, b, rs, row, rfl, hv, hb, hok, hz, q⟩ := h
    obtain ⟨a, xs, rfl, hs, ha⟩ := hv.get
    have el : xs.length = rs.length := by rw [dpa_len ha, List.length_map]
    refine ⟨_, pss_cons (ps_for PassesOwn.never rfl (pi_tup (pv 0)) (pg_tup rfl (pgs_cons (pg_name (i := 2) scLKeep.nd rfl (.inl rfl)) (pgs_cons (pg_name (i := 3) scLKeep.nd rfl (.inl rfl)) (pgs_cons (pg_name (i := 4) scLKeep.nd rfl (.inl rfl)) pgs_nil))))
        (pss_one (ps_for PassesOwn.never rfl (pi_range1 (by rfl) T.range (pa_cons (pe_op op_sub (pe_op op_add (pe_callB call_len_seq (by rfl) T.len PySem.boot_len (pa_cons (pv 1) pa_nil)) pe_int) (pv 2)) pa_nil)) (pg_name (i := 5) scLKeep.nd rfl (.inl rfl))
          (pss_one (ps_if (pt_not (pt_chain op_le op_le (pv 3) (pe_callB (cr_sumT rfl) (by rfl) T.sum (by decide +kernel) (pa_cons (pe_slice sl_tupA (pv 1) (po_some (pv 5)) (po_some (pe_op op_add (pv 5) (pv 2)))) pa_nil)) (pv 4))) (pss_one (ps_ret pe_bl)) pss_nil)))))
      (pss_one (ps_ret pe_bl)), ?_⟩
    refine ⟨.ref a, rfl, a, rfl, ⟨_, hs⟩, for_tup (K := K) (a := a) (xs := xs) (fun i σ H' => Same H H' ∧ (∃ y1 y2 y3 y4, σ = [some (.ref a), some (.ref b), y1, y2, y3, y4]) ∧ ∀ j r, j < i → rs[j]? = some r → kw row r = true)
      ⟨Same.refl H, ⟨none, none, none, none, rfl⟩, fun j r h => absurd h (by omega)⟩ (fun i σ H' _ p => Same.tup p.1 hs) ?_ ?_⟩
    · rintro i x σ H' hx ⟨s1, ⟨y1, y2, y3, y4, rfl⟩, hj⟩
      obtain ⟨r, hr1, hr2⟩ := dR_at ha hx
      obtain ⟨c, rfl, hc⟩ := dR_get (dp_same s1 _ _ hr2)
      have ok1 := hok r (List.mem_of_getElem? hr1)
      refine ⟨c, _, rfl, hc, rfl, _, _, rfl, _, _, rfl, _, _, rfl, rfl, ?_⟩
      refine ⟨.ref b, rfl, b, _, rfl, .inr (Same.tup s1 hb), _, 1, rfl, rfl, _, rfl, _, _, rfl, rfl, _, rfl, by rw [List.length_map]; omega, by rw [List.length_map]; omega, ?_⟩
      have en : ((((row.map V.int).length : Int) + 1) - r.1).toNat = row.length + 1 - r.1.toNat := by
        rw [List.length_map]
        omega
      rw [en]
      refine for_range (lo := 0) (n := row.length + 1 - r.1.toNat) (fun k σ H2 => Same H' H2 ∧ (∃ z, σ = [some (.ref a), some (.ref b), some (.int r.1), some (.int r.2.1), some (.int r.2.2), z]) ∧ ∀ j, j < k → okW row j r = true) ⟨Same.refl _, ⟨_, rfl⟩, fun j h => absurd h (by omega)⟩ ?_ ?_
      · rintro k σ H2 hk ⟨s2, ⟨z2, rfl⟩, hw⟩
        have s3 := s1.trans s2
        refine ⟨_, rfl, .ref b, rfl, _, rfl, _, rfl, _, rfl, _, rfl, _, _, rfl, rfl, _, rfl, ?_⟩
        rw [show (0 : Int) + (k : Int) = (k : Int) by omega, show (k : Int) + r.1 = ((k + r.1.toNat : Nat) : Int) by omega]
        refine sl_any (Same.tup s3 hb) fun p H3 s4 hp => ?_
        rw [cut_nat row _ _ (by omega), show k + r.1.toNat - k = r.1.toNat by omega] at hp
        refine ⟨p, _, rfl, hp, _, _, rfl, rfl, _, rfl, ?_⟩
        have fin : ∀ k2 : Bool, k2 = okW row k r → if (!k2) = true then Q (.bl false) H3 else (Same H' H3 ∧ (∃ z, ([some (.ref a), some (.ref b), some (.int r.1), some (.int r.2.1), some (.int r.2.2), some (.int k)] : L2.St) = [some (.ref a), some (.ref b), some (.int r.1), some (.int r.2.1), some (.int r.2.2), z]) ∧ ∀ j, j < k + 1 → okW row j r = true) := by
          rintro k2 rfl
          cases ek : okW row k r with
          | false =>
            refine iteT ?_
            have q1 := q H3 (s3.trans s4)
            rw [keeps_no hr1 hk ek] at q1
            exact q1
          | true =>
            refine iteF ⟨s2.trans s4, ⟨_, rfl⟩, fun j hj2 => ?_⟩
            by_cases e : j = k
            · rw [e]
              exact ek
            · exact hw j (by omega)
        by_cases c1 : r.2.1 ≤ win row k r.1.toNat
        · refine (if_pos (decide_eq_true c1)).mpr ⟨_, rfl, _, _, rfl, rfl, _, rfl, ?_⟩
          exact fin _ (by unfold okW; rw [decide_eq_true c1, Bool.true_and]; rfl)
        · refine (if_neg (fun z => c1 (of_decide_eq_true z))).mpr ⟨_, rfl, ?_⟩
          exact fin _ (by simp [okW, c1])
      · rintro σ H2 ⟨s2, ⟨z2, rfl⟩, hw⟩
        refine ⟨s1.trans s2, ⟨_, _, _, _, rfl⟩, fun j r' hj2 hr' => ?_⟩
        by_cases e : j = i
        · rw [e, hr1] at hr'
          cases hr'
          exact kw_yes hw
        · exact hj j r' (by omega) hr'
    · rintro σ H' ⟨s1, ⟨y1, y2, y3, y4, rfl⟩, hj⟩
      have q1 := q H' s1
      rw [keeps_yes fun i r hr => hj i r (by rw [el]; exact (List.getElem?_eq_some_iff.mp hr).1) hr] at q1
      exact q1
theorem sl_from {σ : L2.St} {H : Hp} {a : Addr} {xs : List V} {lo : Option Int} {Q : VK} (hs : SqT K H a xs) (h : ∀ p H', Same H H' → SqT K H' p (cutV xs lo none) → Q (.ref p) H') : tNoPart σ H fun hi H3 => rSlA K (.ref a) lo hi H3 Q := sl_any hs h
/-! ### _law_fits -/
def spFits (K : PySem.W.Frag) : Sp := fun vs H Q _ => ∃ (v : V) (b : Addr) (rs : List Ru) (row : List Int), vs = [v, .ref b] ∧ RulesAt K H v rs ∧ SqT K H b (row.map V.int) ∧ (∀ r ∈ rs, 1 ≤ r.1 ∧ r.1 ≤ 8) ∧ row.length ≤ 1000 ∧
  ∀ H', Same H H' → Q (.bl (fitsM rs row)) H'
theorem scFits : FnScope ["rules", "row", "span", "least", "most"] ["rules", "row"] (defScope sLawFits) := ⟨rfl, rfl, rfl, by decide +kernel, rfl, by decide +kernel, by decide +kernel⟩
theorem fits_no {rs : List Ru} {row : List Int} {i : Nat} {r : Ru} (hi : rs[i]? = some r) (hl : r.1.toNat ≤ row.length) (h : okW row (row.length - r.1.toNat) r = false) : fitsM rs row = false := by
  cases e : fitsM rs row with
  | false => rfl
  | true =>
    have h1 := List.all_eq_true.mp e r (List.mem_of_getElem? hi)
    simp only [h, Bool.or_false, decide_eq_true_eq] at h1
    omega
theorem fits_yes {rs : List Ru} {row : List Int} (h : ∀ (i : Nat) (r : Ru), rs[i]? = some r → r.1.toNat ≤ row.length → okW row (row.length - r.1.toNat) r = true) : fitsM rs row = true := by
  refine List.all_eq_true.mpr fun r hr => ?_
  obtain ⟨i, hi⟩ := List.getElem?_of_mem hr
  by_cases c : r.1.toNat ≤ row.length
  · rw [h i r hi c, Bool.or_true]
  · rw [decide_eq_true (by omega), Bool.true_or]
theorem c_fits (D : Df K mg "_law_fits" sLawFits) (T : Txt mg) : Cal P w K mg base "_law_fits" 1 ["rules", "row"] (spFits K) := by
  refine cal_of D scFits (fun _ _ _ _ _ _ us hl => match us, hl with | [_, _], _ => rfl) (fun vs H Q E h => ?_) (fun f cdv A outer s H vs Q E hr h => ?_)
  · obtain ⟨v, b, rs, row, rfl, _⟩ := h
    rfl
  · obtain ⟨v, b, rs, row, rfl, hv, hb, hok, hz, q⟩ := h
    obtain ⟨a, xs, rfl, hs, ha⟩ := hv.get
    have el : xs.length = rs.length := by rw [dpa_len ha, List.length_map]
    refine ⟨_, pss_cons (ps_for PassesOwn.never rfl (pi_tup (pv 0)) (pg_tup rfl (pgs_cons (pg_name (i := 2) scFits.nd rfl (.inl rfl)) (pgs_cons (pg_name (i := 3) scFits.nd rfl (.inl rfl)) (pgs_cons (pg_name (i := 4) scFits.nd rfl (.inl rfl)) pgs_nil))))
        (pss_one (ps_if (PW.pt (pw_and (pt_cmpR op_ge (pe_callB call_len_seq (by rfl) T.len PySem.boot_len (pa_cons (pv 1) pa_nil)) (pv 2) (nomark _)) (pw_and1 (pt_not (pt_chain op_le op_le (pv 3) (pe_callB (cr_sumT rfl) (by rfl) T.sum (by decide +kernel) (pa_cons (pe_slice sl_tupA (pv 1) (po_some (pe_op op_sub (pe_callB call_len_seq (by rfl) T.len PySem.boot_len (pa_cons (pv 1) pa_nil)) (pv 2))) po_none) pa_nil)) (pv 4))))))
          (pss_one (ps_ret pe_bl)) pss_nil)))
      (pss_one (ps_ret pe_bl)), ?_⟩
    refine ⟨.ref a, rfl, a, rfl, ⟨_, hs⟩, for_tup (K := K) (a := a) (xs := xs) (fun i σ H' => Same H H' ∧ (∃ y1 y2 y3, σ = [some (.ref a), some (.ref b), y1, y2, y3]) ∧ ∀ j r, j < i → rs[j]? = some r → r.1.toNat ≤ row.length → okW row (row.length - r.1.toNat) r = true)
      ⟨Same.refl H, ⟨none, none, none, rfl⟩, fun j r h => absurd h (by omega)⟩ (fun i σ H' _ p => Same.tup p.1 hs) ?_ ?_⟩
    · rintro i x σ H' hx ⟨s1, ⟨y1, y2, y3, rfl⟩, hj⟩
      obtain ⟨r, hr1, hr2⟩ := dR_at ha hx
      obtain ⟨c, rfl, hc⟩ := dR_get (dp_same s1 _ _ hr2)
      have ok1 := hok r (List.mem_of_getElem? hr1)
      have hb1 := Same.tup s1 hb
      have step : ∀ H3, Same H H3 → (r.1.toNat ≤ row.length → okW row (row.length - r.1.toNat) r = true) → (Same H H3 ∧ (∃ y1 y2 y3, ([some (.ref a), some (.ref b), some (.int r.1), some (.int r.2.1), some (.int r.2.2)] : L2.St) = [some (.ref a), some (.ref b), y1, y2, y3]) ∧ ∀ j r, j < i + 1 → rs[j]? = some r → r.1.toNat ≤ row.length → okW row (row.length - r.1.toNat) r = true) := by
        intro H3 s3 hk
        refine ⟨s3, ⟨_, _, _, rfl⟩, fun j r' hj2 hr' => ?_⟩
        by_cases e : j = i
        · rw [e, hr1] at hr'
          cases hr'
          exact hk
        · exact hj j r' (by omega) hr'
      refine ⟨c, _, rfl, hc, rfl, _, _, rfl, _, _, rfl, _, _, rfl, rfl, ?_⟩
      refine ⟨.ref b, rfl, b, _, rfl, .inr hb1, _, rfl, _, _, rfl, rfl, _, rfl, ?_⟩
      by_cases c0 : r.1 ≤ ((row.map V.int).length : Int)
      · have c0' : r.1.toNat ≤ row.length := by
          rw [List.length_map] at c0
          omega
        refine (if_pos (decide_eq_true c0)).mpr ?_
        refine ⟨_, rfl, .ref b, rfl, .ref b, rfl, b, _, rfl, .inr hb1, _, rfl, _, _, rfl, rfl, _, rfl, ?_⟩
        rw [show ((row.map V.int).length : Int) - r.1 = ((row.length - r.1.toNat : Nat) : Int) by rw [List.length_map]; omega]
        refine sl_from hb1 fun p H3 s4 hp => ?_
        rw [cut_from] at hp
        have ew : (row.drop (row.length - r.1.toNat)).sum = win row (row.length - r.1.toNat) r.1.toNat := by
          unfold win
          rw [List.take_of_length_le (by rw [List.length_drop]; omega)]
        refine ⟨p, _, rfl, hp, _, _, rfl, rfl, _, rfl, ?_⟩
        rw [ew]
        have fin : ∀ k2 : Bool, k2 = okW row (row.length - r.1.toNat) r → if (!k2) = true then Q (.bl false) H3 else (Same H H3 ∧ (∃ y1 y2 y3, ([some (.ref a), some (.ref b), some (.int r.1), some (.int r.2.1), some (.int r.2.2)] : L2.St) = [some (.ref a), some (.ref b), y1, y2, y3]) ∧ ∀ j r, j < i + 1 → rs[j]? = some r → r.1.toNat ≤ row.length → okW row (row.length - r.1.toNat) r = true) := by
          rintro k2 rfl
          cases ek : okW row (row.length - r.1.toNat) r with
          | false =>
            refine iteT ?_
            have q1 := q H3 (s1.trans s4)
            rw [fits_no hr1 c0' ek] at q1
            exact q1
          | true => exact iteF (step H3 (s1.trans s4) fun _ => ek)
        by_cases c1 : r.2.1 ≤ win row (row.length - r.1.toNat) r.1.toNat
        · refine (if_pos (decide_eq_true c1)).mpr ⟨_, rfl, _, _, rfl, rfl, _, rfl, ?_⟩
          exact fin _ (by simp [okW, c1])
        · refine (if_neg (fun z => c1 (of_decide_eq_true z))).mpr ⟨_, rfl, ?_⟩
          exact fin _ (by simp [okW, c1])
      · refine (if_neg (fun z => c0 (of_decide_eq_true z))).mpr (iteF ?_)
        exact step H' s1 fun z => absurd (by rw [List.length_map]; omega) c0
    · rintro σ H' ⟨s1, ⟨y1, y2, y3, rfl⟩, hj⟩
      have q1 := q H' s1
      rw [fits_yes fun i r hr => hj i r (by rw [el]; exact (List.getElem?_eq_some_iff.mp hr).1) hr] at q1
      exact q1
end
end K01
namespace K01
open PySem PySem.Spec PyProof.Rows L2 XR
section
variable {P : Program} {w : World} {K : PySem.W.Frag} {mg : Str → Option Value} {base : Heap}
/-- row + (place,) -/
theorem grow {σ : L2.St} {i j : Nat} {ra : Addr} {x : Int} {row : List Int} {H : Hp} {Q : VK} (h1 : σ[i]? = some (some (.ref ra))) (h2 : σ[j]? = some (some (.int x))) (hs : SqT K H ra (row.map V.int)) (hz : row.length ≤ 1000)
    (q : ∀ p H', Same H H' → H p = none → H' p = some (.tup ((row ++ [x]).map V.int)) → Q (.ref p) H') : tOp (rCatA K) (tVar i) (tTup (tCons (tVar j) tNil)) σ H Q := by
  refine ⟨.ref ra, h1, .int x, h2, (by show 1 ≤ sizeLine; decide), fun t ht => ?_⟩
  have s1 : Same H (upd H t (.tup [.int x])) := same_new ht
  refine ⟨ra, t, row.map V.int, [.int x], rfl, rfl, Same.tup s1 hs, SqT.of upd_same, ?_, fun e => ?_, fun _ e => (nomatch e), fun _ _ p hp => ?_⟩
  · rw [List.length_map]
    exact Nat.le_of_lt (lt_line (by show row.length + 1 < 1000000; omega))
  · have e2 : row = [] := List.map_eq_nil_iff.mp e
    subst e2
    exact q t _ s1 ht upd_same
  · refine q p _ (s1.trans (same_new hp)) (s1.free hp) ?_
    rw [upd_same, List.map_append]
    rfl
/-! ### _law_walk -/
def spWalk (K : PySem.W.Frag) : Sp := fun vs H Q _ => ∃ (d : Addr) (v : V) (m n : Nat) (rs : List Ru), vs = [.ref d, v, .int m] ∧ DK H d n ∧ n + m ≤ 1000000 ∧ m ≤ 500 ∧ RulesAt K (exc H (only d)) v rs ∧ (∀ r ∈ rs, 1 ≤ r.1 ∧ r.1 ≤ 8) ∧
  ∀ H' ra row, SB d H H' → DK H' d (n + m) → ra ≠ d → SqT K H' ra (row.map V.int) → row.length ≤ m → (∀ x ∈ row, 0 ≤ x ∧ x ≤ 1) → keepsM rs row = true → Q (.ref ra) H'
abbrev nWalk : List Str := ["deck", "rules", "many", "row", "turn", "some", "place"]
theorem scWalk : FnScope nWalk ["deck", "rules", "many"] (defScope sLawWalk) := ⟨rfl, rfl, rfl, by decide +kernel, rfl, by decide +kernel, by decide +kernel⟩
theorem keeps_nil (rs : List Ru) (h : ∀ r ∈ rs, 1 ≤ r.1) : keepsM rs [] = true := List.all_eq_true.mpr fun r hr => kw_yes fun j hj => by
  have := h r hr
  simp at hj
  omega
theorem SB.tup {d l : Addr} {H H' : Hp} {xs : List V} (e : SB d H H') (n : l ≠ d) (h : SqT K H l xs) : SqT K H' l xs := by
  rcases h with (h | ⟨o, h⟩) | h
  · exact .inl (.inl (e _ _ n h))
  · exact .inl (.inr ⟨o, e _ _ n h⟩)
  · exact .inr h
theorem c_walk (D : Df K mg "_law_walk" sLawWalk) (T : Txt mg) (CF : Cal P w K mg base "_law_fits" 1 ["rules", "row"] (spFits K)) (CO : Cal P w K mg base "_law_one" 2 ["deck", "some"] (spOne K)) : Cal P w K mg base "_law_walk" 3 ["deck", "rules", "many"] (spWalk K) := by
  refine cal_of D scWalk (fun _ _ _ _ _ _ us hl => match us, hl with | [_, _, _], _ => rfl) (fun vs H Q E h => ?_) (fun f cdv A outer s H vs Q E hr h => ?_)
  · obtain ⟨d, v, m, n, rs, rfl, _⟩ := h
    rfl
  · obtain ⟨d, v, m, n, rs, rfl, hd, hnm, hm, hv, hok, q⟩ := h
    have h1 : ∀ r ∈ rs, 1 ≤ r.1 := fun r hr => (hok r hr).1
    refine ⟨_, pss_cons (ps_set (i := 3) scWalk.nd rfl (.inr rfl) (pe_tup pa_nil))
      (pss_cons (ps_for PassesOwn.never rfl (pi_range1 (by rfl) T.range (pa_cons (pv 2) pa_nil)) (pg_name (i := 4) scWalk.nd rfl (.inl rfl))
        (pss_cons (ps_setLc (i := 5) (own := [("place", 6)]) (g := gName 6) (tt := tB (tCall (spFits K) [] E0 (tCons (tVar 1) (tCons (tOp (rCatA K) (tVar 3) (tTup (tCons (tVar 6) tNil))) tNil)))) (te := tOp (rCatA K) (tVar 3) (tTup (tCons (tVar 6) tNil))) rfl scWalk.nd rfl rfl (sw_true rfl rfl rfl (by decide +kernel)) (pi_tup (pe_tup (pa_cons pe_int (pa_cons pe_int pa_nil)))) (blkOk_by (own := [("place", 6)]) (N := nWalk) (sc := defScope sLawWalk) (by decide +kernel))
            (fun _ _ _ _ _ => pg_name (i := 6) scWalk.nd rfl (Or.inl rfl)) (fun _ _ _ _ _ => pts_one (pt_val (pe_cal CF (hr.mono (by decide)) (pa_cons (pv 1) (pa_cons (pe_op op_catA (pv 3) (pe_tup (pa_cons (pv 6) pa_nil))) pa_nil))))) (fun _ _ _ _ _ => pe_op op_catA (pv 3) (pe_tup (pa_cons (pv 6) pa_nil))))
        (pss_cons (ps_if (pt_cmpR (op_eq0 hr.units) (pv 5) (pe_lst pa_nil) (nomark _)) (pss_one (ps_ret (pv 3))) pss_nil)
        (pss_one (ps_set (i := 3) scWalk.nd rfl (.inr rfl) (pe_cal CO hr (pa_cons (pv 0) (pa_cons (pv 5) pa_nil))))))))
      (pss_one (ps_ret (pv 3)))), ?_⟩
    refine ⟨Nat.zero_le _, fun r0 hr0 => ?_⟩
    have s0 : Same H (upd H r0 (.tup [])) := same_new hr0
    refine ⟨.int m, rfl, m, rfl, by omega, by omega, for_range (lo := 0) (n := m) (fun i σ H' => ∃ ra row y1 y2, σ = [some (.ref d), some v, some (.int m), some (.ref ra), y1, y2, none] ∧ SB d H H' ∧ DK H' d (n + i) ∧ ra ≠ d ∧ SqT K H' ra (row.map V.int) ∧ row.length ≤ i ∧ (∀ x ∈ row, 0 ≤ x ∧ x ≤ 1) ∧ keepsM rs row = true)
      ⟨r0, [], none, none, rfl, Same.sb s0, hd.same s0, fun e => hd.ne (e ▸ hr0), SqT.of upd_same, Nat.le_refl _, fun x hx => (nomatch hx), keeps_nil rs h1⟩ ?_ ?_⟩
    · rintro i σ H1 hi ⟨ra, row, y1, y2, rfl, sb, dk, hne, hra, hlen, h01, hkp⟩
      have hv1 : RulesAt K (exc H1 (only d)) v rs := dp_same (sb.exc (decide_eq_true rfl)) _ _ hv
      have hv2 : RulesAt K H1 v rs := dp_same (exc_same _ _) _ _ hv1
      refine ⟨(by show 2 ≤ sizeLine; decide), fun t ht => ?_⟩
      have st : Same H1 (upd H1 t (.tup [.int 0, .int 1])) := same_new ht
      refine ⟨t, rfl, ⟨_, SqT.of upd_same⟩, fun L hL => ?_⟩
      refine lc_it (walk_tup (K := K) (a := t) (xs := [.int 0, .int 1])) (fun k H2 => Same (upd H1 t (.tup [.int 0, .int 1])) H2 ∧ ∃ acc, H2 L = some (.lst acc) ∧ acc.length ≤ k ∧ ∀ z ∈ acc, ∃ (p : Addr) (x : Int), z = .ref p ∧ p ≠ d ∧ 0 ≤ x ∧ x ≤ 1 ∧ H2 p = some (.tup ((row ++ [x]).map V.int)) ∧ fitsM rs (row ++ [x]) = true)
        ⟨same_new hL, [], upd_same, Nat.le_refl _, fun z hz => (nomatch hz)⟩ (fun k H2 _ p => Same.tup p.1 (SqT.of upd_same)) ?_ ?_
      · rintro k x H2 _ hk ⟨s2, acc, ha, hla, hacc⟩ ⟨rfl, hx⟩
        obtain ⟨x0, rfl, c0, c1⟩ : ∃ x0 : Int, x = .int x0 ∧ 0 ≤ x0 ∧ x0 ≤ 1 := by
          match k, hx with
          | 0, hx => exact ⟨0, (Option.some.inj hx).symm, by decide, by decide⟩
          | 1, hx => exact ⟨1, (Option.some.inj hx).symm, by decide, by decide⟩
        have s3 := st.trans s2
        have dk2 := dk.same s3
        have hk2 : k < 2 := hk
        refine ⟨rfl, v, rfl, grow (ra := ra) (x := x0) (row := row) rfl rfl (Same.tup s3 hra) (by omega) fun p H3 s4 hp hp2 => ?_⟩
        refine ⟨v, p, rs, row ++ [x0], rfl, dp_same (s3.trans s4) _ _ hv2, SqT.of hp2, hok, by rw [List.length_append, List.length_singleton]; omega, fun H4 s5 => ⟨_, rfl, ?_⟩⟩
        have s6 := s4.trans s5
        cases ef : fitsM rs (row ++ [x0]) with
        | false =>
          refine iteF ⟨s2.trans s6, acc, s6 _ _ ha, by omega, fun z hz => ?_⟩
          obtain ⟨p', x', e1, e2, e3, e4, e5, e6⟩ := hacc z hz
          exact ⟨p', x', e1, e2, e3, e4, s6 _ _ e5, e6⟩
        | true =>
          refine iteT (grow (ra := ra) (x := x0) (row := row) rfl rfl (Same.tup (s3.trans s6) hra) (by omega) fun p2 H5 s7 hp3 hp4 => ?_)
          have s8 := s6.trans s7
          have hL5 : H5 L = some (.lst acc) := s8 _ _ ha
          refine ⟨acc, hL5, lt_line (by omega), fun b o e => ?_, _, upd_same, by rw [List.length_append, List.length_singleton]; omega, fun z hz => ?_⟩
          · rw [upd_ne (fun e2 => by rw [e2] at e; rw [hL] at e; cases e)]
            exact s8 _ _ (s2 _ _ e)
          · have np : ∀ {p' : Addr} {ys : List V}, H5 p' = some (.tup ys) → p' ≠ L := fun e e2 => by
              rw [e2, hL5] at e
              cases e
            rcases List.mem_append.mp hz with hz | hz
            · obtain ⟨p', x', e1, e2, e3, e4, e5, e6⟩ := hacc z hz
              have e7 := s8 _ _ e5
              exact ⟨p', x', e1, e2, e3, e4, (upd_ne (np e7)).trans e7, e6⟩
            · have e1 := List.mem_singleton.mp hz
              exact ⟨p2, x0, e1, fun e2 => (dk2.same s6).ne (e2 ▸ hp3), c0, c1, (upd_ne (np hp4)).trans hp4, ef⟩
      · rintro H2 ⟨s2, acc, ha, hla, hacc⟩
        have s3 := st.trans s2
        refine ⟨_, rfl, Nat.zero_le _, fun e he => ⟨L, e, acc, rfl, rfl, SqL.of ((upd_ne (fun z => by rw [← z, ha] at he; cases he)).trans ha), SqL.of upd_same, _, rfl, ?_⟩⟩
        have s4 : Same H2 (upd H2 e (.lst [])) := same_new he
        have s5 := s3.trans s4
        cases acc with
        | nil =>
          refine iteT ?_
          exact ⟨_, rfl, q _ ra row (sb.trans (Same.sb s5)) ((dk.same s5).mono (by omega)) hne (Same.tup s5 hra) (by omega) h01 hkp⟩
        | cons z0 zr =>
          refine iteF ?_
          have hLd : L ≠ d := fun e2 => (dk.same st).ne (e2 ▸ hL)
          have ha2 := s4 _ _ ha
          refine ⟨_, rfl, _, rfl, d, L, z0 :: zr, n + i, rfl, hLd, SqL.of ha2, by simp, by simp at hla ⊢; omega, by omega, dk.same s5, fun H3 k z hz sb2 dk2 => ?_⟩
          obtain ⟨p', x', rfl, e2, e3, e4, e5, e6⟩ := hacc z (List.mem_of_getElem? hz)
          refine ⟨p', row ++ [x'], _, _, rfl, (sb.trans (Same.sb s5)).trans sb2, dk2.mono (by omega), e2, SqT.of (sb2 _ _ e2 (s4 _ _ e5)), by rw [List.length_append, List.length_singleton]; omega, fun x hx => ?_, keeps_snoc h1 hkp e6⟩
          rcases List.mem_append.mp hx with hx | hx
          · exact h01 x hx
          · rw [List.mem_singleton.mp hx]
            exact ⟨e3, e4⟩
    · rintro σ H1 ⟨ra, row, y1, y2, rfl, sb, dk, hne, hra, hlen, h01, hkp⟩
      exact ⟨_, rfl, q H1 ra row sb dk hne hra hlen h01 hkp⟩
end
end K01
namespace K01
open PySem PySem.Spec PyProof.Rows L2 XR
/-! ### rules by a dict -/
abbrev En := Ru × Addr
def ent (p : En) : Key × V := (Sum.inl p.1.1, V.ref p.2)
def tu (r : Ru) : HO := .tup [.int r.1, .int r.2.1, .int r.2.2]
theorem put_ok (L : List En) (r : Ru) (t : Addr) (nd : (L.map (·.1.1)).Nodup) : ∃ L' : List En, putK (L.map ent) (Sum.inl r.1) (.ref t) = L'.map ent ∧ (L'.map (·.1.1)).Nodup ∧ L'.length ≤ L.length + 1 ∧ 1 ≤ L'.length ∧ ∀ p ∈ L', p ∈ L ∨ p = (r, t) := by
  unfold putK
  by_cases c : ((L.map ent).any fun kv => decide (kv.1 = (Sum.inl r.1 : Key))) = true
  · rw [if_pos c]
    refine ⟨L.map fun p => if p.1.1 = r.1 then (r, t) else p, ?_, ?_, by rw [List.length_map]; omega, ?_, fun p hp => ?_⟩
    · rw [List.map_map, List.map_map]
      refine List.map_congr_left fun p _ => ?_
      show (if (Sum.inl p.1.1 : Key) = Sum.inl r.1 then ((Sum.inl p.1.1 : Key), V.ref t) else ent p) = ent (if p.1.1 = r.1 then (r, t) else p)
      by_cases e : p.1.1 = r.1
      · rw [if_pos (by rw [e]), if_pos e, e]
        rfl
      · rw [if_neg (fun z => e (Sum.inl.inj z)), if_neg e]
    · have e : (L.map fun p => if p.1.1 = r.1 then (r, t) else p).map (·.1.1) = L.map (·.1.1) := by
        rw [List.map_map]
        refine List.map_congr_left fun p _ => ?_
        show (if p.1.1 = r.1 then (r, t) else p).1.1 = p.1.1
        by_cases e : p.1.1 = r.1
        · rw [if_pos e, e]
        · rw [if_neg e]
      rw [e]
      exact nd
    · rw [List.length_map]
      cases L with
      | nil => simp at c
      | cons _ _ => simp
    · obtain ⟨p0, h0, rfl⟩ := List.mem_map.mp hp
      by_cases e : p0.1.1 = r.1
      · right
        show (if p0.1.1 = r.1 then (r, t) else p0) = (r, t)
        rw [if_pos e]
      · left
        show (if p0.1.1 = r.1 then (r, t) else p0) ∈ L
        rw [if_neg e]
        exact h0
  · rw [if_neg c]
    refine ⟨L ++ [(r, t)], by rw [List.map_append]; rfl, ?_, by simp, by simp, fun p hp => ?_⟩
    · rw [List.map_append]
      refine List.nodup_append.mpr ⟨nd, by simp, fun a ha b hb e => ?_⟩
      have hb2 : b = r.1 := by simpa using hb
      obtain ⟨p, hp, rfl⟩ := List.mem_map.mp ha
      refine c (List.any_eq_true.mpr ⟨ent p, List.mem_map_of_mem hp, decide_eq_true ?_⟩)
      show (Sum.inl p.1.1 : Key) = Sum.inl r.1
      rw [e, hb2]
    · rcases List.mem_append.mp hp with h | h
      · exact .inl h
      · exact .inr (List.mem_singleton.mp h)
theorem val_ok (L : List En) (s : Int) (h : s ∈ L.map (·.1.1)) : ∃ p ∈ L, p.1.1 = s ∧ valV (L.map ent) (Sum.inl s) = some (.ref p.2) := by
  induction L with
  | nil => cases h
  | cons q r ih =>
    by_cases e : q.1.1 = s
    · exact ⟨q, List.mem_cons_self, e, valV_pos (p := ent q) (by show (Sum.inl q.1.1 : Key) = _; rw [e])⟩
    · have h2 : s ∈ r.map (·.1.1) := by
        rcases List.mem_cons.mp h with z | z
        · exact absurd z.symm e
        · exact z
      obtain ⟨p, hp, e1, e2⟩ := ih h2
      exact ⟨p, List.mem_cons_of_mem _ hp, e1, (valV_neg (p := ent q) (fun z => e (Sum.inl.inj z))).trans e2⟩
theorem vals_ok (L : List En) : ∀ ys : List Int, (∀ s ∈ ys, s ∈ L.map (·.1.1)) → ∃ M : List En, M.map (·.1.1) = ys ∧ ∀ p ∈ M, p ∈ L ∧ valV (L.map ent) (Sum.inl p.1.1) = some (.ref p.2)
  | [], _ => ⟨[], rfl, fun p hp => (nomatch hp)⟩
  | s :: r, h => by
    obtain ⟨M, e, hM⟩ := vals_ok L r fun s hs => h s (List.mem_cons_of_mem _ hs)
    obtain ⟨p, hp, e1, e2⟩ := val_ok L s (h s List.mem_cons_self)
    refine ⟨p :: M, by rw [List.map_cons, e, e1], fun q hq => ?_⟩
    rcases List.mem_cons.mp hq with z | z
    · rw [z]
      exact ⟨hp, by rw [e1]; exact e2⟩
    · exact hM q z
theorem rising_of {ns : List Int} (h : ns.Pairwise (· < ·)) : risingB ns = true := by
  unfold risingB
  rw [all_id]
  refine List.all_eq_true.mpr fun p hp => decide_eq_true ?_
  obtain ⟨i, hi⟩ := List.getElem?_of_mem hp
  obtain ⟨h1, h2⟩ := List.getElem?_zip_eq_some.mp hi
  rw [List.getElem?_drop] at h2
  obtain ⟨a1, a2⟩ := List.getElem?_eq_some_iff.mp h1
  obtain ⟨b1, b2⟩ := List.getElem?_eq_some_iff.mp h2
  rw [← a2, ← b2]
  exact List.pairwise_iff_getElem.mp h i (1 + i) a1 b1 (by omega)
theorem lt_of_le_nodup {ns : List Int} (h : ns.Pairwise (· ≤ ·)) (n : ns.Nodup) : ns.Pairwise (· < ·) := by
  refine List.Pairwise.imp₂ (fun a b h1 h2 => ?_) h n
  omega
theorem ruleD_ok {r : Ru} (h : okR r) : ruleD (dR r) = true := by
  obtain ⟨h1, h2, h3, h4, h5⟩ := h
  simp [ruleD, dR, h1, h2, h3, h4, h5]
theorem good_of {rs : List Ru} (h : ∀ r ∈ rs, okR r) (h1 : 1 ≤ rs.length) (h2 : rs.length ≤ 5) (h3 : (rs.map (·.1)).Pairwise (· < ·)) : Good rs := by
  show (decide (1 ≤ (rs.map dR).length ∧ (rs.map dR).length ≤ 5) && ((rs.map dR).all ruleD && risingB ((rs.map dR).map spanD))) = true
  have e1 : (rs.map dR).all ruleD = true := List.all_eq_true.mpr fun d hd => by
    obtain ⟨r, hr, rfl⟩ := List.mem_map.mp hd
    exact ruleD_ok (h r hr)
  have e2 : (rs.map dR).map spanD = rs.map (·.1) := by
    rw [List.map_map]
    rfl
  rw [e2, rising_of h3, e1, List.length_map, decide_eq_true ⟨h1, h2⟩]
  rfl
theorem rule_ok {sp low high more less : Int} (h1 : 1 ≤ sp) (h2 : sp ≤ 8) (l0 : 0 ≤ low) (l1 : low ≤ high) (l2 : high ≤ sp) (m0 : 0 ≤ more) (s0 : 0 ≤ less) : okR (sp, (if low - less > 0 then low - less else 0), (if high + more < sp then high + more else sp)) := by
  refine ⟨h1, h2, ?_, ?_, ?_⟩
  · show 0 ≤ (if low - less > 0 then low - less else 0)
    split <;> omega
  · show (if low - less > 0 then low - less else 0) ≤ (if high + more < sp then high + more else sp)
    split <;> split <;> omega
  · show (if high + more < sp then high + more else sp) ≤ sp
    split <;> omega
theorem four {k : Nat} {v : V} (h : ([.int 0, .int 0, .int 1, .int 2] : List V)[k]? = some v) : ∃ x : Int, v = .int x ∧ 0 ≤ x := by
  match k, h with
  | 0, h => exact ⟨0, (Option.some.inj h).symm, by decide⟩
  | 1, h => exact ⟨0, (Option.some.inj h).symm, by decide⟩
  | 2, h => exact ⟨1, (Option.some.inj h).symm, by decide⟩
  | 3, h => exact ⟨2, (Option.some.inj h).symm, by decide⟩
theorem DK.upd {H : Hp} {d b : Addr} {n : Nat} {o : HO} (h : DK H d n) (hb : b ≠ d) : DK (L2.upd H b o) d n := by
  obtain ⟨x, y, z, h1, h2⟩ := h
  exact ⟨x, y, z, by rw [upd_ne (Ne.symm hb)]; exact h1, h2⟩
theorem exc_at {H : Hp} {d b : Addr} {o : HO} (h : H b = some o) (n : b ≠ d) : exc H (fun c => decide (c = d)) b = some o := by
  unfold exc
  rw [if_neg (by simpa using n)]
  exact h
theorem dpa_M {K : PySem.W.Frag} {G : Hp} : ∀ M : List En, (∀ p ∈ M, G p.2 = some (tu p.1)) → DpAll K G (M.map fun e => V.ref e.2) ((M.map (·.1)).map dR)
  | [], _ => .nil
  | p :: r, h => .cons (.tup (.inl (.inl (h p List.mem_cons_self))) (.cons (.int _) (.cons (.int _) (.cons (.int _) .nil)))) (dpa_M r fun q hq => h q (List.mem_cons_of_mem _ hq))
theorem int12 {p s : Int} (h0 : 0 ≤ p) (h1 : p ≤ 12 * s) : 0 ≤ p / 12 ∧ p / 12 ≤ (p + 11) / 12 ∧ (p + 11) / 12 ≤ s := by omega
theorem mul12 {s t : Nat} (h : t < 13) : 0 ≤ (1 + (s : Int)) * (t : Int) ∧ (1 + (s : Int)) * (t : Int) ≤ 12 * (1 + (s : Int)) := by
  refine ⟨Int.mul_nonneg (by omega) (by omega), ?_⟩
  rw [Int.mul_comm 12]
  exact Int.mul_le_mul_of_nonneg_left (by omega) (by omega)
section
variable {P : Program} {w : World} {K : PySem.W.Frag} {mg : Str → Option Value} {base : Heap}
/-- the dict at fo holds L; each rule stands at its place -/
def RInv (d fo : Addr) (L : List En) (H : Hp) : Prop := H fo = some (.dK (L.map ent)) ∧ ∀ p ∈ L, okR p.1 ∧ p.2 ≠ d ∧ H p.2 = some (tu p.1)
theorem RInv.sb {d fo : Addr} {L : List En} {H H' : Hp} (h : RInv d fo L H) (n : fo ≠ d) (s : SB d H H') : RInv d fo L H' := ⟨s _ _ n h.1, fun p hp => ⟨(h.2 p hp).1, (h.2 p hp).2.1, s _ _ (h.2 p hp).2.1 (h.2 p hp).2.2⟩⟩
def spRules (K : PySem.W.Frag) : Sp := fun vs H Q _ => ∃ (d : Addr) (S C n : Nat), vs = [.ref d, .int S, .int C] ∧ 1 ≤ S ∧ S ≤ 8 ∧ 1 ≤ C ∧ C ≤ 1000 ∧ n + 40 ≤ 1000000 ∧ DK H d n ∧
  ∀ H' v rs, SB d H H' → DK H' d (n + 40) → RulesAt K (exc H' (only d)) v rs → Good rs → Q v H'
abbrev nRules : List Str := ["deck", "spans_so", "close", "top", "found", "turn", "span", "low", "high", "more", "less"]
theorem scRules : FnScope nRules ["deck", "spans_so", "close"] (defScope sLawRules) := ⟨rfl, rfl, rfl, by decide +kernel, rfl, by decide +kernel, by decide +kernel⟩
theorem c_rules (D : Df K mg "_law_rules" sLawRules) (T : Txt mg) (CP : Cal P w K mg base "_law_pick" 1 ["deck", "size"] spPick) (CO : Cal P w K mg base "_law_one" 2 ["deck", "some"] (spOne K)) : Cal P w K mg base "_law_rules" 3 ["deck", "spans_so", "close"] (spRules K) := by
  refine cal_of D scRules (fun _ _ _ _ _ _ us hl => match us, hl with | [_, _, _], _ => rfl) (fun vs H Q E h => ?_) (fun f cdv A outer s H vs Q E hr h => ?_)
  · obtain ⟨d, S, C, n, rfl, _⟩ := h
    rfl
  · obtain ⟨d, S, C, n, rfl, hS1, hS2, hC1, hC2, hn, hd, q⟩ := h
    have hr1 : Room 1 _ := hr.mono (by decide)
    refine ⟨_, pss_cons (ps_asg (pe_tup (pa_cons (pe_cal CP hr1 (pa_cons (pv 0) (pa_cons pe_int pa_nil))) (pa_cons pe_dnewK pa_nil))) (pg_tup rfl (pgs_cons (pg_name (i := 3) scRules.nd rfl (.inl rfl)) (pgs_cons (pg_name (i := 4) scRules.nd rfl (.inr rfl)) pgs_nil))))
      (pss_cons (ps_for PassesOwn.never rfl (pi_range1 (by rfl) T.range (pa_cons (pe_op op_add pe_int (pe_cal CP hr1 (pa_cons (pv 0) (pa_cons pe_int pa_nil)))) pa_nil)) (pg_name (i := 5) scRules.nd rfl (.inl rfl))
        (pss_cons (ps_set (i := 6) scRules.nd rfl (.inl rfl) (pe_op op_add pe_int (pe_cal CP hr1 (pa_cons (pv 0) (pa_cons (pv 1) pa_nil)))))
        (pss_cons (ps_par (i := 7) (j := 8) (by rfl) scRules.nd rfl rfl (by decide) rfl rfl (pa_cons (pe_op op_fdiv (pe_op op_mul (pv 6) (pv 3)) pe_int) (pa_cons (pe_op op_fdiv (pe_op op_add (pe_op op_mul (pv 6) (pv 3)) pe_int) pe_int) pa_nil)) (by rfl))
        (pss_cons (ps_if (pt_cmpR op_eq (pe_cal CP hr1 (pa_cons (pv 0) (pa_cons (pv 2) pa_nil))) pe_int (nomark _))
          (pss_cons (ps_set (i := 7) scRules.nd rfl (.inl rfl) (pe_cal CP hr1 (pa_cons (pv 0) (pa_cons (pe_op op_add (pv 6) pe_int) pa_nil))))
          (pss_one (ps_set (i := 8) scRules.nd rfl (.inl rfl) (pe_op op_add (pv 7) (pe_cal CP hr1 (pa_cons (pv 0) (pa_cons (pe_op op_sub (pe_op op_add (pv 6) pe_int) (pv 7)) pa_nil))))))) pss_nil)
        (pss_cons (ps_par (i := 9) (j := 10) (by rfl) scRules.nd rfl rfl (by decide) rfl rfl (pa_cons (pe_cal CO hr (pa_cons (pv 0) (pa_cons (pe_lst (pa_cons pe_int (pa_cons pe_int (pa_cons pe_int (pa_cons pe_int pa_nil))))) pa_nil))) (pa_cons (pe_cal CO hr (pa_cons (pv 0) (pa_cons (pe_lst (pa_cons pe_int (pa_cons pe_int (pa_cons pe_int (pa_cons pe_int pa_nil))))) pa_nil))) pa_nil)) (by rfl))
        (pss_one (ps_dput (hu_of hr) (pv 4) (pv 6) (pe_tup (pa_cons (pv 6) (pa_cons (pe_callB (call_max2 rfl) (by rfl) T.max (by decide +kernel) (pa_cons pe_int (pa_cons (pe_op op_sub (pv 7) (pv 10)) pa_nil))) (pa_cons (pe_callB (call_min2 rfl) (by rfl) T.min (by decide +kernel) (pa_cons (pv 6) (pa_cons (pe_op op_add (pv 8) (pv 9)) pa_nil))) pa_nil)))) rfl)))))))
      (pss_one (ps_ret (pe_callTy call_tuple_of (by rfl) T.tuple (by decide +kernel) (pa_cons (pe_lc (own := [("span", 6)]) (g := gName 6) (tt := tYes) (te := tDGet (tVar 4) (tVar 6)) rfl scRules.nd (pi_list (pe_callB (call_sortedDI rfl) (by rfl) T.sorted (by decide +kernel) (pa_cons (pv 4) pa_nil)))
          (blkOk_by (own := [("span", 6)]) (N := nRules) (sc := defScope sLawRules) (by decide +kernel)) (fun _ _ _ _ _ => pg_name (i := 6) scRules.nd rfl (Or.inl rfl)) (fun _ _ _ _ _ => pts_nil) (fun _ _ _ _ _ => pe_dget (hu_of hr) (pv 4) (pv 6) (fun _ _ => rfl))) pa_nil))))), ?_⟩
    -- top, found
    refine ⟨_, rfl, d, 13, n, rfl, by decide, by decide, by omega, hd, fun H1 top htop sb1 dk1 => ?_⟩
    refine fun fo hfo => ?_
    have sbf : SB d H (upd H1 fo (.dK [])) := sb1.trans (Same.sb (same_new hfo))
    have dkf : DK (upd H1 fo (.dK [])) d (n + 1) := dk1.same (same_new hfo)
    have hfd : fo ≠ d := fun e => dk1.ne (e ▸ hfo)
    have hH : ∀ {b : Addr} {o : HO}, H b = some o → b ≠ d → b ≠ fo := fun hb hne e => by
      have z := sb1 _ _ hne hb
      rw [e, hfo] at z
      cases z
    refine ⟨(by show 2 ≤ sizeLine; decide), fun tp htp => ?_⟩
    refine ⟨tp, _, rfl, SqT.of upd_same, rfl, _, _, rfl, _, _, rfl, rfl, ?_⟩
    have sb2 : SB d H (upd (upd H1 fo (.dK [])) tp (.tup [.int top, .ref fo])) := sbf.trans (Same.sb (same_new htp))
    have dk2 : DK (upd (upd H1 fo (.dK [])) tp (.tup [.int top, .ref fo])) d (n + 1) := dkf.same (same_new htp)
    have ri2 : RInv d fo [] (upd (upd H1 fo (.dK [])) tp (.tup [.int top, .ref fo])) := ⟨(same_new htp) _ _ upd_same, fun p hp => (nomatch hp)⟩
    refine ⟨_, rfl, d, 4, n + 1, rfl, by decide, by decide, by omega, dk2, fun H3 t ht sb3 dk3 => ⟨1, t, rfl, rfl, 1 + (t : Int), rfl, by omega, by omega, ?_⟩⟩
    refine for_range (lo := 0) (n := (1 + (t : Int)).toNat) (fun i σ H' => ∃ y5 y6 y7 y8 y9 y10 L, σ = [some (.ref d), some (.int S), some (.int C), some (.int top), some (.ref fo), y5, y6, y7, y8, y9, y10] ∧ SB d H H' ∧ DK H' d (n + 2 + 6 * i) ∧ RInv d fo L H' ∧ (L.map (·.1.1)).Nodup ∧ L.length ≤ i ∧ (1 ≤ i → 1 ≤ L.length))
      ⟨none, none, none, none, none, none, [], rfl, sb2.trans sb3, dk3, ri2.sb hfd sb3, List.nodup_nil, Nat.le_refl _, fun z => absurd z (by omega)⟩ ?_ ?_
    · rintro i σ H4 hi ⟨y5, y6, y7, y8, y9, y10, L, rfl, sb4, dk4, ri4, nd, ln, ln1⟩
      refine ⟨_, rfl, _, rfl, d, S, n + 2 + 6 * i, rfl, hS1, by omega, by omega, dk4, fun H5 sp hsp sb5 dk5 => ⟨1, sp, rfl, rfl, ?_⟩⟩
      obtain ⟨p0, p1⟩ := mul12 (s := sp) htop
      obtain ⟨q0, q1, q2⟩ := int12 p0 p1
      refine ⟨_, rfl, _, rfl, 1 + (sp : Int), top, rfl, rfl, .inl ⟨by omega, by omega⟩, _, 12, rfl, rfl, ⟨by decide, by decide⟩, _, rfl, _, rfl, 1 + (sp : Int), top, rfl, rfl, .inl ⟨by omega, by omega⟩, _, 11, rfl, rfl, _, 12, rfl, rfl, ⟨by decide, by decide⟩, .int ((1 + (sp : Int)) * top / 12), .int (((1 + (sp : Int)) * top + 11) / 12), rfl, ?_⟩
      refine ⟨_, rfl, _, rfl, d, C, n + 2 + 6 * i + 1, rfl, hC1, by omega, by omega, dk5, fun H6 cc hcc sb6 dk6 => ⟨rfl, _, rfl, ite2 (fun e => ?_) (fun e => ?_)⟩⟩
      · refine ⟨_, rfl, _, rfl, 1 + (sp : Int), 1, rfl, rfl, d, sp + 2, n + 2 + 6 * i + 2, (by rw [show ((sp + 2 : Nat) : Int) = 1 + (sp : Int) + 1 by omega]; rfl), by omega, by omega, by omega, dk6, fun H7 lo1 hlo1 sb7 dk7 => ?_⟩
        refine ⟨_, rfl, _, rfl, _, rfl, 1 + (sp : Int), 1, rfl, rfl, _, rfl, _, _, rfl, rfl, d, sp + 2 - lo1, n + 2 + 6 * i + 3, (by rw [show ((sp + 2 - lo1 : Nat) : Int) = 1 + (sp : Int) + 1 - lo1 by omega]; rfl), by omega, by omega, by omega, dk7, fun HT hi1 hhi1 sbx dkT => ⟨lo1, hi1, rfl, rfl, ?_⟩⟩
        have sbT : SB d H HT := sb4.trans (sb5.trans (sb6.trans (sb7.trans sbx)))
        have riT := ri4.sb hfd (sb5.trans (sb6.trans (sb7.trans sbx)))
        obtain ⟨lo, elo, l0⟩ : ∃ lo : Int, lo = lo1 ∧ 0 ≤ lo := ⟨lo1, rfl, by omega⟩
        obtain ⟨hi0, ehi, l1', l2'⟩ : ∃ hi0 : Int, hi0 = lo1 + hi1 ∧ lo ≤ hi0 ∧ hi0 ≤ 1 + (sp : Int) := ⟨lo1 + hi1, rfl, by omega, by omega⟩
        show tSeq _ _ _ [some (.ref d), some (.int S), some (.int C), some (.int top), some (.ref fo), some (.int (0 + (i : Int))), some (.int (1 + (sp : Int))), some (.int lo1), some (.int (lo1 + hi1)), y9, y10] HT
        rw [← ehi, ← elo]
        clear ehi elo
        refine ⟨_, rfl, (by show 4 ≤ sizeLine; decide), fun l1 hl1 => ?_⟩
        refine ⟨d, l1, _, n + 2 + 6 * i + 4, rfl, fun z => dkT.ne (z ▸ hl1), SqL.of upd_same, by decide, by decide, by omega, dkT.same (same_new hl1), fun H6 k1 v1 hv1 sb6 dk6 => ?_⟩
        obtain ⟨more, rfl, hmore⟩ := four hv1
        refine ⟨_, rfl, (by show 4 ≤ sizeLine; decide), fun l2 hl2 => ?_⟩
        refine ⟨d, l2, _, n + 2 + 6 * i + 5, rfl, fun z => dk6.ne (z ▸ hl2), SqL.of upd_same, by decide, by decide, by omega, dk6.same (same_new hl2), fun H7 k2 v2 hv2 sb7 dk7 => ?_⟩
        obtain ⟨less, rfl, hless⟩ := four hv2
        have sbT7 : SB d HT H7 := (Same.sb (same_new hl1)).trans (sb6.trans ((Same.sb (same_new hl2)).trans sb7))
        have ri7 := riT.sb hfd sbT7
        refine ⟨.int more, .int less, rfl, ?_⟩
        refine ⟨_, rfl, _, rfl, _, rfl, lo, less, rfl, rfl, 0, _, rfl, _, rfl, _, rfl, _, rfl, hi0, more, rfl, rfl, _, _, rfl, (by show 3 ≤ sizeLine; decide), fun t ht => ?_⟩
        have ht7 : Same H7 (upd H7 t (tu (1 + (sp : Int), (if lo - less > 0 then lo - less else 0), (if hi0 + more < 1 + (sp : Int) then hi0 + more else 1 + (sp : Int))))) := same_new ht
        obtain ⟨L', eL, nd', ln1, ln2, hL'⟩ := put_ok L (1 + (sp : Int), (if lo - less > 0 then lo - less else 0), (if hi0 + more < 1 + (sp : Int) then hi0 + more else 1 + (sp : Int))) t nd
        have htd : t ≠ d := fun z => dk7.ne (z ▸ ht)
        have htf : t ≠ fo := fun z => by
          rw [z, ri7.1] at ht
          cases ht
        refine ⟨_, rfl, _, rfl, fo, _, rfl, DPut.k (k := Sum.inl (1 + (sp : Int))) (ht7 _ _ ri7.1) (lt_line (by rw [List.length_map]; omega)), ?_⟩
        rw [eL]
        refine ⟨_, _, _, _, _, _, L', rfl, fun b o hne hb => ?_, ((dk7.same ht7).mono (by omega)).upd hfd, ⟨upd_same, fun p hp => ?_⟩, nd', by omega, fun _ => ln2⟩
        · rw [upd_ne (hH hb hne)]
          exact ht7 _ _ (sbT7 _ _ hne (sbT _ _ hne hb))
        · rcases hL' p hp with h | h
          · obtain ⟨a1, a2, a3⟩ := ri7.2 p h
            refine ⟨a1, a2, ?_⟩
            rw [upd_ne (fun z => by rw [z, ri7.1] at a3; cases a3)]
            exact ht7 _ _ a3
          · subst h
            refine ⟨rule_ok (by omega) (by omega) l0 l1' l2' hmore hless, htd, ?_⟩
            rw [upd_ne htf, upd_same]
            rfl

      · have sbT : SB d H H6 := sb4.trans (sb5.trans sb6)
        have riT := ri4.sb hfd (sb5.trans sb6)
        have dkT := dk6.mono (show n + 2 + 6 * i + 1 + 1 ≤ n + 2 + 6 * i + 4 by omega)
        obtain ⟨lo, elo, l0⟩ : ∃ lo : Int, lo = (1 + (sp : Int)) * top / 12 ∧ 0 ≤ lo := ⟨_, rfl, q0⟩
        obtain ⟨hi0, ehi, l1', l2'⟩ : ∃ hi0 : Int, hi0 = ((1 + (sp : Int)) * top + 11) / 12 ∧ lo ≤ hi0 ∧ hi0 ≤ 1 + (sp : Int) := ⟨_, rfl, by rw [elo]; exact q1, q2⟩
        show tSeq _ _ _ [some (.ref d), some (.int S), some (.int C), some (.int top), some (.ref fo), some (.int (0 + (i : Int))), some (.int (1 + (sp : Int))), some (.int ((1 + (sp : Int)) * top / 12)), some (.int (((1 + (sp : Int)) * top + 11) / 12)), y9, y10] H6
        rw [← ehi, ← elo]
        clear ehi elo
        refine ⟨_, rfl, (by show 4 ≤ sizeLine; decide), fun l1 hl1 => ?_⟩
        refine ⟨d, l1, _, n + 2 + 6 * i + 4, rfl, fun z => dkT.ne (z ▸ hl1), SqL.of upd_same, by decide, by decide, by omega, dkT.same (same_new hl1), fun HA k1 v1 hv1 sb6 dk6 => ?_⟩
        obtain ⟨more, rfl, hmore⟩ := four hv1
        refine ⟨_, rfl, (by show 4 ≤ sizeLine; decide), fun l2 hl2 => ?_⟩
        refine ⟨d, l2, _, n + 2 + 6 * i + 5, rfl, fun z => dk6.ne (z ▸ hl2), SqL.of upd_same, by decide, by decide, by omega, dk6.same (same_new hl2), fun H7 k2 v2 hv2 sb7 dk7 => ?_⟩
        obtain ⟨less, rfl, hless⟩ := four hv2
        have sbT7 : SB d H6 H7 := (Same.sb (same_new hl1)).trans (sb6.trans ((Same.sb (same_new hl2)).trans sb7))
        have ri7 := riT.sb hfd sbT7
        refine ⟨.int more, .int less, rfl, ?_⟩
        refine ⟨_, rfl, _, rfl, _, rfl, lo, less, rfl, rfl, 0, _, rfl, _, rfl, _, rfl, _, rfl, hi0, more, rfl, rfl, _, _, rfl, (by show 3 ≤ sizeLine; decide), fun t ht => ?_⟩
        have ht7 : Same H7 (upd H7 t (tu (1 + (sp : Int), (if lo - less > 0 then lo - less else 0), (if hi0 + more < 1 + (sp : Int) then hi0 + more else 1 + (sp : Int))))) := same_new ht
        obtain ⟨L', eL, nd', ln1, ln2, hL'⟩ := put_ok L (1 + (sp : Int), (if lo - less > 0 then lo - less else 0), (if hi0 + more < 1 + (sp : Int) then hi0 + more else 1 + (sp : Int))) t nd
        have htd : t ≠ d := fun z => dk7.ne (z ▸ ht)
        have htf : t ≠ fo := fun z => by
          rw [z, ri7.1] at ht
          cases ht
        refine ⟨_, rfl, _, rfl, fo, _, rfl, DPut.k (k := Sum.inl (1 + (sp : Int))) (ht7 _ _ ri7.1) (lt_line (by rw [List.length_map]; omega)), ?_⟩
        rw [eL]
        refine ⟨_, _, _, _, _, _, L', rfl, fun b o hne hb => ?_, ((dk7.same ht7).mono (by omega)).upd hfd, ⟨upd_same, fun p hp => ?_⟩, nd', by omega, fun _ => ln2⟩
        · rw [upd_ne (hH hb hne)]
          exact ht7 _ _ (sbT7 _ _ hne (sbT _ _ hne hb))
        · rcases hL' p hp with h | h
          · obtain ⟨a1, a2, a3⟩ := ri7.2 p h
            refine ⟨a1, a2, ?_⟩
            rw [upd_ne (fun z => by rw [z, ri7.1] at a3; cases a3)]
            exact ht7 _ _ a3
          · subst h
            refine ⟨rule_ok (by omega) (by omega) l0 l1' l2' hmore hless, htd, ?_⟩
            rw [upd_ne htf, upd_same]
            rfl

    · rintro σ H4 ⟨y5, y6, y7, y8, y9, y10, L, rfl, sb4, dk4, ri4, nd, ln, ln1⟩
      have ln2 := ln1 (by omega)
      refine ⟨_, rfl, fo, L.map ent, L.map (·.1.1), rfl, .inl ri4.1, by rw [List.map_map, List.map_map]; rfl, by rw [List.length_map]; omega, fun ys p hp1 hp2 hp3 => ?_⟩
      have ynd : ys.Nodup := hp1.nodup_iff.mpr nd
      obtain ⟨M, eM, hM⟩ := vals_ok L ys fun s hs => hp1.mem_iff.mp hs
      have elen : M.length = L.length := by
        have z := hp1.length_eq
        rw [← eM, List.length_map, List.length_map] at z
        exact z
      have sp : Same H4 (upd H4 p (.lst (ys.map V.int))) := same_new hp3
      refine ⟨p, rfl, ⟨_, SqL.of upd_same⟩, fun LL hLL => lc_same (walk_list (xs := ys.map V.int)) (M.map fun e => V.ref e.2) ?_ ?_ hLL (fun H0 s0 => s0.seq (SqL.of upd_same)) ?_ ?_⟩
      · rw [List.length_map, List.length_map, ← eM, List.length_map]
      · rw [List.length_map, ← eM, List.length_map]
        exact lt_line (by omega)
      · rintro i x y H0 _ Q0 hi s0 ⟨rfl, hx⟩ hy q0
        rw [List.getElem?_map] at hy
        obtain ⟨pm, hpm, rfl⟩ := Option.map_eq_some_iff.mp hy
        rw [← eM, List.map_map, List.getElem?_map, hpm] at hx
        have ex : x = .int pm.1.1 := (Option.some.inj hx).symm
        subst ex
        have s1 := sp.trans s0
        exact ⟨rfl, _, rfl, _, rfl, fo, _, rfl, .inl ⟨L.map ent, Sum.inl pm.1.1, .inl (s1 _ _ ri4.1), rfl, (hM pm (List.mem_of_getElem? hpm)).2.symm⟩, q0 _ (Same.refl _)⟩
      · intro H0 s0 hL0
        have s1 := sp.trans s0
        refine ⟨LL, _, rfl, .inl ⟨SqL.of hL0, fun l hl => ?_⟩⟩
        have s2 : Same H4 (upd H0 l (.tup (M.map fun e => V.ref e.2))) := s1.trans (same_new hl)
        have dkE := (dk4.same s1).mono (show n + 2 + 6 * (1 + (t : Int)).toNat ≤ n + 40 by omega)
        refine q _ (.ref l) (M.map (·.1)) (sb4.trans (Same.sb s2)) (dkE.same (same_new hl)) ?_ ?_
        · exact .tup (.inl (.inl (exc_at upd_same fun z => dkE.ne (z ▸ hl)))) (dpa_M M fun pm hpm => exc_at (s2 _ _ (ri4.2 pm (hM pm hpm).1).2.2) (ri4.2 pm (hM pm hpm).1).2.1)
        · refine good_of (fun r hr => ?_) (by rw [List.length_map]; omega) (by rw [List.length_map]; omega) ?_
          · obtain ⟨pm, hpm, rfl⟩ := List.mem_map.mp hr
            exact (ri4.2 pm (hM pm hpm).1).1
          · rw [List.map_map]
            show (M.map (·.1.1)).Pairwise (· < ·)
            rw [eM]
            exact lt_of_le_nodup hp2 ynd
end
end K01
namespace K01
open PySem PySem.Spec PyProof.Rows L2 XR
/-! ### a comprehension that leaves out -/
section
variable {K : PySem.W.Frag} {tt : TT} {σ : L2.St} {H1 : Hp} {D a : Addr} {Qd : Hp → Prop} {xs : List V}
theorem lc_filt (j : Nat) (hj : j < σ.length) (Pb : Nat → Bool) (hn : xs.length < 1000000) (hD : H1 D = none) (hT : SqT K H1 a xs)
    (hs : ∀ i x H (Q : Bool → Hp → Prop), xs[i]? = some x → Same H1 H → (∀ H', Same H H' → Q (Pb i) H') → tt ((wipe σ [j]).set j (some x)) H Q)
    (hd : ∀ H acc, Same H1 H → H D = some (.lst acc) → (acc.isEmpty = true ↔ ∀ i, i < xs.length → Pb i = false) → Qd H) :
    ∃ W : Nat → Nat → Hp → Prop, (∃ m, W 0 m (upd H1 D (.lst []))) ∧ ∀ i m H, (W i m H) →
      ((Itt K a).stop i H ∧ Qd H) ∨ ((Itt K a).go i H ∧ ∃ Nx : Hp → Prop, (∀ H', Nx H' → ∃ m', m' < m ∧ W (i + 1) m' H') ∧ ∀ x H', (Itt K a).yld i H x H' → gName j x (wipe σ [j]) H' fun σ2 H2 => wipe σ2 [j] = wipe σ [j] ∧ tt σ2 H2 fun b H3 =>
        if b = true then tVar j σ2 H3 fun y H4 => ∃ acc, H4 D = some (.lst acc) ∧ acc.length < sizeLine ∧ Nx (upd H4 D (.lst (acc ++ [y]))) else Nx H3) := by
  refine lc_it (walk_tup (K := K) (a := a) (xs := xs)) (fun i H => Same H1 H ∧ ∃ acc, H D = some (.lst acc) ∧ acc.length ≤ i ∧ (acc.isEmpty = true ↔ ∀ k, k < i → Pb k = false)) ⟨same_new hD, [], upd_same, Nat.le_refl _, fun _ k hk => absurd hk (by omega), fun _ => rfl⟩ (fun i H _ p => Same.tup p.1 hT) ?_ ?_
  · rintro i x H _ hi ⟨s1, acc, ha, hl, hiff⟩ ⟨rfl, hx⟩
    have hw : wipe ((wipe σ [j]).set j (some x)) [j] = wipe σ [j] := by
      show (((σ.set j none).set j (some x)).set j none) = σ.set j none
      rw [List.set_set, List.set_set]
    refine ⟨hw, hs i x _ _ hx s1 fun H' s2 => ?_⟩
    cases e : Pb i with
    | false =>
      refine iteF ⟨s1.trans s2, acc, s2 _ _ ha, by omega, ?_⟩
      rw [hiff]
      refine ⟨fun h k hk => ?_, fun h k hk => h k (by omega)⟩
      by_cases c : k = i
      · rw [c]
        exact e
      · exact h k (by omega)
    | true =>
      refine iteT ⟨x, by rw [List.getElem?_set_self (by show j < (σ.set j none).length; rw [List.length_set]; exact hj)], acc, s2 _ _ ha, lt_line (by omega), fun b o eb => ?_, acc ++ [x], upd_same, by rw [List.length_append, List.length_singleton]; omega, ?_⟩
      · rw [upd_ne (ne_of_none eb hD)]
        exact s2 _ _ (s1 _ _ eb)
      · constructor
        · intro h
          simp at h
        · intro h
          rw [h i (by omega)] at e
          cases e
  · rintro H ⟨s1, acc, ha, hl, hiff⟩
    exact hd H acc s1 ha hiff
end
/-! ### rising, by sorted sets -/
theorem rising_pair : ∀ {ns : List Int}, risingB ns = true → ns.Pairwise (· < ·)
  | [], _ => .nil
  | [a], _ => List.pairwise_singleton _ a
  | a :: b :: r, h => by
    have h1 : (decide (a < b) && risingB (b :: r)) = true := h
    obtain ⟨h2, h3⟩ := Bool.and_eq_true_iff.mp h1
    have h4 := rising_pair h3
    have h5 : a < b := of_decide_eq_true h2
    refine List.pairwise_cons.mpr ⟨fun x hx => ?_, h4⟩
    rcases List.mem_cons.mp hx with rfl | hx
    · exact h5
    · have := (List.pairwise_cons.mp h4).1 x hx
      omega
theorem sorted_eq : ∀ {ns ms : List Int}, ns.Pairwise (· < ·) → ms.Pairwise (· < ·) → (∀ k, k ∈ ns ↔ k ∈ ms) → ns = ms
  | [], [], _, _, _ => rfl
  | [], b :: s, _, _, h => absurd ((h b).mpr List.mem_cons_self) (by simp)
  | a :: r, [], _, _, h => absurd ((h a).mp List.mem_cons_self) (by simp)
  | a :: r, b :: s, h1, h2, h => by
    obtain ⟨a1, a2⟩ := List.pairwise_cons.mp h1
    obtain ⟨b1, b2⟩ := List.pairwise_cons.mp h2
    have e : a = b := by
      rcases List.mem_cons.mp ((h a).mp List.mem_cons_self) with z | z
      · exact z
      · rcases List.mem_cons.mp ((h b).mpr List.mem_cons_self) with y | y
        · exact y.symm
        · have := b1 a z
          have := a1 b y
          omega
    subst e
    rw [sorted_eq a2 b2 fun k => ?_]
    constructor
    · intro hk
      rcases List.mem_cons.mp ((h k).mp (List.mem_cons_of_mem _ hk)) with z | z
      · have := a1 k hk
        omega
      · exact z
    · intro hk
      rcases List.mem_cons.mp ((h k).mpr (List.mem_cons_of_mem _ hk)) with z | z
      · have := b1 k hk
        omega
      · exact z
theorem shaped_ints (ns : List Int) : SeqAt.shaped (.list (ns.map PyData.int)) = true := by
  have h1 : ∀ l : List Int, PyData.canLayAll0 (l.map PyData.int) = true := fun l => by
    induction l with
    | nil => rfl
    | cons a r ih => simp [PyData.canLayAll0, PyData.canLay0, ih]
  have h2 : ∀ l : List Int, PyData.depthAll (l.map PyData.int) = 0 := fun l => by
    induction l with
    | nil => rfl
    | cons a r ih => simp [PyData.depthAll, PyData.depth, ih]
  unfold SeqAt.shaped
  simp [PyData.canLay0, PyData.depth, h1, h2]
theorem eqv_ints (ns ms : List Int) : PyData.eqv (.list (ns.map PyData.int)) (.list (ms.map PyData.int)) = decide (ns = ms) := by
  unfold PyData.eqv
  exact PySem.W.ked_eqvAll ns ms
theorem eqv_rising {ns ms : List Int} (h1 : ms.Pairwise (· < ·)) (h2 : ∀ k, k ∈ ms ↔ k ∈ ns) : decide (ns = ms) = risingB ns := by
  cases e : risingB ns with
  | true => exact decide_eq_true (sorted_eq (rising_pair e) h1 fun k => (h2 k).symm)
  | false =>
    refine decide_eq_false fun z => ?_
    rw [z, rising_of h1] at e
    cases e
section
variable {P : Program} {w : World} {K : PySem.W.Frag} {mg : Str → Option Value} {base : Heap}
/-! ### _law_is_row -/
theorem scLRow : FnScope ["thing", "place"] ["thing"] (defScope sLawIsRow) := ⟨rfl, rfl, rfl, by decide +kernel, rfl, by decide +kernel, by decide +kernel⟩
theorem all_iff {ds : List PyData} {f : PyData → Bool} {xs : List V} (el : xs.length = ds.length) {b : Bool} (h : b = true ↔ ∀ i, i < xs.length → (!(f (ds.getD i .none))) = false) : b = ds.all f := by
  have e : (ds.all f = true) ↔ ∀ i, i < xs.length → (!(f (ds.getD i .none))) = false := by
    rw [List.all_eq_true]
    constructor
    · intro hh i hi
      have := hh ds[i] (List.getElem_mem (by omega))
      rw [List.getD_eq_getElem?_getD, List.getElem?_eq_getElem (by omega)]
      simp [this]
    · intro hh x hx
      obtain ⟨i, hi, rfl⟩ := List.getElem_of_mem hx
      have := hh i (by omega)
      rw [List.getD_eq_getElem?_getD, List.getElem?_eq_getElem hi] at this
      simpa using this
  rw [Bool.eq_iff_iff, h, e]
theorem getD_of {ds : List PyData} {i : Nat} {d : PyData} (h : ds[i]? = some d) : ds.getD i .none = d := by
  rw [List.getD_eq_getElem?_getD, h]
  rfl
theorem c_lrow (D : Df K mg "_law_is_row" sLawIsRow) (T : Txt mg) (CW : Cal P w K mg base "_law_whole" 1 ["thing"] (spWhole K)) : Cal P w K mg base "_law_is_row" 2 ["thing"] (spRow K) := by
  refine cal_of D scLRow (fun _ _ _ _ _ _ us hl => match us, hl with | [_], _ => rfl) (fun vs H Q E h => ?_) (fun f cdv A outer s H vs Q E hr h => ?_)
  · obtain ⟨v, d, rfl, _⟩ := h
    rfl
  · obtain ⟨v, d, rfl, hd, q⟩ := h
    refine ⟨_, pss_cons (ps_if (PW.pt (pw_or (pt_not (pt_val (pe_isi T.isi (pv 0) (pe_ty (T := "tuple") T.tuple (by decide +kernel))))) (pw_or1 (pt_cmpR op_gt (pe_callB call_len_seq (by rfl) T.len PySem.boot_len (pa_cons (pv 0) pa_nil)) pe_int (nomark _)))))
        (pss_one (ps_ret pe_bl)) pss_nil)
      (pss_one (ps_ret (pe_cmpR (op_eq0 hr.units) (pe_lc (own := [("place", 1)]) (g := gName 1) (tt := tOr (tNot (tB (tCall (spWhole K) [] E0 (tCons (tVar 1) tNil)))) (tTest (tOp (rIn K true) (tVar 1) (tTup (tCons (tC (.int 0)) (tCons (tC (.int 1)) tNil)))))) (te := tVar 1) rfl scLRow.nd (pi_tup (pv 0)) (blkOk_by (own := [("place", 1)]) (N := ["thing", "place"]) (sc := defScope sLawIsRow) (by decide +kernel))
          (fun _ _ _ _ _ => pg_name (i := 1) scLRow.nd rfl (Or.inl rfl)) (fun _ _ _ _ _ => pts_one (PW.pt (pw_or (pt_not (pt_val (pe_cal CW hr (pa_cons (pv 1) pa_nil)))) (pw_or1 (pt_cmpR op_notIn_seq (pv 1) (pe_tup (pa_cons pe_int (pa_cons pe_int pa_nil))) (by rfl)))))) (fun _ _ _ _ _ => pv 1)) (pe_lst pa_nil) (nomark _)))), ?_⟩
    refine ⟨v, rfl, _, _, _, _, _, rfl, .ty _, dp_ty hd, kit_ty (kit_tuple d), _, rfl, ?_⟩
    cases hd with
    | @tup a xs ds hs ha =>
      have el := dpa_len ha
      refine iteF ⟨.ref a, rfl, a, xs, rfl, .inr hs, _, _, rfl, rfl, _, rfl, ite2 (fun e => ?_) (fun e => ?_)⟩
      · have e1 : (120 : Int) < xs.length := of_decide_eq_true e
        have := q H (Same.refl H)
        have e2 : rowD (.tuple ds) = false := by
          have e3 : ¬ ds.length ≤ 120 := by omega
          simp [rowD, e3]
        rw [e2] at this
        exact this
      · have e1 : ¬ (120 : Int) < xs.length := fun z => e (decide_eq_true z)
        have e2 : ds.length ≤ 120 := by omega
        refine ⟨.ref a, rfl, a, rfl, ⟨_, hs⟩, fun L hL => lc_filt (a := a) (xs := xs) 1 (by show 1 < 2; decide) (fun i => !(placeD (ds.getD i .none))) (by omega) hL hs ?_ ?_⟩
        · intro i x H0 Q0 hx s0 q0
          obtain ⟨dx, hd1, hd2⟩ := dpa_get ha hx
          have ex := getD_of hd1
          rw [ex] at q0
          have hd3 := dp_same s0 _ _ hd2
          refine ⟨x, rfl, x, dx, rfl, hd3, _, rfl, ?_⟩
          cases hd3 with
          | int z =>
            refine iteF ⟨_, rfl, (by show 2 ≤ sizeLine; decide), fun t ht => ⟨t, _, rfl, .inr (SqT.of upd_same), rfl, rfl, _, rfl, ?_⟩⟩
            have e3 : (if true = true then !inV (.int z) [.int 0, .int 1] else inV (.int z) [.int 0, .int 1]) = !(placeD (.int z)) := by
              simp only [inV, eqV, placeD, List.any_cons, List.any_nil, Bool.or_false, if_true]
              by_cases c0 : z = 0
              · subst c0; rfl
              · by_cases c1 : z = 1
                · subst c1; rfl
                · have : ¬ (0 ≤ z ∧ z ≤ 1) := by omega
                  have h0 : ((0 : Int) == z) = false := by simpa using Ne.symm c0
                  have h1 : ((1 : Int) == z) = false := by simpa using Ne.symm c1
                  rw [h0, h1, decide_eq_false this]
                  rfl
            rw [e3]
            exact q0 _ (same_new ht)
          | _ => exact iteT (q0 _ (Same.refl _))
        · intro H0 acc s0 hL0 hiff
          refine ⟨Nat.zero_le _, fun e0 he0 => ?_⟩
          have ne : L ≠ e0 := fun z => by rw [← z, hL0] at he0; cases he0
          refine ⟨L, e0, acc, rfl, rfl, SqL.of ((upd_ne ne).trans hL0), SqL.of upd_same, ?_⟩
          have := q _ (s0.trans (same_new he0 (o := .lst [])))
          have e3 : rowD (.tuple ds) = acc.isEmpty := by
            rw [all_iff el hiff]
            show (decide (ds.length ≤ 120) && ds.all placeD) = _
            rw [decide_eq_true e2, Bool.true_and]
          rw [e3] at this
          exact this
    | _ => exact iteT (q H (Same.refl H))
end
end K01
namespace K01
open PySem PySem.Spec PyProof.Rows L2 XR
theorem are_no {ds : List PyData} {i : Nat} {d : PyData} (h : ds[i]? = some d) (hd : ruleD d = false) : areD (.tuple ds) = false := by
  have e : ds.all ruleD = false := by
    cases e : ds.all ruleD with
    | false => rfl
    | true =>
      have := List.all_eq_true.mp e d (List.mem_of_getElem? h)
      rw [hd] at this
      cases this
  simp [areD, e]
section
variable {P : Program} {w : World} {K : PySem.W.Frag} {mg : Str → Option Value} {base : Heap}
abbrev nLAre : List Str := ["thing", "rule", "spans_so", "one"]
theorem scLAre : FnScope nLAre ["thing"] (defScope sLawAreRules) := ⟨rfl, rfl, rfl, by decide +kernel, rfl, by decide +kernel, by decide +kernel⟩
theorem c_lare (D : Df K mg "_law_are_rules" sLawAreRules) (T : Txt mg) (CW : Cal P w K mg base "_law_whole" 1 ["thing"] (spWhole K)) : Cal P w K mg base "_law_are_rules" 2 ["thing"] (spAre K) := by
  refine cal_of D scLAre (fun _ _ _ _ _ _ us hl => match us, hl with | [_], _ => rfl) (fun vs H Q E h => ?_) (fun f cdv A outer s H vs Q E hr h => ?_)
  · obtain ⟨v, d, rfl, _⟩ := h
    rfl
  · obtain ⟨v, d, rfl, hd, q⟩ := h
    refine ⟨_, pss_cons (ps_if (PW.pt (pw_or (pt_not (pt_val (pe_isi T.isi (pv 0) (pe_ty (T := "tuple") T.tuple (by decide +kernel))))) (pw_or1 (pt_not (pt_chain op_le op_le pe_int (pe_callB call_len_seq (by rfl) T.len PySem.boot_len (pa_cons (pv 0) pa_nil)) pe_int)))))
        (pss_one (ps_ret pe_bl)) pss_nil)
      (pss_cons (ps_for PassesOwn.never rfl (pi_tup (pv 0)) (pg_name (i := 1) scLAre.nd rfl (.inl rfl))
        (pss_cons (ps_if (PW.pt (pw_or (pt_not (pt_val (pe_isi T.isi (pv 1) (pe_ty (T := "tuple") T.tuple (by decide +kernel))))) (pw_or (pt_cmpR op_ne (pe_callB call_len_seq (by rfl) T.len PySem.boot_len (pa_cons (pv 1) pa_nil)) pe_int (nomark _))
            (pw_or1 (pt_cmpR (op_ne0 hr.units) (pe_lc (own := [("one", 3)]) (g := gName 3) (tt := tNot (tB (tCall (spWhole K) [] E0 (tCons (tVar 3) tNil)))) (te := tVar 3) rfl scLAre.nd (pi_tup (pv 1)) (blkOk_by (own := [("one", 3)]) (N := nLAre) (sc := defScope sLawAreRules) (by decide +kernel))
              (fun _ _ _ _ _ => pg_name (i := 3) scLAre.nd rfl (Or.inl rfl)) (fun _ _ _ _ _ => pts_one (pt_not (pt_val (pe_cal CW hr (pa_cons (pv 3) pa_nil))))) (fun _ _ _ _ _ => pv 3)) (pe_lst pa_nil) (nomark _))))))
          (pss_one (ps_ret pe_bl)) pss_nil)
        (pss_one (ps_if (PW.pt (pw_or (pt_not (pt_chain op_le op_le pe_int (pe_ix ix_tup (pv 1) pe_int (fun _ _ => rfl)) pe_int)) (pw_or1 (pt_not (pt_chain3 op_le op_le op_le pe_int (pe_ix ix_tup (pv 1) pe_int (fun _ _ => rfl)) (pe_ix ix_tup (pv 1) pe_int (fun _ _ => rfl)) (pe_ix ix_tup (pv 1) pe_int (fun _ _ => rfl)))))))
          (pss_one (ps_ret pe_bl)) pss_nil))))
      (pss_cons (ps_setLc (i := 2) (own := [("rule", 1)]) (g := gName 1) (tt := tYes) (te := tOp (rIxT K) (tVar 1) (tC (.int 0))) rfl scLAre.nd rfl rfl (sw_true rfl rfl rfl (by decide +kernel)) (pi_tup (pv 0)) (blkOk_by (own := [("rule", 1)]) (N := nLAre) (sc := defScope sLawAreRules) (by decide +kernel))
          (fun _ _ _ _ _ => pg_name (i := 1) scLAre.nd rfl (Or.inl rfl)) (fun _ _ _ _ _ => pts_nil) (fun _ _ _ _ _ => pe_ix ix_tup (pv 1) pe_int (fun _ _ => rfl)))
      (pss_one (ps_ret (pe_cmpR (op_eqD hr.units) (pv 2) (pe_callB (cr_sortedSet rfl) (by rfl) T.sorted (by decide +kernel) (pa_cons (pe_callTy (cr_setL rfl) (by rfl) T.set (by decide +kernel) (pa_cons (pv 2) pa_nil)) pa_nil)) (nomark _)))))), ?_⟩
    refine ⟨v, rfl, _, _, _, _, _, rfl, .ty _, dp_ty hd, kit_ty (kit_tuple d), _, rfl, ?_⟩
    cases hd with
    | @tup a xs ds hs ha =>
      have el := dpa_len ha
      have q0 := q H (Same.refl H)
      refine iteF ⟨.ref a, rfl, a, xs, rfl, .inr hs, 1, _, rfl, rfl, _, rfl, ?_⟩
      by_cases c1 : (1 : Int) ≤ xs.length
      · rw [decide_eq_true c1]
        refine iteT ⟨_, 5, rfl, rfl, _, rfl, ?_⟩
        by_cases c2 : (xs.length : Int) ≤ 5
        · rw [decide_eq_true c2]
          have e5 : 1 ≤ ds.length ∧ ds.length ≤ 5 := ⟨by omega, by omega⟩
          refine iteF ⟨.ref a, rfl, a, rfl, ⟨_, hs⟩, for_tup (K := K) (a := a) (xs := xs) (fun i σ H' => Same H H' ∧ (∃ y, σ = [some (.ref a), y, none, none]) ∧ ∀ (j : Nat) (d : PyData), j < i → ds[j]? = some d → ruleD d = true)
            ⟨Same.refl H, ⟨none, rfl⟩, fun j d h => absurd h (by omega)⟩ (fun i σ H' _ p => Same.tup p.1 hs) ?_ ?_⟩
          · rintro i x σ H' hx ⟨s1, ⟨y, rfl⟩, hj⟩
            obtain ⟨dx, hdx1, hdx2⟩ := dpa_get ha hx
            have hdx := dp_same s1 _ _ hdx2
            have no : ∀ H2, Same H' H2 → ruleD dx = false → Q (.bl false) H2 := fun H2 s2 e => by
              have := q H2 (s1.trans s2)
              rw [are_no hdx1 e] at this
              exact this
            refine ⟨x, rfl, _, _, _, _, _, rfl, .ty _, dp_ty hdx, kit_ty (kit_tuple dx), _, rfl, ?_⟩
            cases hdx with
            | @tup b ys es hb hbs =>
              have el2 := dpa_len hbs
              refine iteF ⟨.ref b, rfl, b, ys, rfl, .inr hb, rfl, _, rfl, ite2 (fun e => ?_) (fun e => ?_)⟩
              · have e2 : es.length ≠ 3 := fun z => by
                  rw [el2, z] at e
                  exact absurd e (by decide)
                exact no _ (Same.refl _) (ruleD_len e2)
              · have e2 : es.length = 3 := by
                  rw [el2] at e
                  have e3 : decide (V.int (es.length : Int) = V.int 3) = true := by simpa using e
                  have e4 := of_decide_eq_true e3
                  injection e4 with e5
                  omega
                obtain ⟨da, db, dc, rfl⟩ : ∃ da db dc, es = [da, db, dc] := by
                  match es, e2 with
                  | [x, y, z], _ => exact ⟨x, y, z, rfl⟩
                refine ⟨.ref b, rfl, b, rfl, ⟨_, hb⟩, fun L hL => lc_filt (a := b) (xs := ys) 3 (by show 3 < 4; decide) (fun i => !(wholeD ([da, db, dc].getD i .none))) (by rw [el2]; show 3 < 1000000; decide) hL hb ?_ ?_⟩
                · intro k z H0 Q0 hz s0 q0
                  obtain ⟨dz, hz1, hz2⟩ := dpa_get hbs hz
                  rw [getD_of hz1] at q0
                  exact ⟨z, rfl, z, dz, rfl, dp_same s0 _ _ hz2, _, rfl, q0 _ (Same.refl _)⟩
                · intro H0 acc s0 hL0 hiff
                  have hall := all_iff el2 hiff
                  refine ⟨Nat.zero_le _, fun e0 he0 => ?_⟩
                  have ne : L ≠ e0 := fun z => by rw [← z, hL0] at he0; cases he0
                  have s2 : Same H' (upd H0 e0 (.lst [])) := s0.trans (same_new he0)
                  refine ⟨L, e0, acc, rfl, rfl, SqL.of ((upd_ne ne).trans hL0), SqL.of upd_same, _, rfl, ?_⟩
                  rw [hall]
                  cases hw : [da, db, dc].all wholeD with
                  | false =>
                    refine iteT (no _ s2 (ruleD_whole fun z => ?_))
                    simp [z.1, z.2.1, z.2.2] at hw
                  | true =>
                    have hw2 : wholeD da = true ∧ wholeD db = true ∧ wholeD dc = true := by simpa using hw
                    obtain ⟨i1, rfl⟩ := wholeD_int hw2.1
                    obtain ⟨i2, rfl⟩ := wholeD_int hw2.2.1
                    obtain ⟨i3, rfl⟩ := wholeD_int hw2.2.2
                    obtain ⟨b', eb, hb'⟩ := dR_get (r := (i1, i2, i3)) (Dp.tup hb hbs)
                    cases eb
                    have hb3 := Same.tup s2 hb'
                    refine iteF ⟨.ref b, rfl, b, _, 0, _, rfl, rfl, hb3, atI_nat (j := 0) rfl, 1, i1, rfl, rfl, _, rfl, ?_⟩
                    by_cases d1 : 1 ≤ i1
                    · rw [decide_eq_true d1]
                      refine iteT ⟨i1, 8, rfl, rfl, _, rfl, ?_⟩
                      by_cases d2 : i1 ≤ 8
                      · rw [decide_eq_true d2]
                        refine iteF ⟨.ref b, rfl, b, _, 1, _, rfl, rfl, hb3, atI_nat (j := 1) rfl, 0, i2, rfl, rfl, _, rfl, ?_⟩
                        by_cases d3 : 0 ≤ i2
                        · rw [decide_eq_true d3]
                          refine iteT ⟨.ref b, rfl, b, _, 2, _, rfl, rfl, hb3, atI_nat (j := 2) rfl, i2, i3, rfl, rfl, _, rfl, ?_⟩
                          by_cases d4 : i2 ≤ i3
                          · rw [decide_eq_true d4]
                            refine iteT ⟨.ref b, rfl, b, _, 0, _, rfl, rfl, hb3, atI_nat (j := 0) rfl, i3, i1, rfl, rfl, _, rfl, ?_⟩
                            by_cases d5 : i3 ≤ i1
                            · rw [decide_eq_true d5]
                              refine iteF ⟨s1.trans s2, ⟨_, rfl⟩, fun j d' hj2 hd' => ?_⟩
                              by_cases e : j = i
                              · rw [e, hdx1] at hd'
                                cases hd'
                                simp [ruleD, d1, d2, d3, d4, d5]
                              · exact hj j d' (by omega) hd'
                            · rw [decide_eq_false d5]
                              exact iteT (no _ s2 (by simp [ruleD, d5]))
                          · rw [decide_eq_false d4]
                            exact iteF ⟨_, rfl, iteT (no _ s2 (by simp [ruleD, d4]))⟩
                        · rw [decide_eq_false d3]
                          exact iteF ⟨_, rfl, iteT (no _ s2 (by simp [ruleD, d3]))⟩
                      · rw [decide_eq_false d2]
                        exact iteT (no _ s2 (by simp [ruleD, d2]))
                    · rw [decide_eq_false d1]
                      exact iteF ⟨_, rfl, iteT (no _ s2 (by simp [ruleD, d1]))⟩
            | _ => exact iteT (no _ (Same.refl _) rfl)
          · rintro σ H0 ⟨s0, ⟨y, rfl⟩, hj⟩
            have hall2 : ∀ d ∈ ds, ruleD d = true := fun d hd => by
              obtain ⟨i, hi⟩ := List.getElem?_of_mem hd
              exact hj i d (by rw [el]; exact (List.getElem?_eq_some_iff.mp hi).1) hi
            have hall : ds.all ruleD = true := List.all_eq_true.mpr hall2
            have hs0 := Same.tup s0 hs
            refine ⟨.ref a, rfl, a, rfl, ⟨_, hs0⟩, fun S hS => lc_same (walk_tup (xs := xs)) ((ds.map spanD).map V.int) (by simp [el]) (lt_line (by omega)) hS (fun H s => Same.tup s hs0) ?_ ?_⟩
            · rintro i x y H1 H2 Q0 hi s1 ⟨rfl, hx⟩ hy q0
              obtain ⟨d, hd1, hd2⟩ := dpa_get ha hx
              obtain ⟨z1, z2, z3, rfl, _⟩ := ruleD_tup (hall2 d (List.mem_of_getElem? hd1))
              have ey : y = .int z1 := by
                rw [List.getElem?_map, List.getElem?_map, hd1] at hy
                exact (Option.some.inj hy).symm
              subst ey
              obtain ⟨b, rfl, hb⟩ := dR_get (r := (z1, z2, z3)) hd2
              exact ⟨rfl, .ref b, rfl, b, _, 0, _, rfl, rfl, Same.tup (s0.trans s1) hb, atI_nat (j := 0) rfl, q0 _ (Same.refl _)⟩
            · intro H1 s1 hS1
              have hsp : SqL K H1 S ((ds.map spanD).map V.int) := SqL.of hS1
              refine ⟨_, rfl, _, rfl, S, ds.map spanD, rfl, hsp, by rw [List.length_map]; omega, fun p c hp hc => ?_⟩
              refine ⟨p, _, c, rfl, upd_same, by rw [List.length_map] at hc; omega, fun ms r h1 h2 h3 hr0 => ?_⟩
              have s2 : Same H1 (upd (upd H1 p (SetO w p (fun j => decide (j ∈ ds.map spanD)) c)) r (.lst (ms.map V.int))) := (same_new hp).trans (same_new hr0)
              refine ⟨.list ((ds.map spanD).map .int), .list (ms.map .int), .lst (s2.seq hsp) (dpa_ints _), .lst (SqL.of upd_same) (dpa_ints _), shaped_ints _, shaped_ints _, ?_⟩
              have := q _ ((s0.trans s1).trans s2)
              rw [eqv_ints, eqv_rising h1 fun k => by rw [h2 k]; simp]
              have e3 : areD (.tuple ds) = risingB (ds.map spanD) := by
                show (decide (1 ≤ ds.length ∧ ds.length ≤ 5) && (ds.all ruleD && risingB (ds.map spanD))) = _
                rw [hall, decide_eq_true e5, Bool.true_and, Bool.true_and]
              rw [e3] at this
              exact this
        · rw [decide_eq_false c2]
          refine iteT ?_
          have e2 : ¬ ds.length ≤ 5 := by omega
          rw [show areD (.tuple ds) = false by simp [areD, e2]] at q0
          exact q0
      · rw [decide_eq_false c1]
        refine iteF ⟨_, rfl, iteT ?_⟩
        have e2 : ¬ 1 ≤ ds.length := by omega
        have e3 : ds = [] := by
          cases ds with
          | nil => rfl
          | cons _ _ => simp at e2
        subst e3
        exact q0
    | _ => exact iteT (q H (Same.refl H))
end
end K01
namespace K01
open PySem PySem.Spec PyProof.Rows L2 XR
/-! ### data of a bounded depth -/
def fit (B L : Nat) : Nat → PyData → Prop
  | 0 => fun d => match d with
    | .int i => i.natAbs ≤ B
    | .list _ => False
    | .tuple _ => False
    | .dict _ => False
    | _ => True
  | j + 1 => fun d => match d with
    | .int i => i.natAbs ≤ B
    | .list ds => ds.length ≤ L ∧ ∀ x ∈ ds, fit B L j x
    | .tuple ds => ds.length ≤ L ∧ ∀ x ∈ ds, fit B L j x
    | .dict _ => False
    | _ => True
theorem fit_mono {B L B' L' : Nat} (h1 : B ≤ B') (h2 : L ≤ L') : ∀ (j : Nat) (d : PyData), fit B L j d → fit B' L' j d
  | 0, .none, _ => trivial
  | 0, .bool _, _ => trivial
  | 0, .str _, _ => trivial
  | 0, .int i, h => Nat.le_trans h h1
  | j + 1, .none, _ => trivial
  | j + 1, .bool _, _ => trivial
  | j + 1, .str _, _ => trivial
  | j + 1, .int i, h => Nat.le_trans h h1
  | j + 1, .list ds, h => ⟨Nat.le_trans h.1 h2, fun x hx => fit_mono h1 h2 j x (h.2 x hx)⟩
  | j + 1, .tuple ds, h => ⟨Nat.le_trans h.1 h2, fun x hx => fit_mono h1 h2 j x (h.2 x hx)⟩
theorem fit_int {B L j : Nat} {i : Int} (h : i.natAbs ≤ B) : fit B L j (.int i) := by cases j <;> exact h
theorem fit_bl {B L j : Nat} {b : Bool} : fit B L j (.bool b) := by cases j <;> trivial
theorem fit_non {B L j : Nat} : fit B L j .none := by cases j <;> trivial
theorem fit_str {B L j : Nat} {x : Str} : fit B L j (.str x) := by cases j <;> trivial
theorem int_fit {B L j : Nat} {i : Int} (h : fit B L j (.int i)) : i.natAbs ≤ B := by cases j <;> exact h
/-! ### lists of data -/
theorem dpa_take {K : PySem.W.Frag} {H : Hp} : ∀ (n : Nat) {vs : List V} {ds : List PyData}, DpAll K H vs ds → DpAll K H (vs.take n) (ds.take n)
  | 0, _, _, _ => .nil
  | n + 1, _, _, .nil => .nil
  | n + 1, _, _, .cons a b => .cons a (dpa_take n b)
theorem dpa_drop {K : PySem.W.Frag} {H : Hp} : ∀ (n : Nat) {vs : List V} {ds : List PyData}, DpAll K H vs ds → DpAll K H (vs.drop n) (ds.drop n)
  | 0, _, _, h => h
  | n + 1, _, _, .nil => .nil
  | n + 1, _, _, .cons a b => dpa_drop n b
theorem dpa_rev {K : PySem.W.Frag} {H : Hp} : ∀ {vs : List V} {ds : List PyData}, DpAll K H vs ds → DpAll K H vs.reverse ds.reverse
  | _, _, .nil => .nil
  | _, _, .cons a b => by
    rw [List.reverse_cons, List.reverse_cons]
    exact dpa_append (dpa_rev b) (.cons a .nil)
theorem dpa_set {K : PySem.W.Frag} {H : Hp} {v : V} {d : PyData} (h : Dp K H v d) : ∀ (n : Nat) {vs : List V} {ds : List PyData}, DpAll K H vs ds → DpAll K H (vs.set n v) (ds.set n d)
  | _, _, _, .nil => .nil
  | 0, _, _, .cons a b => .cons h b
  | n + 1, _, _, .cons a b => .cons a (dpa_set h n b)
/-! ### heaps without Z -/
theorem Same.exc {H H' : Hp} (a : Same H H') (Z : Addr → Bool) : Same (exc H Z) (exc H' Z) := fun b o h => by
  unfold K01.exc at h ⊢
  split at h
  · cases h
  · rename_i z
    rw [if_neg z]
    exact a b o h
theorem exc_new {H : Hp} {Z : Addr → Bool} {p : Addr} {o : HO} (hZ : ∀ b, Z b = true → H b ≠ none) (hp : H p = none) : exc (upd H p o) Z p = some o := by
  unfold K01.exc
  rw [if_neg (fun z => hZ p z hp), upd_same]
theorem hZ_same {H H' : Hp} {Z : Addr → Bool} (hZ : ∀ b, Z b = true → H b ≠ none) (s : Same H H') : ∀ b, Z b = true → H' b ≠ none := fun b z e => hZ b z (s.free e)
section
variable {K : PySem.W.Frag} {Z : Addr → Bool} {F : PyData → Prop} {σ : L2.St} {H0 : Hp}
/-- an expression that gives data beside Z -/
def EvZ (K : PySem.W.Frag) (Z : Addr → Bool) (F : PyData → Prop) (σ : L2.St) (H0 : Hp) (te : TE) : Prop := ∀ (H : Hp) (Q : VK), Same H0 H → (∀ v H' dat, Same H H' → Dp K (exc H' Z) v dat → F dat → Q v H') → te σ H Q
def EvZs (K : PySem.W.Frag) (Z : Addr → Bool) (F : PyData → Prop) (σ : L2.St) (H0 : Hp) (ta : TA) (m : Nat) : Prop := ∀ (H : Hp) (Q : List V → Hp → Prop), Same H0 H → (∀ vs H', Same H H' → vs.length = m → (∀ v ∈ vs, ∃ dat, Dp K (exc H' Z) v dat ∧ F dat) → Q vs H') → ta σ H Q
theorem evz_nil : EvZs K Z F σ H0 tNil 0 := fun H Q s q => q _ H (Same.refl H) rfl fun v hv => (nomatch hv)
theorem evz_cons {te : TE} {ta : TA} {m : Nat} (h1 : EvZ K Z F σ H0 te) (h2 : EvZs K Z F σ H0 ta m) : EvZs K Z F σ H0 (tCons te ta) (m + 1) := fun H Q s q =>
  h1 H _ s fun v H1 dat s1 hd hf => h2 H1 _ (s.trans s1) fun vs H2 s2 hl hv => q _ H2 (s1.trans s2) (by rw [List.length_cons, hl]) fun u hu => by
    rcases List.mem_cons.mp hu with rfl | hu
    · exact ⟨dat, dp_same (Same.exc s2 Z) _ _ hd, hf⟩
    · exact hv u hu
theorem evz_int {i : Int} (h : F (.int i)) : EvZ K Z F σ H0 (tC (.int i)) := fun H Q s q => q _ H _ (Same.refl H) (.int i) h
theorem evz_bl {b : Bool} (h : F (.bool b)) : EvZ K Z F σ H0 (tC (.bl b)) := fun H Q s q => q _ H _ (Same.refl H) (.bl b) h
theorem evz_non (h : F .none) : EvZ K Z F σ H0 (tC .non) := fun H Q s q => q _ H _ (Same.refl H) .non h
theorem evz_str {x : Str} (h : F (.str x)) : EvZ K Z F σ H0 (tC (.str x)) := fun H Q s q => q _ H _ (Same.refl H) (.str x) h
theorem evz_var {i : Nat} {v : V} {dat : PyData} (h1 : σ[i]? = some (some v)) (h2 : Dp K (exc H0 Z) v dat) (h3 : F dat) : EvZ K Z F σ H0 (tVar i) := fun H Q s q => ⟨v, h1, q _ H _ (Same.refl H) (dp_same (Same.exc s Z) _ _ h2) h3⟩
/-- [..][pick] -/
theorem pick_of {ta : TA} {m n : Nat} {d : Addr} {Q : VK} (hσ : σ[0]? = some (some (.ref d))) (hm : 1 ≤ m) (hm2 : m ≤ 1000) (hn : n ≤ 1000000) (hZd : Z d = true) (hd : DK H0 d n) (hev : EvZs K Z F σ H0 ta m)
    (q : ∀ H' v dat, SB d H0 H' → DK H' d (n + 1) → Dp K (exc H' Z) v dat → F dat → Q v H') : tOp (rIxL K) (tLst ta) (tCall spPick [] E0 (tCons (tVar 0) (tCons (tC (.int m)) tNil))) σ H0 Q := by
  refine hev H0 _ (Same.refl _) fun vs H1 s1 hl hv => ⟨by rw [hl]; exact Nat.le_of_lt (lt_line (by omega)), fun l hl2 => ⟨.ref d, hσ, d, m, n, rfl, hm, by omega, hn, hd.same (s1.trans (same_new hl2)), fun H2 i hi sb dk => ?_⟩⟩
  have hi2 : i < vs.length := by omega
  have hne : l ≠ d := fun z => (hd.same s1).ne (z ▸ hl2)
  obtain ⟨dat, h1, h2⟩ := hv vs[i] (List.getElem_mem hi2)
  exact ⟨l, vs, i, vs[i], rfl, rfl, SqL.of (sb _ _ hne upd_same), atI_nat (List.getElem?_eq_getElem hi2), q H2 _ dat ((Same.sb (s1.trans (same_new hl2))).trans sb) dk (dp_same (sb.exc hZd) _ _ (dp_same (Same.exc (same_new hl2) Z) _ _ h1)) h2⟩
/-- a list or a tuple beside Z, by its items -/
inductive Sq2 (K : PySem.W.Frag) (G : Hp) : Addr → List V → List PyData → PyData → Prop
  | t {a : Addr} {xs : List V} {ds : List PyData} : SqT K G a xs → DpAll K G xs ds → Sq2 K G a xs ds (.tuple ds)
  | l {a : Addr} {xs : List V} {ds : List PyData} : SqL K G a xs → DpAll K G xs ds → Sq2 K G a xs ds (.list ds)
theorem take1 (xs : List V) : cutV xs none (some 1) = xs.take 1 := by
  unfold cutV
  rw [HT.sIx_none, show HT.sIx xs.length xs.length (some 1) = min 1 xs.length from HT.sIx_nat xs.length xs.length 1, List.drop_zero, Nat.sub_zero]
  cases xs with
  | nil => rfl
  | cons x r => rw [show min 1 (x :: r).length = 1 by rw [List.length_cons]; omega]
/-- thing[lo:hi] -/
theorem evz_sl {i : Nat} {a : Addr} {xs : List V} {ds : List PyData} {dat : PyData} {lo hi : Option Int} {H : Hp} {Q : VK} (h : Sq2 K (exc H Z) a xs ds dat) (hZ : ∀ b, Z b = true → H b ≠ none) (es : List PyData) (hes : ∀ G, DpAll K G xs ds → DpAll K G (cutV xs lo hi) es)
    (q : ∀ p H' dat', Same H H' → Sq2 K (exc H' Z) p (cutV xs lo hi) es dat' → ((∃ l, dat = .tuple l) → dat' = .tuple es) → ((∃ l, dat = .list l) → dat' = .list es) → Q (.ref p) H') : rSlA K (.ref a) lo hi H Q ∨ rSlL K (.ref a) lo hi H Q := by
  cases h with
  | t hs ha =>
    refine .inl ⟨a, xs, rfl, Same.tup (exc_same _ _) hs, fun hw => ?_, fun _ p hp => ?_⟩
    · refine q a H _ (Same.refl H) (.t ?_ (hes _ ha)) (fun _ => rfl) (fun ⟨_, z⟩ => nomatch z)
      rw [cut_whole hw]
      exact hs
    · exact q p _ _ (same_new hp) (.t (.inl (.inl (exc_new hZ hp))) (hes _ (dpa_same (Same.exc (same_new hp) Z) _ _ ha))) (fun _ => rfl) (fun ⟨_, z⟩ => nomatch z)
  | l hs ha =>
    refine .inr ⟨a, xs, rfl, (exc_same _ _).seq hs, fun p hp => ?_⟩
    exact q p _ _ (same_new hp) (.l (.inl (.inl (exc_new hZ hp))) (hes _ (dpa_same (Same.exc (same_new hp) Z) _ _ ha))) (fun ⟨_, z⟩ => nomatch z) (fun _ => rfl)
/-- thing + thing[:1] -/
theorem evz_cat {a b : Addr} {xs ys : List V} {ds es : List PyData} {H : Hp} {Q : VK} {dat dat' : PyData} (h : Sq2 K (exc H Z) a xs ds dat) (h' : Sq2 K (exc H Z) b ys es dat') (hk1 : (∃ l, dat = .tuple l) → dat' = .tuple es) (hk2 : (∃ l, dat = .list l) → dat' = .list es) (hZ : ∀ b, Z b = true → H b ≠ none)
    (hz : xs.length + ys.length ≤ 100000) (q : ∀ v H' dat2, Same H H' → Dp K (exc H' Z) v dat2 → (dat2 = .tuple (ds ++ es) ∨ dat2 = .list (ds ++ es)) → Q v H') : rCatA K (.ref a) (.ref b) H Q ∨ rCatL K (.ref a) (.ref b) H Q := by
  have hl : xs.length + ys.length ≤ sizeLine := Nat.le_of_lt (lt_line (by omega))
  cases h with
  | t hs ha =>
    have e := hk1 ⟨_, rfl⟩
    subst e
    cases h' with
    | t hs2 ha2 =>
      refine .inl ⟨a, b, xs, ys, rfl, rfl, Same.tup (exc_same _ _) hs, Same.tup (exc_same _ _) hs2, hl, fun e => ?_, fun _ e => ?_, fun _ _ p hp => ?_⟩
      · subst e
        cases ha
        exact q _ H _ (Same.refl H) (.tup hs2 ha2) (.inl rfl)
      · subst e
        cases ha2
        exact q _ H _ (Same.refl H) (.tup hs ha) (.inl (by rw [List.append_nil]))
      · exact q _ _ _ (same_new hp) (.tup (.inl (.inl (exc_new hZ hp))) (dpa_same (Same.exc (same_new hp) Z) _ _ (dpa_append ha ha2))) (.inl rfl)
  | l hs ha =>
    have e := hk2 ⟨_, rfl⟩
    subst e
    cases h' with
    | l hs2 ha2 =>
      exact .inr ⟨a, b, xs, ys, rfl, rfl, (exc_same _ _).seq hs, (exc_same _ _).seq hs2, hl, fun p hp => q _ _ _ (same_new hp) (.lst (.inl (.inl (exc_new hZ hp))) (dpa_same (Same.exc (same_new hp) Z) _ _ (dpa_append ha ha2))) (.inr rfl)⟩
theorem kit_seq (d : PyData) : PySem.W.kitAny K (.type (tn d)) [.type "tuple", .type "list"] = some (tupleD d || listD d) := kitAny_cons (kit_ty (kit_tuple d)) (fun e => kitAny_cons (kit_ty (kit_list d)) (fun e2 => by rw [e, e2]; rfl) (fun e2 => by rw [e2]; simp)) (fun e => by rw [e]; rfl)
end
end K01
namespace K01
open PySem PySem.Spec PyProof.Rows L2 XR
section
variable {P : Program} {w : World} {K : PySem.W.Frag} {mg : Str → Option Value} {base : Heap}
def spSpoilt (K : PySem.W.Frag) (j : Nat) : Sp := fun vs H Q _ => ∃ (d : Addr) (v : V) (Z : Addr → Bool) (B L : Nat) (dat : PyData) (n : Nat), vs = [.ref d, v] ∧ Z d = true ∧ (∀ b, Z b = true → H b ≠ none) ∧ Dp K (exc H Z) v dat ∧ fit B L j dat ∧ B ≤ 1000 ∧ L ≤ 1000 ∧ n + 2 * j + 50 ≤ 1000000 ∧ j ≤ 10 ∧ DK H d n ∧
  ∀ H' v' dat', SB d H H' → DK H' d (n + 2 * j + 2) → Dp K (exc H' Z) v' dat' → fit (B + 9) (L + 1) j dat' → Q v' H'
abbrev nSpoilt : List Str := ["deck", "thing", "rows", "at", "other"]
theorem scSpoilt : FnScope nSpoilt ["deck", "thing"] (defScope sLawSpoilt) := ⟨rfl, rfl, rfl, by decide +kernel, rfl, by decide +kernel, by decide +kernel⟩
theorem log_small {i : Int} (h : i.natAbs ≤ 1000) : i.natAbs.log2 < 1920 := by
  by_cases c : i.natAbs = 0
  · rw [c]
    decide
  · exact (Nat.log2_lt c).mpr (Nat.lt_of_le_of_lt h (Nat.lt_of_lt_of_le (show (1000 : Nat) < 2 ^ 10 by decide) (Nat.pow_le_pow_right (by decide) (by decide))))
theorem Sq2.same {G G' : Hp} {a : Addr} {xs : List V} {ds : List PyData} {dat : PyData} (h : Sq2 K G a xs ds dat) (s : Same G G') : Sq2 K G' a xs ds dat := by
  cases h with
  | t hs ha => exact .t (Same.tup s hs) (dpa_same s _ _ ha)
  | l hs ha => exact .l (s.seq hs) (dpa_same s _ _ ha)
theorem Sq2.len {G : Hp} {a : Addr} {xs : List V} {ds : List PyData} {dat : PyData} (h : Sq2 K G a xs ds dat) : xs.length = ds.length := by
  cases h with
  | t hs ha => exact dpa_len ha
  | l hs ha => exact dpa_len ha
theorem Sq2.dp {G : Hp} {a : Addr} {xs : List V} {ds : List PyData} {dat : PyData} (h : Sq2 K G a xs ds dat) : Dp K G (.ref a) dat := by
  cases h with
  | t hs ha => exact .tup hs ha
  | l hs ha => exact .lst hs ha
theorem Sq2.is {G : Hp} {a : Addr} {xs : List V} {ds : List PyData} {dat : PyData} (h : Sq2 K G a xs ds dat) : dat = .tuple ds ∨ dat = .list ds := by
  cases h with
  | t hs ha => exact .inl rfl
  | l hs ha => exact .inr rfl
theorem Sq2.any {H : Hp} {Z : Addr → Bool} {a : Addr} {xs : List V} {ds : List PyData} {dat : PyData} (h : Sq2 K (exc H Z) a xs ds dat) : SqL K H a xs ∨ SqT K H a xs := by
  cases h with
  | t hs ha => exact .inr (Same.tup (exc_same _ _) hs)
  | l hs ha => exact .inl ((exc_same _ _).seq hs)
abbrev rCat2 (K : PySem.W.Frag) : R2 := fun x y H Q => rCatA K x y H Q ∨ rCatL K x y H Q
abbrev rSl2 (K : PySem.W.Frag) : V → Option Int → Option Int → Hp → VK → Prop := fun x lo hi H Q => rSlA K x lo hi H Q ∨ rSlL K x lo hi H Q
theorem evz_five {Z : Addr → Bool} {F : PyData → Prop} {σ : L2.St} {a : Addr} {xs : List V} {ds : List PyData} {dat d4 : PyData} {H4 : Hp} {v4 : V} (h1 : σ[1]? = some (some (.ref a))) (h4 : σ[4]? = some (some v4)) (hs : Sq2 K (exc H4 Z) a xs ds dat) (hZ : ∀ b, Z b = true → H4 b ≠ none)
    (ho : Dp K (exc H4 Z) v4 d4) (hFo : F d4) (hF : ∀ es : List PyData, es.length ≤ ds.length + 1 → (∀ x ∈ es, x ∈ ds) → F (.tuple es) ∧ F (.list es)) (hN : F .none) (hz : xs.length ≤ 2000) :
    EvZs K Z F σ H4 (tCons (tVar 4) (tCons (tOp (rCat2 K) (tVar 1) (tSl (rSl2 K) (tVar 1) tNoPart (tPart (tC (.int 1))))) (tCons (tSl (rSl2 K) (tVar 1) (tPart (tC (.int 1))) tNoPart) (tCons (tRev2 K (tVar 1)) (tCons (tC .non) tNil))))) 5 := by
  have hof : ∀ {dat2 : PyData} {es : List PyData}, (dat2 = .tuple es ∨ dat2 = .list es) → es.length ≤ ds.length + 1 → (∀ x ∈ es, x ∈ ds) → F dat2 := fun {dat2 es} h hl hm => by
    rcases h with rfl | rfl
    · exact (hF es hl hm).1
    · exact (hF es hl hm).2
  refine evz_cons (evz_var h4 ho hFo) (evz_cons ?_ (evz_cons ?_ (evz_cons ?_ (evz_cons (evz_non hN) evz_nil))))
  · intro H Q s q
    have hs1 := hs.same (Same.exc s Z)
    refine ⟨.ref a, h1, .ref a, h1, 1, rfl, evz_sl (i := 0) hs1 (hZ_same hZ s) (ds.take 1) (fun G hG => by rw [take1]; exact dpa_take 1 hG) fun p H' dat' s' hp k1 k2 => ?_⟩
    rw [take1] at hp
    refine evz_cat (hs1.same (Same.exc s' Z)) hp k1 k2 (hZ_same hZ (s.trans s')) (by rw [List.length_take]; omega) fun v H'' dat2 s'' hd h2 => q v H'' dat2 (s'.trans s'') hd (hof h2 (by rw [List.length_append, List.length_take]; omega) fun x hx => ?_)
    rcases List.mem_append.mp hx with h | h
    · exact h
    · exact List.mem_of_mem_take h
  · intro H Q s q
    have hs1 := hs.same (Same.exc s Z)
    refine ⟨.ref a, h1, 1, rfl, evz_sl (i := 0) hs1 (hZ_same hZ s) (ds.drop 1) (fun G hG => by rw [cutOne]; exact dpa_drop 1 hG) fun p H' dat' s' hp k1 k2 => ?_⟩
    exact q _ H' dat' s' hp.dp (hof hp.is (by rw [List.length_drop]; omega) fun x hx => List.mem_of_mem_drop hx)
  · intro H Q s q
    have hs1 := hs.same (Same.exc s Z)
    have fr : F (.tuple ds.reverse) ∧ F (.list ds.reverse) := hF _ (by rw [List.length_reverse]; omega) fun x hx => List.mem_reverse.mp hx
    refine ⟨.ref a, h1, a, xs, rfl, ?_⟩
    cases hs1 with
    | t hs2 ha => exact .inr ⟨Same.tup (exc_same _ _) hs2, fun p hp => q _ _ _ (same_new hp) (.tup (.inl (.inl (exc_new (hZ_same hZ s) hp))) (dpa_same (Same.exc (same_new hp) Z) _ _ (dpa_rev ha))) fr.1⟩
    | l hs2 ha => exact .inl ⟨(exc_same _ _).seq hs2, fun p hp => q _ _ _ (same_new hp) (.lst (.inl (.inl (exc_new (hZ_same hZ s) hp))) (dpa_same (Same.exc (same_new hp) Z) _ _ (dpa_rev ha))) fr.2⟩
/-- S2 to S4 -/
theorem spoilt_rest (T : Txt mg) (CP : Cal P w K mg base "_law_pick" 1 ["deck", "size"] spPick) {k : Nat} {f : Addr} {cdv : Value} {A : Around} {outer : List Env} {s : Shared} {H : Hp} {Q : VK} {E : XK} (hr1 : Room 1 (A.deeper (envOfC "_law_spoilt" (defScope sLawSpoilt) s.heap.objs.size f cdv)))
    {d : Addr} {v : V} {Z : Addr → Bool} {B L j : Nat} {dat : PyData} {n : Nat} (hZd : Z d = true) (hZ : ∀ b, Z b = true → H b ≠ none) (hv : Dp K (exc H Z) v dat) (hf : fit B L j dat) (hB : B ≤ 1000) (hL : L ≤ 1000) (hn : n + 50 ≤ 1000000)
    (q : ∀ H' v' dat', SB d H H' → DK H' d (n + 2 * j + 2) → Dp K (exc H' Z) v' dat' → fit (B + 9) (L + 1) j dat' → Q v' H') :
    ∃ u, PSs (cxOf CX0 P w K mg base nSpoilt "_law_spoilt" (defScope sLawSpoilt) f cdv A outer s H E).nox ((defBody sLawSpoilt).drop 1) u ∧
      ∀ H2, SB d H H2 → DK H2 d (n + 1) → u { nx := fun _ H' => Q .non H', rt := Q } [some (.ref d), some v, none, none, none] H2 := by
  refine ⟨_, pss_cons (ps_if (pt_val (pe_callB call_isiT (by rfl) T.isi (by decide +kernel) (pa_cons (pv 1) (pa_cons (pe_tup (pa_cons (pe_ty (T := "tuple") T.tuple (by decide +kernel)) (pa_cons (pe_ty (T := "list") T.list (by decide +kernel)) pa_nil))) pa_nil))))
      (pss_cons (ps_set (i := 4) scSpoilt.nd rfl (.inl rfl) (pe_ifExp (pt_val (pe_isi T.isi (pv 1) (pe_ty (T := "tuple") T.tuple (by decide +kernel)))) (pe_callTy call_list_of (by rfl) T.list (by decide +kernel) (pa_cons (pv 1) pa_nil)) (pe_callTy call_tuple_of (by rfl) T.tuple (by decide +kernel) (pa_cons (pv 1) pa_nil))))
      (pss_one (ps_ret (pe_ix ix_list (pe_lst (pa_cons (pv 4) (pa_cons (pe_op (opOr op_catA op_catL) (pv 1) (pe_slice (SlR.or sl_tupA sl_list) (pv 1) po_none (po_some pe_int))) (pa_cons (pe_slice (SlR.or sl_tupA sl_list) (pv 1) (po_some pe_int) po_none) (pa_cons (pe_rev2 (pv 1)) (pa_cons pe_non pa_nil)))))) (pe_cal CP hr1 (pa_cons (pv 0) (pa_cons pe_int pa_nil))) (fun _ _ => rfl))))) pss_nil)
    (pss_cons (ps_if (pt_val (pe_isi T.isi (pv 1) (pe_ty (T := "int") T.int (by decide +kernel))))
      (pss_one (ps_ret (pe_ix ix_list (pe_lst (pa_cons (pe_op (opOr op_add op_addBI) (pv 1) pe_int) (pa_cons (pe_op (opOr op_sub op_subBI) (pv 1) pe_int) (pa_cons pe_bl (pa_cons pe_non (pa_cons pe_int (pa_cons pe_int (pa_cons (pe_callTy (callOr call_str_int call_str_bl) (by rfl) T.str (by decide +kernel) (pa_cons (pv 1) pa_nil)) pa_nil)))))))) (pe_cal CP hr1 (pa_cons (pv 0) (pa_cons pe_int pa_nil))) (fun _ _ => rfl)))) pss_nil)
    (pss_one (ps_ret (pe_ix ix_list (pe_lst (pa_cons pe_non (pa_cons pe_int (pa_cons pe_str (pa_cons pe_str (pa_cons pe_str (pa_cons pe_str (pa_cons pe_str (pa_cons pe_str pa_nil))))))))) (pe_cal CP hr1 (pa_cons (pv 0) (pa_cons pe_int pa_nil))) (fun _ _ => rfl))))), ?_⟩
  intro H2 sb2 dk2
  have hv2 : Dp K (exc H2 Z) v dat := dp_same (sb2.exc hZd) _ _ hv
  have hZ2 : ∀ b, Z b = true → H2 b ≠ none := fun b z e => by
    by_cases c : b = d
    · exact dk2.ne (c ▸ e)
    · cases hb : H b with
      | none => exact hZ b z hb
      | some o =>
        rw [sb2 _ _ c hb] at e
        cases e
  refine ⟨v, rfl, (by show 2 ≤ sizeLine; decide), fun tp htp => ?_⟩
  have s3 : Same H2 (upd H2 tp (.tup [.ty "tuple", .ty "list"])) := same_new htp
  have hv3 := dp_same (Same.exc s3 Z) _ _ hv2
  have hZ3 := hZ_same hZ2 s3
  have dk3 := dk2.same s3
  have sb3 : SB d H (upd H2 tp (.tup [.ty "tuple", .ty "list"])) := sb2.trans (Same.sb s3)
  refine ⟨v, tp, [.ty "tuple", .ty "list"], .type (tn dat), [.type "tuple", .type "list"], _, rfl, upd_same, .cons (.ty _) (.cons (.ty _) .nil), dp_ty (dp_same (exc_same _ _) _ _ hv3), kit_seq dat, _, rfl, ?_⟩
  generalize hG : upd H2 tp (.tup [.ty "tuple", .ty "list"]) = H3 at *
  have fin : ∀ H' v' dat', SB d H3 H' → DK H' d (n + 1 + 1) → Dp K (exc H' Z) v' dat' → fit (B + 9) (L + 1) j dat' → Q v' H' := fun H' v' dat' sb dk hd hf' => q H' v' dat' (sb3.trans sb) (dk.mono (by omega)) hd hf'
  have hvp := dp_same (exc_same H3 Z) _ _ hv3
  have seq : ∀ (a : Addr) (xs : List V) (ds : List PyData) (jj : Nat), j = jj + 1 → Sq2 K (exc H3 Z) a xs ds dat → v = .ref a → ds.length ≤ L → (∀ x ∈ ds, fit B L jj x) →
      (∀ H4 v4 d4, Same H3 H4 → Dp K (exc H4 Z) v4 d4 → (d4 = .tuple ds ∨ d4 = .list ds) → tOp (rIxL K) (tLst (tCons (tVar 4) (tCons (tOp (rCat2 K) (tVar 1) (tSl (rSl2 K) (tVar 1) tNoPart (tPart (tC (.int 1))))) (tCons (tSl (rSl2 K) (tVar 1) (tPart (tC (.int 1))) tNoPart) (tCons (tRev2 K (tVar 1)) (tCons (tC .non) tNil)))))) (tCall spPick [] E0 (tCons (tVar 0) (tCons (tC (.int 5)) tNil))) [some (.ref d), some v, none, none, some v4] H4 Q) := by
    intro a xs ds jj hj hs hva hlen hfit H4 v4 d4 s4 hv4 hd4
    subst hj
    have hF : ∀ es : List PyData, es.length ≤ ds.length + 1 → (∀ x ∈ es, x ∈ ds) → fit (B + 9) (L + 1) (jj + 1) (.tuple es) ∧ fit (B + 9) (L + 1) (jj + 1) (.list es) := fun es h1 h2 =>
      ⟨⟨by omega, fun x hx => fit_mono (by omega) (by omega) _ _ (hfit x (h2 x hx))⟩, ⟨by omega, fun x hx => fit_mono (by omega) (by omega) _ _ (hfit x (h2 x hx))⟩⟩
    refine pick_of (m := 5) (n := n + 1) (d := d) (F := fit (B + 9) (L + 1) (jj + 1)) (Z := Z) rfl (by decide) (by decide) (by omega) hZd (dk3.same s4) (evz_five (a := a) (xs := xs) (ds := ds) (dat := dat) (d4 := d4) (by rw [hva]; rfl) rfl (hs.same (Same.exc s4 Z)) (hZ_same hZ3 s4) hv4 ?_ hF fit_non (by rw [hs.len]; omega)) fun H' v' dat' sb dk hd hf' => fin H' v' dat' ((Same.sb s4).trans sb) dk hd hf'
    rcases hd4 with rfl | rfl
    · exact (hF ds (by omega) fun x hx => hx).1
    · exact (hF ds (by omega) fun x hx => hx).2
  cases dat with
  | tuple ds =>
    cases j with
    | zero => exact absurd hf id
    | succ jj =>
      cases hv3 with
      | @tup a xs _ hs ha =>
        have hsp := Same.tup (exc_same H3 Z) hs
        refine iteT ⟨_, rfl, _, _, _, _, _, rfl, .ty _, dp_ty hvp, kit_ty (kit_tuple _), _, rfl, iteT ⟨_, rfl, a, xs, rfl, .inr hsp, fun l hl => ?_⟩⟩
        exact seq a xs ds jj rfl (.t hs ha) rfl hf.1 hf.2 _ (.ref l) (.list ds) (same_new hl) (.lst (.inl (.inl (exc_new hZ3 hl))) (dpa_same (Same.exc (same_new hl) Z) _ _ ha)) (.inr rfl)
  | list ds =>
    cases j with
    | zero => exact absurd hf id
    | succ jj =>
      cases hv3 with
      | @lst a xs _ hs ha =>
        have hsp := (exc_same H3 Z).seq hs
        refine iteT ⟨_, rfl, _, _, _, _, _, rfl, .ty _, dp_ty hvp, kit_ty (kit_tuple _), _, rfl, iteF ⟨_, rfl, a, xs, rfl, .inl ⟨hsp, fun l hl => ?_⟩⟩⟩
        exact seq a xs ds jj rfl (.l hs ha) rfl hf.1 hf.2 _ (.ref l) (.tuple ds) (same_new hl) (.tup (.inl (.inl (exc_new hZ3 hl))) (dpa_same (Same.exc (same_new hl) Z) _ _ ha)) (.inl rfl)
  | int i =>
    have hi := int_fit hf
    cases hv3
    refine iteF ⟨_, rfl, _, _, _, _, _, rfl, .ty _, dp_ty hvp, kit_ty (kit_int _), _, rfl, iteT ?_⟩
    refine pick_of (m := 7) (n := n + 1) (d := d) (F := fit (B + 9) (L + 1) j) (Z := Z) rfl (by decide) (by decide) (by omega) hZd dk3 (evz_cons ?_ (evz_cons ?_ (evz_cons (evz_bl fit_bl) (evz_cons (evz_non fit_non) (evz_cons (evz_int (fit_int ?_)) (evz_cons (evz_int (fit_int ?_)) (evz_cons ?_ evz_nil))))))) fin
    · exact fun H Q s q => ⟨_, rfl, .inl ⟨i, 1, rfl, rfl, q _ H _ (Same.refl H) (.int _) (fit_int (by omega))⟩⟩
    · exact fun H Q s q => ⟨_, rfl, .inl ⟨i, 1, rfl, rfl, q _ H _ (Same.refl H) (.int _) (fit_int (by omega))⟩⟩
    · show (0 : Int).natAbs ≤ B + 9
      have : (0 : Int).natAbs = 0 := rfl
      omega
    · show (8 : Int).natAbs ≤ B + 9
      have : (8 : Int).natAbs = 8 := rfl
      omega
    · exact fun H Q s q => ⟨_, rfl, .inl ⟨i, rfl, log_small (by omega), q _ H _ (Same.refl H) (.str _) fit_str⟩⟩
  | bool b =>
    cases hv3
    refine iteF ⟨_, rfl, _, _, _, _, _, rfl, .ty _, dp_ty hvp, kit_ty (kit_int _), _, rfl, iteT ?_⟩
    have b1 : ∀ b : Bool, ((if b = true then (1 : Int) else 0) + 1).natAbs ≤ B + 9 := fun b => by cases b <;> simp <;> omega
    have b2 : ∀ b : Bool, ((if b = true then (1 : Int) else 0) - 1).natAbs ≤ B + 9 := fun b => by cases b <;> simp
    refine pick_of (m := 7) (n := n + 1) (d := d) (F := fit (B + 9) (L + 1) j) (Z := Z) rfl (by decide) (by decide) (by omega) hZd dk3 (evz_cons ?_ (evz_cons ?_ (evz_cons (evz_bl fit_bl) (evz_cons (evz_non fit_non) (evz_cons (evz_int (fit_int ?_)) (evz_cons (evz_int (fit_int ?_)) (evz_cons ?_ evz_nil))))))) fin
    · exact fun H Q s q => ⟨_, rfl, .inr ⟨b, 1, rfl, rfl, q _ H _ (Same.refl H) (.int _) (fit_int (b1 b))⟩⟩
    · exact fun H Q s q => ⟨_, rfl, .inr ⟨b, 1, rfl, rfl, q _ H _ (Same.refl H) (.int _) (fit_int (b2 b))⟩⟩
    · show (0 : Int).natAbs ≤ B + 9
      have : (0 : Int).natAbs = 0 := rfl
      omega
    · show (8 : Int).natAbs ≤ B + 9
      have : (8 : Int).natAbs = 8 := rfl
      omega
    · exact fun H Q s q => ⟨_, rfl, .inr ⟨b, rfl, q _ H _ (Same.refl H) (.str _) fit_str⟩⟩
  | none =>
    cases hv3
    refine iteF ⟨_, rfl, _, _, _, _, _, rfl, .ty _, dp_ty hvp, kit_ty (kit_int _), _, rfl, iteF ?_⟩
    refine pick_of (m := 8) (n := n + 1) (d := d) (F := fit (B + 9) (L + 1) j) (Z := Z) rfl (by decide) (by decide) (by omega) hZd dk3 (evz_cons (evz_non fit_non) (evz_cons (evz_int (fit_int ?_)) (evz_cons (evz_str fit_str) (evz_cons (evz_str fit_str) (evz_cons (evz_str fit_str) (evz_cons (evz_str fit_str) (evz_cons (evz_str fit_str) (evz_cons (evz_str fit_str) evz_nil)))))))) fin
    show (7 : Int).natAbs ≤ B + 9
    have : (7 : Int).natAbs = 7 := rfl
    omega
  | str x =>
    cases hv3
    refine iteF ⟨_, rfl, _, _, _, _, _, rfl, .ty _, dp_ty hvp, kit_ty (kit_int _), _, rfl, iteF ?_⟩
    refine pick_of (m := 8) (n := n + 1) (d := d) (F := fit (B + 9) (L + 1) j) (Z := Z) rfl (by decide) (by decide) (by omega) hZd dk3 (evz_cons (evz_non fit_non) (evz_cons (evz_int (fit_int ?_)) (evz_cons (evz_str fit_str) (evz_cons (evz_str fit_str) (evz_cons (evz_str fit_str) (evz_cons (evz_str fit_str) (evz_cons (evz_str fit_str) (evz_cons (evz_str fit_str) evz_nil)))))))) fin
    show (7 : Int).natAbs ≤ B + 9
    have : (7 : Int).natAbs = 7 := rfl
    omega
  | dict l => cases hv3
end
end K01
namespace K01
open PySem PySem.Spec PyProof.Rows L2 XR
section
variable {P : Program} {w : World} {K : PySem.W.Frag} {mg : Str → Option Value} {base : Heap}
theorem fit0 {B L : Nat} {dat : PyData} (h : fit B L 0 dat) : (tupleD dat || listD dat) = false := by
  cases dat <;> first | rfl | exact absurd h id
theorem c_spoilt0 (D : Df K mg "_law_spoilt" sLawSpoilt) (T : Txt mg) (CP : Cal P w K mg base "_law_pick" 1 ["deck", "size"] spPick) : Cal P w K mg base "_law_spoilt" 2 ["deck", "thing"] (spSpoilt K 0) := by
  refine cal_of D scSpoilt (fun _ _ _ _ _ _ us hl => match us, hl with | [_, _], _ => rfl) (fun vs H Q E h => ?_) (fun f cdv A outer s H vs Q E hr h => ?_)
  · obtain ⟨d, v, Z, B, L, dat, n, rfl, _⟩ := h
    rfl
  · obtain ⟨d, v, Z, B, L, dat, n, rfl, hZd, hZ, hv, hf, hB, hL, hn, _, hd, q⟩ := h
    obtain ⟨u, hu, hrest⟩ := spoilt_rest (k := 0) (E := E) (outer := outer) T CP hr hZd hZ hv hf hB hL (by omega) q
    refine ⟨_, pss_cons (ps_if (PW.pt (pw_and (pt_val (pe_callB call_isiT (by rfl) T.isi (by decide +kernel) (pa_cons (pv 1) (pa_cons (pe_tup (pa_cons (pe_ty (T := "tuple") T.tuple (by decide +kernel)) (pa_cons (pe_ty (T := "list") T.list (by decide +kernel)) pa_nil))) pa_nil))))
        (pw_and (pt_cmpR op_gt (pe_callB call_len_seq (by rfl) T.len PySem.boot_len (pa_cons (pv 1) pa_nil)) pe_int (nomark _)) (pw_and1 (pt_cmpR op_gt (pe_cal CP hr (pa_cons (pv 0) (pa_cons pe_int pa_nil))) pe_int (nomark _))))))
      pss_never pss_nil) hu, ?_⟩
    refine ⟨v, rfl, (by show 2 ≤ sizeLine; decide), fun tp htp => ?_⟩
    have s1 : Same H (upd H tp (.tup [.ty "tuple", .ty "list"])) := same_new htp
    refine ⟨v, tp, [.ty "tuple", .ty "list"], .type (tn dat), [.type "tuple", .type "list"], _, rfl, upd_same, .cons (.ty _) (.cons (.ty _) .nil), dp_ty (dp_same (exc_same _ _) _ _ (dp_same (Same.exc s1 Z) _ _ hv)), kit_seq dat, _, rfl, ?_⟩
    rw [fit0 hf]
    exact iteF (iteF (hrest _ (Same.sb s1) ((hd.same s1).mono (by omega))))
def orZ (Z : Addr → Bool) (l : Addr) : Addr → Bool := fun b => Z b || decide (b = l)
theorem c_spoiltS (D : Df K mg "_law_spoilt" sLawSpoilt) (T : Txt mg) (CP : Cal P w K mg base "_law_pick" 1 ["deck", "size"] spPick) (j : Nat) (CS : Cal P w K mg base "_law_spoilt" (2 + j) ["deck", "thing"] (spSpoilt K j)) : Cal P w K mg base "_law_spoilt" (2 + j + 1) ["deck", "thing"] (spSpoilt K (j + 1)) := by
  refine cal_of D scSpoilt (fun _ _ _ _ _ _ us hl => match us, hl with | [_, _], _ => rfl) (fun vs H Q E h => ?_) (fun f cdv A outer s H vs Q E hr h => ?_)
  · obtain ⟨d, v, Z, B, L, dat, n, rfl, _⟩ := h
    rfl
  · obtain ⟨d, v, Z, B, L, dat, n, rfl, hZd, hZ, hv, hf, hB, hL, hn, hj10, hd, q⟩ := h
    have hr1 : Room 1 _ := hr.mono (by omega)
    obtain ⟨u, hu, hrest⟩ := spoilt_rest (k := 0) (E := E) (outer := outer) T CP hr1 hZd hZ hv hf hB hL (by omega) q
    refine ⟨_, pss_cons (ps_if (PW.pt (pw_and (pt_val (pe_callB call_isiT (by rfl) T.isi (by decide +kernel) (pa_cons (pv 1) (pa_cons (pe_tup (pa_cons (pe_ty (T := "tuple") T.tuple (by decide +kernel)) (pa_cons (pe_ty (T := "list") T.list (by decide +kernel)) pa_nil))) pa_nil))))
        (pw_and (pt_cmpR op_gt (pe_callB call_len_seq (by rfl) T.len PySem.boot_len (pa_cons (pv 1) pa_nil)) pe_int (nomark _)) (pw_and1 (pt_cmpR op_gt (pe_cal CP hr1 (pa_cons (pv 0) (pa_cons pe_int pa_nil))) pe_int (nomark _))))))
      (pss_cons (ps_set (i := 2) scSpoilt.nd rfl (.inl rfl) (pe_callTy call_list_of (by rfl) T.list (by decide +kernel) (pa_cons (pv 1) pa_nil)))
      (pss_cons (ps_set (i := 3) scSpoilt.nd rfl (.inl rfl) (pe_cal CP hr1 (pa_cons (pv 0) (pa_cons (pe_callB call_len_seq (by rfl) T.len PySem.boot_len (pa_cons (pv 2) pa_nil)) pa_nil))))
      (pss_cons (ps_asg (pe_cal CS hr (pa_cons (pv 0) (pa_cons (pe_ix ix_list (pv 2) (pv 3) (fun _ _ => rfl)) pa_nil))) (pg_sub (pv 2) (pv 3) set_list))
      (pss_one (ps_ret (pe_ifExp (pt_val (pe_isi T.isi (pv 1) (pe_ty (T := "tuple") T.tuple (by decide +kernel)))) (pe_callTy call_tuple_of (by rfl) T.tuple (by decide +kernel) (pa_cons (pv 2) pa_nil)) (pv 2))))))) pss_nil) hu, ?_⟩
    refine ⟨v, rfl, (by show 2 ≤ sizeLine; decide), fun tp htp => ?_⟩
    have s1 : Same H (upd H tp (.tup [.ty "tuple", .ty "list"])) := same_new htp
    have hv1 := dp_same (Same.exc s1 Z) _ _ hv
    refine ⟨v, tp, [.ty "tuple", .ty "list"], .type (tn dat), [.type "tuple", .type "list"], _, rfl, upd_same, .cons (.ty _) (.cons (.ty _) .nil), dp_ty (dp_same (exc_same _ _) _ _ hv1), kit_seq dat, _, rfl, ?_⟩
    have hd1 := hd.same s1
    have sb1 : SB d H (upd H tp (.tup [.ty "tuple", .ty "list"])) := Same.sb s1
    have hZ1 := hZ_same hZ s1
    generalize upd H tp (.tup [.ty "tuple", .ty "list"]) = H1 at *
    by_cases hsq : (tupleD dat || listD dat) = true
    · rw [hsq]
      obtain ⟨a, xs, ds, hva, hs, hfl, hfa⟩ : ∃ a xs ds, v = .ref a ∧ Sq2 K (exc H1 Z) a xs ds dat ∧ ds.length ≤ L ∧ ∀ x ∈ ds, fit B L j x := by
        cases hv1 with
        | tup h1 h2 => exact ⟨_, _, _, rfl, .t h1 h2, hf.1, hf.2⟩
        | lst h1 h2 => exact ⟨_, _, _, rfl, .l h1 h2, hf.1, hf.2⟩
        | _ => cases hsq
      subst hva
      have el := hs.len
      refine iteT ⟨.ref a, rfl, a, xs, rfl, hs.any, _, 0, rfl, rfl, _, rfl, ?_⟩
      by_cases c0 : (0 : Int) < xs.length
      · rw [decide_eq_true c0]
        refine iteT ⟨_, rfl, d, 5, n, rfl, by decide, by decide, by omega, hd1, fun H2 i5 hi5 sb2 dk2 => ⟨_, 0, rfl, rfl, _, rfl, ite2 (fun e => ?_) (fun e => ?_)⟩⟩
        · have hs2 := hs.same (sb2.exc hZd)
          have hZ2 : ∀ b, Z b = true → H2 b ≠ none := fun b z e => by
            by_cases c : b = d
            · exact dk2.ne (c ▸ e)
            · cases hb : H1 b with
              | none => exact hZ1 b z hb
              | some o =>
                rw [sb2 _ _ c hb] at e
                cases e
          refine ⟨.ref a, rfl, a, xs, rfl, hs2.any, fun l hl => ?_⟩
          have hld : l ≠ d := fun z => dk2.ne (z ▸ hl)
          have hZl : Z l = false := by
            cases z : Z l with
            | false => rfl
            | true => exact absurd hl (hZ2 l z)
          have s3 : Same H2 (upd H2 l (.lst xs)) := same_new hl
          refine ⟨.ref d, rfl, .ref l, rfl, l, xs, rfl, .inl (SqL.of upd_same), d, xs.length, n + 1, rfl, by omega, by omega, by omega, dk2.same s3, fun H4 at0 hat sb4 dk4 => ?_⟩
          have hl4 : H4 l = some (.lst xs) := sb4 _ _ hld upd_same
          have sb24 : SB d H2 H4 := (Same.sb s3).trans sb4
          have hs4 := hs2.same (sb24.exc hZd)
          have hx : xs[at0]? = some xs[at0] := List.getElem?_eq_getElem hat
          have ha4 : DpAll K (exc H4 Z) xs ds := by
            cases hs4 with
            | t _ h => exact h
            | l _ h => exact h
          -- the items stand beside l too
          have sl : Same (exc H2 Z) (exc H4 (orZ Z l)) := fun b o hb => by
            have hb2 : H2 b = some o := exc_same _ _ _ _ hb
            have zb : Z b = false := by
              cases z : Z b with
              | false => rfl
              | true =>
                unfold K01.exc at hb
                rw [z, if_pos rfl] at hb
                cases hb
            have nl : b ≠ l := fun z => by rw [z, hl] at hb2; cases hb2
            have nd : b ≠ d := fun z => by rw [z, hZd] at zb; cases zb
            unfold K01.exc orZ
            rw [zb, decide_eq_false nl]
            exact sb24 _ _ nd hb2
          have ha4' : DpAll K (exc H4 (orZ Z l)) xs ds := by
            have h : DpAll K (exc H2 Z) xs ds := by
              cases hs2 with
              | t _ h => exact h
              | l _ h => exact h
            exact dpa_same sl _ _ h
          obtain ⟨dy, hy1, hy2⟩ := dpa_get ha4' hx
          have hZ4 : ∀ b, orZ Z l b = true → H4 b ≠ none := fun b z e => by
            unfold orZ at z
            rcases Bool.or_eq_true_iff.mp z with z | z
            · by_cases c : b = d
              · exact dk4.ne (c ▸ e)
              · cases hb : H2 b with
                | none => exact hZ2 b z hb
                | some o =>
                  rw [sb24 _ _ c hb] at e
                  cases e
            · rw [of_decide_eq_true z, hl4] at e
              cases e
          refine ⟨.ref d, rfl, .ref l, rfl, .int at0, rfl, l, xs, at0, _, rfl, rfl, SqL.of hl4, atI_nat hx, d, xs[at0], orZ Z l, B, L, dy, n + 1 + 1, rfl, by unfold orZ; rw [hZd]; rfl, hZ4, hy2, hfa dy (List.mem_of_getElem? hy1), hB, hL, by omega, by omega, dk4, fun H5 v' dat' sb5 dk5 hv' hf' => ?_⟩
          have hl5 : H5 l = some (.lst xs) := sb5 _ _ hld hl4
          refine ⟨.ref l, rfl, .int at0, rfl, l, xs, at0, at0, rfl, rfl, hl5, ?_, ?_⟩
          · unfold ixN
            rw [if_pos (by omega), if_pos (by omega)]
            rfl
          have sbH5 : SB d H H5 := sb1.trans (sb2.trans (sb24.trans sb5))
          have hHl : H l = none := by
            cases z : H l with
            | none => rfl
            | some o =>
              have z2 := sb2 _ _ hld (sb1 _ _ hld z)
              rw [hl] at z2
              cases z2
          have sbH6 : SB d H (upd H5 l (.lst (xs.set at0 v'))) := fun b o hne hb => by
            rw [upd_ne (fun z => by rw [z, hHl] at hb; cases hb)]
            exact sbH5 _ _ hne hb
          have ex : Same (exc H2 Z) (exc (upd H5 l (.lst (xs.set at0 v'))) Z) := fun b o hb => by
            have hb2 : H2 b = some o := exc_same _ _ _ _ hb
            have zb : Z b = false := by
              cases z : Z b with
              | false => rfl
              | true =>
                unfold K01.exc at hb
                rw [z, if_pos rfl] at hb
                cases hb
            have nl : b ≠ l := fun z => by rw [z, hl] at hb2; cases hb2
            have nd : b ≠ d := fun z => by rw [z, hZd] at zb; cases zb
            unfold K01.exc
            rw [zb, if_neg Bool.false_ne_true, upd_ne nl]
            exact sb5 _ _ nd (sb24 _ _ nd hb2)
          have ev : Same (exc H5 (orZ Z l)) (exc (upd H5 l (.lst (xs.set at0 v'))) Z) := fun b o hb => by
            have hb2 : H5 b = some o := exc_same _ _ _ _ hb
            have zb : orZ Z l b = false := by
              cases z : orZ Z l b with
              | false => rfl
              | true =>
                unfold K01.exc at hb
                rw [z, if_pos rfl] at hb
                cases hb
            unfold orZ at zb
            obtain ⟨z1, z2⟩ := Bool.or_eq_false_iff.mp zb
            have nl : b ≠ l := of_decide_eq_false z2
            unfold K01.exc
            rw [z1, if_neg Bool.false_ne_true, upd_ne nl]
            exact hb2
          have hd6 : DK (upd H5 l (.lst (xs.set at0 v'))) d (n + 2 * (j + 1) + 2) := (dk5.mono (by omega)).upd hld
          have hxs : DpAll K (exc H2 Z) xs ds := by
            cases hs2 with
            | t _ h => exact h
            | l _ h => exact h
          have ha6 : DpAll K (exc (upd H5 l (.lst (xs.set at0 v'))) Z) (xs.set at0 v') (ds.set at0 dat') := dpa_set (dp_same ev _ _ hv') at0 (dpa_same ex _ _ hxs)
          have hf6 : ∀ x ∈ ds.set at0 dat', fit (B + 9) (L + 1) j x := fun x hx => by
            rcases List.mem_or_eq_of_mem_set hx with h | h
            · exact fit_mono (by omega) (by omega) _ _ (hfa x h)
            · rw [h]
              exact hf'
          have hv6 := dp_same (exc_same _ _) _ _ (dp_same ex _ _ hs2.dp)
          have hl6 : (upd H5 l (.lst (xs.set at0 v'))) l = some (.lst (xs.set at0 v')) := upd_same
          have hZ6 : ∀ b, Z b = true → (upd H5 l (.lst (xs.set at0 v'))) b ≠ none := fun b z e => by
            by_cases c : b = l
            · rw [c, hZl] at z
              cases z
            · rw [upd_ne c] at e
              by_cases c2 : b = d
              · exact dk5.ne (c2 ▸ e)
              · cases hb : H4 b with
                | none => exact hZ4 b (by unfold orZ; rw [z]; rfl) hb
                | some o =>
                  rw [sb5 _ _ c2 hb] at e
                  cases e
          have hll6 : exc (upd H5 l (.lst (xs.set at0 v'))) Z l = some (.lst (xs.set at0 v')) := by
            unfold K01.exc
            rw [hZl, if_neg Bool.false_ne_true, upd_same]
          generalize upd H5 l (.lst (xs.set at0 v')) = H6 at *
          refine ⟨.ref a, rfl, _, _, _, _, _, rfl, .ty _, dp_ty hv6, kit_ty (kit_tuple dat), _, rfl, ite2 (fun e2 => ?_) (fun e2 => ?_)⟩
          · refine ⟨.ref l, rfl, l, _, rfl, .inl ⟨SqL.of hl6, fun t ht => ?_⟩⟩
            exact q _ (.ref t) (.tuple (ds.set at0 dat')) (sbH6.trans (Same.sb (same_new ht))) (hd6.same (same_new ht)) (.tup (.inl (.inl (exc_new hZ6 ht))) (dpa_same (Same.exc (same_new ht) Z) _ _ ha6)) ⟨by rw [List.length_set]; omega, hf6⟩
          · exact ⟨.ref l, rfl, q _ (.ref l) (.list (ds.set at0 dat')) sbH6 hd6 (.lst (.inl (.inl hll6)) ha6) ⟨by rw [List.length_set]; omega, hf6⟩⟩
        · exact hrest _ (sb1.trans sb2) dk2
      · rw [decide_eq_false c0]
        exact iteF (iteF (hrest _ sb1 (hd1.mono (by omega))))
    · have hsq2 : (tupleD dat || listD dat) = false := by simpa using hsq
      rw [hsq2]
      exact iteF (iteF (hrest _ sb1 (hd1.mono (by omega))))
theorem c_spoilt (D : Df K mg "_law_spoilt" sLawSpoilt) (T : Txt mg) (CP : Cal P w K mg base "_law_pick" 1 ["deck", "size"] spPick) : ∀ j, Cal P w K mg base "_law_spoilt" (2 + j) ["deck", "thing"] (spSpoilt K j)
  | 0 => c_spoilt0 D T CP
  | j + 1 => c_spoiltS D T CP j (c_spoilt D T CP j)
end
end K01
namespace K01
open PySem PySem.Spec PyProof.Rows L2 XR
abbrev nLaw : List Str := ["script", "wide", "written", "rows", "cell", "deck", "rules", "bent", "some", "thing", "row", "turn", "at", "turned", "span", "k", "place"]
theorem scLaw : FnScope nLaw ["script"] (defScope sLaw) := ⟨rfl, rfl, rfl, by decide +kernel, rfl, by decide +kernel, by decide +kernel⟩
def forBody (b : List Stmt) (i : Nat) : List Stmt := match b[i]? with
  | some (.For _ _ body _ _) => body
  | _ => []
abbrev lawFor : List Stmt := forBody (defBody sLaw) 4
theorem same_sb {Hi H H' : Hp} {d : Addr} (h : Hi d = none) (s : Same Hi H) (b : SB d H H') : Same Hi H' := fun c o e => b c o (fun z => by rw [z, h] at e; cases e) (s c o e)
theorem sqT_exc {K : PySem.W.Frag} {H : Hp} {a d : Addr} {xs : List V} (h : SqT K H a xs) (n : a ≠ d) : SqT K (exc H (only d)) a xs := by
  rcases h with (h | ⟨o, h⟩) | h
  · exact .inl (.inl (exc_at h n))
  · exact .inl (.inr ⟨o, exc_at h n⟩)
  · exact .inr h
theorem cut_to (row : List Int) (j : Nat) (h : j ≤ row.length) : cutV (row.map V.int) none (some (j : Int)) = (row.take j).map V.int := by
  unfold cutV
  rw [HT.sIx_none, HT.sIx_nat, List.length_map, Nat.min_eq_left h, List.drop_zero, Nat.sub_zero, List.map_take]
/-- t + u, tuples that can be read -/
theorem cat_any {K : PySem.W.Frag} {H : Hp} {a b : Addr} {xs ys : List V} {Q : VK} (h1 : SqT K H a xs) (h2 : SqT K H b ys) (hz : xs.length + ys.length < 1000000) (q : ∀ p H', Same H H' → SqT K H' p (xs ++ ys) → Q (.ref p) H') : rCatA K (.ref a) (.ref b) H Q := by
  refine ⟨a, b, xs, ys, rfl, rfl, h1, h2, Nat.le_of_lt (lt_line hz), fun e => ?_, fun _ e => ?_, fun _ _ p hp => q p _ (same_new hp) (SqT.of upd_same)⟩
  · subst e
    exact q b H (Same.refl H) h2
  · subst e
    refine q a H (Same.refl H) ?_
    rw [List.append_nil]
    exact h1
/-- a row with one place turned -/
def turnAt (row : List Int) (k : Nat) : List Int := row.take k ++ ((row.drop k).take 1).map (fun x => 1 - x) ++ row.drop (k + 1)
theorem turn_good {row : List Int} {k : Nat} (h : GoodW row) : GoodW (turnAt row k) := by
  refine ⟨?_, fun x hx => ?_⟩
  · unfold turnAt
    have := h.1
    simp only [List.length_append, List.length_take, List.length_map, List.length_drop]
    omega
  · unfold turnAt at hx
    rcases List.mem_append.mp hx with hx | hx
    · rcases List.mem_append.mp hx with hx | hx
      · exact h.2 x (List.mem_of_mem_take hx)
      · obtain ⟨y, hy, rfl⟩ := List.mem_map.mp hx
        have := h.2 y (List.mem_of_mem_drop (List.mem_of_mem_take hy))
        omega
    · exact h.2 x (List.mem_of_mem_drop hx)
section
variable {P : Program} {w : World} {K : PySem.W.Frag} {mg : Str → Option Value} {base : Heap}
/-- all that law calls -/
structure Cs (P : Program) (w : World) (K : PySem.W.Frag) (mg : Str → Option Value) (base : Heap) : Prop where
  are : Cal P w K mg base "are_rules" 3 ["thing"] (spAre K)
  row : Cal P w K mg base "is_row" 3 ["thing"] (spRow K)
  keeps : Cal P w K mg base "keeps" 5 ["rules", "row"] (spKeeps K)
  deck : Cal P w K mg base "_law_deck" 1 ["cell", "turn"] spDeck
  pick : Cal P w K mg base "_law_pick" 1 ["deck", "size"] spPick
  same : Cal P w K mg base "_law_same" 2 ["told", "due"] spSame
  odd : Cal P w K mg base "_law_odd" 3 ["deck"] (spOdd K)
  spoilt : ∀ j, Cal P w K mg base "_law_spoilt" (2 + j) ["deck", "thing"] (spSpoilt K j)
  rules : Cal P w K mg base "_law_rules" 3 ["deck", "spans_so", "close"] (spRules K)
  lkeeps : Cal P w K mg base "_law_keeps" 1 ["rules", "row"] (spKeep K)
  walk : Cal P w K mg base "_law_walk" 3 ["deck", "rules", "many"] (spWalk K)
  lare : Cal P w K mg base "_law_are_rules" 2 ["thing"] (spAre K)
  lrow : Cal P w K mg base "_law_is_row" 2 ["thing"] (spRow K)
theorem stage5 (T : Txt mg) (C : Cs P w K mg base) {f : Addr} {cdv : Value} {A : Around} {outer : List Env} {s : Shared} {H00 : Hp} {E : XK} (hr : Room 5 (A.deeper (envOfC "law" (defScope sLaw) s.heap.objs.size f cdv))) :
    ∃ u, PSs (cxOf CX0 P w K mg base nLaw "law" (defScope sLaw) f cdv A outer s H00 E).nox (lawFor.drop 8) u ∧
      ∀ (D : Ends) (d ra : Addr) (vr : V) (rs : List Ru) (row : List Int) (n : Nat) (Hi H : Hp) (y0 y1 y2 y3 y4 y7 y8 y9 y11 y12 y13 : Option V), Hi d = none → Same Hi H → DK H d n → n ≤ 900000 → RulesAt K (exc H (only d)) vr rs → Good rs → ra ≠ d → SqT K H ra (row.map V.int) → GoodW row → keepsM rs row = true →
        (∀ H' z11 z12 z13, Same Hi H' → D.nx [y0, y1, y2, y3, y4, some (.ref d), some vr, y7, y8, y9, some (.ref ra), z11, z12, z13, none, none, none] H') →
        u D [y0, y1, y2, y3, y4, some (.ref d), some vr, y7, y8, y9, some (.ref ra), y11, y12, y13, none, none, none] H := by
  refine ⟨_, pss_one (ps_for PassesOwn.never rfl (pi_range1 (by rfl) T.range (pa_cons pe_int pa_nil)) (pg_name (i := 11) scLaw.nd rfl (.inl rfl))
    (pss_cons (ps_set (i := 12) scLaw.nd rfl (.inl rfl) (pe_cal C.pick (hr.mono (by decide)) (pa_cons (pv 5) (pa_cons (pe_op op_add (pe_callB call_len_seq (by rfl) T.len PySem.boot_len (pa_cons (pv 10) pa_nil)) pe_int) pa_nil))))
    (pss_cons (ps_set (i := 13) scLaw.nd rfl (.inl rfl) (pe_op op_catA (pe_op op_catA (pe_slice sl_tupA (pv 10) po_none (po_some (pv 12)))
        (pe_callTy call_tuple_of (by rfl) T.tuple (by decide +kernel) (pa_cons (pe_lc (own := [("place", 16)]) (g := gName 16) (tt := tYes) (te := tOp (rI0 fun i j => .int (i - j)) (tC (.int 1)) (tVar 16)) rfl scLaw.nd (pi_tup (pe_slice sl_tupA (pv 10) (po_some (pv 12)) (po_some (pe_op op_add (pv 12) pe_int))))
          (blkOk_by (own := [("place", 16)]) (N := nLaw) (sc := defScope sLaw) (by decide +kernel)) (fun _ _ _ _ _ => pg_name (i := 16) scLaw.nd rfl (Or.inl rfl)) (fun _ _ _ _ _ => pts_nil) (fun _ _ _ _ _ => pe_op op_sub pe_int (pv 16))) pa_nil)))
        (pe_slice sl_tupA (pv 10) (po_some (pe_op op_add (pv 12) pe_int)) po_none)))
    (pss_one (ps_if (PW.pt (pw_or (pt_not (pt_val (pe_cal C.same (hr.mono (by decide)) (pa_cons (pe_cal C.keeps hr (pa_cons (pv 6) (pa_cons (pv 13) pa_nil))) (pa_cons (pe_cal C.lkeeps (hr.mono (by decide)) (pa_cons (pv 6) (pa_cons (pv 13) pa_nil))) pa_nil))))) (pw_or1 (pt_cmpR op_notBl (pe_cal C.keeps hr (pa_cons (pv 6) (pa_cons (pv 10) pa_nil))) pe_bl (nomark _)))))
      (pss_one (ps_ret pe_bl)) pss_nil))))), ?_⟩
  intro D d ra vr rs row n Hi H y0 y1 y2 y3 y4 y7 y8 y9 y11 y12 y13 hid sHi dk hn hv hg hne hra hw hk hnx
  refine ⟨6, rfl, by decide, by decide, for_range (lo := 0) (n := 6) (fun i σ H' => SB d H H' ∧ DK H' d (n + i) ∧ ∃ z11 z12 z13, σ = [y0, y1, y2, y3, y4, some (.ref d), some vr, y7, y8, y9, some (.ref ra), z11, z12, z13, none, none, none]) ⟨SB.refl _ _, dk, _, _, _, rfl⟩ ?_ ?_⟩
  · rintro i σ H1 hi ⟨sb1, dk1, z11, z12, z13, rfl⟩
    have hra1 := sb1.tup hne hra
    refine ⟨_, rfl, _, rfl, ra, _, rfl, .inr hra1, _, 1, rfl, rfl, d, row.length + 1, n + i, (by rw [List.length_map]; rfl), by omega, by have := hw.1; omega, by omega, dk1, fun H2 at0 hat sb2 dk2 => ?_⟩
    have hra2 := sb2.tup hne hra1
    have hv2 : RulesAt K (exc H2 (only d)) vr rs := dp_same ((sb1.trans sb2).exc (decide_eq_true rfl)) _ _ hv
    have hv3 : RulesAt K H2 vr rs := dp_same (exc_same _ _) _ _ hv2
    have h120 := hw.1
    -- row[:at]
    refine ⟨.ref ra, rfl, .int at0, rfl, at0, rfl, sl_any hra2 fun p1 H3 s3 hp1 => ?_⟩
    rw [cut_to row at0 (by omega)] at hp1
    -- tuple([1 - place ..])
    refine ⟨.ref ra, rfl, .int at0, rfl, at0, rfl, .int at0, rfl, at0, 1, rfl, rfl, at0 + 1, rfl, sl_any (Same.tup s3 hra2) fun p2 H4 s4 hp2 => ?_⟩
    have ec : cutV (row.map V.int) (some (at0 : Int)) (some ((at0 : Int) + 1)) = ((row.drop at0).take 1).map V.int := by
      by_cases c : at0 + 1 ≤ row.length
      · have z := cut_nat row at0 (at0 + 1) c
        rw [show ((at0 + 1 : Nat) : Int) = (at0 : Int) + 1 by omega, show at0 + 1 - at0 = 1 by omega] at z
        exact z
      · unfold cutV
        have e0 : at0 = row.length := by omega
        rw [HT.sIx_nat, show (at0 : Int) + 1 = ((at0 + 1 : Nat) : Int) by omega, HT.sIx_nat, List.length_map, e0, Nat.min_self, Nat.min_eq_right (by omega), Nat.sub_self, List.take_zero, List.drop_length, List.take_nil]
        rfl
    rw [ec] at hp2
    refine ⟨p2, rfl, ⟨_, hp2⟩, fun L hL => lc_same (walk_tup (xs := ((row.drop at0).take 1).map V.int)) ((((row.drop at0).take 1).map fun x => 1 - x).map V.int) (by simp) ?_ hL (fun G s => Same.tup s hp2) ?_ ?_⟩
    · rw [List.length_map, List.length_take]
      exact lt_line (by omega)
    · rintro k x y G _ Q0 hk0 s0 ⟨rfl, hx⟩ hy q0
      rw [List.getElem?_map] at hx
      obtain ⟨xi, hx1, rfl⟩ := Option.map_eq_some_iff.mp hx
      rw [List.getElem?_map, List.getElem?_map, hx1] at hy
      cases hy
      exact ⟨rfl, _, rfl, 1, xi, rfl, rfl, q0 _ (Same.refl _)⟩
    · intro H5 s5 hL5
      refine ⟨L, _, rfl, .inl ⟨SqL.of hL5, fun p3 hp3 => ?_⟩⟩
      have s6 : Same H3 (upd H5 p3 (.tup ((((row.drop at0).take 1).map fun x => 1 - x).map V.int))) := s4.trans (s5.trans (same_new hp3))
      refine cat_any (Same.tup s6 hp1) (SqT.of upd_same) (by simp only [List.length_map, List.length_take, List.length_drop]; omega) fun p4 H7 s7 hp4 => ?_
      have s37 : Same H2 H7 := s3.trans (s6.trans s7)
      -- row[at + 1:]
      refine ⟨.ref ra, rfl, .int at0, rfl, at0, 1, rfl, rfl, at0 + 1, rfl, sl_from (Same.tup s37 hra2) fun p5 H8 s8 hp5 => ?_⟩
      rw [show (at0 : Int) + 1 = ((at0 + 1 : Nat) : Int) by omega, cut_from] at hp5
      refine cat_any (Same.tup s8 hp4) hp5 (by simp only [List.length_append, List.length_map, List.length_take, List.length_drop]; omega) fun p6 H9 s9 hp6 => ?_
      have et : (row.take at0).map V.int ++ (((row.drop at0).take 1).map fun x => 1 - x).map V.int ++ (row.drop (at0 + 1)).map V.int = (turnAt row at0).map V.int := by
        unfold turnAt
        rw [List.map_append, List.map_append]
      rw [et] at hp6
      have s29 : Same H2 H9 := s37.trans (s8.trans s9)
      have gt := turn_good (k := at0) hw
      -- the test
      refine ⟨vr, rfl, _, rfl, vr, p6, rs, turnAt row at0, rfl, dp_same s29 _ _ hv3, hp6, hg, gt, fun H10 s10 => ?_⟩
      refine ⟨vr, rfl, _, rfl, vr, p6, rs, turnAt row at0, rfl, dp_same (s29.trans s10) _ _ hv3, Same.tup s10 hp6, fun r hr => ⟨(hg.ok r hr).1, (hg.ok r hr).2.1⟩, by have := gt.1; omega, fun H11 s11 => ?_⟩
      refine ⟨_, _, rfl, _, rfl, ?_⟩
      rw [decide_eq_true rfl]
      have s211 := s29.trans (s10.trans s11)
      refine iteF ⟨vr, rfl, _, rfl, vr, ra, rs, row, rfl, dp_same s211 _ _ hv3, Same.tup s211 hra2, hg, hw, fun H12 s12 => ⟨_, _, rfl, rfl, _, rfl, ?_⟩⟩
      rw [hk]
      exact iteF ⟨sb1.trans (sb2.trans (Same.sb (s211.trans s12))), (dk2.same (s211.trans s12)).mono (by omega), _, _, _, rfl⟩
  · rintro σ H1 ⟨sb1, dk1, z11, z12, z13, rfl⟩
    exact hnx H1 _ _ _ (same_sb hid sHi sb1)
end
end K01
namespace K01
open PySem PySem.Spec PyProof.Rows L2 XR
def forIter (b : List Stmt) (i : Nat) : Expr := match b[i]? with
  | some (.For _ e _ _ _) => e
  | _ => .Constant .none 0 ⟨0, 0, 0, 0⟩
def binL : Expr → Expr
  | .BinOp a _ _ _ => a
  | e => e
def elts : Expr → List Expr
  | .List es _ => es
  | _ => []
abbrev rListOf (K : PySem.W.Frag) : List V → Hp → VK → Prop := fun xs H Q => ∃ p ys, xs = [.ref p] ∧ (SqL K H p ys ∨ SqT K H p ys) ∧ ∀ l, H l = none → Q (.ref l) (upd H l (.lst ys))
section
variable {K : PySem.W.Frag} {d : Addr} {σ : L2.St} {H0 : Hp}
/-- an expression that gives data beside the deck, by c draws at most -/
def EvB (K : PySem.W.Frag) (d : Addr) (σ : L2.St) (H0 : Hp) (te : TE) (c : Nat) : Prop := ∀ (H : Hp) (n : Nat) (Q : VK), SB d H0 H → DK H d n → n + c ≤ 999000 → (∀ v H' dat, SB d H H' → DK H' d (n + c) → Dp K (exc H' (only d)) v dat → Q v H') → te σ H Q
def EvBs (K : PySem.W.Frag) (d : Addr) (σ : L2.St) (H0 : Hp) (ta : TA) (m c : Nat) : Prop := ∀ (H : Hp) (n : Nat) (Q : List V → Hp → Prop), SB d H0 H → DK H d n → n + c ≤ 999000 → (∀ vs H', SB d H H' → DK H' d (n + c) → vs.length = m → (∀ v ∈ vs, ∃ dat, Dp K (exc H' (only d)) v dat) → Q vs H') → ta σ H Q
theorem only_self {d : Addr} : only d d = true := decide_eq_true rfl
theorem evb_nil : EvBs K d σ H0 tNil 0 0 := fun H n Q s dk hn q => q _ H (SB.refl _ _) dk rfl fun v hv => (nomatch hv)
theorem evb_cons {te : TE} {ta : TA} {m c1 c2 : Nat} (h1 : EvB K d σ H0 te c1) (h2 : EvBs K d σ H0 ta m c2) : EvBs K d σ H0 (tCons te ta) (m + 1) (c1 + c2) := fun H n Q s dk hn q =>
  h1 H n _ s dk (by omega) fun v H1 dat s1 dk1 hd => h2 H1 (n + c1) _ (s.trans s1) dk1 (by omega) fun vs H2 s2 dk2 hl hv => q _ H2 (s1.trans s2) (dk2.mono (by omega)) (by rw [List.length_cons, hl]) fun u hu => by
    rcases List.mem_cons.mp hu with rfl | hu
    · exact ⟨dat, dp_same (s2.exc only_self) _ _ hd⟩
    · exact hv u hu
theorem evb_var {i : Nat} {v : V} {dat : PyData} (h1 : σ[i]? = some (some v)) (h2 : Dp K (exc H0 (only d)) v dat) : EvB K d σ H0 (tVar i) 0 := fun H n Q s dk hn q => ⟨v, h1, q _ H _ (SB.refl _ _) dk (dp_same (s.exc only_self) _ _ h2)⟩
theorem evb_non : EvB K d σ H0 (tC .non) 0 := fun H n Q s dk hn q => q _ H _ (SB.refl _ _) dk .non
theorem evb_odd (h5 : σ[5]? = some (some (.ref d))) : EvB K d σ H0 (tCall (spOdd K) [] E0 (tCons (tVar 5) tNil)) 1 := fun H n Q s dk hn q => ⟨_, h5, d, n, rfl, by omega, dk, fun H' v dat sb dk' hd => q v H' dat sb dk' hd⟩
theorem evb_spoilt {i j B L : Nat} {v : V} {dat : PyData} (h5 : σ[5]? = some (some (.ref d))) (h1 : σ[i]? = some (some v)) (h2 : Dp K (exc H0 (only d)) v dat) (hf : fit B L j dat) (hB : B ≤ 1000) (hL : L ≤ 1000) (hj : j ≤ 10) : EvB K d σ H0 (tCall (spSpoilt K j) [] E0 (tCons (tVar 5) (tCons (tVar i) tNil))) (2 * j + 2) := fun H n Q s dk hn q =>
  ⟨_, h5, _, h1, d, v, only d, B, L, dat, n, rfl, only_self, only_some dk.ne, dp_same (s.exc only_self) _ _ h2, hf, hB, hL, by omega, hj, dk, fun H' v' dat' sb dk' hd _ => q v' H' dat' sb (dk'.mono (by omega)) hd⟩
theorem evb_list {i : Nat} {a : Addr} {xs : List V} {ds : List PyData} (h1 : σ[i]? = some (some (.ref a))) (hs : SqT K (exc H0 (only d)) a xs) (ha : DpAll K (exc H0 (only d)) xs ds) : EvB K d σ H0 (tCB (rListOf K) (tCons (tVar i) tNil)) 0 := fun H n Q s dk hn q =>
  have e := s.exc (only_self (d := d))
  ⟨_, h1, a, xs, rfl, .inr (Same.tup (exc_same _ _) (Same.tup e hs)), fun l hl => q _ _ _ (Same.sb (same_new hl)) (dk.same (same_new hl)) (.lst (.inl (.inl (exc_new (only_some dk.ne) hl))) (dpa_same (Same.exc (same_new hl) _) _ _ (dpa_same e _ _ ha)))⟩
theorem evb_rev {i : Nat} {a : Addr} {xs : List V} {ds : List PyData} (h1 : σ[i]? = some (some (.ref a))) (hs : SqT K (exc H0 (only d)) a xs) (ha : DpAll K (exc H0 (only d)) xs ds) : EvB K d σ H0 (tRev2 K (tVar i)) 0 := fun H n Q s dk hn q =>
  have e := s.exc (only_self (d := d))
  ⟨_, h1, a, xs, rfl, .inr ⟨Same.tup (exc_same _ _) (Same.tup e hs), fun l hl => q _ _ _ (Same.sb (same_new hl)) (dk.same (same_new hl)) (.tup (.inl (.inl (exc_new (only_some dk.ne) hl))) (dpa_same (Same.exc (same_new hl) _) _ _ (dpa_rev (dpa_same e _ _ ha))))⟩⟩
theorem evb_cat {i : Nat} {a : Addr} {xs : List V} {ds : List PyData} (h1 : σ[i]? = some (some (.ref a))) (hs : SqT K (exc H0 (only d)) a xs) (ha : DpAll K (exc H0 (only d)) xs ds) (hz : xs.length ≤ 1000) : EvB K d σ H0 (tOp (rCatA K) (tVar i) (tVar i)) 0 := fun H n Q s dk hn q => by
  have e := s.exc (only_self (d := d))
  have hs1 := Same.tup e hs
  have ha1 := dpa_same e _ _ ha
  refine ⟨_, h1, _, h1, a, a, xs, xs, rfl, rfl, Same.tup (exc_same _ _) hs1, Same.tup (exc_same _ _) hs1, Nat.le_of_lt (lt_line (by omega)), fun _ => q _ H _ (SB.refl _ _) dk (.tup hs1 ha1), fun _ _ => q _ H _ (SB.refl _ _) dk (.tup hs1 ha1), fun _ _ p hp => ?_⟩
  exact q _ _ _ (Same.sb (same_new hp)) (dk.same (same_new hp)) (.tup (.inl (.inl (exc_new (only_some dk.ne) hp))) (dpa_same (Same.exc (same_new hp) _) _ _ (dpa_append ha1 ha1)))
end
section
variable {P : Program} {w : World} {K : PySem.W.Frag} {mg : Str → Option Value} {base : Heap}
theorem stage4 (T : Txt mg) (C : Cs P w K mg base) {f : Addr} {cdv : Value} {A : Around} {outer : List Env} {s : Shared} {H00 : Hp} {E : XK} (hr : Room 5 (A.deeper (envOfC "law" (defScope sLaw) s.heap.objs.size f cdv))) :
    ∃ u, PSs (cxOf CX0 P w K mg base nLaw "law" (defScope sLaw) f cdv A outer s H00 E).nox (lawFor.drop 7) u ∧
      ∀ (D : Ends) (d ra lr : Addr) (vr vb : V) (datb : PyData) (R : List V) (rs : List Ru) (row : List Int) (n : Nat) (Hi H : Hp) (y0 y1 y2 y4 y8 y9 y11 y12 y13 : Option V), Hi d = none → Same Hi H → DK H d n → n ≤ 800000 → RulesAt K (exc H (only d)) vr rs → Good rs → ra ≠ d → SqT K H ra (row.map V.int) → GoodW row → keepsM rs row = true →
        Dp K (exc H (only d)) vb datb → fit 100 200 1 datb → Hi lr = some (.lst R) → (∀ v ∈ R, ∃ dat, Dp K Hi v dat) → R.length ≤ 1000 →
        (∀ H' z9 z11 z12 z13, Same Hi H' → D.nx [y0, y1, y2, some (.ref lr), y4, some (.ref d), some vr, some vb, y8, z9, some (.ref ra), z11, z12, z13, none, none, none] H') →
        u D [y0, y1, y2, some (.ref lr), y4, some (.ref d), some vr, some vb, y8, y9, some (.ref ra), y11, y12, y13, none, none, none] H := by
  obtain ⟨u5, hu5, st5⟩ := stage5 (K := K) T C (outer := outer) (H00 := H00) (E := E) hr
  obtain ⟨ta, hpa, hta⟩ : ∃ ta, PA (cxOf CX0 P w K mg base nLaw "law" (defScope sLaw) f cdv A outer s H00 E).nox (elts (binL (forIter lawFor 7))) ta ∧ ∀ (d ra : Addr) (vb : V) (datb : PyData) (row : List Int) (H : Hp) (σ : L2.St), σ[10]? = some (some (.ref ra)) → σ[7]? = some (some vb) → σ[5]? = some (some (.ref d)) → SqT K (exc H (only d)) ra (row.map V.int) → row.length ≤ 120 → Dp K (exc H (only d)) vb datb → fit 100 200 1 datb → EvBs K d σ H ta 7 5 :=
    ⟨_, pa_cons (pv 10) (pa_cons (pv 7) (pa_cons (pe_cal (C.spoilt 1) (hr.mono (by decide)) (pa_cons (pv 5) (pa_cons (pv 7) pa_nil))) (pa_cons (pe_callTy call_list_of (by rfl) T.list (by decide +kernel) (pa_cons (pv 10) pa_nil)) (pa_cons (pe_op op_catA (pv 10) (pv 10)) (pa_cons pe_non (pa_cons (pe_cal C.odd (hr.mono (by decide)) (pa_cons (pv 5) pa_nil)) pa_nil)))))),
      fun d ra vb datb row H σ h10 h7 h5 hra0 h120 hvb hfb => evb_cons (evb_var h10 (.tup hra0 (dpa_ints row))) (evb_cons (evb_var h7 hvb) (evb_cons (evb_spoilt h5 h7 hvb hfb (by decide) (by decide) (by decide)) (evb_cons (evb_list h10 hra0 (dpa_ints row)) (evb_cons (evb_cat h10 hra0 (dpa_ints row) (by rw [List.length_map]; omega)) (evb_cons evb_non (evb_cons (evb_odd h5) evb_nil))))))⟩
  refine ⟨_, pss_cons (ps_for PassesOwn.never rfl (pi_list (pe_op op_catL (pe_lst hpa) (pv 3)))
      (pg_name (i := 9) scLaw.nd rfl (.inl rfl))
      (pss_one (ps_if (pt_not (pt_val (pe_cal C.same (hr.mono (by decide)) (pa_cons (pe_cal C.row (hr.mono (by decide)) (pa_cons (pv 9) pa_nil)) (pa_cons (pe_cal C.lrow (hr.mono (by decide)) (pa_cons (pv 9) pa_nil)) pa_nil))))) (pss_one (ps_ret pe_bl)) pss_nil)))
    hu5, ?_⟩
  intro D d ra lr vr vb datb R rs row n Hi H y0 y1 y2 y4 y8 y9 y11 y12 y13 hid sHi dk hn hv hg hne hra hw hk hvb hfb hlr hR hRl hnx
  have hra0 := sqT_exc hra hne
  have h120 := hw.1
  have ev := hta d ra vb datb row H [y0, y1, y2, some (.ref lr), y4, some (.ref d), some vr, some vb, y8, y9, some (.ref ra), y11, y12, y13, none, none, none] rfl rfl rfl hra0 h120 hvb hfb
  refine ev H n _ (SB.refl _ _) dk (by omega) fun vs H1 sb1 dk1 hl hvs => ⟨by rw [hl]; decide, fun l1 hl1 => ?_⟩
  have sHi1 := same_sb hid sHi sb1
  have s2 : Same H1 (upd H1 l1 (.lst vs)) := same_new hl1
  refine ⟨_, rfl, l1, lr, vs, R, rfl, rfl, SqL.of upd_same, SqL.of (s2 _ _ (sHi1 _ _ hlr)), Nat.le_of_lt (lt_line (by omega)), fun c hc => ?_⟩
  have s3 : Same H1 (upd (upd H1 l1 (.lst vs)) c (.lst (vs ++ R))) := s2.trans (same_new hc)
  have hall : ∀ v ∈ vs ++ R, ∃ dat, Dp K (upd (upd H1 l1 (.lst vs)) c (.lst (vs ++ R))) v dat := fun v hv => by
    rcases List.mem_append.mp hv with h | h
    · obtain ⟨dat, hd⟩ := hvs v h
      exact ⟨dat, dp_same s3 _ _ (dp_same (exc_same _ _) _ _ hd)⟩
    · obtain ⟨dat, hd⟩ := hR v h
      exact ⟨dat, dp_same s3 _ _ (dp_same sHi1 _ _ hd)⟩
  have hcl : SqL K (upd (upd H1 l1 (.lst vs)) c (.lst (vs ++ R))) c (vs ++ R) := SqL.of upd_same
  have sbc : SB d H (upd (upd H1 l1 (.lst vs)) c (.lst (vs ++ R))) := sb1.trans (Same.sb s3)
  have dkc := dk1.same s3
  generalize upd (upd H1 l1 (.lst vs)) c (.lst (vs ++ R)) = Hc at *
  refine ⟨c, rfl, ⟨_, hcl⟩, for_list (K := K) (a := c) (xs := vs ++ R) (fun i σ H' => Same Hc H' ∧ ∃ z9, σ = [y0, y1, y2, some (.ref lr), y4, some (.ref d), some vr, some vb, y8, z9, some (.ref ra), y11, y12, y13, none, none, none]) ⟨Same.refl _, _, rfl⟩ (fun i σ H' _ p => p.1.seq hcl) ?_ ?_⟩
  · rintro i x σ H' hx ⟨sc, z9, rfl⟩
    obtain ⟨dat, hd⟩ := hall x (List.mem_of_getElem? hx)
    refine ⟨x, rfl, x, dat, rfl, dp_same sc _ _ hd, fun H2 s4 => ⟨x, rfl, x, dat, rfl, dp_same (sc.trans s4) _ _ hd, fun H3 s5 => ⟨_, _, rfl, _, rfl, ?_⟩⟩⟩
    rw [decide_eq_true rfl]
    exact iteF ⟨sc.trans (s4.trans s5), _, rfl⟩
  · rintro σ H' ⟨sc, z9, rfl⟩
    have sb' : SB d H H' := sbc.trans (Same.sb sc)
    exact st5 D d ra vr rs row (n + 5) Hi H' y0 y1 y2 (some (.ref lr)) y4 (some vb) y8 z9 y11 y12 y13 hid (same_sb hid sHi sb') (dkc.same sc) (by omega) (dp_same (sb'.exc only_self) _ _ hv) hg hne (sb'.tup hne hra) hw hk fun H2 z11 z12 z13 sx => hnx H2 z9 z11 z12 z13 sx
end
end K01
namespace K01
open PySem PySem.Spec PyProof.Rows L2 XR
section
variable {P : Program} {w : World} {K : PySem.W.Frag} {mg : Str → Option Value} {base : Heap}
theorem stage3 (T : Txt mg) (C : Cs P w K mg base) {f : Addr} {cdv : Value} {A : Around} {outer : List Env} {s : Shared} {H00 : Hp} {E : XK} (hr : Room 5 (A.deeper (envOfC "law" (defScope sLaw) s.heap.objs.size f cdv))) :
    ∃ u, PSs (cxOf CX0 P w K mg base nLaw "law" (defScope sLaw) f cdv A outer s H00 E).nox (lawFor.drop 5) u ∧
      ∀ (D : Ends) (d lr : Addr) (vr : V) (R : List V) (rs : List Ru) (n : Nat) (Hi H : Hp) (y0 y1 y2 y4 y7 y8 y9 y10 y11 y12 y13 : Option V), Hi d = none → Same Hi H → DK H d n → n ≤ 700000 → RulesAt K (exc H (only d)) vr rs → Good rs →
        Hi lr = some (.lst R) → (∀ v ∈ R, ∃ dat, Dp K Hi v dat) → R.length ≤ 1000 →
        (∀ H' z7 z9 z10 z11 z12 z13, Same Hi H' → D.nx [y0, y1, y2, some (.ref lr), y4, some (.ref d), some vr, z7, y8, z9, z10, z11, z12, z13, none, none, none] H') →
        u D [y0, y1, y2, some (.ref lr), y4, some (.ref d), some vr, y7, y8, y9, y10, y11, y12, y13, none, none, none] H := by
  obtain ⟨u4, hu4, st4⟩ := stage4 (K := K) T C (outer := outer) (H00 := H00) (E := E) hr
  refine ⟨_, pss_cons (ps_set (i := 10) scLaw.nd rfl (.inl rfl) (pe_cal C.walk (hr.mono (by decide)) (pa_cons (pv 5) (pa_cons (pv 6) (pa_cons (pe_cal C.pick (hr.mono (by decide)) (pa_cons (pv 5) (pa_cons pe_int pa_nil))) pa_nil)))))
    (pss_cons (ps_set (i := 7) scLaw.nd rfl (.inl rfl) (pe_cal (C.spoilt 1) (hr.mono (by decide)) (pa_cons (pv 5) (pa_cons (pv 10) pa_nil)))) hu4), ?_⟩
  intro D d lr vr R rs n Hi H y0 y1 y2 y4 y7 y8 y9 y10 y11 y12 y13 hid sHi dk hn hv hg hlr hR hRl hnx
  refine ⟨_, rfl, _, rfl, _, rfl, d, 121, n, rfl, by decide, by decide, by omega, dk, fun H1 m hm sb1 dk1 => ?_⟩
  refine ⟨d, vr, m, n + 1, rs, rfl, dk1, by omega, by omega, dp_same (sb1.exc only_self) _ _ hv, fun r hr => ⟨(hg.ok r hr).1, (hg.ok r hr).2.1⟩, fun H2 ra row sb2 dk2 hne hra hlen h01 hk => ?_⟩
  have hw : GoodW row := ⟨by omega, h01⟩
  have hra0 := sqT_exc hra hne
  refine ⟨_, rfl, _, rfl, d, .ref ra, only d, 1, 120, .tuple (row.map .int), n + 1 + m, rfl, only_self, only_some dk2.ne, .tup hra0 (dpa_ints row), ⟨by rw [List.length_map]; omega, fun x hx => ?_⟩, by decide, by decide, by omega, by decide, dk2, fun H3 vb datb sb3 dk3 hvb hfb => ?_⟩
  · obtain ⟨z, hz, rfl⟩ := List.mem_map.mp hx
    have := h01 z hz
    exact fit_int (by omega)
  · have sb : SB d H H3 := sb1.trans (sb2.trans sb3)
    exact st4 D d ra lr vr vb datb R rs row (n + 1 + m + 2 * 1 + 2) Hi H3 y0 y1 y2 y4 y8 y9 y11 y12 y13 hid (same_sb hid sHi sb) dk3 (by omega) (dp_same (sb.exc only_self) _ _ hv) hg hne (sb3.tup hne hra) hw hk hvb (fit_mono (by decide) (by decide) _ _ hfb) hlr hR hRl fun H' z9 z11 z12 z13 sx => hnx H' _ z9 _ z11 z12 z13 sx
theorem fit_rules {rs : List Ru} (h : Good rs) : fit 8 5 2 (.tuple (rs.map dR)) := by
  have h5 : rs.length ≤ 5 := by
    have z : (decide (1 ≤ (rs.map dR).length ∧ (rs.map dR).length ≤ 5) && ((rs.map dR).all ruleD && risingB ((rs.map dR).map spanD))) = true := h
    simp only [Bool.and_eq_true, decide_eq_true_eq, List.length_map] at z
    exact z.1.2
  refine ⟨by rw [List.length_map]; exact h5, fun x hx => ?_⟩
  obtain ⟨r, hr, rfl⟩ := List.mem_map.mp hx
  obtain ⟨a1, a2, a3, a4, a5⟩ := h.ok r hr
  refine ⟨by show 3 ≤ 5; decide, fun x hx => ?_⟩
  rcases List.mem_cons.mp hx with rfl | hx
  · exact fit_int (by omega)
  · rcases List.mem_cons.mp hx with rfl | hx
    · exact fit_int (by omega)
    · rw [List.mem_singleton.mp hx]
      exact fit_int (by omega)
theorem exc_or {H : Hp} {d L : Addr} {o : HO} : Same (exc H (orZ (only d) L)) (exc (upd H L o) (orZ (only d) L)) := fun b x h => by
  unfold K01.exc at h ⊢
  split at h
  · cases h
  · rename_i z
    rw [if_neg z]
    have nl : b ≠ L := fun e => z (by unfold orZ; rw [decide_eq_true e, Bool.or_true])
    rw [upd_ne nl]
    exact h
theorem exc_or_in {H1 G : Hp} {d L : Addr} (hL : H1 L = none) (sb : SB d H1 G) : Same (exc H1 (only d)) (exc G (orZ (only d) L)) := fun b o h => by
  have hb : H1 b = some o := exc_same _ _ _ _ h
  have nd : b ≠ d := fun e => by
    unfold K01.exc only at h
    rw [decide_eq_true e, if_pos rfl] at h
    cases h
  have nl : b ≠ L := fun e => by rw [e, hL] at hb; cases hb
  unfold K01.exc orZ only
  rw [decide_eq_false nd, decide_eq_false nl]
  exact sb _ _ nd hb
theorem stage2 (T : Txt mg) (C : Cs P w K mg base) {f : Addr} {cdv : Value} {A : Around} {outer : List Env} {s : Shared} {H00 : Hp} {E : XK} (hr : Room 5 (A.deeper (envOfC "law" (defScope sLaw) s.heap.objs.size f cdv))) :
    ∃ u, PSs (cxOf CX0 P w K mg base nLaw "law" (defScope sLaw) f cdv A outer s H00 E).nox (lawFor.drop 4) u ∧
      ∀ (D : Ends) (d lw lr ls : Addr) (vr : V) (R W vs : List V) (rs : List Ru) (n : Nat) (Hi H : Hp) (y0 y1 y4 y7 y9 y10 y11 y12 y13 : Option V), Hi d = none → Same Hi H → DK H d n → n ≤ 600000 → RulesAt K (exc H (only d)) vr rs → Good rs →
        Hi lr = some (.lst R) → (∀ v ∈ R, ∃ dat, Dp K Hi v dat) → R.length ≤ 1000 → Hi lw = some (.lst W) → (∀ v ∈ W, ∃ dat, Dp K Hi v dat) → W.length ≤ 1000 → ls ≠ d → H ls = some (.lst vs) → vs.length ≤ 1000 → (∀ v ∈ vs, ∃ dat, Dp K (exc H (only d)) v dat) →
        (∀ H' z7 z9 z10 z11 z12 z13, Same Hi H' → D.nx [y0, y1, some (.ref lw), some (.ref lr), y4, some (.ref d), some vr, z7, some (.ref ls), z9, z10, z11, z12, z13, none, none, none] H') →
        u D [y0, y1, some (.ref lw), some (.ref lr), y4, some (.ref d), some vr, y7, some (.ref ls), y9, y10, y11, y12, y13, none, none, none] H := by
  obtain ⟨u3, hu3, st3⟩ := stage3 (K := K) T C (outer := outer) (H00 := H00) (E := E) hr
  refine ⟨_, pss_cons (ps_for PassesOwn.never rfl (pi_list (pe_op op_catL (pe_op op_catL (pv 8) (pe_lc (own := [("k", 15)]) (g := gName 15) (tt := tYes) (te := tCall (spSpoilt K 2) [] E0 (tCons (tVar 5) (tCons (tVar 6) tNil))) rfl scLaw.nd (pi_range1 (by rfl) T.range (pa_cons pe_int pa_nil)) (blkOk_by (own := [("k", 15)]) (N := nLaw) (sc := defScope sLaw) (by decide +kernel))
        (fun _ _ _ _ _ => pg_name (i := 15) scLaw.nd rfl (Or.inl rfl)) (fun _ _ _ _ _ => pts_nil) (fun _ _ _ _ _ => pe_cal (C.spoilt 2) (hr.mono (by decide)) (pa_cons (pv 5) (pa_cons (pv 6) pa_nil))))) (pv 2)))
      (pg_name (i := 9) scLaw.nd rfl (.inl rfl))
      (pss_one (ps_if (pt_not (pt_val (pe_cal C.same (hr.mono (by decide)) (pa_cons (pe_cal C.are (hr.mono (by decide)) (pa_cons (pv 9) pa_nil)) (pa_cons (pe_cal C.lare (hr.mono (by decide)) (pa_cons (pv 9) pa_nil)) pa_nil))))) (pss_one (ps_ret pe_bl)) pss_nil)))
    hu3, ?_⟩
  intro D d lw lr ls vr R W vs rs n Hi H y0 y1 y4 y7 y9 y10 y11 y12 y13 hid sHi dk hn hv hg hlr hR hRl hlw hW hWl hsd hls hvl hvs hnx
  refine ⟨_, rfl, 8, rfl, by decide, by decide, fun L hL => ?_⟩
  have hLd : L ≠ d := fun e => dk.ne (e ▸ hL)
  refine lc_range (lo := 0) (n := 8) (fun i G => SB d H G ∧ DK G d (n + 6 * i) ∧ ∃ acc, G L = some (.lst acc) ∧ acc.length = i ∧ ∀ z ∈ acc, ∃ dat, Dp K (exc G (orZ (only d) L)) z dat) ⟨Same.sb (same_new hL), dk.same (same_new hL), [], upd_same, rfl, fun z hz => (nomatch hz)⟩ ?_ ?_
  · rintro i G hi ⟨sb1, dk1, acc, hacc, hlen, hel⟩
    have hZ : ∀ b, orZ (only d) L b = true → G b ≠ none := fun b z e => by
      unfold orZ at z
      rcases Bool.or_eq_true_iff.mp z with z | z
      · exact only_some dk1.ne b z e
      · rw [of_decide_eq_true z, hacc] at e
        cases e
    refine ⟨rfl, _, rfl, _, rfl, d, vr, orZ (only d) L, 8, 5, .tuple (rs.map dR), n + 6 * i, rfl, by unfold orZ; rw [only_self]; rfl, hZ, dp_same (exc_or_in hL sb1) _ _ hv, fit_rules hg, by decide, by decide, by omega, by decide, dk1, fun H' v' dat' sb2 dk2 hv' _ => ?_⟩
    refine ⟨acc, sb2 _ _ hLd hacc, lt_line (by omega), fun b o hne hb => ?_, (dk2.mono (by omega)).upd hLd, acc ++ [v'], upd_same, by rw [List.length_append, List.length_singleton, hlen], fun z hz => ?_⟩
    · rw [upd_ne (fun e => by rw [e, hL] at hb; cases hb)]
      exact sb2 _ _ hne (sb1 _ _ hne hb)
    · rcases List.mem_append.mp hz with h | h
      · obtain ⟨dat, hd⟩ := hel z h
        exact ⟨dat, dp_same exc_or _ _ (dp_same (sb2.exc (by unfold orZ; rw [only_self]; rfl)) _ _ hd)⟩
      · rw [List.mem_singleton.mp h]
        exact ⟨dat', dp_same exc_or _ _ hv'⟩
  · rintro H1 ⟨sb1, dk1, acc, hacc, hlen, hel⟩
    have sHi1 := same_sb hid sHi sb1
    refine ⟨ls, L, vs, acc, rfl, rfl, SqL.of (sb1 _ _ hsd hls), SqL.of hacc, Nat.le_of_lt (lt_line (by omega)), fun c1 hc1 => ?_⟩
    have s2 : Same H1 (upd H1 c1 (.lst (vs ++ acc))) := same_new hc1
    refine ⟨_, rfl, c1, lw, vs ++ acc, W, rfl, rfl, SqL.of upd_same, SqL.of (s2 _ _ (sHi1 _ _ hlw)), Nat.le_of_lt (lt_line (by rw [List.length_append]; omega)), fun c hc => ?_⟩
    have s3 : Same H1 (upd (upd H1 c1 (.lst (vs ++ acc))) c (.lst (vs ++ acc ++ W))) := s2.trans (same_new hc)
    have hall : ∀ v ∈ vs ++ acc ++ W, ∃ dat, Dp K (upd (upd H1 c1 (.lst (vs ++ acc))) c (.lst (vs ++ acc ++ W))) v dat := fun v hv => by
      rcases List.mem_append.mp hv with h | h
      · rcases List.mem_append.mp h with h | h
        · obtain ⟨dat, hd⟩ := hvs v h
          exact ⟨dat, dp_same s3 _ _ (dp_same (exc_same _ _) _ _ (dp_same (sb1.exc only_self) _ _ hd))⟩
        · obtain ⟨dat, hd⟩ := hel v h
          exact ⟨dat, dp_same s3 _ _ (dp_same (exc_same _ _) _ _ hd)⟩
      · obtain ⟨dat, hd⟩ := hW v h
        exact ⟨dat, dp_same s3 _ _ (dp_same sHi1 _ _ hd)⟩
    have hcl : SqL K (upd (upd H1 c1 (.lst (vs ++ acc))) c (.lst (vs ++ acc ++ W))) c (vs ++ acc ++ W) := SqL.of upd_same
    have sbc : SB d H (upd (upd H1 c1 (.lst (vs ++ acc))) c (.lst (vs ++ acc ++ W))) := sb1.trans (Same.sb s3)
    have dkc := dk1.same s3
    generalize upd (upd H1 c1 (.lst (vs ++ acc))) c (.lst (vs ++ acc ++ W)) = Hc at *
    refine ⟨c, rfl, ⟨_, hcl⟩, for_list (K := K) (a := c) (xs := vs ++ acc ++ W) (fun i σ H' => Same Hc H' ∧ ∃ z9, σ = [y0, y1, some (.ref lw), some (.ref lr), y4, some (.ref d), some vr, y7, some (.ref ls), z9, y10, y11, y12, y13, none, none, none]) ⟨Same.refl _, _, rfl⟩ (fun i σ H' _ p => p.1.seq hcl) ?_ ?_⟩
    · rintro i x σ H' hx ⟨sc, z9, rfl⟩
      obtain ⟨dat, hd⟩ := hall x (List.mem_of_getElem? hx)
      refine ⟨x, rfl, x, dat, rfl, dp_same sc _ _ hd, fun H2 s4 => ⟨x, rfl, x, dat, rfl, dp_same (sc.trans s4) _ _ hd, fun H3 s5 => ⟨_, _, rfl, _, rfl, ?_⟩⟩⟩
      rw [decide_eq_true rfl]
      exact iteF ⟨sc.trans (s4.trans s5), _, rfl⟩
    · rintro σ H' ⟨sc, z9, rfl⟩
      have sb' : SB d H H' := sbc.trans (Same.sb sc)
      exact st3 D d lr vr R rs (n + 6 * 8) Hi H' y0 y1 (some (.ref lw)) y4 y7 (some (.ref ls)) z9 y10 y11 y12 y13 hid (same_sb hid sHi sb') (dkc.same sc) (by omega) (dp_same (sb'.exc only_self) _ _ hv) hg hlr hR hRl fun H2 z7 z9 z10 z11 z12 z13 sx => hnx H2 z7 z9 z10 z11 z12 z13 sx
end
end K01
namespace K01
open PySem PySem.Spec PyProof.Rows L2 XR
section
variable {P : Program} {w : World} {K : PySem.W.Frag} {mg : Str → Option Value} {base : Heap}
theorem stage1 (T : Txt mg) (C : Cs P w K mg base) {f : Addr} {cdv : Value} {A : Around} {outer : List Env} {s : Shared} {H00 : Hp} {E : XK} (hr : Room 5 (A.deeper (envOfC "law" (defScope sLaw) s.heap.objs.size f cdv))) :
    ∃ u, PSs (cxOf CX0 P w K mg base nLaw "law" (defScope sLaw) f cdv A outer s H00 E).nox lawFor u ∧
      ∀ (D : Ends) (lw lr : Addr) (R W : List V) (c : Int) (Hi : Hp) (y0 y1 y5 y6 y7 y8 y9 y10 y11 y12 y13 : Option V),
        Hi lr = some (.lst R) → (∀ v ∈ R, ∃ dat, Dp K Hi v dat) → R.length ≤ 1000 → Hi lw = some (.lst W) → (∀ v ∈ W, ∃ dat, Dp K Hi v dat) → W.length ≤ 1000 →
        (∀ H' z5 z6 z7 z8 z9 z10 z11 z12 z13, Same Hi H' → D.nx [y0, y1, some (.ref lw), some (.ref lr), some (.int c), z5, z6, z7, z8, z9, z10, z11, z12, z13, none, none, none] H') →
        u D [y0, y1, some (.ref lw), some (.ref lr), some (.int c), y5, y6, y7, y8, y9, y10, y11, y12, y13, none, none, none] Hi := by
  obtain ⟨u2, hu2, st2⟩ := stage2 (K := K) T C (outer := outer) (H00 := H00) (E := E) hr
  obtain ⟨ta, hpa, hta⟩ : ∃ ta, PA (cxOf CX0 P w K mg base nLaw "law" (defScope sLaw) f cdv A outer s H00 E).nox (elts (rhs lawFor 3)) ta ∧ ∀ (d a : Addr) (vb : V) (datb : PyData) (xs : List V) (ds : List PyData) (H : Hp) (σ : L2.St), σ[6]? = some (some (.ref a)) → σ[7]? = some (some vb) → σ[5]? = some (some (.ref d)) → SqT K (exc H (only d)) a xs → DpAll K (exc H (only d)) xs ds → Dp K (exc H (only d)) vb datb → fit 100 200 2 datb → EvBs K d σ H ta 7 7 :=
    ⟨_, pa_cons (pv 6) (pa_cons (pv 7) (pa_cons (pe_cal (C.spoilt 2) (hr.mono (by decide)) (pa_cons (pv 5) (pa_cons (pv 7) pa_nil))) (pa_cons (pe_rev2 (pv 6)) (pa_cons (pe_callTy call_list_of (by rfl) T.list (by decide +kernel) (pa_cons (pv 6) pa_nil)) (pa_cons pe_non (pa_cons (pe_cal C.odd (hr.mono (by decide)) (pa_cons (pv 5) pa_nil)) pa_nil)))))),
      fun d a vb datb xs ds H σ h6 h7 h5 hs ha hvb hfb => evb_cons (evb_var h6 (.tup hs ha)) (evb_cons (evb_var h7 hvb) (evb_cons (evb_spoilt h5 h7 hvb hfb (by decide) (by decide) (by decide)) (evb_cons (evb_rev h6 hs ha) (evb_cons (evb_list h6 hs ha) (evb_cons evb_non (evb_cons (evb_odd h5) evb_nil))))))⟩
  refine ⟨_, pss_cons (ps_set (i := 5) scLaw.nd rfl (.inr rfl) (pe_cal C.deck (hr.mono (by decide)) (pa_cons (pv 4) (pa_cons pe_int pa_nil))))
    (pss_cons (ps_set (i := 6) scLaw.nd rfl (.inr rfl) (pe_cal C.rules (hr.mono (by decide)) (pa_cons (pv 5) (pa_cons pe_int (pa_cons pe_int pa_nil)))))
    (pss_cons (ps_set (i := 7) scLaw.nd rfl (.inl rfl) (pe_cal (C.spoilt 2) (hr.mono (by decide)) (pa_cons (pv 5) (pa_cons (pv 6) pa_nil))))
    (pss_cons (ps_set (i := 8) scLaw.nd rfl (.inl rfl) (pe_lst hpa)) hu2))), ?_⟩
  intro D lw lr R W c Hi y0 y1 y5 y6 y7 y8 y9 y10 y11 y12 y13 hlr hR hRl hlw hW hWl hnx
  refine ⟨_, rfl, c, 1, rfl, fun d H1 hid e1 => ?_⟩
  have sHi1 : Same Hi H1 := by
    rw [e1]
    exact same_new hid
  have dk1 : DK H1 d 1 := by
    rw [e1]
    exact ⟨_, _, _, upd_same, Int.emod_nonneg c (by decide), Int.emod_lt_of_pos c (by decide), by decide, by decide⟩
  refine ⟨_, rfl, d, 8, 2, 1, rfl, by decide, by decide, by decide, by decide, by decide, dk1, fun H2 vr rs sb2 dk2 hv hg => ?_⟩
  refine ⟨_, rfl, _, rfl, d, vr, only d, 8, 5, .tuple (rs.map dR), 41, rfl, only_self, only_some dk2.ne, hv, fit_rules hg, by decide, by decide, by decide, by decide, dk2, fun H3 vb datb sb3 dk3 hvb hfb => ?_⟩
  have hv3 : RulesAt K (exc H3 (only d)) vr rs := dp_same (sb3.exc only_self) _ _ hv
  obtain ⟨a, xs, rfl, hs, ha⟩ := hv3.get
  have ev := hta d a vb datb xs _ H3 [y0, y1, some (.ref lw), some (.ref lr), some (.int c), some (.ref d), some (.ref a), some vb, y8, y9, y10, y11, y12, y13, none, none, none] rfl rfl rfl hs ha hvb (fit_mono (by decide) (by decide) _ _ hfb)
  refine ev H3 (41 + 2 * 2 + 2) _ (SB.refl _ _) dk3 (by decide) fun vs H4 sb4 dk4 hl hvs => ⟨by rw [hl]; decide, fun l1 hl1 => ?_⟩
  have s5 : Same H4 (upd H4 l1 (.lst vs)) := same_new hl1
  have sHi4 := same_sb hid sHi1 (sb2.trans (sb3.trans sb4))
  exact st2 D d lw lr l1 (.ref a) R W vs rs (41 + 2 * 2 + 2 + 7) Hi _ y0 y1 (some (.int c)) (some vb) y9 y10 y11 y12 y13 hid (sHi4.trans s5) (dk4.same s5) (by decide) (dp_same (Same.exc s5 _) _ _ (dp_same (sb4.exc only_self) _ _ hv3)) hg hlr hR hRl hlw hW hWl (fun e => dk4.ne (e ▸ hl1)) upd_same (by omega)
    (fun v hv => by
      obtain ⟨dat, hd⟩ := hvs v hv
      exact ⟨dat, dp_same (Same.exc s5 _) _ _ hd⟩) fun H' z7 z9 z10 z11 z12 z13 sx => hnx H' _ _ z7 _ z9 z10 z11 z12 z13 sx
/-! ### ahead of the loop -/
def binR : Expr → Expr
  | .BinOp _ _ b _ => b
  | e => e
theorem dpa_cut {G : Hp} {xs : List V} {ds : List PyData} (lo hi : Option Int) (h : DpAll K G xs ds) : ∃ es, DpAll K G (cutV xs lo hi) es := ⟨_, dpa_take _ (dpa_drop _ h)⟩
theorem dpa_mem {G : Hp} {vs : List V} {ds : List PyData} (h : DpAll K G vs ds) : ∀ v ∈ vs, ∃ dat, Dp K G v dat := fun v hv => by
  obtain ⟨i, hi⟩ := List.getElem?_of_mem hv
  obtain ⟨d, _, hd⟩ := dpa_get h hi
  exact ⟨d, hd⟩
theorem dpa_rep {G : Hp} (i : Int) : ∀ n : Nat, DpAll K G (List.replicate n [V.int i]).flatten (List.replicate n (.int i))
  | 0 => .nil
  | n + 1 => by
    rw [List.replicate_succ, List.flatten_cons, List.replicate_succ]
    exact .cons (.int i) (dpa_rep i n)
theorem writtenE : PAv ((elts (rhs (defBody sLaw) 1)).drop 2) [.tuple [i3 8 0 8], .tuple [i3 9 0 9], .tuple [i3 0 0 0], .tuple [i3 3 2 1], .tuple [.tuple [.int 3, .int (-1), .int 1]], .tuple [i3 3 1 4], .tuple []] := by
  exact pav_cons (pev_tup (pav_cons (pev_tup (pav_cons pev_int (pav_cons pev_int (pav_cons pev_int pav_nil)))) pav_nil)) (pav_cons (pev_tup (pav_cons (pev_tup (pav_cons pev_int (pav_cons pev_int (pav_cons pev_int pav_nil)))) pav_nil)) (pav_cons (pev_tup (pav_cons (pev_tup (pav_cons pev_int (pav_cons pev_int (pav_cons pev_int pav_nil)))) pav_nil)) (pav_cons (pev_tup (pav_cons (pev_tup (pav_cons pev_int (pav_cons pev_int (pav_cons pev_int pav_nil)))) pav_nil))
    (pav_cons (pev_tup (pav_cons (pev_tup (pav_cons pev_int (pav_cons pev_neg (pav_cons pev_int pav_nil)))) pav_nil)) (pav_cons (pev_tup (pav_cons (pev_tup (pav_cons pev_int (pav_cons pev_int (pav_cons pev_int pav_nil)))) pav_nil)) (pav_cons (pev_tup pav_nil) pav_nil))))))
theorem written2E : PEvL (binR (rhs (defBody sLaw) 2)) [.tuple [i3 3 1 2, i3 3 1 3], .tuple [.tuple [.bool true, .int 0, .int 1]], .tuple [.tuple [.int 1, .int 0, .bool true]], .tuple [i3 1 1 1]] := by
  exact pevl (pav_cons (pev_tup (pav_cons (pev_tup (pav_cons pev_int (pav_cons pev_int (pav_cons pev_int pav_nil)))) (pav_cons (pev_tup (pav_cons pev_int (pav_cons pev_int (pav_cons pev_int pav_nil)))) pav_nil))) (pav_cons (pev_tup (pav_cons (pev_tup (pav_cons pev_bl (pav_cons pev_int (pav_cons pev_int pav_nil)))) pav_nil)) (pav_cons (pev_tup (pav_cons (pev_tup (pav_cons pev_int (pav_cons pev_int (pav_cons pev_bl pav_nil)))) pav_nil)) (pav_cons (pev_tup (pav_cons (pev_tup (pav_cons pev_int (pav_cons pev_int (pav_cons pev_int pav_nil)))) pav_nil)) pav_nil))))
theorem rowsE : PAv ((elts (rhs (defBody sLaw) 3)).drop 2) [.tuple [], .tuple [.bool true], .tuple [.int 2], .tuple [.none], .tuple [.int 0, .int 1, .int (-1)]] := by
  exact pav_cons (pev_tup pav_nil) (pav_cons (pev_tup (pav_cons pev_bl pav_nil)) (pav_cons (pev_tup (pav_cons pev_int pav_nil)) (pav_cons (pev_tup (pav_cons pev_non pav_nil)) (pav_cons (pev_tup (pav_cons pev_int (pav_cons pev_int (pav_cons pev_neg pav_nil)))) pav_nil))))
theorem cut_ints (l : List Int) (lo hi : Option Int) : ∃ cs : List Int, cutV (l.map V.int) lo hi = cs.map V.int := ⟨(l.drop (HT.sIx (l.map V.int).length 0 lo)).take (HT.sIx (l.map V.int).length (l.map V.int).length hi - HT.sIx (l.map V.int).length 0 lo), by
  unfold cutV
  rw [List.map_take, List.map_drop]⟩
def spLaw (K : PySem.W.Frag) : Sp := fun vs H Q _ => ∃ (b : Addr) (ks : List Int), vs = [.ref b] ∧ SqL K H b (ks.map V.int) ∧ ks.length ≤ 63 ∧ ∀ H', Q (.bl true) H'
theorem ok_of {x : Str} {st : Stmt} {N ps : List Str} {k : Nat} {sp : Sp} {f : Addr} {fd : FuncData} (F : FunD K x x (defArgs st) (defBody st) (defScope st) [] [] f fd) (S : FnScope N ps (defScope st)) (len : ∀ vs H Q E, sp vs H Q E → vs.length = ps.length)
    (hbody : ∀ (cdv : Value) (A : Around) (outer : List Env) (s : Shared) (H : Hp) (vs : List V) (Q : VK) (E : XK), Room k (A.deeper (envOfC x (defScope st) s.heap.objs.size f cdv)) → sp vs H Q E →
      ∃ t, PSs (cxOf CX0 P w K mg base N x (defScope st) f cdv A outer s H E).nox (defBody st) t ∧ t { nx := fun _ H' => Q .non H', rt := Q } (start N vs) H) : FnOk P w K mg base CX0 (k + 1) f fd ps sp :=
  F.ok S len fun cdv A outer s H vs Q E hr h => by
    obtain ⟨t, a, b⟩ := hbody cdv A outer s H vs Q E hr h
    exact ⟨t, a.nox, b⟩
theorem ok_law {f : Addr} {fd : FuncData} (F : FunD K "law" "law" (defArgs sLaw) (defBody sLaw) (defScope sLaw) [] [] f fd) (T : Txt mg) (C : Cs P w K mg base) : FnOk P w K mg base CX0 6 f fd ["script"] (spLaw K) := by
  refine ok_of F scLaw (fun vs H Q E h => ?_) (fun cdv A outer s H vs Q E hr h => ?_)
  · obtain ⟨a, ns, rfl, _⟩ := h
    rfl
  · obtain ⟨a, ns, rfl, hS, hlen, q⟩ := h
    obtain ⟨u1, hu1, st1⟩ := stage1 (K := K) T C (outer := outer) (H00 := H) (E := E) hr
    obtain ⟨tw, hpw, evw⟩ := writtenE (cxOf CX0 P w K mg base nLaw "law" (defScope sLaw) f cdv A outer s H E).nox
    obtain ⟨t2, hp2, ev2⟩ := written2E (cxOf CX0 P w K mg base nLaw "law" (defScope sLaw) f cdv A outer s H E).nox
    obtain ⟨tr, hpr, evr⟩ := rowsE (cxOf CX0 P w K mg base nLaw "law" (defScope sLaw) f cdv A outer s H E).nox
    refine ⟨_, pss_cons (ps_set (i := 1) scLaw.nd rfl (.inl rfl) (pe_callTy call_tuple_of (by rfl) T.tuple (by decide +kernel) (pa_cons (pe_lc (own := [("span", 14)]) (g := gName 14) (tt := tYes) (te := tTup (tCons (tVar 14) (tCons (tC (.int 0)) (tCons (tVar 14) tNil)))) rfl scLaw.nd (pi_range2 (by rfl) T.range (pa_cons pe_int (pa_cons pe_int pa_nil))) (blkOk_by (own := [("span", 14)]) (N := nLaw) (sc := defScope sLaw) (by decide +kernel))
          (fun _ _ _ _ _ => pg_name (i := 14) scLaw.nd rfl (Or.inl rfl)) (fun _ _ _ _ _ => pts_nil) (fun _ _ _ _ _ => pe_tup (pa_cons (pv 14) (pa_cons pe_int (pa_cons (pv 14) pa_nil))))) pa_nil)))
      (pss_cons (ps_set (i := 2) scLaw.nd rfl (.inl rfl) (pe_lst (pa_cons (pv 1) (pa_cons (pe_slice sl_tupA (pv 1) po_none (po_some pe_int)) hpw))))
      (pss_cons (ps_set (i := 2) scLaw.nd rfl (.inl rfl) (pe_op op_catL (pv 2) hp2))
      (pss_cons (ps_set (i := 3) scLaw.nd rfl (.inl rfl) (pe_lst (pa_cons (pe_op op_repT (pe_tup (pa_cons pe_int pa_nil)) pe_int) (pa_cons (pe_op op_repT (pe_tup (pa_cons pe_int pa_nil)) pe_int) hpr))))
      (pss_cons (ps_for PassesOwn.never rfl (pi_list (pe_slice sl_list (pe_op op_catL (pe_lst (pa_cons pe_int pa_nil)) (pv 0)) po_none (po_some pe_int))) (pg_name (i := 4) scLaw.nd rfl (.inl rfl)) hu1)
      (pss_one (ps_ret pe_bl)))))), ?_⟩
    -- wide
    refine ⟨1, 7, rfl, ⟨by decide, by decide, by decide, by decide⟩, fun L hL => ?_⟩
    refine lc_range (lo := 1) (n := 6) (fun i G => Same H G ∧ ∃ acc, G L = some (.lst acc) ∧ acc.length = i ∧ ∀ z ∈ acc, ∃ (p : Addr) (x : Int), z = .ref p ∧ G p = some (.tup [.int x, .int 0, .int x])) ⟨same_new hL, [], upd_same, rfl, fun z hz => (nomatch hz)⟩ ?_ ?_
    · rintro i G hi ⟨s1, acc, hacc, hl, hel⟩
      refine ⟨rfl, _, rfl, _, rfl, (by show 3 ≤ sizeLine; decide), fun p hp => ⟨acc, (same_new hp) _ _ hacc, lt_line (by omega), fun b o hb => ?_, acc ++ [.ref p], upd_same, by rw [List.length_append, List.length_singleton, hl], fun z hz => ?_⟩⟩
      · rw [upd_ne (ne_of_none hb hL)]
        exact (same_new hp) _ _ (s1 _ _ hb)
      · rcases List.mem_append.mp hz with h | h
        · obtain ⟨p', x, e1, e2⟩ := hel z h
          refine ⟨p', x, e1, ?_⟩
          rw [upd_ne (fun e => by rw [e, hacc] at e2; cases e2)]
          exact (same_new hp) _ _ e2
        · refine ⟨p, 1 + (i : Int), List.mem_singleton.mp h, ?_⟩
          rw [upd_ne (fun e => by rw [e, hacc] at hp; cases hp), upd_same]
    · rintro H1 ⟨s1, acc, hacc, hl, hel⟩
      refine ⟨L, acc, rfl, .inl ⟨SqL.of hacc, fun pw hpw2 => ?_⟩⟩
      have s2 : Same H1 (upd H1 pw (.tup acc)) := same_new hpw2
      have hw2 : SqT K (upd H1 pw (.tup acc)) pw acc := SqT.of upd_same
      obtain ⟨dsw, hdw⟩ : ∃ ds, DpAll K (upd H1 pw (.tup acc)) acc ds := by
        have gen : ∀ l : List V, (∀ z ∈ l, ∃ (p : Addr) (x : Int), z = .ref p ∧ H1 p = some (.tup [.int x, .int 0, .int x])) → ∃ ds, DpAll K (upd H1 pw (.tup acc)) l ds := by
          intro l
          induction l with
          | nil => exact fun _ => ⟨[], .nil⟩
          | cons z r ih =>
            intro h
            obtain ⟨ds, hds⟩ := ih fun z hz => h z (List.mem_cons_of_mem _ hz)
            obtain ⟨p, x, rfl, hp⟩ := h z List.mem_cons_self
            exact ⟨_, .cons (.tup (SqT.of (s2 _ _ hp)) (.cons (.int x) (.cons (.int 0) (.cons (.int x) .nil)))) hds⟩
        exact gen acc hel
      have sH2 : Same H (upd H1 pw (.tup acc)) := s1.trans s2
      generalize upd H1 pw (.tup acc) = H2 at *
      -- written
      refine ⟨.ref pw, rfl, .ref pw, rfl, 5, rfl, sl_any hw2 fun p5 H3 s3 hp5 => ?_⟩
      refine evw _ H3 _ fun vs4 H4 s4 d4 => ⟨by show vs4.length + 1 + 1 ≤ sizeLine; rw [dpa_len d4]; decide, fun lw0 hlw0 => ?_⟩
      have s5 : Same H4 (upd H4 lw0 (.lst (.ref pw :: .ref p5 :: vs4))) := same_new hlw0
      obtain ⟨es5, he5⟩ := dpa_cut none (some 5) (dpa_same s3 _ _ hdw)
      have hW0 : ∃ ds, DpAll K (upd H4 lw0 (.lst (.ref pw :: .ref p5 :: vs4))) (.ref pw :: .ref p5 :: vs4) ds :=
        ⟨_, .cons (.tup (Same.tup (s3.trans (s4.trans s5)) hw2) (dpa_same (s3.trans (s4.trans s5)) _ _ hdw)) (.cons (.tup (Same.tup (s4.trans s5) hp5) (dpa_same (s4.trans s5) _ _ he5)) (dpa_same s5 _ _ (dpa_same (nw_same _ _) _ _ d4)))⟩
      obtain ⟨ds0, hds0⟩ := hW0
      have hlw1 : (upd H4 lw0 (.lst (.ref pw :: .ref p5 :: vs4))) lw0 = some (.lst (.ref pw :: .ref p5 :: vs4)) := upd_same
      have hl4 := dpa_len d4
      have sH5 : Same H (upd H4 lw0 (.lst (.ref pw :: .ref p5 :: vs4))) := sH2.trans (s3.trans (s4.trans s5))
      generalize upd H4 lw0 (.lst (.ref pw :: .ref p5 :: vs4)) = H5 at *
      -- written + [..]
      refine ⟨_, rfl, ev2 _ H5 _ fun l2 vs6 H6 s6 hn6 hl6 d6 => ?_⟩
      have hl6' := dpa_len d6
      refine ⟨lw0, l2, _, vs6, rfl, rfl, SqL.of (s6 _ _ hlw1), SqL.of hl6, by show vs4.length + 1 + 1 + vs6.length ≤ sizeLine; rw [hl4, hl6']; decide, fun lw hlw => ?_⟩
      have s7 : Same H6 (upd H6 lw (.lst (.ref pw :: .ref p5 :: vs4 ++ vs6))) := same_new hlw
      have hW7 := dpa_append (dpa_same (s6.trans s7) _ _ hds0) (dpa_same s7 _ _ (dpa_same (nw_same _ _) _ _ d6))
      have hlw7 : (upd H6 lw (.lst (.ref pw :: .ref p5 :: vs4 ++ vs6))) lw = some (.lst (.ref pw :: .ref p5 :: vs4 ++ vs6)) := upd_same
      have sH7 : Same H (upd H6 lw (.lst (.ref pw :: .ref p5 :: vs4 ++ vs6))) := sH5.trans (s6.trans s7)
      have hWl : ((.ref pw :: .ref p5 :: vs4) ++ vs6 : List V).length ≤ 1000 := by
        rw [List.length_append, List.length_cons, List.length_cons, hl4, hl6']
        decide
      have hWd := dpa_mem hW7
      generalize upd H6 lw (.lst (.ref pw :: .ref p5 :: vs4 ++ vs6)) = H7 at *
      generalize ((.ref pw :: .ref p5 :: vs4) ++ vs6 : List V) = W at *
      -- rows
      refine ⟨(by show 1 ≤ sizeLine; decide), fun t1 ht1 => ⟨t1, 120, _, rfl, rfl, SqT.of upd_same, fun e => (nomatch e), by decide, by decide, by show 1 ≤ 1000; decide, fun r1 hr1 => ?_⟩⟩
      have s8 : Same H7 (upd (upd H7 t1 (.tup [.int 0])) r1 (.tup (List.replicate (120 : Int).toNat [V.int 0]).flatten)) := (same_new ht1).trans (same_new hr1)
      have hr1d : Dp K (upd (upd H7 t1 (.tup [.int 0])) r1 (.tup (List.replicate (120 : Int).toNat [V.int 0]).flatten)) (.ref r1) (.tuple (List.replicate (120 : Int).toNat (.int 0))) := .tup (SqT.of upd_same) (dpa_rep 0 _)
      generalize upd (upd H7 t1 (.tup [.int 0])) r1 (.tup (List.replicate (120 : Int).toNat [V.int 0]).flatten) = H8 at *
      refine ⟨(by show 1 ≤ sizeLine; decide), fun t2 ht2 => ⟨t2, 121, _, rfl, rfl, SqT.of upd_same, fun e => (nomatch e), by decide, by decide, by show 1 ≤ 1000; decide, fun r2 hr2 => ?_⟩⟩
      have s9 : Same H8 (upd (upd H8 t2 (.tup [.int 1])) r2 (.tup (List.replicate (121 : Int).toNat [V.int 1]).flatten)) := (same_new ht2).trans (same_new hr2)
      have hr2d : Dp K (upd (upd H8 t2 (.tup [.int 1])) r2 (.tup (List.replicate (121 : Int).toNat [V.int 1]).flatten)) (.ref r2) (.tuple (List.replicate (121 : Int).toNat (.int 1))) := .tup (SqT.of upd_same) (dpa_rep 1 _)
      generalize upd (upd H8 t2 (.tup [.int 1])) r2 (.tup (List.replicate (121 : Int).toNat [V.int 1]).flatten) = H9 at *
      refine evr _ H9 _ fun vs10 H10 s10 d10 => ⟨by show vs10.length + 1 + 1 ≤ sizeLine; rw [dpa_len d10]; decide, fun lr hlr => ?_⟩
      have hl10 := dpa_len d10
      have s11 : Same H10 (upd H10 lr (.lst (.ref r1 :: .ref r2 :: vs10))) := same_new hlr
      have hR11 : ∀ v ∈ (.ref r1 :: .ref r2 :: vs10 : List V), ∃ dat, Dp K (upd H10 lr (.lst (.ref r1 :: .ref r2 :: vs10))) v dat := fun v hv => by
        rcases List.mem_cons.mp hv with rfl | hv
        · exact ⟨_, dp_same (s9.trans (s10.trans s11)) _ _ hr1d⟩
        · rcases List.mem_cons.mp hv with rfl | hv
          · exact ⟨_, dp_same (s10.trans s11) _ _ hr2d⟩
          · obtain ⟨dat, hd⟩ := dpa_mem d10 v hv
            exact ⟨dat, dp_same s11 _ _ (dp_same (nw_same _ _) _ _ hd)⟩
      have hRl : (.ref r1 :: .ref r2 :: vs10 : List V).length ≤ 1000 := by
        rw [List.length_cons, List.length_cons, hl10]
        decide
      have hlr11 : (upd H10 lr (.lst (.ref r1 :: .ref r2 :: vs10))) lr = some (.lst (.ref r1 :: .ref r2 :: vs10)) := upd_same
      have s7' : Same H7 (upd H10 lr (.lst (.ref r1 :: .ref r2 :: vs10))) := s8.trans (s9.trans (s10.trans s11))
      generalize upd H10 lr (.lst (.ref r1 :: .ref r2 :: vs10)) = H11 at *
      generalize (.ref r1 :: .ref r2 :: vs10 : List V) = R at *
      have hS11 : SqL K H11 a (ns.map V.int) := (sH7.trans s7').seq hS
      -- the cells
      refine ⟨(by show 1 ≤ sizeLine; decide), fun l0 hl0 => ?_⟩
      have s12 : Same H11 (upd H11 l0 (.lst [.int 0])) := same_new hl0
      refine ⟨_, rfl, l0, a, [.int 0], ns.map V.int, rfl, rfl, SqL.of upd_same, s12.seq hS11, Nat.le_of_lt (lt_line (by show 1 + (ns.map V.int).length < 1000000; rw [List.length_map]; omega)), fun l1 hl1 => ?_⟩
      have s13 : Same H11 (upd (upd H11 l0 (.lst [.int 0])) l1 (.lst ([.int 0] ++ ns.map V.int))) := s12.trans (same_new hl1)
      have ec : ([.int 0] ++ ns.map V.int : List V) = (0 :: ns).map V.int := rfl
      obtain ⟨cs, ecs⟩ := cut_ints (0 :: ns) none (some 10)
      refine ⟨10, rfl, l1, _, rfl, SqL.of upd_same, fun c hc => ?_⟩
      rw [ec, ecs]
      have s14 : Same H11 (upd (upd (upd H11 l0 (.lst [.int 0])) l1 (.lst ([.int 0] ++ ns.map V.int))) c (.lst (cs.map V.int))) := s13.trans (same_new hc)
      have hcl : SqL K (upd (upd (upd H11 l0 (.lst [.int 0])) l1 (.lst ([.int 0] ++ ns.map V.int))) c (.lst (cs.map V.int))) c (cs.map V.int) := SqL.of upd_same
      rw [← ec]
      generalize upd (upd (upd H11 l0 (.lst [.int 0])) l1 (.lst ([.int 0] ++ ns.map V.int))) c (.lst (cs.map V.int)) = Hs at *
      refine ⟨c, rfl, ⟨_, hcl⟩, for_list (K := K) (a := c) (xs := cs.map V.int) (fun i σ H' => Same Hs H' ∧ ∃ z4 z5 z6 z7 z8 z9 z10 z11 z12 z13, σ = [some (.ref a), some (.ref pw), some (.ref lw), some (.ref lr), z4, z5, z6, z7, z8, z9, z10, z11, z12, z13, none, none, none]) ⟨Same.refl _, _, _, _, _, _, _, _, _, _, _, rfl⟩ (fun i σ H' _ p => p.1.seq hcl) ?_ ?_⟩
      · rintro i x σ H' hx ⟨sc, z4, z5, z6, z7, z8, z9, z10, z11, z12, z13, rfl⟩
        rw [List.getElem?_map] at hx
        obtain ⟨ci, _, rfl⟩ := Option.map_eq_some_iff.mp hx
        have sH' : Same H11 H' := s14.trans sc
        exact st1 _ lw lr R W ci H' (some (.ref a)) (some (.ref pw)) z5 z6 z7 z8 z9 z10 z11 z12 z13 (sH' _ _ hlr11)
          (fun v hv => by
            obtain ⟨dat, hd⟩ := hR11 v hv
            exact ⟨dat, dp_same sH' _ _ hd⟩) hRl (sH' _ _ (s7' _ _ hlw7))
          (fun v hv => by
            obtain ⟨dat, hd⟩ := hWd v hv
            exact ⟨dat, dp_same (s7'.trans sH') _ _ hd⟩) hWl fun H2 w5 w6 w7 w8 w9 w10 w11 w12 w13 sx => ⟨sc.trans sx, _, _, _, _, _, _, _, _, _, _, rfl⟩
      · rintro σ H' ⟨sc, z4, z5, z6, z7, z8, z9, z10, z11, z12, z13, rfl⟩
        exact q H'
end
end K01
namespace K01
open PySem PySem.Spec PyProof.Rows L2 XR
def mkD (n : Str) (st : Stmt) : He.DefD := ⟨(n, none), n, n, defArgs st, defBody st, defScope st, [], []⟩
def fn : List He.DefD := [mkD "is_whole" sIsWhole, mkD "is_rule" sIsRule, mkD "are_rules" sAreRules, mkD "is_place" sIsPlace, mkD "is_row" sIsRow, mkD "must_be_rules" sMustBeRules, mkD "must_be_row" sMustBeRow, mkD "stretch_keeps" sStretchKeeps, mkD "row_keeps" sRowKeeps, mkD "keeps" sKeeps, mkD "_law_deck" sLawDeck, mkD "_law_pick" sLawPick, mkD "_law_whole" sLawWhole, mkD "_law_one" sLawOne, mkD "_law_sort" sLawSort, mkD "_law_same" sLawSame, mkD "_law_odd" sLawOdd, mkD "_law_spoilt" sLawSpoilt, mkD "_law_rules" sLawRules, mkD "_law_keeps" sLawKeeps, mkD "_law_fits" sLawFits, mkD "_law_walk" sLawWalk, mkD "_law_are_rules" sLawAreRules, mkD "_law_is_row" sLawIsRow, mkD "law" sLaw]
def fa : List He.Fa := [.glo "is_whole", .glo "is_rule", .glo "are_rules", .glo "is_place", .glo "is_row", .glo "must_be_rules", .glo "must_be_row", .glo "stretch_keeps", .glo "row_keeps", .glo "keeps", .glo "_law_deck", .glo "_law_pick", .glo "_law_whole", .glo "_law_one", .glo "_law_sort", .glo "_law_same", .glo "_law_odd", .glo "_law_spoilt", .glo "_law_rules", .glo "_law_keeps", .glo "_law_fits", .glo "_law_walk", .glo "_law_are_rules", .glo "_law_is_row", .glo "law", .free "all", .free "bool", .free "enumerate", .free "int", .free "isinstance", .free "len", .free "list", .free "max", .free "min", .free "range", .free "set", .free "sorted", .free "str", .free "sum", .free "tuple", .free "zip", .int "MOST_SPAN" 8, .int "MOST_RULES" 5, .int "MOST_PLACES" 120]
def loose : List Str := ["SpanError", "NoRules", "NoRow", "MOST_SPAN", "MOST_RULES", "MOST_PLACES", "is_whole", "is_rule", "are_rules", "is_place", "is_row", "must_be_rules", "must_be_row", "stretch_keeps", "row_keeps", "keeps", "_law_deck", "_law_pick", "_law_whole", "_law_one", "_law_sort", "_law_same", "_law_odd", "_law_spoilt", "_law_rules", "_law_keeps", "_law_fits", "_law_walk", "_law_are_rules", "_law_is_row"]
abbrev R : PySem.W.OpenRow := PySem.W.OpenLaw.row PySem.Challenge.rw_anyspan_k01_rules_and_rows
abbrev hk : PySem.W.Hook := He.hookD 4 fa fn
def ob (s : PySem.W.SharedT) : He.AlD := He.obsDG 4 fa fn (HandSHeadRun.getT s)
theorem ob_eq (s : PySem.W.SharedT) : ob s = hk.obs s.abs := He.obsDG_eq (HandSHeadRun.getT_eq s)
theorem run (w : World) : HandSHeadRun.RunEq R (PySem.W.view R.prog [33]) hk ob 4000 loose w := by
  intro os
  kernel_rfl
theorem df_of {K : PySem.W.Frag} {hp : Heap} {mg : Str → Option Value} (X : K.In hp) (G : hp.Ns mainGlobals mg) (c : He.SaysD fa fn K) (x : Str) (st : Stmt) (i : Nat) (hf : fn[i]? = some (mkD x st)) (ha : fa[i]? = some (He.Fa.glo x)) : Df K mg x st := by
  obtain ⟨fd, F⟩ := c.def_ i (d := mkD x st) hf
  exact ⟨_, fd, F, He.glo_ok X G (c.fact i (f := .glo x) ha)⟩
theorem facts {P : Program} {w : World} {K : PySem.W.Frag} {hp : Heap} {mg : Str → Option Value} {f : Addr} (X : K.In hp) (G : hp.Ns mainGlobals mg) (hfa : mg ("law" : Str) = some (.ref f)) (c : He.SaysD fa fn K) :
    ∃ fd : FuncData, (∀ (s : Shared) (v : Value), BindsTo s fd ⟨[v], []⟩ [("script", v)]) ∧ ∀ base : Heap, K.In base → base.Ns mainGlobals mg → FnOk P w K mg base CX0 6 f fd ["script"] (spLaw K) := by
  have D : ∀ (x : Str) (st : Stmt) (i : Nat), fn[i]? = some (mkD x st) → fa[i]? = some (He.Fa.glo x) → Df K mg x st := fun x st i h1 h2 => df_of X G c x st i h1 h2
  have T : Txt mg := {
    isi := He.free_ok X G (c.fact 29 (f := .free "isinstance") rfl)
    int := He.free_ok X G (c.fact 28 (f := .free "int") rfl)
    bool := He.free_ok X G (c.fact 26 (f := .free "bool") rfl)
    tuple := He.free_ok X G (c.fact 39 (f := .free "tuple") rfl)
    list := He.free_ok X G (c.fact 31 (f := .free "list") rfl)
    str := He.free_ok X G (c.fact 37 (f := .free "str") rfl)
    len := He.free_ok X G (c.fact 30 (f := .free "len") rfl)
    all := He.free_ok X G (c.fact 25 (f := .free "all") rfl)
    zip := He.free_ok X G (c.fact 40 (f := .free "zip") rfl)
    sum := He.free_ok X G (c.fact 38 (f := .free "sum") rfl)
    range := He.free_ok X G (c.fact 34 (f := .free "range") rfl)
    sorted := He.free_ok X G (c.fact 36 (f := .free "sorted") rfl)
    set := He.free_ok X G (c.fact 35 (f := .free "set") rfl)
    max := He.free_ok X G (c.fact 32 (f := .free "max") rfl)
    min := He.free_ok X G (c.fact 33 (f := .free "min") rfl)
    enum := He.free_ok X G (c.fact 27 (f := .free "enumerate") rfl)
    span := He.int_ok X G (c.fact 41 (f := .int "MOST_SPAN" 8) rfl)
    rules := He.int_ok X G (c.fact 42 (f := .int "MOST_RULES" 5) rfl)
    places := He.int_ok X G (c.fact 43 (f := .int "MOST_PLACES" 120) rfl) }
  obtain ⟨fd, F⟩ := c.def_ 24 (d := mkD "law" sLaw) rfl
  have e := hfa.symm.trans (He.glo_ok X G (c.fact 24 (f := .glo "law") rfl))
  cases e
  have b := FunD.bindsA (ps := ["script"]) F fun _ _ _ _ _ _ us hl => match us, hl with | [_], _ => rfl
  refine ⟨fd, fun s v => b s [v] rfl, fun base _ _ => ?_⟩
  have cW := c_whole (P := P) (w := w) (base := base) (D "is_whole" sIsWhole 0 rfl rfl) T
  have cR := c_rule (D "is_rule" sIsRule 1 rfl rfl) T cW
  have cA := c_are (D "are_rules" sAreRules 2 rfl rfl) T cR
  have cP := c_place (D "is_place" sIsPlace 3 rfl rfl) T cW
  have cRow := c_row (D "is_row" sIsRow 4 rfl rfl) T cP
  have cS := c_stretch (P := P) (w := w) (base := base) (D "stretch_keeps" sStretchKeeps 7 rfl rfl) T
  have cK := c_rowkeeps (D "row_keeps" sRowKeeps 8 rfl rfl) T cS
  have cKeeps := c_keeps (D "keeps" sKeeps 9 rfl rfl) (c_mustR (D "must_be_rules" sMustBeRules 5 rfl rfl) cA) (c_mustW (D "must_be_row" sMustBeRow 6 rfl rfl) cRow) cK
  have cD := c_deck (P := P) (w := w) (base := base) (D "_law_deck" sLawDeck 10 rfl rfl)
  have cPick := c_pick (P := P) (w := w) (base := base) (D "_law_pick" sLawPick 11 rfl rfl)
  have cLW := c_lwhole (P := P) (w := w) (base := base) (D "_law_whole" sLawWhole 12 rfl rfl) T
  have cOne := c_one (D "_law_one" sLawOne 13 rfl rfl) T cPick
  have cSame := c_same (D "_law_same" sLawSame 15 rfl rfl) (c_sort (P := P) (w := w) (base := base) (D "_law_sort" sLawSort 14 rfl rfl) T)
  have cOdd := c_odd (D "_law_odd" sLawOdd 16 rfl rfl) cOne
  have cFits := c_fits (P := P) (w := w) (base := base) (D "_law_fits" sLawFits 20 rfl rfl) T
  have C : Cs P w K mg base := ⟨cA, cRow, cKeeps, cD, cPick, cSame, cOdd, c_spoilt (D "_law_spoilt" sLawSpoilt 17 rfl rfl) T cPick, c_rules (D "_law_rules" sLawRules 18 rfl rfl) T cPick cOne, c_lkeeps (D "_law_keeps" sLawKeeps 19 rfl rfl) T, c_walk (D "_law_walk" sLawWalk 21 rfl rfl) T cFits cOne, c_lare (D "_law_are_rules" sLawAreRules 22 rfl rfl) T cLW, c_lrow (D "_law_is_row" sLawIsRow 23 rfl rfl) T cLW⟩
  exact ok_law F T C
end K01
open PySem PySem.W PySem.Calls PyProof.Rows
theorem PySem.Challenge.cw_anyspan_k01_rules_and_rows_holds : PySem.Challenge.rw_anyspan_k01_rules_and_rows.Holds := by
  w_on; o_law
  refine HandSHeadRun.head_any (r := OpenLaw.row PySem.Challenge.rw_anyspan_k01_rules_and_rows) (q := view (OpenLaw.row PySem.Challenge.rw_anyspan_k01_rules_and_rows).prog [33]) (H := K01.hk) (ob := K01.ob) (M := 4000) (loose := K01.loose) (d := HandSHeadRun.topDef (OpenLaw.row PySem.Challenge.rw_anyspan_k01_rules_and_rows).prog 33) (kwd := []) K01.ob_eq
    (by kernel_rfl) (fun s => by kernel_rfl) K01.run (by kernel_rfl) (by kernel_rfl) (by kernel_rfl) (by rfl) (by first | assumption | decide +kernel) (by decide +kernel) ⟨rfl, rfl, rfl, rfl, rfl, by decide +kernel⟩ ?hw ?hc
  case hw => w_witness2
  case hc =>
    refine L2.walk_ofE (l := PySem.Challenge.rw_anyspan_k01_rules_and_rows) (n := 63) (k := 6) (x := "script") (CX := L2.CX0) rfl (by decide) (by kernel_rfl) ⟨rfl, by decide, by decide⟩ ?F (fun _ _ _ _ z => z)
    intro w mg fa h Y G hmg0
    obtain ⟨K, KX, c⟩ := Y
    have hmg : mg ("law" : PySem.Str) = some (.ref fa) := by
      have e : (HandSHeadRun.topDef (OpenLaw.row PySem.Challenge.rw_anyspan_k01_rules_and_rows).prog 33).name = ("law" : PySem.Str) := by kernel_rfl
      rw [← e]
      exact hmg0
    obtain ⟨fd, hb, hF⟩ := K01.facts (P := (PySem.Challenge.rw_anyspan_k01_rules_and_rows).prog) (w := w) KX G hmg c
    exact ⟨K, fd, K01.spLaw K, KX, hb, fun H a ns hl _ hS => ⟨a, ns, rfl, hS, hl, fun _ => rfl⟩, hF⟩
